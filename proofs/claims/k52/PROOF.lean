import PyProof.Rows.All
import KE.KDictList
import KE.KDictOf
import KE.KDictSum
import KE.KItemsList
import KE.KSortTup
import KE.KUnpack
import PyProof.AttrMissHeap
import PyProof.DefCall
import PyProof.ExcClass3
import PyProof.ExcInit
import PyProof.FactsAll.set
import PyProof.InstStoreFacts
import PyProof.MaxThree
import PyProof.P3In
import PyProof.Rows.FStr
import PyProof.Rows.RuleN_abs
import PyProof.Rows.SetFrom
import PyProof.Rows.SortRuns
import PyProof.Rows.SortShell
import PyProof.SetRoads
import PyProof.ZipIter
import Wide.All
import OpenK.AllK
import Wide.FinOn
import Lean
import PyProof.EqAt
import PyProof.EqKinds
import PyProof.TupleCall
import PySem.Challenge.RW_rankpouch_k52_weights_of_halves
set_option Elab.async false
set_option linter.all false
set_option maxRecDepth 100000
abbrev aE:=@PySem.wpAny_bind
abbrev aQ:=@PySem.wpAny_pure
abbrev aV:=@PyProof.Rows.wpS_bind
abbrev bO:=@List.getElem?_eq_some_iff
abbrev bQ:=@PyProof.Rows.wpS_pure
abbrev cA:=@Ne.symm
abbrev cR:=@PySem.Heap.lt_size
abbrev cZ:=@PySem.Heap.get?_push_of_some
abbrev dH:=@Nat.ne_of_lt
abbrev dP:=@if_true
abbrev dZ:=@List.mem_cons
abbrev eA:=@List.length_cons
abbrev eF:=@if_false
abbrev eK:=@List.getElem?_append_left
abbrev eY:=@Array.length_toList
abbrev fE:=@List.map_cons
abbrev fL:=@List.size_toArray
abbrev fW:=@List.length_map
abbrev fX:=@List.length_append
abbrev fY:=@List.getElem?_set_ne
abbrev fZ:=@List.append_assoc
abbrev gK:=@List.getElem?_eq_getElem
abbrev gM:=@PySem.Heap.get?_push_size
abbrev gX:=@List.getElem?_set_self
abbrev iB:=@List.mem_cons_of_mem
abbrev iD:=@Bool.false_eq_true
abbrev iU:=@List.mem_append
abbrev jA:=@List.mem_append_right
abbrev jO:=@Option.some.injEq
abbrev jP:=@List.mem_singleton
abbrev kN:=@Nat.le_trans
abbrev kQ:=@List.mem_of_getElem?
abbrev kR:=@List.mem_append_left
abbrev lE:=@Nat.lt_of_lt_of_le
abbrev lF:=@List.getElem?_map
abbrev lW:=@decide_eq_false
abbrev mB:=@Bool.and_eq_true
abbrev mC:=@Array.getElem?_toList
abbrev mD:=@PyProof.Rows.wpS_mono
abbrev mP:=@getElem?_pos
abbrev mS:=@Option.some.inj
abbrev mT:=@List.set_set
abbrev mV:=@PySem.wpAny_newObj_type
abbrev nK:=@List.getElem?_append_right
abbrev nO:=@PyProof.Rows.wpS_forRange
abbrev oX:=@Nat.le_refl
abbrev oY:=@List.append_nil
abbrev pE:=@PySem.wpAny_holding
abbrev qE:=@PySem.wpAny_mono
abbrev qF:=@PySem.wpAny_call_entry
abbrev qK:=@PySem.sizeLine_eq
abbrev qL:=@PySem.W.mg_none_of
abbrev qU:=@List.take_append_drop
abbrev qV:=@List.set_cons_zero
abbrev qW:=@List.set_cons_succ
abbrev qX:=@List.mem_map
abbrev qY:=@Int.mul_assoc
abbrev qZ:=@Int.le_refl
abbrev rW:=@PySem.Heap.get?_update_other
abbrev rZ:=@PyProof.Rows.wpS_get
abbrev sA:=@PySem.wpAny_rule
abbrev sC:=@PySem.wpAny_ite_false
abbrev tJ:=@decide_eq_true
abbrev tL:=@beq_eq_false_iff_ne
abbrev tR:=@List.pairwise_append
abbrev tS:=@List.map_map
abbrev tT:=@List.length_take
abbrev tU:=@List.cons_append
abbrev vH:=@Nat.zero_le
abbrev vI:=@Nat.lt_succ_of_lt
abbrev vJ:=@List.nodup_cons
abbrev vK:=@List.getElem_of_mem
abbrev vL:=@List.cons.injEq
abbrev vN:=@Int.eq_ofNat_of_zero_le
abbrev vT:=@PySem.wpAny_setField_rec
abbrev xN:=@decide_eq_true_eq
abbrev xP:=@PySem.codeAny_mono
abbrev xV:=@Nat.le_succ
abbrev yA:=@List.map_append
abbrev yB:=@List.length_set
abbrev yC:=@List.length_nil
abbrev yD:=@List.filterMap_cons
abbrev yE:=@List.Perm.refl
abbrev yK:=@PyProof.Rows.wpS_lift
abbrev yL:=@PySem.wpAny_setState_of
abbrev yM:=@PySem.wpAny_field
abbrev yN:=@PySem.wpAny_attempt
abbrev yO:=@PySem.wpAny_askSetting
abbrev BK:=@Option.map_eq_some_iff
abbrev BL:=@Option.bind_eq_some_iff
abbrev BQ:=@List.perm_append_comm
abbrev BR:=@List.map_nil
abbrev BS:=@List.getElem?_eq_none
abbrev BU:=@List.ext_getElem?
abbrev BV:=@List.drop_eq_getElem_cons
abbrev BX:=@Int.toNat_natCast
abbrev BZ:=@PySem.Heap.size_update
abbrev CA:=@PySem.Heap.size_push
abbrev CB:=@PySem.Heap.get?_push_ne
abbrev CL:=@Array.toList_push
abbrev CN:=@PyProof.Rows.wpS_modify
abbrev CO:=@PySem.wpAny_setEntries_of
abbrev CP:=@PySem.wpAny_passesOwn
abbrev CQ:=@PySem.wpAny_callSpecial?_slot
abbrev FA:=@decide_eq_false_iff_not
abbrev FE:=@PyProof.Rows.boot_isinstance
abbrev FW:=@List.nil_append
abbrev FX:=@List.lookup_cons
abbrev FY:=@List.getElem?_take
abbrev FZ:=@List.find?_cons
abbrev GA:=@List.Perm.append_left
abbrev GJ:=@PySem.wpAny_fieldsOf
abbrev HA:=@PyProof.Rows.seqEpoch_at
abbrev IH:=@PyProof.Rows.listUpdate_at
abbrev KH:=@decide_true
abbrev KI:=@PySem.codeAny_builtin
abbrev LA:=@Option.map_some
abbrev LB:=@Nat.zero_add
abbrev LC:=@Nat.lt_or_ge
abbrev LH:=@List.take_sublist
abbrev LI:=@List.length_drop
abbrev LJ:=@List.all_eq_true
abbrev LM:=@Int.mul_le_mul_of_nonneg_left
abbrev LO:=@Int.mul_add
abbrev LR:=@PySem.Heap.get?_update_self
abbrev MB:=@Array.perm_iff_toList_perm
abbrev MC:=@Array.getElem?_eq_some_iff
abbrev MJ:=@PySem.wpAny_newList
abbrev OG:=@PySem.plainId_quiet
abbrev QL:=@decide_false
abbrev RO:=@Prod.mk.injEq
abbrev RP:=@Nat.ne_of_gt
abbrev RQ:=@Nat.lt_succ_self
abbrev RU:=@List.take_of_length_le
abbrev RV:=@List.take_add_one
abbrev RW:=@List.not_mem_nil
abbrev RX:=@List.map_congr_left
abbrev RY:=@List.getElem_mem
abbrev RZ:=@List.any_cons
abbrev SU:=@Bool.not_eq_true'
abbrev SV:=@Array.toList_extract
abbrev SW:=@PySem.Around.under_plainId
abbrev TC:=@PySem.wpAny_truthy_bool
abbrev TF:=@PySem.wpAny_ite_true
abbrev TJ:=@PySem.wpAny_isInstance
abbrev TK:=@PySem.wpAny_execs_nil
abbrev TL:=@PySem.wpAny_Call_Name_kw
abbrev Eb:=@PySem.fits_of_scanBound
abbrev Fc:=@bne_self_eq_false
abbrev Hc:=@Nat.pow_succ
abbrev Hd:=@Nat.le_of_not_lt
abbrev Hr:=@List.take_zero
abbrev Hs:=@List.nodup_append
abbrev Ht:=@List.mem_of_mem_take
abbrev Hu:=@List.length_range
abbrev Hv:=@List.length_eq_zero_iff
abbrev Hw:=@List.getElem_drop
abbrev Hx:=@List.foldl_cons
abbrev Hy:=@List.filter_cons
abbrev Hz:=@List.eq_nil_of_length_eq_zero
abbrev Ib:=@List.drop_length
abbrev Ie:=@List.any_eq_true
abbrev Ig:=@List.all_cons
abbrev Ir:=@Int.le_of_lt
abbrev Iu:=@Int.emod_nonneg
abbrev Iv:=@Int.emod_lt_of_pos
abbrev Jm:=@Classical.choose_spec
abbrev Jo:=@Array.getElem?_eq_getElem
abbrev Xv:=@PyProof.Rows.slot_tuple_getitem
abbrev Xw:=@PyProof.Rows.F.plain_set_update_loop
abbrev Yi:=@List.replicate_succ
abbrev Yj:=@List.getElem?_drop
abbrev Yk:=@List.getD_eq_getElem?_getD
abbrev Yl:=@List.flatten_cons
abbrev Ym:=@List.filter_eq_nil_iff
abbrev Yu:=@PySem.F.args_list_append_2
abbrev Yx:=@PySem.Calls.call_function_entry
abbrev Yy:=@PySem.Calls.callWith_builtin
abbrev Zb:=@Bool.false_ne_true
abbrev Zd:=@Array.toList_append
abbrev Ze:=@Array.getElem?_eq_none_iff
abbrev av8:=@PyProof.Rows.F.entry_set_update_loop
theorem bU{α:Sort _}{a:α}{q:Prop}:a=a∨q:=Or.inl rfl
theorem iE{α β γ:Sort _}{f:α→β→γ}:∀x y,f x y=f x y:=fun _ _=>rfl
theorem cE{n:Nat}:n≤n:=oX n
theorem iLr{n:Int}:n≤n:=qZ n
theorem sP{α:Type _}{a:α}{l:List α}:a∈a::l:=List.mem_cons_self ..
theorem rL{n:Nat}:0≤n:=vH n
open PySem.W (Frag OpenLaw callWith_K codeIn emptyDict findCls findIn fnOf hasDictIn instObj isFn keepIn kia_one kitOne lookIn makesIn methodCall_KW methodObj mg_of nsIn plainGet plainGet_of readsIn specialIn subIn takerIn)
namespace L2
open PySem PySem.Spec PyProof.Rows
abbrev Key:=Sum Int Str
def EA:Key→Value→Bool
 | .inl k,v=>Value.isInt k v
 | .inr x,v=>Value.isStrOf x v
def an2(w:World):Key→Int
 | .inl k=>hashInt k
 | .inr x=>hashStr w x
theorem sS:∀{k:Key} {v:Value},EA k v=true→(∃i t,k=Sum.inl i∧v=Value.int i t)∨(∃x t,k=Sum.inr x∧v=Value.str x t)
 | .inl i,v,h=>by
  obtain⟨t,e⟩:=Value.isInt_shape (k:=i) (v:=v) h;exact .inl ⟨i,t,rfl,e⟩
 | .inr x,v,h=>by
  obtain⟨t,e⟩:=Value.isStrOf_shape (x:=x) (v:=v) h;exact .inr ⟨x,t,rfl,e⟩
theorem an1(i:Int)(t:Tok):EA (.inl i) (.int i t)=true:=by simp [EA,Value.isInt]
theorem an0(x:Str)(t:Tok):EA (.inr x) (.str x t)=true:=by simp [EA,Value.isStrOf]
theorem anZ(a b:Int):decide ((Sum.inl a:Key)=Sum.inl b)=(a == b):=by
 by_cases e:a=b
 ·subst e;simp
 ·have h:¬(Sum.inl a:Key)=Sum.inl b:=fun q=>e (Sum.inl.inj q);rw [lW h];exact(tL.mpr e).symm
theorem anV(a b:Str):decide ((Sum.inr a:Key)=Sum.inr b)=decide (a=b):=by
 by_cases e:a=b
 ·subst e;simp
 ·have h:¬(Sum.inr a:Key)=Sum.inr b:=fun q=>e (Sum.inr.inj q);rw [lW h,lW e]
theorem anY(a:Int)(b:Str):decide ((Sum.inl a:Key)=Sum.inr b)=false:=lW (fun q=>nomatch q)
theorem anW(a:Str)(b:Int):decide ((Sum.inr a:Key)=Sum.inl b)=false:=lW (fun q=>nomatch q)
def kX(prog:Program)(w:World):PySem.KeyKind prog w Key where
 is:=EA
 hash:=an2 w
 inj:=fun v a b ha hb=>by
  rcases sS ha with⟨i,t,rfl,rfl⟩ | ⟨x,t,rfl,rfl⟩
  ·rcases sS hb with⟨j,u,rfl,e⟩ | ⟨y,u,rfl,e⟩
   ·injection e with e1 _;rw [e1]
   ·exact nomatch e
  ·rcases sS hb with⟨j,u,rfl,e⟩ | ⟨y,u,rfl,e⟩
   ·exact nomatch e
   ·injection e with e1 _;rw [e1]
 byValue:=fun k v h=>by
  rcases sS h with⟨i,t,rfl,rfl⟩ | ⟨x,t,rfl,rfl⟩ <;> rfl
 pyHash:=fun hv h=>by
  rcases sS hv with⟨i,t,rfl,rfl⟩ | ⟨x,t,rfl,rfl⟩
  ·exact wpAny_pyHash_int h
  ·exact wpAny_pyHash_str h
 eqBool:=fun hu hv h=>by
  rcases sS hu with⟨i,t,rfl,rfl⟩ | ⟨x,t,rfl,rfl⟩
  ·rcases sS hv with⟨j,u,rfl,rfl⟩ | ⟨y,u,rfl,rfl⟩
   ·rw [anZ]at h;exact wpAny_eqBool_int h
   ·rw [anY]at h;exact SeqAt.EqAt.int_str i t y u _ _ _ _ h
  ·rcases sS hv with⟨j,u,rfl,rfl⟩ | ⟨y,u,rfl,rfl⟩
   ·rw [anW]at h;exact SeqAt.EqAt.str_int x t j u _ _ _ _ h
   ·rw [anV]at h;exact wpAny_eqBool_str h
 «strs»:=fun k x t v h=>by
  rcases sS h with⟨i,u,rfl,e⟩ | ⟨y,u,rfl,e⟩
  ·exact nomatch e
  ·injection e with e1 _;subst e1;cases v <;> rfl
theorem amU(prog:Program)(w:World)(i:Int)(t:Tok):(kX prog w).is (.inl i) (.int i t)=true:=an1 i t
theorem amT(prog:Program)(w:World)(x:Str)(t:Tok):(kX prog w).is (.inr x) (.str x t)=true:=an0 x t
inductive V where
 | bB | bl (b:Bool) | int (i:Int) | str (x:Str) | QT (b:Array UInt8) | AS (b:UInt64) | ref (a:Addr) | ty (n:String)
 deriving DecidableEq
def RelV:V→Value→Prop
 | .bB,u=>u=Value.none
 | .bl b,u=>u=Value.bool b
 | .int i,u=>∃t,u=Value.int i t
 | .str x,u=>∃t,u=Value.str x t
 | .QT b,u=>∃t,u=Value.bytes b t
 | .AS b,u=>∃t,u=Value.float b t
 | .ref a,u=>u=Value.ref a
 | .ty n,u=>u=Value.type n
abbrev Vals:List V→List Value→Prop:=Paired RelV
theorem Vals.length{xs:List V}{us:List Value}(r:Vals xs us):xs.length=us.length:=Paired.length r
theorem Vals.get:∀{xs:List V} {us:List Value} {i:Nat} {x:V},Vals xs us→xs[i]? = some x→∃u,us[i]? = some u∧RelV x u
 | _,_,_,_,.nil,e=>by simp at e
 | _,_,0,_,.cons r _,e=>by simp at e;subst e;exact⟨_,rfl,r⟩
 | _,_,i+1,x,.cons _ t,e=>by
  obtain⟨u,h1,h2⟩:=Vals.get (i:=i) (x:=x) t (by simpa using e);exact⟨u,by simpa using h1,h2⟩
theorem Vals.set{x:V}{u:Value}(r:RelV x u):∀{xs:List V} {us:List Value} (i:Nat),Vals xs us→Vals (xs.set i x) (us.set i u)
 | _,_,_,.nil => .nil
 | _,_,0,.cons _ t => .cons r t
 | _,_,i+1,.cons q t => .cons q (Vals.set r i t)
theorem Vals.append:∀{xs ys:List V} {us ws:List Value},Vals xs us→Vals ys ws→Vals (xs++ys) (us++ws)
 | _,_,_,_,.nil,s=>s
 | _,_,_,_,.cons r t,s => .cons r (Vals.append t s)
theorem Vals.take:∀{xs:List V} {us:List Value} (n:Nat),Vals xs us→Vals (xs.take n) (us.take n)
 | _,_,0,_ => .nil
 | _,_,_+1,.nil => .nil
 | _,_,n+1,.cons r t => .cons r (Vals.take n t)
theorem Vals.drop:∀{xs:List V} {us:List Value} (n:Nat),Vals xs us→Vals (xs.drop n) (us.drop n)
 | _,_,0,r=>r
 | _,_,_+1,.nil => .nil
 | _,_,n+1,.cons _ t=>Vals.drop n t
def nI:Option V→Option Value→Prop
 | some v,some u=>RelV v u
 | none,none=>True
 | _,_=>False
def KV{κ:Type}:List (κ×V)→List (κ×Value)→Prop:=Paired fun(p:κ×V) (q:κ×Value)=>p.1=q.1∧RelV p.2 q.2
def kV:Key→V
 | .inl i => .int i
 | .inr x => .str x
inductive HO where
 | lst (xs:List V)
 | tup (xs:List V)
 | dK (aB:List (Key×V)) | dT (aB:List (List Key×V))
 | set (S:Int→Bool) (n:Nat)
 | ins (C dx:Addr) (fs:List (Str×V))
 | own (x:Addr)
 | xd (fs:List (Str×V))
 | met (f x:Addr)
 | XD (lo hi:Int)
 | cK (o:Obj) (u:HO)
 | vZ (ps:Array Value)
 | ext (φ:Heap→Prop)
abbrev Hp:=Addr→Option HO
def upd(H:Hp)(a:Addr)(o:HO):Hp:=fun b=>if b=a then some o else H b
theorem fA{H:Hp}{a:Addr}{o:HO}:upd H a o a=some o:=by unfold upd;rw [if_pos rfl]
theorem bA{H:Hp}{a b:Addr}{o:HO}(h:b≠a):upd H a o b=H b:=by unfold upd;rw [if_neg h]
theorem wM{H:Hp}{a b:Addr}{o u:HO}(h:H a=some o)(h':H b=some u)(d:o≠u):a≠b:=by
 intro e;subst e;rw [h]at h';exact d (mS h')
theorem jU{H:Hp}{a b:Addr}{o:HO}(h:H a=some o)(h':H b=none):a≠b:=by
 intro e;subst e;rw [h]at h';cases h'
section
variable(P:Program)(w:World)
def gW(H:Hp)(h:Heap)(a:Addr):HO→Prop
 | .lst xs=>xs.length≤sizeLine∧∃(aN:List Value) (n:Nat),Vals xs aN∧h.get? a=some { cls := .type "list",data := .seq aN.toArray n }
 | .tup xs=>xs.length≤sizeLine∧∃aN:List Value,Vals xs aN∧IsTup h a aN.toArray
 | .dK aB=>aB.length≤sizeLine∧(a == sysModules)=false∧∃vs,KV aB vs∧h.DictOf (kX P w) a vs
 | .dT aB=>aB.length≤sizeLine∧(a == sysModules)=false∧∃xs:List (List Key×Addr×Value),
   Paired (fun(p:List Key×V) (q:List Key×Addr×Value)=>p.1=q.1∧H q.2.1=some (.tup (p.1.map kV))∧RelV p.2 q.2.2) aB xs ∧
   ∃o es ep,h.get? a=some o∧o.ExactDict∧o.data = .dict es ep∧es.toList=xs.map (entryOfKey (tupleKind (kX P w)))∧(xs.map (·.1)).Nodup
 | .set S n=>h.SetOf (intKind P w) a S n
 | .ins C dx fs=>H dx=some (.own a)∧fs.length≤1000∧dx≠a∧h.get? a=some (instObj C dx) ∧
   ∃mA,h.Ns1 dx mA∧(∀f,nI (fs.lookup f) (mA f))∧PySem.Within mA (fs.map (·.1))
 | .own _=>∃o,h.get? a=some o
 | .xd fs=>∃mA,h.Ns1 a mA∧∀f,nI (fs.lookup f) (mA f)
 | .XD lo hi=>∃t u v,h.get? a=some { cls := .type "range",data := .fields #[.int lo t,.int hi u,.int 1 v] }
 | .cK o u=>h.get? a=some o∧gW H h a u
 | .vZ ps=>h.get? a=some { cls := .none,data := .fields ps }
 | .met f x=>h.get? a=some (methodObj (.ref f) (.ref x))
 | .ext φ=>φ h∧(∃o,h.get? a=some o)∧∀h1 h2:Heap,φ h1→(∀o,h1.get? a=some o→h2.get? a=some o)→φ h2
def eW(H:Hp)(h:Heap):Prop:=∀a o,H a=some o→gW P w H h a o
end
section
variable{P:Program}{w:World}{H H':Hp}{h h':Heap}{a:Addr}{o:HO}
theorem gW.lt(x:gW P w H h a o):a<h.objs.size:=by
 cases o with
 | lst xs=>obtain⟨_,_,_,_,e⟩:=x;exact cR e
 | tup xs=>obtain⟨_,_,_,p⟩:=x;exact p.lt
 | dK aB=>obtain⟨_,_,_,_,o,_,_,e,_⟩:=x;exact cR e
 | dT aB=>obtain⟨_,_,_,_,o,_,_,e,_⟩:=x;exact cR e
 | set S n=>obtain⟨o,_,_,_,e,_⟩:=x;exact cR e
 | ins C dx fs=>obtain⟨_,_,_,e,_⟩:=x;exact cR e
 | own y=>obtain⟨_,e⟩:=x;exact cR e
 | xd fs=>obtain⟨_,⟨_,_,_,e,_⟩,_⟩:=x;exact cR e
 | XD lo hi=>obtain⟨_,_,_,e⟩:=x;exact cR e
 | cK ob u=>obtain⟨e,_⟩:=x;exact cR e
 | vZ ps=>exact cR (show h.get? a=some _ from x)
 | met f y=>exact cR (show h.get? a=some _ from x)
 | ext φ=>obtain⟨_,⟨_,e⟩,_⟩:=x;exact cR e
theorem Paired.YI{α β:Type}{F G:α→β→Prop}:∀{l₁:List α} {l₂:List β},Paired F l₁ l₂→(∀a b,F a b→G a b)→Paired G l₁ l₂
 | _,_,.nil,_ => .nil
 | _,_,.cons r t,f => .cons (f _ _ r) (Paired.YI t f)
theorem gW.oP(x:gW P w H h a o)(k:∀b u,(b=a∨H b=some (.own a))→h.get? b=some u→h'.get? b=some u)
  (ho:∀b,H b=some (.own a)→H' b=some (.own a)) (ht:∀b xs,H b=some (.tup xs)→H' b=some (.tup xs)):gW P w H' h' a o:=by
 induction o with
 | lst xs=>obtain⟨z,aN,n,r,e⟩:=x;exact⟨z,aN,n,r,k _ _ (.inl rfl) e⟩
 | tup xs=>obtain⟨z,aN,r,ob,e,c⟩:=x;exact⟨z,aN,r,ob,k _ _ (.inl rfl) e,c⟩
 | dK aB=>obtain⟨z,y,vs,r,ob,es,ep,e,c⟩:=x;exact⟨z,y,vs,r,ob,es,ep,k _ _ (.inl rfl) e,c⟩
 | dT aB =>
  obtain⟨z,y,xs,r,ob,es,ep,e,c⟩:=x;exact⟨z,y,xs,Paired.YI r fun p q z=>⟨z.1,ht _ _ z.2.1,z.2.2⟩,ob,es,ep,k _ _ (.inl rfl) e,c⟩
 | set S n=>obtain⟨ob,es,ep,t,e,c⟩:=x;exact⟨ob,es,ep,t,k _ _ (.inl rfl) e,c⟩
 | ins C dx fs =>
  obtain⟨d,z,ne,e,mA,⟨od,es,ep,e2,c⟩,r⟩:=x;exact⟨ho _ d,z,ne,k _ _ (.inl rfl) e,mA,⟨od,es,ep,k _ _ (.inr d) e2,c⟩,r⟩
 | own y=>obtain⟨ob,e⟩:=x;exact⟨ob,k _ _ (.inl rfl) e⟩
 | xd fs=>obtain⟨mA,⟨od,es,ep,e,c⟩,r⟩:=x;exact⟨mA,⟨od,es,ep,k _ _ (.inl rfl) e,c⟩,r⟩
 | XD lo hi=>obtain⟨t,u,v,e⟩:=x;exact⟨t,u,v,k _ _ (.inl rfl) e⟩
 | cK ob u ih=>obtain⟨e,q⟩:=x;exact⟨k _ _ (.inl rfl) e,ih q⟩
 | vZ ps =>
  have e:h.get? a=some { cls := .none,data := .fields ps }:=x;show h'.get? a=some { cls := .none,data := .fields ps };exact k a _ (.inl rfl) e
 | met f y =>
  have e:h.get? a=some (methodObj (.ref f) (.ref y)):=x;show h'.get? a=some (methodObj (.ref f) (.ref y));exact k a _ (.inl rfl) e
 | ext φ=>obtain⟨p,⟨o,e⟩,st⟩:=x;exact⟨st _ _ p fun o q=>k _ _ (.inl rfl) q,⟨o,k _ _ (.inl rfl) e⟩,st⟩
theorem eW.lt(x:eW P w H h)(e:H a=some o):a<h.objs.size:=(x a o e).lt
theorem eW.fresh(x:eW P w H h)(e:h.objs.size≤a):H a=none:=by
 cases q:H a with
 | none=>rfl
 | some u=>exact absurd (lE (x.lt q) e) (Nat.lt_irrefl _)
theorem eW.kept(x:eW P w H h)(k:∀b u,h.get? b=some u→h'.get? b=some u):eW P w H h':=fun a o e =>
 (x a o e).oP (fun b u _ q=>k b u q) (fun _ q=>q) fun _ _ q=>q
theorem eW.laid(x:eW P w H h)(k:∀b u,h.get? b=some u→h'.get? b=some u)(hp:h.objs.size≤a)(new:gW P w (upd H a o) h' a o):eW P w (upd H a o) h':=fun b u e=>by
 have hn:=x.fresh hp
 by_cases hb:b=a
 ·subst hb;rw [fA]at e;cases e;exact new
 ·rw [bA hb]at e;exact(x b u e).oP (fun c v _ q=>k c v q) (fun c q=>by rw [bA (jU q hn)];exact q) fun c xs q=>by rw [bA (jU q hn)];exact q
end
def Rd(H:Hp)(a:Addr)(u:HO):Prop:=H a=some u∨∃o,H a=some (.cK o u)
theorem Rd.ok{P:Program}{w:World}{H:Hp}{h:Heap}{a:Addr}{u:HO}(r:Rd H a u)(x:eW P w H h):gW P w H h a u:=by
 rcases r with r | ⟨o,r⟩
 ·exact x a u r
 ·obtain⟨_,q⟩:=x a _ r;exact q
def LD:Option HO→Prop
 | some (.lst _)=>True
 | some (.dK _)=>True
 | some (.dT _)=>True
 | some (.set _ _)=>True
 | some (.ins _ _ _)=>True
 | some (.ext _)=>True
 | _=>False
section
variable{P:Program}{w:World}{H:Hp}{h h':Heap}{x e:Addr}{o':HO}
theorem eW.write(ok:eW P w H h)(mu:LD (H x))(he:e=x∨H e=some (.own x))(k:∀b u,b≠e→h.get? b=some u→h'.get? b=some u)(EM:∃u,h'.get? e=some u)
  (new:gW P w (upd H x o') h' x o'):eW P w (upd H x o') h':=fun b u q=>by
 have Pq:∀c y,H c=some (.own y)→c≠x:=fun c y r z=>by subst z;rw [r]at mu;exact mu
 have al1:∀c xs,H c=some (.tup xs)→c≠x:=fun c xs r z=>by subst z;rw [r]at mu;exact mu
 by_cases hb:b=x
 ·subst hb;rw [fA]at q;cases q;exact new
 ·rw [bA hb]at q
  by_cases AH:b=e
  ·have q':H b=some (.own x):=by
    rcases he with z | z
    ·exact absurd (AH.trans z) hb
    ·rw [AH];exact z
   rw [q]at q';cases q';obtain⟨v,hv⟩:=EM;exact⟨v,by rw [AH];exact hv⟩
  ·refine(ok b u q).oP (fun c v hc r=>k c v ?_ r) (fun c r=>by rw [bA (Pq c b r)];exact r) fun c xs r=>by rw [bA (al1 c xs r)];exact r
   rcases hc with rfl | hc
   ·exact AH
   ·rintro rfl
    rcases he with z | z
    ·exact Pq c b hc z
    ·rw [hc]at z;cases z;exact hb rfl
end
structure Un(fs ex:List Addr)(H H':Hp)(h h':Heap):Prop where
 keep:∀b o,h.get? b=some o→H b=none→b∉fs→b∉ex→h'.get? b=some o
 slot:∀b o,h.get? b=some o→H b=none→b∈fs→b∉ex→∃sl,h'.get? b=some { o with slots:=sl }
 free:∀b o,h.get? b=some o→H b=none→b∉ex→H' b=none
 there:∀b o,h.get? b=some o→b∉ex→∃o',h'.get? b=some o'
 kS:∀b xs,H b=some (.tup xs)→H' b=some (.tup xs)
 kJ:∀b o u,H b=some (.cK o u)→H' b=some (.cK o u)
 kT:∀b ps,H b=some (.vZ ps)→∃more,H' b=some (.vZ (ps++more))
section
variable{fs mQ ex ex':List Addr}{H H1 H2:Hp}{h h1 h2 h':Heap}{a x e:Addr}{o:HO}
theorem Un.any(u:Un fs ex H H1 h h1){b:Addr}{ob:Obj}(q:h.get? b=some ob)(n:H b=none)(hx:b∉ex):∃sl,h1.get? b=some { ob with slots:=sl }:=by
 by_cases hb:b∈fs
 ·exact u.slot b ob q n hb hx
 ·exact⟨ob.slots,u.keep b ob q n hb hx⟩
theorem Un.trans(a:Un fs ex H H1 h h1)(b:Un fs ex H1 H2 h1 h2):Un fs ex H H2 h h2 where
 keep:=fun c ob q n hc hx=>b.keep c ob (a.keep c ob q n hc hx) (a.free c ob q n hx) hc hx
 slot:=fun c ob q n hc hx=>by
  obtain⟨sl,e1⟩:=a.slot c ob q n hc hx;obtain⟨GY,e2⟩:=b.slot c _ e1 (a.free c ob q n hx) hc hx;exact⟨GY,e2⟩
 free:=fun c ob q n hx=>by
  obtain⟨o',e1⟩:=a.there c ob q hx;exact b.free c o' e1 (a.free c ob q n hx) hx
 there:=fun c ob q hx=>by
  obtain⟨o',e1⟩:=a.there c ob q hx;exact b.there c o' e1 hx
 kS:=fun c xs q=>b.kS c xs (a.kS c xs q)
 kJ:=fun c ob xs q=>b.kJ c ob xs (a.kJ c ob xs q)
 kT:=fun c ps q=>by
  obtain⟨m1,e1⟩:=a.kT c ps q;obtain⟨m2,e2⟩:=b.kT c _ e1;exact⟨m1++m2,by rw [e2,Array.append_assoc]⟩
theorem Un.kept(k:∀b u,h.get? b=some u→h'.get? b=some u):Un fs ex H H h h' :=
 ⟨fun b ob q _ _ _=>k b ob q,fun b ob q _ _ _=>⟨ob.slots,k b ob q⟩,fun _ _ _ n _=>n,fun b ob q _=>⟨ob,k b ob q⟩,fun _ _ q=>q,fun _ _ _ q=>q,fun _ ps q=>⟨#[],by rw [q];simp⟩⟩
theorem Un.refl:Un fs ex H H h h:=Un.kept fun _ _ q=>q
theorem Un.laid(k:∀b u,h.get? b=some u→h'.get? b=some u)(hp:h.objs.size≤a)(hn:H a=none):Un fs ex H (upd H a o) h h' where
 keep:=fun b u q _ _ _=>k b u q
 slot:=fun b u q _ _ _=>⟨u.slots,k b u q⟩
 free:=fun b u q n _=>by rw [bA (dH (lE (cR q) hp))];exact n
 there:=fun b u q _=>⟨u,k b u q⟩
 kS:=fun b xs q=>by rw [bA (jU q hn)];exact q
 kJ:=fun b u xs q=>by rw [bA (jU q hn)];exact q
 kT:=fun b ps q=>⟨#[],by rw [bA (jU q hn),q];simp⟩
theorem Un.write(mu:LD (H x))(he:e=x∨H e=some (.own x))(k:∀b u,b≠e→h.get? b=some u→h'.get? b=some u)(EM:∃u,h'.get? e=some u):Un fs ex H (upd H x o) h h':=by
 have hx:∀b,H b=none→b≠x:=fun b n z=>by subst z;rw [n]at mu;exact mu
 have hb:∀b,H b=none→b≠e:=fun b n z=>by
  subst z
  rcases he with r | r
  ·exact hx b n r
  ·rw [n]at r;cases r
 have hm:∀b u,H b=some u→¬LD (some u)→b≠x:=fun b u q nm z=>by subst z;rw [q]at mu;exact nm mu
 refine⟨fun b u q n _ _=>k b u (hb b n) q,fun b u q n _ _=>⟨u.slots,k b u (hb b n) q⟩,fun b u q n _=>by rw [bA (hx b n)];exact n,fun b u q _=>?_,
  fun b xs q=>by rw [bA (hm b _ q fun z=>z)];exact q,fun b u xs q=>by rw [bA (hm b _ q fun z=>z)];exact q,fun b ps q=>⟨#[],by rw [bA (hm b _ q fun z=>z),q];simp⟩⟩
 by_cases AH:b=e
 ·subst AH;exact EM
 ·exact⟨u,k b u AH q⟩
end
def NB(h:Heap)(H:Hp):List Addr:=(List.range h.objs.size).filter fun a=>(H a).isSome
def uV(h:Heap)(H:Hp):Heap:=PySem.W.hideAll h (NB h H)
theorem aqF(h:Heap)(H:Hp):(uV h H).objs.size=h.objs.size:=PySem.W.hideAll_size _ _
theorem aqG{h:Heap}{H:Hp}{b:Addr}{o:Obj}(e:h.get? b=some o)(n:H b=none):(uV h H).get? b=some o :=
 PySem.W.hideAll_get _ e fun hm=>by
  have q:(H b).isSome=true:=(List.mem_filter.mp hm).2;rw [n]at q;simp at q
theorem alT{h:Heap}{H:Hp}{b:Addr}{o:Obj}(e:(uV h H).get? b=some o):h.get? b=some o∧H b=none:=by
 have e':h.get? b=some o:=PySem.W.of_hideAll (NB h H) e;refine⟨e',?_⟩;cases q:H b with
 | none=>rfl
 | some x =>
  have hm:b∈NB h H:=List.mem_filter.mpr ⟨List.mem_range.mpr (cR e'),by simp [q]⟩;have z:(uV h H).get? b=none:=PySem.W.hideAll_none (NB h H) hm;rw [z]at e;cases e
def av0(g h:Heap)(L:Addr):List (Addr×Obj):=(List.range h.objs.size).filterMap fun a=>if a=L∨(g.get? a).isSome=true then none else(h.get? a).map fun o=>(a,o)
def rest(g h:Heap)(L d:Addr):List (Addr×Obj):=(av0 g h L).filter fun p=>decide (p.1≠d)
structure Mod(K:Frag)(mg:Str→Option Value)(base:Heap):Prop where
 zR:K.In base
 glob:base.Ns mainGlobals mg
 blt:∃mb,base.Ns builtinsNs mb∧∀x:Str,x ≠ "__name__"→mb x=bootBuiltins x
 nolimit:base.NoLimit
structure Cx where
 prog:Program
 w:World
 K:Frag
 mg:Str→Option Value
 base:Heap
 A:Around
 N:List Str
 s₀:Shared
 H₀:Hp
 env:Env
 outer:List Env
 stack:List Env
 ex:List Addr
 fn:Str→Bool
 calm:Bool
 pn:List (Addr×Obj)
 xe:Value→Shared→Prop
def fU(l:List Env):List Addr:=l.filterMap (·.frame)
abbrev Cx.fs(X:Cx):List Addr:=fU X.outer
def KU(sc:Scope)(x:Str):Prop:=sc.names.lookup x=some .local∨sc.names.lookup x=some .cell∨sc.names.lookup x=some .free
def Loc(sc:Scope)(x:Str):Prop:=sc.names.lookup x=some .local∨sc.names.lookup x=some .cell
def Look(env:Env)(h:Heap)(m:Str→Option Value)(x:Str)(u:Value):Prop :=
 (env.kindOf x=some .local∧m x=some u)∨((env.kindOf x=some .cell∨env.kindOf x=some .free)∧∃c,env.cells.lookup x=some c∧h.IsCell c (some u))
structure Cx.Ok(X:Cx):Prop where
 mod:Mod X.K X.mg X.base
 kind:X.env.scope.kind = .function
 glob:X.env.globals=mainGlobals
 blt:X.env.builtins=builtinsNs
 above:X.s₀.heap.objs.size≤X.env.locals
 inj:∀x y c,X.env.cells.lookup x=some c→X.env.cells.lookup y=some c→x=y
 has:∀x,(X.env.kindOf x=some .cell∨X.env.kindOf x=some .free)→∃c,X.env.cells.lookup x=some c
 FD:∀x c,X.fn x=true→X.env.cells.lookup x=some c→X.s₀.heap.objs.size≤c
 hd:X.calm=true→X.A.handled=none
 frames:X.A.frames=some X.stack
 rJ:X.stack=X.outer∨(X.stack=X.env::X.outer∧X.env.frame=some X.env.locals)
 EW:∀b∈X.ex,b≠X.env.locals∧∀x c,X.env.cells.lookup x=some c→c≠b
 bs:∀b o,X.base.get? b=some o→X.s₀.heap.get? b=some o∧X.H₀ b=none
 pU:X.base.objs.size≤X.s₀.heap.objs.size
 uM:∀b o,X.base.get? b=some o→b∉X.ex
 AU:∀b∈X.ex,b∉X.fs
 oG:X.s₀.heap.FunFrames X.base X.outer
 tF:∀b∈X.fs,X.H₀ b=none
structure Inv(X:Cx)(pins:List (Addr×Obj))(σ:List (Option V))(H:Hp)(s:Shared):Prop where
 ok:X.Ok
 os:s.os=X.s₀.os
 bare:AllBare s.gens
 base:Un X.fs X.ex X.H₀ H X.s₀.heap s.heap
 loc:∃m,s.heap.Ns X.env.locals m∧∀(i:Nat) (x:Str) (v:V),X.N[i]? = some x→σ[i]? = some (some v)→KU X.env.scope x→∃u,RelV v u∧Look X.env s.heap m x u
 cell:∀x c,X.env.cells.lookup x=some c→∃v,s.heap.IsCell c v
 free:H X.env.locals=none
 kK:∀x c,X.env.cells.lookup x=some c→H c=none
 pin:∀p∈X.pn++pins,s.heap.get? p.1=some p.2∧H p.1=none∧p.1≠X.env.locals∧p.1∉X.fs∧∀v,p.2.data ≠ .cell v
 aK:eW X.prog X.w H s.heap
 len:σ.length=X.N.length
section
variable{X:Cx}{pins:List (Addr×Obj)}{σ:List (Option V)}{H H':Hp}{s:Shared}{h':Heap}
theorem Cx.Ok.al6(ok:X.Ok){b:Addr}{o:Obj}(e:X.base.get? b=some o):b∉X.fs:=fun hb=>by
 have:=(ok.oG.mem hb).1;rw [e]at this;cases this
theorem Inv.bs(I:Inv X pins σ H s):∀b o,X.base.get? b=some o→s.heap.get? b=some o∧H b=none:=fun b o e =>
 ⟨I.base.keep b o (I.ok.bs b o e).1 (I.ok.bs b o e).2 (I.ok.al6 e) (I.ok.uM b o e),I.base.free b o (I.ok.bs b o e).1 (I.ok.bs b o e).2 (I.ok.uM b o e)⟩
theorem Inv.bk(I:Inv X pins σ H s):∀b o,X.base.get? b=some o→s.heap.get? b=some o:=fun b o e=>(I.bs b o e).1
theorem Inv.mod(I:Inv X pins σ H s):Mod X.K X.mg X.base:=I.ok.mod
theorem Inv.gS(I:Inv X pins σ H s):X.K.In s.heap:=I.ok.mod.zR.keeps I.bk
theorem Inv.nolimit(I:Inv X pins σ H s):s.heap.NoLimit:=I.ok.mod.nolimit.keeps I.bk
theorem Inv.lt(I:Inv X pins σ H s):X.env.locals<s.heap.objs.size:=let ⟨_,hn,_⟩:=I.loc;hn.lt
theorem Inv.sz(I:Inv X pins σ H s):X.s₀.heap.objs.size≤s.heap.objs.size:=kN I.ok.above (Nat.le_of_lt I.lt)
theorem Inv.al4(I:Inv X pins σ H s){a:Addr}(h:s.heap.objs.size≤a):a∉X.fs:=fun hb=>by
 obtain⟨_,o,ho,_⟩:=I.ok.oG.mem hb;exact absurd (lE (cR ho) (kN I.sz h)) (Nat.lt_irrefl _)
theorem Inv.AY(I:Inv X pins σ H s):∀x c,X.env.cells.lookup x=some c→c≠X.env.locals:=fun x c e z=>by
 obtain⟨v,o,ho,hd⟩:=I.cell x c e;obtain⟨m,⟨o',es,ep,sU,Bn,_⟩,_⟩:=I.loc;rw [z,sU]at ho;cases ho;rw [Bn]at hd;cases hd
theorem Inv.oG(I:Inv X pins σ H s):s.heap.FunFrames X.base X.outer:=by
 have all:∀(l:List Env),(∀b∈fU l,b∈X.fs)→X.s₀.heap.FunFrames X.base l→s.heap.FunFrames X.base l:=by
  intro l
  induction l with
  | nil=>intro _ _;trivial
  | cons env r ih =>
   intro hs hl;obtain⟨hk,⟨L,o,hf,hn,ho,hd⟩,hr⟩:=hl;have hL:L∈X.fs:=hs L (by unfold fU;rw [List.filterMap_cons,hf];exact List.mem_cons_self);obtain⟨sl,e⟩:=I.base.slot L o ho (I.ok.tF L hL) hL fun z=>I.ok.AU L z hL;exact⟨hk,⟨L,_,hf,hn,e,hd⟩,ih (fun b hb=>hs b (by unfold fU;rw [List.filterMap_cons,hf];exact List.mem_cons_of_mem _ hb)) hr⟩
 exact all X.outer (fun _ hb=>hb) I.ok.oG
theorem Inv.stack(I:Inv X pins σ H s):s.heap.FunFrames X.base X.stack:=by
 rcases I.ok.rJ with e | ⟨e,hf⟩
 ·rw [e];exact I.oG
 ·rw [e];obtain⟨m,hn,_⟩:=I.loc;refine .cons (by rw [I.ok.kind];decide) hf hn ?_ I.oG;exact Heap.get?_none_of_le (kN I.ok.pU I.ok.above)
theorem Inv.wC(I:Inv X pins σ H s):∀b∈fU X.stack,b∈X.env.locals::X.fs:=fun b hb=>by
 rcases I.ok.rJ with e | ⟨e,hf⟩
 ·rw [e]at hb;exact iB _ hb
 ·rw [e]at hb;unfold fU at hb;rw [yD,hf]at hb;exact hb
theorem Inv.NJ(I:Inv X pins σ H s):∀b∈fU X.stack,H b=none:=fun b hb=>by
 rcases dZ.mp (I.wC b hb)with e | hb
 ·rw [e];exact I.free
 ·obtain⟨_,o,ho,_⟩:=I.ok.oG.mem hb;exact I.base.free b o ho (I.ok.tF b hb) fun z=>I.ok.AU b z hb
theorem Inv.step{g':Array GenState}{t':Nat}{d':Drawn}{ch:List Addr}(I:Inv X pins σ H s)
  (nZ:∀b∈ch,(b∈X.ex∨X.s₀.heap.objs.size≤b)∧b≠X.env.locals∧(∀x c,X.env.cells.lookup x=some c→c≠b)∧∀p∈X.pn++pins,p.1≠b)
  (keep:∀b o,b≠X.env.locals→b∉X.fs→b∉ch→s.heap.get? b=some o→H b=none→h'.get? b=some o)
  (slot:∀b o,b≠X.env.locals→b∈X.fs→b∉ch→s.heap.get? b=some o→H b=none→∃sl,h'.get? b=some { o with slots:=sl }) (free:∀b o,b∉ch→s.heap.get? b=some o→H b=none→H' b=none)
  (there:∀b o,b∉ch→s.heap.get? b=some o→∃o',h'.get? b=some o')
  (kS:∀b xs,H b=some (.tup xs)→H' b=some (.tup xs)) (kJ:∀b o u,H b=some (.cK o u)→H' b=some (.cK o u)) (kT:∀b ps,H b=some (.vZ ps)→∃more,H' b=some (.vZ (ps++more)))
  (ns:∀m,s.heap.Ns X.env.locals m→h'.Ns X.env.locals m) (aK:eW X.prog X.w H' h') (hg:AllBare g') :
  Inv X pins σ H' { s with heap:=h',gens:=g',drawn:=d',toks:=t' }:=by
 have Py:∀b o,X.s₀.heap.get? b=some o→b≠X.env.locals:=fun b o e=>dH (lE (cR e) I.ok.above);have wN:∀b o,X.s₀.heap.get? b=some o→b∉X.ex→b∉ch:=fun b o e hx hb=>by
  rcases(nZ b hb).1 with z | z
  ·exact hx z
  ·exact absurd (lE (cR e) z) (Nat.lt_irrefl _)
 have cellK:∀x c,X.env.cells.lookup x=some c→∀v,s.heap.IsCell c v→h'.IsCell c v:=fun x c e v ⟨o,ho,hd⟩=>by
  have HY:c∉ch:=fun z=>(nZ c z).2.2.1 x c e rfl
  by_cases hc:c∈X.fs
  ·obtain⟨sl,q⟩:=slot c o (I.AY x c e) hc HY ho (I.kK x c e);exact⟨_,q,hd⟩
  ·exact⟨o,keep c o (I.AY x c e) hc HY ho (I.kK x c e),hd⟩
 refine⟨I.ok,I.os,hg,⟨fun b o e n hb hx=>?_,fun b o e n hb hx=>?_,fun b o e n hx=>?_,fun b o e hx=>?_,fun b xs e=>kS b xs (I.base.kS b xs e),fun b o xs e=>kJ b o xs (I.base.kJ b o xs e),fun b ps e=>?_⟩,?_,fun x c e=>?_,?_,fun x c e=>?_,fun p hp=>?_,aK,I.len⟩
 ·exact keep b o (Py b o e) hb (wN b o e hx) (I.base.keep b o e n hb hx) (I.base.free b o e n hx)
 ·obtain⟨sl,e1⟩:=I.base.slot b o e n hb hx;obtain⟨GY,e2⟩:=slot b _ (Py b o e) hb (wN b o e hx) e1 (I.base.free b o e n hx);exact⟨GY,e2⟩
 ·obtain⟨o',e1⟩:=I.base.there b o e hx;exact free b o' (wN b o e hx) e1 (I.base.free b o e n hx)
 ·obtain⟨o',e1⟩:=I.base.there b o e hx;exact there b o' (wN b o e hx) e1
 ·obtain⟨m1,e1⟩:=I.base.kT b ps e;obtain⟨m2,e2⟩:=kT b _ e1;exact⟨m1++m2,by rw [e2,Array.append_assoc]⟩
 ·obtain⟨m,hn,hl⟩:=I.loc;refine⟨m,ns m hn,fun i x v e1 e2 e3=>?_⟩;obtain⟨u,r,l⟩:=hl i x v e1 e2 e3;refine⟨u,r,?_⟩
  rcases l with l | ⟨k,c,e,z⟩
  ·exact .inl l
  ·exact .inr ⟨k,c,e,cellK x c e _ z⟩
 ·obtain⟨v,z⟩:=I.cell x c e;exact⟨v,cellK x c e v z⟩
 ·obtain⟨m,⟨o,_,_,ho,_⟩,_⟩:=I.loc;exact free _ o (fun z=>(nZ _ z).2.1 rfl) ho I.free
 ·obtain⟨v,o,ho,hd⟩:=I.cell x c e;exact free c o (fun z=>(nZ c z).2.2.1 x c e rfl) ho (I.kK x c e)
 ·obtain⟨e,n,ne,nf,d⟩:=I.pin p hp;have HY:p.1∉ch:=fun z=>(nZ p.1 z).2.2.2 p hp rfl;exact⟨keep p.1 p.2 ne nf HY e n,free p.1 p.2 HY e n,ne,nf,d⟩
theorem Inv.un{t':Nat}(I:Inv X pins σ H s)(u:Un X.fs [] H H' s.heap h')(aK:eW X.prog X.w H' h'):Inv X pins σ H' { s with heap:=h',toks:=t' }:=by
 obtain⟨m,⟨o,es,ep,ho,r⟩,_⟩:=id I.loc;obtain⟨sl,hL⟩:=u.any ho I.free (by simp);exact I.step (g':=s.gens) (d':=s.drawn) (ch:=[]) (fun _ z=>nomatch z) (fun b o _ hb _ e n=>u.keep b o e n hb (by simp)) (fun b o _ hb _ e n=>u.slot b o e n hb (by simp)) (fun b o _ e n=>u.free b o e n (by simp)) (fun b o _ e=>u.there b o e (by simp)) u.kS u.kJ u.kT (fun m' hm=>by
  obtain⟨o',dQ,AV,sU,r'⟩:=hm;rw [ho]at sU;cases sU;exact⟨_,dQ,AV,hL,r'⟩) aK I.bare
theorem Inv.call{g':Array GenState}{t':Nat}{d':Drawn}{ch:List Addr}(I:Inv X pins σ H s)(u:Un (fU X.stack) ch H H' s.heap h')(aK:eW X.prog X.w H' h')(hg:AllBare g')
  (nZ:∀b∈ch,(b∈X.ex∨X.s₀.heap.objs.size≤b)∧b≠X.env.locals∧(∀x c,X.env.cells.lookup x=some c→c≠b)∧∀p∈X.pn++pins,p.1≠b) :
  Inv X pins σ H' { s with heap:=h',gens:=g',drawn:=d',toks:=t' }:=by
 obtain⟨m,⟨o,es,ep,ho,r⟩,_⟩:=id I.loc;obtain⟨sl,hL⟩:=u.any ho I.free fun z=>(nZ _ z).2.1 rfl;exact I.step (ch:=ch) nZ (fun b o hL hb hc e n=>u.keep b o e n (fun z=>(dZ.mp (I.wC b z)).elim hL hb) hc) (fun b o _ _ hc e n=>u.any e n hc) (fun b o hc e n=>u.free b o e n hc) (fun b o hc e=>u.there b o e hc) u.kS u.kJ u.kT (fun m' hm=>by
  obtain⟨o',dQ,AV,sU,r'⟩:=hm;rw [ho]at sU;cases sU;exact⟨_,dQ,AV,hL,r'⟩) aK hg
theorem Inv.turned{t':Nat}{it:Addr}(I:Inv X pins σ H s)(k:∀b o,b≠it→s.heap.get? b=some o→h'.get? b=some o)(hn:H it=none)(hL:it≠X.env.locals)
  (h1:it∈X.ex∨X.s₀.heap.objs.size≤it) (h2:∀x c,X.env.cells.lookup x=some c→c≠it) (h3:∀p∈X.pn++pins,p.1≠it):Inv X pins σ H { s with heap:=h',toks:=t' }:=by
 have Px:∀b u,H b=some u→b≠it:=fun b u e z=>by rw [z,hn]at e;cases e
 refine I.step (g':=s.gens) (d':=s.drawn) (ch:=[it]) (fun b hb=>?_) (fun b o _ _ hc e _=>k b o (fun z=>hc (by simp [z])) e) (fun b o _ _ hc e _=>⟨o.slots,k b o (fun z=>hc (by simp [z])) e⟩) (fun _ _ _ _ n=>n)
  (fun b o hc e=>⟨o,k b o (fun z=>hc (by simp [z])) e⟩) (fun _ _ e=>e) (fun _ _ _ e=>e) (fun b ps e=>⟨#[],by rw [e];simp⟩) (fun m hm=>?_) (fun b u e=>?_) I.bare
 ·have e:b=it:=by simpa using hb
  subst e;exact⟨h1,hL,h2,h3⟩
 ·obtain⟨o,es,ep,ho,r⟩:=hm;exact⟨o,es,ep,k _ o (cA hL) ho,r⟩
 ·refine(I.aK b u e).oP (fun c v hc q=>k c v ?_ q) (fun _ q=>q) fun _ _ q=>q
  rcases hc with z | z
  ·rw [z];exact Px b u e
  ·exact Px c _ z
theorem Inv.tok(I:Inv X pins σ H s)(t:Nat):Inv X pins σ H { s with toks:=t }:=I.un (h':=s.heap) (t':=t) Un.refl I.aK
theorem Inv.kept{t':Nat}(I:Inv X pins σ H s)(k:∀b u,s.heap.get? b=some u→h'.get? b=some u):Inv X pins σ H { s with heap:=h',toks:=t' }:=I.un (Un.kept k) (I.aK.kept k)
theorem Inv.laid{a:Addr}{o:HO}{t':Nat}(I:Inv X pins σ H s)(k:∀b u,s.heap.get? b=some u→h'.get? b=some u)(hp:s.heap.objs.size≤a)(new:gW X.prog X.w (upd H a o) h' a o) :
  Inv X pins σ (upd H a o) { s with heap:=h',toks:=t' }:=I.un (Un.laid k hp (I.aK.fresh hp)) (I.aK.laid k hp new)
theorem Inv.write{x e:Addr}{o:HO}{t':Nat}(I:Inv X pins σ H s)(mu:LD (H x))(he:e=x∨H e=some (.own x))(k:∀b u,b≠e→s.heap.get? b=some u→h'.get? b=some u)(EM:∃u,h'.get? e=some u)
  (new:gW X.prog X.w (upd H x o) h' x o):Inv X pins σ (upd H x o) { s with heap:=h',toks:=t' }:=I.un (Un.write mu he k EM) (I.aK.write mu he k EM new)
theorem Inv.XO{Pa:List (Addr×Obj)}(I:Inv X pins σ H s)(h:∀p∈Pa,s.heap.get? p.1=some p.2∧H p.1=none∧p.1≠X.env.locals∧p.1∉X.fs∧∀v,p.2.data ≠ .cell v):Inv X Pa σ H s :=
 ⟨I.ok,I.os,I.bare,I.base,I.loc,I.cell,I.free,I.kK,fun p hp=>(iU.mp hp).elim (fun z=>I.pin p (kR _ z)) (h p),I.aK,I.len⟩
theorem Pu{N:List Str}(hN:N.Nodup){i j:Nat}{x:Str}(a:N[i]? = some x)(b:N[j]? = some x):i=j:=by
 obtain⟨h1,e1⟩:=bO.mp a;obtain⟨h2,e2⟩:=bO.mp b;exact(List.getElem_inj hN).mp (e1.trans e2.symm)
theorem agH{M:Model}{A:Around}{E:Value→Shared→Prop}{i:Nat}{x:Str}{v:V}{u:Value}{Q:Unit→Shared→Prop}(I:Inv X pins σ H s)(hN:X.N.Nodup)(hi:X.N[i]? = some x)(hx:Loc X.env.scope x)(r:RelV v u)
  (h:∀s',Inv X pins (σ.set i (some v)) H s'→(∃a,Heap.SameBut a s.heap s'.heap∧(a=X.env.locals∨X.env.cells.lookup x=some a))→Q () s') (hf:X.fn x=true∨X.env.scope.names.lookup x=some .local:=by first | exact .inl rfl | exact .inr rfl | assumption):wpAny M A (storeName X.env x u) Q E s:=by
 obtain⟨m,hn,hl⟩:=id I.loc;have aqY:(X.env.scope.kind == .class||(X.env.scope.kind == .module&&X.env.locals != X.env.globals))=false:=by rw [I.ok.kind];rfl
 have Sl:i<σ.length:=by rw [I.len];exact(bO.mp hi).1
 have AY:=I.AY;have tracked:∀{a:Addr} {h':Heap},(∃o,s.heap.get? a=some o∧H a=none)→Heap.SameBut a s.heap h'→eW X.prog X.w H h':=fun{a h'} ha hs b ob e=>by
  obtain⟨_,_,AE⟩:=ha;refine(I.aK b ob e).oP (fun c w' hc q=>(hs.2 c ?_).trans q) (fun _ q=>q) fun _ _ q=>q;rintro rfl
  rcases hc with rfl | hc
  ·rw [AE]at e;cases e
  ·rw [AE]at hc;cases hc
 rcases hx with hk | hk
 ·refine wpAny_storeName_local hk hn (fun h' hn' hs=>?_) aqY;obtain⟨oL,_,_,rR,_⟩:=id hn;refine h _ ⟨I.ok,I.os,I.bare,⟨fun b o e n hb hx=>?_,fun b o e n hb hx=>?_,I.base.free,fun b o e hx=>?_,I.base.kS,I.base.kJ,I.base.kT⟩,⟨_,hn',fun j y v' e1 e2 e3=>?_⟩,fun y c e=>?_,I.free,I.kK,fun p hp=>?_,tracked ⟨oL,rR,I.free⟩ hs,by simpa using I.len⟩ ⟨_,hs,.inl rfl⟩
  ·exact(hs.2 b (dH (lE (cR e) I.ok.above))).trans (I.base.keep b o e n hb hx)
  ·obtain⟨sl,e1⟩:=I.base.slot b o e n hb hx;exact⟨sl,(hs.2 b (dH (lE (cR e) I.ok.above))).trans e1⟩
  ·obtain⟨o',e1⟩:=I.base.there b o e hx;exact⟨o',(hs.2 b (dH (lE (cR e) I.ok.above))).trans e1⟩
  ·by_cases hj:j=i
   ·subst hj;rw [hi]at e1;cases e1;rw [gX Sl]at e2;cases e2;exact⟨u,r,.inl ⟨hk,by simp⟩⟩
   ·rw [fY (cA hj)]at e2;obtain⟨u',r',q⟩:=hl j y v' e1 e2 e3;refine⟨u',r',?_⟩
    rcases q with⟨k,e⟩ | ⟨k,c,e,z⟩
    ·refine .inl ⟨k,?_⟩;have:y≠x:=fun e=>hj (Pu hN e1 (e ▸ hi));simp [this,e]
    ·exact .inr ⟨k,c,e,z.sameBut hs (AY y c e)⟩
  ·obtain⟨w',z⟩:=I.cell y c e;exact⟨w',z.sameBut hs (AY y c e)⟩
  ·obtain⟨e,n,ne,nf,d⟩:=I.pin p hp;exact⟨(hs.2 p.1 ne).trans e,n,ne,nf,d⟩
 ·have Bk:X.fn x=true:=by
   rcases hf with z | z
   ·exact z
   ·rw [z]at hk;cases hk
  obtain⟨c,hc⟩:=I.ok.has x (.inl hk);obtain⟨w',z⟩:=I.cell x c hc;refine wpAny_storeName_cell I.ok.kind hk hc z (fun h' sY hs=>?_);obtain⟨oc,Se,apO⟩:=id z;refine h { s with heap:=h' } ⟨I.ok,I.os,I.bare,⟨fun b o e n hb hx=>?_,fun b o e n hb hx=>?_,I.base.free,fun b o e hx=>?_,I.base.kS,I.base.kJ,I.base.kT⟩,⟨m,hn.sameBut hs (cA (AY x c hc)),fun j y v' e1 e2 e3=>?_⟩,fun y c' e=>?_,I.free,I.kK,fun p hp=>?_,tracked ⟨oc,Se,I.kK x c hc⟩ hs,by simpa using I.len⟩ ⟨c,hs,.inr hc⟩
  ·exact(hs.2 b (dH (lE (cR e) (I.ok.FD x c Bk hc)))).trans (I.base.keep b o e n hb hx)
  ·obtain⟨sl,e1⟩:=I.base.slot b o e n hb hx;exact⟨sl,(hs.2 b (dH (lE (cR e) (I.ok.FD x c Bk hc)))).trans e1⟩
  ·obtain⟨o',e1⟩:=I.base.there b o e hx;exact⟨o',(hs.2 b (dH (lE (cR e) (I.ok.FD x c Bk hc)))).trans e1⟩
  ·by_cases hj:j=i
   ·subst hj;rw [hi]at e1;cases e1;rw [gX Sl]at e2;cases e2;exact⟨u,r,.inr ⟨.inl hk,c,hc,sY⟩⟩
   ·rw [fY (cA hj)]at e2;obtain⟨u',r',q⟩:=hl j y v' e1 e2 e3;refine⟨u',r',?_⟩
    rcases q with q | ⟨k,c',e,z'⟩
    ·exact .inl q
    ·refine .inr ⟨k,c',e,z'.sameBut hs ?_⟩;rintro rfl;exact hj (Pu hN e1 (I.ok.inj _ _ _ e hc ▸ hi))
  ·by_cases Sx:c'=c
   ·subst Sx;exact⟨_,sY⟩
   ·obtain⟨w2,z2⟩:=I.cell y c' e;exact⟨w2,z2.sameBut hs Sx⟩
  ·obtain⟨e,n,ne,nf,d⟩:=I.pin p hp;refine⟨(hs.2 p.1 ?_).trans e,n,ne,nf,d⟩;intro q;rw [q,Se]at e;have q':oc=p.2:=mS e;exact d w' (by rw [← q'];exact apO)
theorem VB{M:Model}{A:Around}{E:Value→Shared→Prop}{i:Nat}{x:Str}{v:V}{u:Value}{Q:Unit→Shared→Prop}(I:Inv X pins σ H s)(hN:X.N.Nodup)(hi:X.N[i]? = some x)(hx:Loc X.env.scope x)(r:RelV v u)
  (h:∀s',Inv X pins (σ.set i (some v)) H s'→Q () s') (hf:X.fn x=true∨X.env.scope.names.lookup x=some .local:=by first | exact .inl rfl | exact .inr rfl | assumption):wpAny M A (storeName X.env x u) Q E s :=
 agH I hN hi hx r (fun s' I' _=>h s' I') hf
theorem Inv.KL{s':Shared}{ch:List Addr}(I:Inv X pins σ H s)(ho:s'.os=s.os)(u:Un (fU X.stack) ch H H' s.heap s'.heap)(aK:eW X.prog X.w H' s'.heap)(hg:AllBare s'.gens)
  (nZ:∀b∈ch,(b∈X.ex∨X.s₀.heap.objs.size≤b)∧b≠X.env.locals∧(∀x c,X.env.cells.lookup x=some c→c≠b)∧∀p∈X.pn++pins,p.1≠b):Inv X pins σ H' s':=by
 obtain⟨h',g',d',t',o'⟩:=s';have e:o'=s.os:=ho;subst e;exact I.call (g':=g') (t':=t') (d':=d') u aK hg nZ
end
abbrev XK:=Value→Option Addr→Hp→Prop
abbrev St:=List (Option V)
abbrev VK:=V→Hp→Prop
abbrev TE:=St→Hp→VK→Prop
abbrev TT:=St→Hp→(Bool→Hp→Prop)→Prop
abbrev TA:=St→Hp→(List V→Hp→Prop)→Prop
structure Ends where
 nx:St→Hp→Prop
 rt:VK
 bk:St→Hp→Prop:=fun _ _=>False
 ct:St→Hp→Prop:=fun _ _=>False
abbrev TS:=Ends→St→Hp→Prop
def EP(X:Cx)(pins:List (Addr×Obj))(σ:St)(Q:VK)(u:Value)(s':Shared):Prop:=∃v H',Inv X pins σ H' s'∧RelV v u∧Q v H'
def TP(X:Cx)(pins:List (Addr×Obj))(σ:St)(Q:Bool→Hp→Prop)(b:Bool)(s':Shared):Prop:=∃H',Inv X pins σ H' s'∧Q b H'
def AP(X:Cx)(pins:List (Addr×Obj))(σ:St)(Q:List V→Hp→Prop)(us:List Value)(s':Shared):Prop:=∃vs H',Inv X pins σ H' s'∧Vals vs us∧Q vs H'
def SP(X:Cx)(pins:List (Addr×Obj))(D:Ends)(f:Flow)(s':Shared):Prop :=
 match f with
 | .next=>∃σ' H',Inv X pins σ' H' s'∧D.nx σ' H'
 | .brk=>∃σ' H',Inv X pins σ' H' s'∧D.bk σ' H'
 | .cont=>∃σ' H',Inv X pins σ' H' s'∧D.ct σ' H'
 | .ret u=>∃v σ' H',Inv X pins σ' H' s'∧RelV v u∧D.rt v H'
def PE(X:Cx)(e:Expr)(t:TE):Prop :=
 ∀(pins:List (Addr×Obj)) (s:Shared) (σ:St) (H:Hp) (Q:VK),Inv X pins σ H s→t σ H Q→wpAny (model X.prog X.w) X.A (eval e X.env) (EP X pins σ Q) X.xe s
def PT(X:Cx)(e:Expr)(t:TT):Prop :=
 ∀(pins:List (Addr×Obj)) (s:Shared) (σ:St) (H:Hp) (Q:Bool→Hp→Prop),Inv X pins σ H s→t σ H Q→wpAny (model X.prog X.w) X.A (isTrue e X.env (eval e X.env)) (TP X pins σ Q) X.xe s
def PW(X:Cx)(e:Expr)(t:TT):Prop :=
 ∀(whole:Sem Value) (pins:List (Addr×Obj)) (s:Shared) (σ:St) (H:Hp) (Q:Bool→Hp→Prop),Inv X pins σ H s→t σ H Q→wpAny (model X.prog X.w) X.A (isTrue e X.env whole) (TP X pins σ Q) X.xe s
theorem PW.pt{X:Cx}{e:Expr}{t:TT}(h:PW X e t):PT X e t:=h _
def PA(X:Cx)(es:List Expr)(t:TA):Prop :=
 ∀(pos:Pos) (pins:List (Addr×Obj)) (s:Shared) (σ:St) (H:Hp) (Q:List V→Hp→Prop),Inv X pins σ H s→t σ H Q→wpAny (model X.prog X.w) X.A (spliced (backTo pos (starEach es X.env))) (AP X pins σ Q) X.xe s
def PS(X:Cx)(st:Stmt)(t:TS):Prop :=
 ∀(pins:List (Addr×Obj)) (s:Shared) (σ:St) (H:Hp) (D:Ends),Inv X pins σ H s→t D σ H→wpAny (model X.prog X.w) X.A (exec st X.env) (SP X pins D) X.xe s
def qT(X:Cx)(st:List Stmt)(t:TS):Prop :=
 ∀(pins:List (Addr×Obj)) (s:Shared) (σ:St) (H:Hp) (D:Ends),Inv X pins σ H s→t D σ H→wpAny (model X.prog X.w) X.A (execs st X.env) (SP X pins D) X.xe s
theorem aY{α:Type}{t:Sem α}{Q Q':α→Shared→Prop}{M:Model}{A:Around}{E:Value→Shared→Prop}{s:Shared}(h:wpAny M A t Q E s)(hQ:∀a s,Q a s→Q' a s):wpAny M A t Q' E s:=qE h hQ fun _ _ x=>x
section
variable{X:Cx}
def UP(i:Nat):TE:=fun σ H Q=>∃v,σ[i]? = some (some v)∧Q v H
def tC(v:V):TE:=fun _ H Q=>Q v H
theorem Pe{i:Nat}{x:Str}{pos:Pos}(hN:X.N[i]? = some x)(hv:KU X.env.scope x)(hd:(x == ("__debug__" : Str))=false:=by decide)(mO:(x == ("__classdict__" : Str))=false:=by decide):PE X (.Name x pos) (UP i):=by
 intro pins s σ H Q I h;obtain⟨v,e,h⟩:=h;obtain⟨m,hn,hl⟩:=I.loc;obtain⟨u,r,l⟩:=hl i x v hN e hv;have fin:EP X pins σ Q u s:=⟨v,H,I,r,h⟩
 rcases l with⟨hk,hm⟩ | ⟨hk,c,hc,EN⟩
 ·exact wpAny_Name (wpAny_loadName_local I.ok.kind hk hn hm fin) hd
 ·rcases hk with hk | hk
  ·exact wpAny_Name (wpAny_loadName_cell I.ok.kind hk hc EN fin) hd
  ·exact wpAny_Name (wpAny_loadName_free I.ok.kind hk hc EN fin mO) hd
theorem akQ{i j pos}:PE X (.Constant (.int i) j pos) (tC (.int i)):=fun _ _ _ H _ I h=>wpAny_Constant_int ⟨.int i,H,I.tok _,⟨_,rfl⟩,h⟩
theorem ak0{b j pos}:PE X (.Constant (.bool b) j pos) (tC (.bl b)):=fun _ _ _ H _ I h=>Constant_bool ⟨.bl b,H,I,rfl,h⟩
theorem akJ{j pos}:PE X (.Constant .none j pos) (tC .bB):=fun _ _ _ H _ I h=>Constant_none ⟨.bB,H,I,rfl,h⟩
def Gl(X:Cx)(x:Str):Prop:=X.env.kindOf x=some .globalImplicit
theorem OQ{E:Value→Shared→Prop}{pins:List (Addr×Obj)}{s:Shared}{σ:St}{H:Hp}{x:Str}{u:Value}{pos:Pos}{Q:Value→Shared→Prop}(I:Inv X pins σ H s)(hg:Gl X x)(hm:X.mg x=some u)(h:Q u s)
  (hd:(x == ("__debug__" : Str))=false:=by decide):wpAny (model X.prog X.w) X.A (eval (.Name x pos) X.env) Q E s :=
 Calls.Name_function_global I.ok.kind hg (Calls.loadGlobal_global (by rw [I.ok.glob];exact I.mod.glob.keeps I.bk) hm h) hd
theorem OR{E:Value→Shared→Prop}{pins:List (Addr×Obj)}{s:Shared}{σ:St}{H:Hp}{x:Str}{u:Value}{pos:Pos}{Q:Value→Shared→Prop}(I:Inv X pins σ H s)(hg:Gl X x)(hm:X.mg x=none)(hv:bootBuiltins x=some u)(h:Q u s)
  (hn:x ≠ "__name__":=by decide) (hd:(x == ("__debug__" : Str))=false:=by decide):wpAny (model X.prog X.w) X.A (eval (.Name x pos) X.env) Q E s:=by
 obtain⟨mb,h1,h2⟩:=I.mod.blt;exact Calls.Name_function_global I.ok.kind hg (Calls.loadGlobal_builtin (by rw [I.ok.glob];exact I.mod.glob.keeps I.bk) hm (by rw [I.ok.blt];exact h1.keeps I.bk) ((h2 x hn).trans hv) h) hd
theorem akR{x:Str}{v:V}{u:Value}{pos:Pos}(hg:Gl X x)(hm:X.mg x=some u)(r:RelV v u)(hd:(x == ("__debug__" : Str))=false:=by decide):PE X (.Name x pos) (tC v) :=
 fun _ _ _ H _ I h=>OQ I hg hm ⟨v,H,I,r,h⟩ hd
theorem akZ{x:Str}{v:V}{u:Value}{pos:Pos}(hg:Gl X x)(hm:X.mg x=none)(hv:bootBuiltins x=some u)(r:RelV v u)(hn:x ≠ "__name__":=by decide)(hd:(x == ("__debug__" : Str))=false:=by decide):PE X (.Name x pos) (tC v) :=
 fun _ _ _ H _ I h=>OR I hg hm hv ⟨v,H,I,r,h⟩ hn hd
variable{a b:Expr}{ta tb:TE}{pos:Pos}
def tB(t:TE):TT:=fun σ H Q=>t σ H fun x H1=>∃c,x = .bl c∧Q c H1
theorem ai9{e:Expr}{t:TE}(h:PE X e t)(he:∀whole,isTrue e X.env whole=(do let v ← whole;standAt e.pos;holding [v] (truthy v)):=by intro _;rfl):PT X e (tB t):=by
 intro pins s σ H Q I hw;refine isTrue_plain (aY (h pins s σ H _ I hw) fun v s1 ⟨x,H1,I1,r1,q1⟩=>?_) (he _);obtain⟨d,rfl,q⟩:=q1;cases r1;exact TC ⟨H1,I1,q⟩
variable{tA NH:TT}{rest:List Expr}
def acS(t u:TT):TT:=fun σ H Q=>t σ H fun c H1=>if c=true then u σ H1 Q else Q false H1
def tOr(t u:TT):TT:=fun σ H Q=>t σ H fun c H1=>if c=true then Q true H1 else u σ H1 Q
def acD(t:TT):TT:=fun σ H Q=>t σ H fun c H1=>Q (!c) H1
theorem pw_and1(ha:PT X a tA):PW X (.BoolOp .And [a] pos) tA:=by
 intro wh pins s σ H Q I h;refine isTrue_and (aY (ha pins s σ H Q I h) fun c s1 e=>?_);cases c with
 | true=>exact isTrue_and_nil e
 | false=>exact e
theorem pw_or1(ha:PT X a tA):PW X (.BoolOp .Or [a] pos) tA:=by
 intro wh pins s σ H Q I h;refine isTrue_or (aY (ha pins s σ H Q I h) fun c s1 e=>?_);cases c with
 | false=>exact isTrue_or_nil e
 | true=>exact e
theorem pw_and(ha:PT X a tA)(hb:PW X (.BoolOp .And (b::rest) pos) NH):PW X (.BoolOp .And (a::b::rest) pos) (acS tA NH):=by
 intro wh pins s σ H Q I h;refine isTrue_and (aY (ha pins s σ H _ I h) fun c s1 ⟨H1,I1,q1⟩=>?_);cases c with
 | true=>exact hb wh pins s1 σ H1 Q I1 q1
 | false=>exact⟨H1,I1,q1⟩
theorem pw_or(ha:PT X a tA)(hb:PW X (.BoolOp .Or (b::rest) pos) NH):PW X (.BoolOp .Or (a::b::rest) pos) (tOr tA NH):=by
 intro wh pins s σ H Q I h;refine isTrue_or (aY (ha pins s σ H _ I h) fun c s1 ⟨H1,I1,q1⟩=>?_);cases c with
 | true=>exact⟨H1,I1,q1⟩
 | false=>exact hb wh pins s1 σ H1 Q I1 q1
theorem ajA(ha:PT X a tA):PT X (.UnaryOp .Not a pos) (acD tA):=by
 intro pins s σ H Q I h;exact isTrue_not (ha pins s σ H (fun c H1=>Q (!c) H1) I h)
def acR(ta tb:TE):TE:=fun σ H Q=>ta σ H fun x H1=>∃c,x = .bl c∧if c=true then tb σ H1 Q else Q (.bl false) H1
def acC(ta:TE):TE:=fun σ H Q=>ta σ H fun x H1=>∃c,x = .bl c∧Q (.bl (!c)) H1
theorem akH{op}{t:TE}(h:PE X a t):PE X (.BoolOp op [a] pos) t:=fun pins s σ H Q I hw=>BoolOp_one (h pins s σ H Q I hw)
theorem ak2(ha:PE X a ta)(hb:PE X (.BoolOp .And (b::rest) pos) tb):PE X (.BoolOp .And (a::b::rest) pos) (acR ta tb):=by
 intro pins s σ H Q I h;refine BoolOp_and (aY (ha pins s σ H _ I h) fun v s1 ⟨x,H1,I1,r1,q1⟩=>?_);obtain⟨c,rfl,q1⟩:=q1;cases r1;refine TC ?_;cases c with
 | true=>exact hb pins s1 σ H1 Q I1 q1
 | false=>exact⟨.bl false,H1,I1,rfl,q1⟩
theorem akI(ha:PE X a ta):PE X (.UnaryOp .Not a pos) (acC ta):=by
 intro pins s σ H Q I h;refine UnaryOp_ (aY (ha pins s σ H _ I h) fun v s1 ⟨x,H1,I1,r1,q1⟩=>?_);obtain⟨c,rfl,q1⟩:=q1;cases r1;exact not_of (TC ⟨.bl (!c),H1,I1,rfl,q1⟩)
end
def fK(K:Frag)(H:Hp)(a:Addr)(xs:List V):Prop :=
 Rd H a (.lst xs) ∨
  ∃(o:Obj) (aN:Array Value) (n:Nat),K.lookup a=some o∧o.cls = .type "list"∧o.dict=none∧o.data = .seq aN n∧aN.size≤sizeLine∧Vals xs aN.toList
def iL(K:Frag)(H:Hp)(a:Addr)(xs:List V):Prop :=
 Rd H a (.tup xs) ∨
  ∃(o:Obj) (aN:Array Value) (n:Nat),K.lookup a=some o∧o.cls = .type "tuple"∧o.data = .seq aN n∧aN.size≤sizeLine∧Vals xs aN.toList
def av4:Value→Option V
 | .none=>some .bB
 | .bool b=>some (.bl b)
 | .int i _=>some (.int i)
 | .str x _=>some (.str x)
 | .bytes b _=>some (.QT b)
 | .float b _=>some (.AS b)
 | .ref a=>some (.ref a)
 | .type n=>some (.ty n)
 | _=>none
theorem RelV.abs{x:V}{u:Value}(r:RelV x u):av4 u=some x:=by
 cases x with
 | bB=>cases r;rfl
 | bl _=>cases r;rfl
 | int _=>obtain⟨t,rfl⟩:=r;rfl
 | str _=>obtain⟨t,rfl⟩:=r;rfl
 | QT _=>obtain⟨t,rfl⟩:=r;rfl
 | AS _=>obtain⟨t,rfl⟩:=r;rfl
 | ref _=>cases r;rfl
 | ty _=>cases r;rfl
theorem RelV.inj{x y:V}{u:Value}(r:RelV x u)(q:RelV y u):x=y:=mS (r.abs.symm.trans q.abs)
theorem Vals.inj:∀{xs ys:List V} {us:List Value},Vals xs us→Vals ys us→xs=ys
 | _,_,_,.nil,.nil=>rfl
 | _,_,_,.cons r t,.cons r' t'=>by rw [r.inj r',Vals.inj t t']
section
variable{X:Cx}{pins:List (Addr×Obj)}{σ:St}{H:Hp}{s:Shared}{a:Addr}{xs ys:List V}
theorem fK.of{K:Frag}(h:H a=some (.lst xs)):fK K H a xs := .inl (.inl h)
theorem iL.of{K:Frag}(h:H a=some (.tup xs)):iL K H a xs := .inl (.inl h)
theorem Inv.list(I:Inv X pins σ H s)(h:fK X.K H a xs):∃aN:List Value,Vals xs aN∧PlainL s.heap a aN.toArray∧xs.length≤sizeLine:=by
 rcases h with h | ⟨o,aN,n,hk,hc,hd,hs,hz,r⟩
 ·obtain⟨z,aN,n,r,e⟩:=h.ok I.aK;exact⟨aN,r,⟨_,n,e,rfl,rfl,rfl⟩,z⟩
 ·refine⟨aN.toList,r,⟨o,n,I.gS a o hk,hc,hd,by simpa using hs⟩,?_⟩;have e:=r.length;simp only [eY]at e;omega
theorem Inv.tuple(I:Inv X pins σ H s)(h:iL X.K H a xs):∃aN:List Value,Vals xs aN∧IsTup s.heap a aN.toArray∧xs.length≤sizeLine:=by
 rcases h with h | ⟨o,aN,n,hk,hc,hs,hz,r⟩
 ·obtain⟨z,aN,r,p⟩:=h.ok I.aK;exact⟨aN,r,p,z⟩
 ·refine⟨aN.toList,r,⟨o,I.gS a o hk,hc,n,by simpa using hs⟩,?_⟩;have e:=r.length;simp only [eY]at e;omega
theorem Inv.anF(I:Inv X pins σ H s)(h:fK X.K H a xs)(h':fK X.K H a ys):xs=ys:=by
 obtain⟨aN,r,⟨o,n,e,_,_,d⟩,_⟩:=I.list h;obtain⟨its',r',⟨o',n',e',_,_,d'⟩,_⟩:=I.list h';rw [e]at e';cases e';rw [d]at d';injection d' with d1 _;have:aN=its':=by simpa using congrArg Array.toList d1
 subst this;exact r.inj r'
theorem Inv.abM(I:Inv X pins σ H s)(h:iL X.K H a xs)(h':iL X.K H a ys):xs=ys:=by
 obtain⟨aN,r,⟨o,e,_,n,d⟩,_⟩:=I.tuple h;obtain⟨its',r',⟨o',e',_,n',d'⟩,_⟩:=I.tuple h';rw [e]at e';cases e';rw [d]at d';injection d' with d1 _;have:aN=its':=by simpa using congrArg Array.toList d1
 subst this;exact r.inj r'
end
abbrev Cx.rF(X:Cx)(E:Value→Shared→Prop):Cx:={ X with xe:=E }
theorem Cx.Ok.rF{X:Cx}(ok:X.Ok)(E:Value→Shared→Prop):(X.rF E).Ok :=
 ⟨ok.mod,ok.kind,ok.glob,ok.blt,ok.above,ok.inj,ok.has,ok.FD,ok.hd,ok.frames,ok.rJ,ok.EW,ok.bs,ok.pU,ok.uM,ok.AU,ok.oG,ok.tF⟩
theorem Cx.Ok.uC{X:Cx}{E:Value→Shared→Prop}(ok:(X.rF E).Ok):X.Ok :=
 ⟨ok.mod,ok.kind,ok.glob,ok.blt,ok.above,ok.inj,ok.has,ok.FD,ok.hd,ok.frames,ok.rJ,ok.EW,ok.bs,ok.pU,ok.uM,ok.AU,ok.oG,ok.tF⟩
section
variable{X:Cx}{pins:List (Addr×Obj)}{σ:St}{H:Hp}{s:Shared}{E:Value→Shared→Prop}
theorem Inv.rF(I:Inv X pins σ H s)(E:Value→Shared→Prop):Inv (X.rF E) pins σ H s:=⟨I.ok.rF E,I.os,I.bare,I.base,I.loc,I.cell,I.free,I.kK,I.pin,I.aK,I.len⟩
theorem Inv.uC(I:Inv (X.rF E) pins σ H s):Inv X pins σ H s:=⟨I.ok.uC,I.os,I.bare,I.base,I.loc,I.cell,I.free,I.kK,I.pin,I.aK,I.len⟩
theorem SP.uC{D:Ends}{f:Flow}{s':Shared}(h:SP (X.rF E) pins D f s'):SP X pins D f s':=by
 cases f with
 | next=>obtain⟨σ',H',I,q⟩:=h;exact⟨σ',H',I.uC,q⟩
 | brk=>obtain⟨σ',H',I,q⟩:=h;exact⟨σ',H',I.uC,q⟩
 | cont=>obtain⟨σ',H',I,q⟩:=h;exact⟨σ',H',I.uC,q⟩
 | ret u=>obtain⟨v,σ',H',I,r,q⟩:=h;exact⟨v,σ',H',I.uC,r,q⟩
end
section
variable{X:Cx}{st:Stmt}{rest:List Stmt}{t u:TS}{e:Expr}{te:TE}{pos:Pos}
def acF:TS:=fun D σ H=>D.nx σ H
def Lx(t u:TS):TS:=fun D σ H=>t { D with nx:=u D } σ H
theorem ajD:qT X [] acF:=fun _ _ σ H _ I h=>TK ⟨σ,H,I,h⟩
theorem ajE(h1:PS X st t)(h2:qT X rest u):qT X (st::rest) (Lx t u):=by
 intro pins s σ H D I h;refine wpAny_execs_cons (aY (h1 pins s σ H { D with nx:=u D } I h) fun f s1 q=>?_);cases f with
 | next =>
  obtain⟨σ',H',I',q⟩:=q;exact h2 pins s1 σ' H' D I' q
 | ret v=>exact q
 | brk=>exact q
 | cont=>exact q
theorem ajC(h1:PS X st t):qT X [st] t:=by
 intro pins s σ H D I h;refine wpAny_execs_cons (aY (h1 pins s σ H D I h) fun f s1 q=>?_);cases f with
 | next=>exact TK q
 | ret v=>exact q
 | brk=>exact q
 | cont=>exact q
theorem Inv.quiet{pins:List (Addr×Obj)}{σ:St}{H:Hp}{s:Shared}(I:Inv X pins σ H s):interactive X.env=false:=by simp [interactive,I.ok.kind]
def acL(te:TE):TS:=fun D σ H=>te σ H fun _ H1=>D.nx σ H1
theorem ajN(he:PE X e te)(hs:swapsWith e none pos.line X.env=pure false:=by rfl):PS X (.Expr e pos) (acL te):=by
 intro pins s σ H D I h;exact wpAny_Expr_any (aY (he pins s σ H _ I h) fun v s1 ⟨x,H1,I1,r1,q1⟩=>⟨σ,H1,I1,q1⟩) I.quiet hs
def ab9(te:TE):TS:=fun D σ H=>te σ H D.rt
theorem ajJ(he:PE X e te):PS X (.Return (some e) pos) (ab9 te):=by
 intro pins s σ H D I h;exact wpAny_Return_some (aY (he pins s σ H _ I h) fun v s1 ⟨x,H1,I1,r1,q1⟩=>⟨x,σ,H1,I1,r1,q1⟩)
def acJ(c:TT)(t u:TS):TS:=fun D σ H=>c σ H fun b H1=>if b=true then t D σ H1 else u D σ H1
theorem ajL{c:Expr}{a b:List Stmt}{tc:TT}(hc:PT X c tc)(ha:qT X a t)(hb:qT X b u):PS X (.If c a b pos) (acJ tc t u):=by
 intro pins s σ H D I h;refine wpAny_If (aY (hc pins s σ H _ I h) fun d s1 ⟨H1,I1,q1⟩=>?_);cases d with
 | true=>exact ha pins s1 σ H1 D I1 q1
 | false=>exact hb pins s1 σ H1 D I1 q1
def acG:TS:=fun _ _ _=>False
theorem ajK:PS X st acG:=fun _ _ _ _ _ _ h=>h.elim
end
abbrev TG:=V→St→Hp→(St→Hp→Prop)→Prop
abbrev tO:=List V→St→Hp→(St→Hp→Prop)→Prop
def PG(X:Cx)(target:Expr)(t:TG):Prop :=
 ∀(pins:List (Addr×Obj)) (s:Shared) (σ:St) (H:Hp) (v:V) (u:Value) (Q:St→Hp→Prop),Inv X pins σ H s→RelV v u→t v σ H Q →
  wpAny (model X.prog X.w) X.A (assign target X.env u) (fun _ s'=>∃σ' H',Inv X pins σ' H' s'∧Q σ' H') X.xe s
def FR(X:Cx)(ts:List Expr)(t:tO):Prop :=
 ∀(pins:List (Addr×Obj)) (s:Shared) (σ:St) (H:Hp) (vs:List V) (us:List Value) (Q:St→Hp→Prop),Inv X pins σ H s→Vals vs us→t vs σ H Q →
  wpAny (model X.prog X.w) X.A (assignInOrder ((assignEach ts X.env).map (·.2)) us) (fun _ s'=>∃σ' H',Inv X pins σ' H' s'∧Q σ' H') X.xe s
abbrev Gz:=V→V→V→Hp→(Hp→Prop)→Prop
def Xy(X:Cx)(t:Gz):Prop :=
 ∀(pins:List (Addr×Obj)) (s:Shared) (σ:St) (H:Hp) (o i v:V) (ov iv u:Value) (Q:Hp→Prop),Inv X pins σ H s→RelV o ov→RelV i iv→RelV v u→t o i v H Q →
  wpAny (model X.prog X.w) X.A (setItem ov iv u) (fun _ s'=>∃H',Inv X pins σ H' s'∧Q H') X.xe s
abbrev RN:=V→V→Hp→VK→Prop
def Xz(X:Cx)(op:Operator)(t:RN):Prop :=
 ∀(pins:List (Addr×Obj)) (s:Shared) (σ:St) (H:Hp) (x y:V) (v u:Value) (Q:VK),Inv X pins σ H s→RelV x v→RelV y u→t x y H Q →
  wpAny (model X.prog X.w) X.A (inplaceOp op v u) (EP X pins σ Q) X.xe s
section
variable{X:Cx}{pos:Pos}
def Dh(i:Nat):TG:=fun v σ H Q=>Q (σ.set i (some v)) H
theorem Pd{i:Nat}{x:Str}(hN:X.N.Nodup)(hi:X.N[i]? = some x)(hx:Loc X.env.scope x)(hf:X.fn x=true∨X.env.scope.names.lookup x=some .local:=by first | exact .inl rfl | exact .inr rfl | assumption):PG X (.Name x pos) (Dh i):=by
 intro pins s σ H v u Q I r h;exact wpAny_assign_Name (VB I hN hi hx r (fun s' I'=>⟨_,H,I',h⟩) hf)
def asR:tO:=fun vs σ H Q=>vs=[]∧Q σ H
def asW(t:TG)(u:tO):tO:=fun vs σ H Q=>∃v r,vs=v::r∧t v σ H fun σ' H'=>u r σ' H' Q
theorem aj8:FR X [] asR:=by
 intro pins s σ H vs us Q I r h;obtain⟨e,h⟩:=h;subst e;cases r;exact assignInOrder_nil ⟨σ,H,I,h⟩
theorem aj9{e:Expr}{es:List Expr}{t:TG}{u:tO}(h1:PG X e t)(h2:FR X es u)
  (hs:(assignEach (e::es) X.env).map (·.2)=assign e X.env::(assignEach es X.env).map (·.2):=by rfl):FR X (e::es) (asW t u):=by
 intro pins s σ H vs us Q I r h;obtain⟨v,vr,e1,h⟩:=h;subst e1;cases r with
 | cons r rr =>
  rw [hs];refine assignInOrder_cons (aY (h1 pins s σ H _ _ _ I r h) fun _ s1 ⟨σ1,H1,I1,q1⟩=>?_);exact h2 pins s1 σ1 H1 _ _ Q I1 rr q1
def asP(K:Frag)(n:Nat)(t:tO):TG:=fun v σ H Q=>∃a xs,v = .ref a∧iL K H a xs∧xs.length=n∧t xs σ H Q
theorem akA{es:List Expr}{k:Nat}{t:tO}{n:Nat}(hc:X.calm=true)(h:FR X es t)
  (hn:(assignEach es X.env).length=n:=by rfl) (iT:(assignEach es X.env).findIdx? (·.1)=none:=by rfl):PG X (.Tuple es k pos) (asP X.K n t):=by
 intro pins s σ H v u Q I r hw;obtain⟨a,xs,e1,hq,hl,hw⟩:=hw;subst e1;cases r;obtain⟨aN,rv,ht,hz⟩:=I.tuple hq;refine assign_Tuple_tuple (I.ok.hd hc) ht (by simp [hn,← hl,rv.length]) iT fun h' hx=>?_;have I1:Inv X pins σ H { s with heap:=h' }:=I.kept (t':=s.toks) fun b o e=>hx b o (dH (cR e)) e;exact h pins _ σ H xs _ Q I1 (by simpa using rv) hw
def jJ(to ti:TE)(t:Gz):TG:=fun v σ H Q=>to σ H fun o H1=>ti σ H1 fun i H2=>t o i v H2 fun H3=>Q σ H3
theorem akB{o i:Expr}{to ti:TE}{t:Gz}(ho:PE X o to)(hi:PE X i ti)(hs:Xy X t)
  (ha:∀v,assign (.Subscript o i pos) X.env v=(do
   let ov ← holding [v] (eval o X.env)
   let iv ← holding [v,ov] (eval i X.env)
   standAt pos
   holding [v,ov,iv] (setItem ov iv v)
   release [v,ov,iv] []):=by intro _;rfl):PG X (.Subscript o i pos) (jJ to ti t):=by
 intro pins s σ H v u Q I r h;rw [ha];refine aE (pE (aY (ho pins s σ H _ I h) fun ov s1 ⟨x,H1,I1,r1,q1⟩=>?_));refine aE (pE (aY (hi pins s1 σ H1 _ I1 q1) fun iv s2 ⟨y,H2,I2,r2,q2⟩=>?_));refine aE (wpAny_standAt (aE (pE (aY (hs pins s2 σ H2 x y v ov iv u _ I2 r1 r2 r q2) fun _ s3 ⟨H3,I3,q3⟩=>?_))));exact wpAny_release ⟨σ,H3,I3,q3⟩
def NI(te:TE)(g:TG):TS:=fun D σ H=>te σ H fun x H1=>g x σ H1 D.nx
theorem ajQ{tg e:Expr}{te:TE}{g:TG}(he:PE X e te)(hg:PG X tg g)(hs:swapsWithSole [tg] e pos.line X.env=pure false:=by rfl)(hw:swappedStores [tg] e X.env=pure none:=by rfl)
  (h1:(assignEach [tg] X.env).map (·.2)=[assign tg X.env]:=by rfl):PS X (.Assign [tg] e pos) (NI te g):=by
 intro pins s σ H D I h;refine wpAny_Assign_stores (aY (he pins s σ H _ I h) fun v s1 ⟨x,H1,I1,r1,q1⟩=>?_) hs hw;rw [h1];exact aY (hg pins s1 σ H1 x v _ I1 r1 q1) fun _ s2 q=>q
theorem ajI{i:Nat}{x:Str}{e:Expr}{te:TE}{pos':Pos}(hN:X.N.Nodup)(hi:X.N[i]? = some x)(hx:Loc X.env.scope x)(he:PE X e te)(hs:swapsWith e (some (.Name x pos')) pos.line X.env=pure false:=by rfl)(hf:X.fn x=true∨X.env.scope.names.lookup x=some .local:=by first | exact .inl rfl | exact .inr rfl | assumption) :
  PS X (.Assign [.Name x pos'] e pos) (NI te (Dh i)):=by
 intro pins s σ H D I h;refine wpAny_Assign_Name (aY (he pins s σ H _ I h) fun v s1 ⟨y,H1,I1,r1,q1⟩=>?_) hs;exact VB I1 hN hi hx r1 (fun s2 I2=>⟨_,H1,I2,q1⟩) hf
def acQ(i:Nat)(te:TE)(ti:RN):TS:=fun D σ H=>∃x,σ[i]? = some (some x)∧te σ H fun y H1=>ti x y H1 fun z H2=>D.nx (σ.set i (some z)) H2
theorem ajP{i:Nat}{x:Str}{e:Expr}{te:TE}{op:Operator}{ti:RN}{pos':Pos}(hN:X.N.Nodup)(hi:X.N[i]? = some x)(hx:Loc X.env.scope x)(he:PE X e te)(ho:Xz X op ti)(hf:X.fn x=true∨X.env.scope.names.lookup x=some .local:=by first | exact .inl rfl | exact .inr rfl | assumption) :
  PS X (.AugAssign (.Name x pos') op e pos) (acQ i te ti):=by
 intro pins s σ H D I h;obtain⟨v,e1,h⟩:=h;obtain⟨m,hn,hl⟩:=I.loc;have vis:KU X.env.scope x:=by rcases hx with k | k;exact .inl k;exact .inr (.inl k)
 obtain⟨u,r,l⟩:=hl i x v hi e1 vis;refine wpAny_AugAssign_Name ?_;have go:wpAny (model X.prog X.w) X.A (eval e X.env) (fun w s₂=>wpAny (model X.prog X.w) X.A (inplaceOp op u w) (fun r s₃=>wpAny (model X.prog X.w) X.A (storeName X.env x r) (fun _=>SP X pins D .next) X.xe s₃) X.xe s₂) X.xe s:=by
  refine aY (he pins s σ H _ I h) fun w s1 ⟨y,H1,I1,r1,q1⟩=>?_;refine aY (ho pins s1 σ H1 v y u w _ I1 r r1 q1) fun z s2 ⟨zv,H2,I2,r2,q2⟩=>?_;exact VB I2 hN hi hx r2 (fun s3 I3=>⟨_,H2,I3,q2⟩) hf
 rcases l with⟨hk,hm⟩ | ⟨hk,c,hc,EN⟩
 ·exact wpAny_loadName_local I.ok.kind hk hn hm go
 ·rcases hk with hk | hk
  ·exact wpAny_loadName_cell I.ok.kind hk hc EN go
  ·rcases hx with k | k
   ·have:X.env.scope.names.lookup x=some .free:=hk;rw [k]at this;cases this
   ·have:X.env.scope.names.lookup x=some .free:=hk;rw [k]at this;cases this
def ipI(f:Int→Int→Int):RN:=fun x y H Q=>∃i j,x = .int i∧y = .int j∧Q (.int (f i j)) H
theorem aoN:Xz X .Add (ipI fun i j=>i+j):=by
 intro pins s σ H x y v u Q I r1 r2 h;obtain⟨i,j,e1,e2,q⟩:=h;subst e1;subst e2;obtain⟨t,rfl⟩:=r1;obtain⟨t',rfl⟩:=r2;exact iadd_int ⟨.int _,H,I.tok _,⟨_,rfl⟩,q⟩
def Lv(c:TT)(tb:TS):TS:=fun D σ H=>∃W:Nat→St→Hp→Prop,(∃m,W m σ H)∧∀m σ H,W m σ H →
 c σ H fun b H1=>if b=true then ∃N:St→Hp→Prop,(∀σ' H',N σ' H'→∃m',m'<m∧W m' σ' H')∧tb { D with nx:=N,ct:=N,bk:=D.nx } σ H1 else D.nx σ H1
theorem ajF{c:Expr}{body:List Stmt}{tc:TT}{tb:TS}(hp:PassesOwn (model X.prog X.w) X.A X.env X.xe)(hc:PT X c tc)(hb:qT X body tb):PS X (.While c body [] pos) (Lv tc tb):=by
 intro pins s σ H D I h;obtain⟨W,⟨m0,w0⟩,turn⟩:=h;refine wpAny_While (codeAny_whileLoop (fun n s'=>∃σ' H',Inv X pins σ' H' s'∧W n σ' H') ?_ m0 ⟨σ,H,I,w0⟩);rintro n s1 ⟨σ1,H1,I1,w1⟩;refine CP hp (aY (hc pins s1 σ1 H1 _ I1 (turn n σ1 H1 w1)) fun b s2 ⟨H2,I2,q2⟩=>?_);cases b with
 | true =>
  obtain⟨N,hN,q2⟩:=q2;rw [if_pos rfl];refine CP hp (aY (hb pins s2 σ1 H2 _ I2 q2) fun f s3 q3=>?_);cases f with
  | next =>
   obtain⟨σ3,H3,I3,n3⟩:=q3;obtain⟨m',hm,w3⟩:=hN σ3 H3 n3;exact⟨m',hm,σ3,H3,I3,w3⟩
  | cont =>
   obtain⟨σ3,H3,I3,n3⟩:=q3;obtain⟨m',hm,w3⟩:=hN σ3 H3 n3;exact⟨m',hm,σ3,H3,I3,w3⟩
  | brk=>exact q3
  | ret v=>exact q3
 | false =>
  rw [if_neg Zb];exact TK ⟨σ1,H2,I2,q2⟩
end
structure It where
 go:Nat→Hp→Prop
 vR:Nat→Hp→V→Hp→Prop
 stop:Nat→Hp→Prop
def rB(X:Cx)(pins:List (Addr×Obj))(H:Hp)(b:Addr):Prop :=
 H b=none∧b≠X.env.locals∧b∉X.fs∧(b∈X.ex∨X.s₀.heap.objs.size≤b)∧(∀x c,X.env.cells.lookup x=some c→c≠b)∧∀p∈X.pn++pins,p.1≠b
theorem Inv.EU{X:Cx}{pins:List (Addr×Obj)}{σ:St}{H H':Hp}{s:Shared}{b:Addr}(I:Inv X pins σ H s)(hb:s.heap.objs.size≤b)(hn:H' b=none):rB X pins H' b:=by
 refine⟨hn,RP (lE I.lt hb),I.al4 hb,.inr (kN I.sz hb),fun x c e z=>?_,fun p hp z=>?_⟩
 ·obtain⟨v,q⟩:=I.cell x c e;exact absurd (lE q.lt (by rw [z];exact hb)) (Nat.lt_irrefl _)
 ·exact absurd (lE (cR (I.pin p hp).1) (by rw [z];exact hb)) (Nat.lt_irrefl _)
structure Turn(P:Program)(w:World)(K:Frag)(tg:Expr)(J:It)(fp:List Addr)(it:Addr)(tn:Nat→Heap→Prop):Prop where
 mem:it∈fp
 obj:∀i h,tn i h→∀b∈fp,∃o,h.get? b=some o∧∀v,o.data ≠ .cell v
 keep:∀i h h',tn i h→(∀b∈fp,∀o,h.get? b=some o→h'.get? b=some o)→tn i h'
 item:∀(X:Cx),X.prog=P→X.w=w→X.K=K→X.calm=true→∀(i:Nat) (pins:List (Addr×Obj)) (s:Shared) (σ:St) (H:Hp) (E:Value→Shared→Prop),Inv X pins σ H s→(∀b∈fp,rB X pins H b)→tn i s.heap→J.go i H →
  wpAny (model P w) X.A (pyNext (.ref it)) (fun r s1=>∃u,r=some u ∧
   wpAny (model P w) X.A (letOwnedTupleGo tg (.ref it) u) (fun _ s2=>∃x H',Inv X pins σ H' s2∧RelV x u∧J.vR i H x H'∧tn (i+1) s2.heap∧∀b∈fp,H' b=none) E s1) E s
 done:∀(X:Cx),X.prog=P→X.w=w→X.K=K→X.calm=true→∀(i:Nat) (pins:List (Addr×Obj)) (s:Shared) (σ:St) (H:Hp) (E:Value→Shared→Prop),Inv X pins σ H s→(∀b∈fp,rB X pins H b)→tn i s.heap→J.stop i H →
  wpAny (model P w) X.A (pyNext (.ref it)) (fun r s1=>r=none∧Inv X pins σ H s1) E s
 self:∀(A:Around) (i:Nat) (s:Shared) (Q:Value→Shared→Prop) (E:Value→Shared→Prop),tn i s.heap→Q (.ref it) s→wpAny (model P w) A (pyIter (.ref it)) Q E s
abbrev TI:=St→Hp→(It→Hp→Prop)→Prop
def Yb(X:Cx)(pins:List (Addr×Obj))(σ:St)(tg:Expr)(R:It→Hp→Prop)(OV:Value)(s2:Shared):Prop :=
 ∃(it:Addr) (fp:List Addr) (tn:Nat→Heap→Prop) (J:It) (H':Hp),OV = .ref it∧Inv X pins σ H' s2∧Turn X.prog X.w X.K tg J fp it tn∧tn 0 s2.heap∧(∀b∈fp,rB X pins H' b)∧R J H'
def PI(X:Cx)(tg iter:Expr)(wi:TI):Prop :=
 ∀(pins:List (Addr×Obj)) (s:Shared) (σ:St) (H:Hp) (R:It→Hp→Prop),Inv X pins σ H s→wi σ H R →
  wpAny (model X.prog X.w) X.A (eval iter X.env) (fun v s1=>wpAny (model X.prog X.w) X.A (pyIter v) (Yb X pins σ tg R) X.xe s1) X.xe s
theorem Dc{M:Model}{A:Around}{E:Value→Shared→Prop}{s:Shared}{tg:Expr}{it:Addr}{u:Value}{o:Obj}{n:String}{vs:Array Value}{Q:Unit→Shared→Prop}(ho:s.heap.get? it=some o)(hc:o.cls = .type n)(hd:o.data = .fields vs)
  (hn:["enumerate", "zip", "dict_itemiterator", "dict_reverseitemiterator", "odict_iterator", "itertools.zip_longest", "itertools.pairwise"].contains n=false) (hQ:Q () s):wpAny M A (letOwnedTupleGo tg (.ref it) u) Q E s:=by
 unfold letOwnedTupleGo;cases tg <;> first
  | exact aQ hQ
  | (cases u <;> first
    | exact aQ hQ
    | (refine aE (wpAny_load ho ?_)
       rw [hc,hd];show wpAny M A (if(["enumerate", "zip", "dict_itemiterator", "dict_reverseitemiterator", "odict_iterator", "itertools.zip_longest", "itertools.pairwise"].contains n&&vs[0]? == some (rawInt _))=true then _ else _) Q E s;rw [if_neg (by intro h;rw [hn,Bool.false_and]at h;cases h)];exact aQ hQ))
def Io(K:Frag)(a:Addr):It :=
 ⟨fun i H=>∃xs x,fK K H a xs∧xs[i]? = some x,fun i H x H'=>H'=H∧∀xs,fK K H a xs→xs[i]? = some x,fun i H=>∃xs,fK K H a xs∧xs.length≤i⟩
def Im(K:Frag)(a:Addr):It :=
 ⟨fun i H=>∃xs x,iL K H a xs∧xs[i]? = some x,fun i H x H'=>H'=H∧∀xs,iL K H a xs→xs[i]? = some x,fun i H=>∃xs,iL K H a xs∧xs.length≤i⟩
def SD(lo:Int)(n:Nat):It:=⟨fun i _=>i<n,fun i H x H'=>H'=H∧x = .int (lo+i),fun i _=>n≤i⟩
theorem abH{P:Program}{w:World}{K:Frag}{tg:Expr}(a it:Addr):Turn P w K tg (Io K a) [it] it (fun i h=>h.IsListIter it a i)where
 mem:=by simp
 obj:=fun i h st b hb=>by
  have e:b=it:=by simpa using hb
  subst e;obtain⟨o,e,c,d⟩:=st;exact⟨o,e,fun v z=>by rw [d]at z;cases z⟩
 keep:=fun i h h' st k=>st.at fun o e=>k it (by simp) o e
 item:=by
  intro X hP hw hK hc i pins s σ H E I hf st hg;subst hP hw hK;obtain⟨xs,x,hq,hx⟩:=hg;obtain⟨aN,rv,p,hz⟩:=I.list hq;obtain⟨u,hu,ru⟩:=rv.get hx;obtain⟨f0,f1,f2,f3,f4,f5⟩:=hf it (by simp);refine wpAny_pyNext_list_item st p.isList (x:=u) (by simpa using hu) fun h' aG sb=>?_;have I1:Inv X pins σ H { s with heap:=h' }:=I.turned (t':=s.toks) (fun b o hb e=>(sb.2 b hb).trans e) f0 f1 f3 f4 f5;obtain⟨o,e,c,d⟩:=id aG;exact⟨u,rfl,Dc (s:={ s with heap:=h' }) e c d (by decide) ⟨x,H,I1,ru,⟨rfl,fun ys hy=>by rw [I.anF hy hq];exact hx⟩,aG,fun b hb=>(hf b hb).1⟩⟩
 done:=by
  intro X hP hw hK hc i pins s σ H E I hf st hg;subst hP hw hK;obtain⟨xs,hq,hx⟩:=hg;obtain⟨aN,rv,p,hz⟩:=I.list hq;obtain⟨f0,f1,f2,f3,f4,f5⟩:=hf it (by simp);have hl:=rv.length;exact wpAny_pyNext_list_end (I.ok.hd hc) st p.isList (by simp;omega) fun h' eb=>⟨rfl,I.turned (t':=s.toks) (fun b o hb e=>eb b o hb e) f0 f1 f3 f4 f5⟩
 self:=fun _ _ _ _ _ st h=>wpAny_pyIter_listiter st h
theorem abF{P:Program}{w:World}{K:Frag}{tg:Expr}(a it:Addr):Turn P w K tg (Im K a) [it] it (fun i h=>h.IsTupleIter it a i)where
 mem:=by simp
 obj:=fun i h st b hb=>by
  have e:b=it:=by simpa using hb
  subst e;obtain⟨o,e,c,d⟩:=st;exact⟨o,e,fun v z=>by rw [d]at z;cases z⟩
 keep:=fun i h h' st k=>st.at fun o e=>k it (by simp) o e
 item:=by
  intro X hP hw hK hc i pins s σ H E I hf st hg;subst hP hw hK;obtain⟨xs,x,hq,hx⟩:=hg;obtain⟨aN,rv,p,hz⟩:=I.tuple hq;obtain⟨u,hu,ru⟩:=rv.get hx;obtain⟨f0,f1,f2,f3,f4,f5⟩:=hf it (by simp);refine wpAny_pyNext_tuple_item st (show s.heap.IsTuple a aN.toArray from p) (x:=u) (by simpa using hu) fun h' aG sb=>?_;have I1:Inv X pins σ H { s with heap:=h' }:=I.turned (t':=s.toks) (fun b o hb e=>(sb.2 b hb).trans e) f0 f1 f3 f4 f5;obtain⟨o,e,c,d⟩:=id aG;exact⟨u,rfl,Dc (s:={ s with heap:=h' }) e c d (by decide) ⟨x,H,I1,ru,⟨rfl,fun ys hy=>by rw [I.abM hy hq];exact hx⟩,aG,fun b hb=>(hf b hb).1⟩⟩
 done:=by
  intro X hP hw hK hc i pins s σ H E I hf st hg;subst hP hw hK;obtain⟨xs,hq,hx⟩:=hg;obtain⟨aN,rv,p,hz⟩:=I.tuple hq;obtain⟨f0,f1,f2,f3,f4,f5⟩:=hf it (by simp);have hl:=rv.length;exact wpAny_pyNext_tuple_end (I.ok.hd hc) st (show s.heap.IsTuple a aN.toArray from p) (by simp;omega) fun h' eb=>⟨rfl,I.turned (t':=s.toks) (fun b o hb e=>eb b o hb e) f0 f1 f3 f4 f5⟩
 self:=fun _ _ _ _ _ st h=>wpAny_pyIter_tupleiter st h
theorem abG{P:Program}{w:World}{K:Frag}{tg:Expr}(it:Addr)(lo:Int)(n:Nat):Turn P w K tg (SD lo n) [it] it (fun i h=>IsRangeIter h it (lo+(i:Nat)*1) ((n:Int) - (i:Nat)) 1)where
 mem:=by simp
 obj:=fun i h st b hb=>by
  have e:b=it:=by simpa using hb
  subst e;exact⟨_,st,fun v z=>by
   have z':Data.fields _=Data.cell v:=z;cases z'⟩
 keep:=fun i h h' st k=>k it (by simp) _ st
 item:=by
  intro X hP hw hK hc i pins s σ H E I hf st hg;subst hP hw hK;obtain⟨f0,f1,f2,f3,f4,f5⟩:=hf it (by simp);have W:=Walks.range (prog:=X.prog) (w:=X.w) (I.ok.hd hc) it lo 1 n;refine W.item i s _ _ hg st fun v h' tk hv aG kk=>?_;obtain⟨t,rfl⟩:=hv;have I1:Inv X pins σ H { s with heap:=h',toks:=tk }:=I.turned (fun b o hb e=>kk b o (by simpa using hb) e) f0 f1 f3 f4 f5;refine⟨_,rfl,Dc (s:={ s with heap:=h',toks:=tk }) (n := "range_iterator") aG rfl rfl (by decide) ⟨.int (lo+i),H,I1,⟨t,?_⟩,⟨rfl,rfl⟩,aG,fun b hb=>(hf b hb).1⟩⟩;rw [Int.mul_one]
 done:=by
  intro X hP hw hK hc i pins s σ H E I hf st hg;subst hP hw hK;obtain⟨f0,f1,f2,f3,f4,f5⟩:=hf it (by simp);exact wpAny_pyNext_range_end (I.ok.hd hc) st (by have:n≤i:=hg;omega) fun h' eb=>⟨rfl,I.turned (t':=s.toks) (fun b o hb e=>eb b o hb e) f0 f1 f3 f4 f5⟩
 self:=fun _ _ _ _ _ st h=>wpAny_pyIter_rangeiter st h
section
variable{X:Cx}{tg:Expr}
theorem aiC{pins:List (Addr×Obj)}{σ:St}{H:Hp}{s:Shared}{R:It→Hp→Prop}{E:Value→Shared→Prop}{lo hi:Int}{t u v:Tok}{tk:Nat}(I:Inv X pins σ H s)(h1 : -(2 ^ 62)≤lo)(h2:lo<2 ^ 62)(h3 : -(2 ^ 62)≤hi)(h4:hi<2 ^ 62)
  (q:R (SD lo (hi - lo).toNat) H):wpAny (model X.prog X.w) X.A (pyIter (.ref s.heap.objs.size)) (Yb X pins σ tg R) E { s with heap:=s.heap.push { cls := .type "range",data := .fields #[.int lo t,.int hi u,.int 1 v] },toks:=tk }:=by
 refine wpAny_pyIter_range (IsRange.new ..) (small_one h1 h2 h3 h4) ?_;have I1:Inv X pins σ H { s with heap:=s.heap.push { cls := .type "range",data := .fields #[.int lo t,.int hi u,.int 1 v] },toks:=tk }:=I.kept fun b o e=>cZ _ e;refine⟨(s.heap.push { cls := .type "range",data := .fields #[.int lo t,.int hi u,.int 1 v] }).objs.size,[(s.heap.push { cls := .type "range",data := .fields #[.int lo t,.int hi u,.int 1 v] }).objs.size],_,_,H,rfl,
  I1.kept (t':=tk) fun b o e=>cZ _ e,abG _ lo (hi - lo).toNat,?_,fun b hb=>?_,q⟩
 ·have e1:lo+((0:Nat):Int)*1=lo:=by simp
  have e2:(((hi - lo).toNat:Nat):Int) - ((0:Nat):Int)=Builtin.Range.rangeSize lo hi 1:=by rw [rangeSize_one];split <;> omega
  show IsRangeIter _ _ (lo+((0:Nat):Int)*1) ((((hi - lo).toNat:Nat):Int) - ((0:Nat):Int)) 1;rw [e1,e2];exact gM _ rfl
 ·have e:b=(s.heap.push { cls := .type "range",data := .fields #[.int lo t,.int hi u,.int 1 v] }).objs.size:=by simpa using hb
  subst e;exact I1.EU cE (I1.aK.fresh cE)
def ao2(ta:TA):TI:=fun σ H R=>ta σ H fun vs H1=>∃j:Int,vs=[.int j]∧-(2 ^ 62)≤j∧j<2 ^ 62∧R (SD 0 j.toNat) H1
theorem aj6{a:Expr}{ta:TA}{p pos:Pos}(hg:Gl X "range")(hm:X.mg "range" = none)(ha:PA X [a] ta)(hs:starEach [a] X.env=[(false,eval a X.env)]:=by rfl):PI X tg (.Call (.Name "range" p) [a] [] pos) (ao2 ta):=by
 intro pins s σ H R I h;refine Call_ (OR I hg hm boot_range (PyProof.Rows.callWith_type1 (aY (ha pos pins s σ H _ I h) fun us s1 ⟨vs,H1,I1,r1,q1⟩=>?_) hs rfl));obtain⟨j,e,q1,q2,q⟩:=q1;subst e;cases r1 with
 | cons r rr =>
  cases rr;obtain⟨t,rfl⟩:=r;exact call_range_1 (aiC I1 (by omega) (by omega) q1 q2 (by simpa using q))
def US(wi:TI)(g:TG)(tb:TS):TS:=fun D σ H=>wi σ H fun J H1=>∃W:Nat→Nat→St→Hp→Prop,(∃m,W 0 m σ H1)∧∀i m σ H,W i m σ H →
 (J.stop i H∧D.nx σ H)∨(J.go i H∧∃N:St→Hp→Prop,(∀σ' H',N σ' H'→∃m',m'<m∧W (i+1) m' σ' H')∧∀x H',J.vR i H x H'→g x σ H' fun σ2 H2=>tb { D with nx:=N,ct:=N,bk:=D.nx } σ2 H2)
def DP(fp:List Addr)(h:Heap):List (Addr×Obj):=fp.filterMap fun b=>(h.get? b).map fun o=>(b,o)
theorem zL{fp:List Addr}{h:Heap}{b:Addr}{o:Obj}(hb:b∈fp)(e:h.get? b=some o):(b,o)∈DP fp h:=List.mem_filterMap.mpr ⟨b,hb,by rw [e];rfl⟩
theorem alS{fp:List Addr}{h:Heap}{p:Addr×Obj}(hp:p∈DP fp h):p.1∈fp∧h.get? p.1=some p.2:=by
 obtain⟨b,hb,e⟩:=List.mem_filterMap.mp hp;cases q:h.get? b with
 | none=>rw [q]at e;cases e
 | some o =>
  rw [q]at e;have e':(b,o)=p:=mS e;subst e';exact⟨hb,q⟩
theorem Inv.pinned{pins:List (Addr×Obj)}{σ:St}{H:Hp}{s:Shared}{fp:List Addr}(I:Inv X pins σ H s)(hf:∀b∈fp,rB X pins H b)(ho:∀b∈fp,∃o,s.heap.get? b=some o∧∀v,o.data ≠ .cell v):Inv X (pins++DP fp s.heap) σ H s :=
 I.XO fun p hp=>(iU.mp hp).elim (fun z=>I.pin p (jA _ z)) fun z=>by
  obtain⟨hb,e⟩:=alS z;obtain⟨f0,f1,f2,_⟩:=hf p.1 hb;obtain⟨o,e',d⟩:=ho p.1 hb;rw [e]at e';cases e';exact⟨e,f0,f1,f2,d⟩
theorem Inv.DC{pins pl:List (Addr×Obj)}{σ:St}{H:Hp}{s:Shared}(I:Inv X (pins++pl) σ H s):Inv X pins σ H s:=I.XO fun p hp=>I.pin p (jA _ (kR _ hp))
theorem Ow{iter:Expr}{body:List Stmt}{wi:TI}{g:TG}{tb:TS}{pos:Pos}(hp:PassesOwn (model X.prog X.w) X.A X.env X.xe)(hc:X.calm=true)(hi:PI X tg iter wi)(hg:PG X tg g)(hb:qT X body tb)
  (hs:∀x,foldedSetIterable iter X.env x=pure x:=by intro _;rfl):PS X (.For tg iter body [] pos) (US wi g tb):=by
 intro pins s σ H D I h;refine wpAny_For (aY (hi pins s σ H _ I h) fun v s1 h1=>aY h1 fun OV s2 h2=>?_) hs;obtain⟨it,fp,tn,J,H2,e,I2,T,gZ,f2,W,⟨m0,w0⟩,turn⟩:=h2;subst e;have VC:∀{H':Hp},(∀b∈fp,H' b=none)→∀b∈fp,rB X pins H' b:=fun hn b hb=>⟨hn b hb,(f2 b hb).2⟩
 refine codeAny_forLoop_any (fun n s'=>∃i σ' H',Inv X pins σ' H' s'∧tn i s'.heap∧(∀b∈fp,H' b=none)∧W i n σ' H') ?_ m0 ⟨0,σ,H2,I2,gZ,fun b hb=>(f2 b hb).1,w0⟩;rintro n s3 ⟨i,σ3,H3,I3,mZ,Ug,w3⟩
 rcases turn i n σ3 H3 w3 with⟨stop,qn⟩ | ⟨go,N,hN,step⟩
 ·refine CP hp (aY (T.done X rfl rfl rfl hc i pins s3 σ3 H3 X.xe I3 (VC Ug) mZ stop) fun r s4 ⟨hr,I4⟩=>?_);subst hr;exact TK ⟨σ3,H3,I4,qn⟩
 ·refine CP hp (aY (T.item X rfl rfl rfl hc i pins s3 σ3 H3 X.xe I3 (VC Ug) mZ go) fun r s4 ⟨u,hr,h4⟩=>?_);subst hr;refine CP hp (aY h4 fun _ s5 ⟨x,H5,I5,r5,y5,sE,AQ⟩=>?_);have I5':=I5.pinned (VC AQ) (T.obj _ _ sE);refine CP hp (aY (hg _ s5 σ3 H5 x u _ I5' r5 (step x H5 y5)) fun _ s6 ⟨σ6,H6,I6,q6⟩=>?_);refine CP hp (aY (hb _ s6 σ6 H6 _ I6 q6) fun f s7 q7=>?_);have again:∀{σ7:St} {H7:Hp},Inv X (pins++DP fp s5.heap) σ7 H7 s7→N σ7 H7→∃m,m<n∧∃i σ' H',Inv X pins σ' H' s7∧tn i s7.heap∧(∀b∈fp,H' b=none)∧W i m σ' H':=fun{σ7 H7} I7 n7=>by
   obtain⟨m',hm,w7⟩:=hN σ7 H7 n7;refine⟨m',hm,i+1,σ7,H7,I7.DC,T.keep _ _ _ sE fun b hb o e=>(I7.pin (b,o) (jA _ (jA _ (zL hb e)))).1,fun b hb=>?_,w7⟩;obtain⟨o,e,d⟩:=T.obj _ _ sE b hb;exact(I7.pin (b,o) (jA _ (jA _ (zL hb e)))).2.1
  cases f with
  | next=>obtain⟨σ7,H7,I7,n7⟩:=q7;exact again I7 n7
  | cont=>obtain⟨σ7,H7,I7,n7⟩:=q7;exact again I7 n7
  | brk=>obtain⟨σ7,H7,I7,q7⟩:=q7;exact⟨σ7,H7,I7.DC,q7⟩
  | ret v=>obtain⟨x7,σ7,H7,I7,r7,q7⟩:=q7;exact⟨x7,σ7,H7,I7.DC,r7,q7⟩
end
abbrev R2:=V→V→Hp→VK→Prop
def iA(X:Cx)(f:Value→Value→Sem Value)(r:R2):Prop :=
 ∀(pins:List (Addr×Obj)) (s:Shared) (σ:St) (H:Hp) (x y:V) (v u:Value) (Q:VK),Inv X pins σ H s→RelV x v→RelV y u→r x y H Q →
  wpAny (model X.prog X.w) X.A (f v u) (EP X pins σ Q) X.xe s
def qC(X:Cx)(f:Value)(r:List V→Hp→VK→Prop):Prop :=
 ∀(pins:List (Addr×Obj)) (s:Shared) (σ:St) (H:Hp) (xs:List V) (us:List Value) (Q:VK),Inv X pins σ H s→Vals xs us→r xs H Q →
  wpAny (model X.prog X.w) X.A (call f us) (EP X pins σ Q) X.xe s
def GU(r:R2)(ta tb:TE):TE:=fun σ H Q=>ta σ H fun x H1=>tb σ H1 fun y H2=>r x y H2 Q
def rI(C:Int→Int→Prop)(g:Int→Int→V):R2:=fun x y H Q=>∃i j,x = .int i∧y = .int j∧C i j∧Q (g i j) H
def uJ(g:Int→Int→V):R2:=fun x y H Q=>∃i j,x = .int i∧y = .int j∧Q (g i j) H
section
variable{X:Cx}{a b c:Expr}{ta tb tc:TE}{pos:Pos}
theorem Fe(ha:PE X a ta)(hb:PE X b tb){pins:List (Addr×Obj)}{s:Shared}{σ:St}{H:Hp}{R:V→V→Hp→Prop}(I:Inv X pins σ H s)
  (h:ta σ H fun x H1=>tb σ H1 fun y H2=>R x y H2) {Q:Value→Shared→Prop} {f:Value→Value→Sem Value}
  (hf:∀v u s2 x y H2,Inv X pins σ H2 s2→RelV x v→RelV y u→R x y H2→wpAny (model X.prog X.w) X.A (f v u) Q X.xe s2) :
  wpAny (model X.prog X.w) X.A (eval a X.env) (fun v s₁=>wpAny (model X.prog X.w) X.A (eval b X.env) (fun u s₂=>wpAny (model X.prog X.w) X.A (f v u) Q X.xe s₂) X.xe s₁) X.xe s:=by
 refine aY (ha pins s σ H _ I h) fun v s1 ⟨x,H1,I1,r1,q1⟩=>?_;refine aY (hb pins s1 σ H1 _ I1 q1) fun u s2 ⟨y,H2,I2,r2,q2⟩=>?_;exact hf v u s2 x y H2 I2 r1 r2 q2
theorem akG{op:Operator}{r:R2}(ho:iA X (binaryOp op) r)(ha:PE X a ta)(hb:PE X b tb):PE X (.BinOp a op b pos) (GU r ta tb):=by
 intro pins s σ H Q I h;exact wpAny_BinOp (Fe ha hb I h fun v u s2 x y H2 I2 rx ry q=>ho pins s2 σ H2 x y v u Q I2 rx ry q)
theorem HP{f:Value→Value→Sem Value}{C:Int→Int→Prop}{g:Int→Int→Int}
  (rule:∀(i j:Int) (t u:Tok) (s:Shared) (Q:Value→Shared→Prop) (E:Value→Shared→Prop),C i j→Q (.int (g i j) s.toks) { s with toks:=s.toks+1 }→wpAny (model X.prog X.w) X.A (f (.int i t) (.int j u)) Q E s) :
  iA X f (rI C fun i j => .int (g i j)):=by
 intro pins s σ H x y v u Q I rx ry h;obtain⟨i,j,rfl,rfl,hc,q⟩:=h;obtain⟨t,rfl⟩:=rx;obtain⟨t',rfl⟩:=ry;exact rule i j t t' s _ _ hc ⟨.int (g i j),H,I.tok _,⟨_,rfl⟩,q⟩
theorem Pm{f:Value→Value→Sem Value}{g:Int→Int→Int}
  (rule:∀(i j:Int) (t u:Tok) (s:Shared) (Q:Value→Shared→Prop) (E:Value→Shared→Prop),Q (.int (g i j) s.toks) { s with toks:=s.toks+1 }→wpAny (model X.prog X.w) X.A (f (.int i t) (.int j u)) Q E s) :
  iA X f (uJ fun i j => .int (g i j)):=by
 intro pins s σ H x y v u Q I rx ry h;obtain⟨i,j,rfl,rfl,q⟩:=h;obtain⟨t,rfl⟩:=rx;obtain⟨t',rfl⟩:=ry;exact rule i j t t' s _ _ ⟨.int (g i j),H,I.tok _,⟨_,rfl⟩,q⟩
theorem OH{f:Value→Value→Sem Value}{g:Int→Int→Bool}
  (rule:∀(i j:Int) (t u:Tok) (s:Shared) (Q:Value→Shared→Prop) (E:Value→Shared→Prop),Q (.bool (g i j)) s→wpAny (model X.prog X.w) X.A (f (.int i t) (.int j u)) Q E s) :
  iA X f (uJ fun i j => .bl (g i j)):=by
 intro pins s σ H x y v u Q I rx ry h;obtain⟨i,j,rfl,rfl,q⟩:=h;obtain⟨t,rfl⟩:=rx;obtain⟨t',rfl⟩:=ry;exact rule i j t t' s _ _ ⟨.bl (g i j),H,I,rfl,q⟩
def rE(i j:Int):Prop:=0<j∧j<1073741824
def rX(i j:Int):Prop:=0≤j∧j≤1000000∧i.natAbs<2 ^ 64
def kB(i j:Int):Prop:=(-(2 ^ 64)<i∧i<2 ^ 64)∨(-(2 ^ 64)<j∧j<2 ^ 64)
theorem kB.ok{i j:Int}(h:kB i j):IntMulOk i j:=by
 rcases h with⟨h1,h2⟩ | ⟨h1,h2⟩
 ·exact .of_left (intBits_le_64 h1 h2)
 ·exact .of_right (intBits_le_64 h1 h2)
theorem alQ:iA X (binaryOp .Add) (uJ fun i j => .int (i+j)):=Pm fun _ _ _ _ _ _ _ q=>add_int q
theorem alA:iA X (binaryOp .Sub) (uJ fun i j => .int (i - j)):=Pm fun _ _ _ _ _ _ _ q=>sub_int q
theorem alF:iA X (binaryOp .Mult) (rI kB fun i j => .int (i*j)):=HP fun _ _ _ _ _ _ _ hc q=>mul_int q hc.ok
theorem alM:iA X (binaryOp .FloorDiv) (rI rE fun i j => .int (i/j)):=HP fun i j _ _ _ _ _ hc q=>by
 have h1:(0:Int)<j:=hc.1;have h2:j<1073741824:=hc.2;exact floordiv_int (by omega) (by rw [Int.fdiv_eq_ediv_of_nonneg i (by omega)];exact q) (.inl (PyProof.noPylong_small (by omega)))
theorem alG:iA X (binaryOp .Mod) (rI (fun _ j=>0<j) fun i j => .int (i%j)):=HP fun i j _ _ _ _ _ hc q=>by
 have h1:(0:Int)<j:=hc;exact mod_int' (by omega) (by rw [Int.fmod_eq_emod_of_nonneg i (by omega)];exact q)
theorem alC:iA X (binaryOp .Pow) (rI rX fun i j => .int (i ^ j.toNat)):=HP fun _ _ _ _ _ _ _ hc q=>pow_int_small hc.1 hc.2.1 hc.2.2 q
theorem alB:iA X (binaryOp .LShift) (rI rX fun i j => .int (i*2 ^ j.toNat)):=HP fun _ _ _ _ _ _ _ hc q=>lshift_int_small hc.1 hc.2.1 hc.2.2 q
theorem as3{pins:List (Addr×Obj)}{σ:St}{H:Hp}{s:Shared}{Q:VK}{k k':Bool}(I:Inv X pins σ H s)(q:Q (.bl k) H)(e:k=k'):EP X pins σ Q (.bool k') s:=by
 subst e;exact⟨.bl k,H,I,rfl,q⟩
theorem alH:iA X (compareOp .Lt) (uJ fun i j => .bl (decide (i<j))):=OH fun _ _ _ _ _ _ _ q=>lt_int q
theorem alI:iA X (compareOp .LtE) (uJ fun i j => .bl (decide (i≤j))):=OH fun _ _ _ _ _ _ _ q=>le_int q
theorem alK:iA X (compareOp .Gt) (uJ fun i j => .bl (decide (j<i))):=OH fun _ _ _ _ _ _ _ q=>gt_int q
theorem alL:iA X (compareOp .GtE) (uJ fun i j => .bl (decide (j≤i))):=OH fun _ _ _ _ _ _ _ q=>ge_int q
theorem alJ:iA X (compareOp .Is) (fun x y H Q=>y = .bB∧Q (.bl (decide (x = .bB))) H):=by
 intro pins s σ H x y v u Q I rx ry h;obtain⟨rfl,q⟩:=h;cases ry;refine is_none_gen (as3 I q ?_);cases x <;> first
  | (cases rx;rfl)
  | (obtain⟨t,rfl⟩:=rx;rfl)
theorem iA.or{f:Value→Value→Sem Value}{r r':R2}(h:iA X f r)(h':iA X f r'):iA X f (fun x y H Q=>r x y H Q∨r' x y H Q):=by
 intro pins s σ H x y v u Q I rx ry q
 rcases q with q | q
 ·exact h pins s σ H x y v u Q I rx ry q
 ·exact h' pins s σ H x y v u Q I rx ry q
theorem fN(b:Expr){op:CmpOp}(h:op ≠ .In:=by decide)(h2:op ≠ .NotIn:=by decide):behindInMarks op b=false:=by
 have e1:(op == CmpOp.In)=false:=by cases op <;> first | rfl | exact absurd rfl h
 have e2:(op == CmpOp.NotIn)=false:=by cases op <;> first | rfl | exact absurd rfl h2
 cases b <;> simp [behindInMarks,e1,e2]
theorem akW{op:CmpOp}{r:R2}(ho:iA X (compareOp op) r)(ha:PE X a ta)(hb:PE X b tb)(hm:behindInMarks op b=false):PE X (.Compare a [op] [b] pos) (GU r ta tb):=by
 intro pins s σ H Q I h;exact wpAny_Compare1 (Fe ha hb I h fun v u s2 x y H2 I2 rx ry q=>ho pins s2 σ H2 x y v u Q I2 rx ry q) hm
def Lw(t:TE):TT:=fun σ H Q=>t σ H fun x H'=>∃k,x = .bl k∧Q k H'
theorem ajB{op:CmpOp}{r:R2}(ho:iA X (compareOp op) r)(ha:PE X a ta)(hb:PE X b tb)(hm:behindInMarks op b=false):PT X (.Compare a [op] [b] pos) (Lw (GU r ta tb)):=by
 intro pins s σ H Q I h;refine wpAny_isTrue_Compare1 (aY (ha pins s σ H _ I h) fun v s1 ⟨x,H1,I1,r1,q1⟩=>aY (hb pins s1 σ H1 _ I1 q1) fun u s2 ⟨y,H2,I2,r2,q2⟩ =>
  aY (ho pins s2 σ H2 x y v u _ I2 r1 r2 q2) fun c s3 ⟨z,H3,I3,r3,k,e,q3⟩=>?_) hm
 subst e;cases r3;exact TC ⟨H3,I3,q3⟩
theorem II:(sizeLine:Nat)<2 ^ 63:=by rw [qK];decide
theorem vals1{x:V}{us:List Value}(r:Vals [x] us):∃u,us=[u]∧RelV x u:=by
 cases r with
 | cons r1 r2=>cases r2;exact⟨_,rfl,r1⟩
theorem vals2{x y:V}{us:List Value}(r:Vals [x,y] us):∃u w',us=[u,w']∧RelV x u∧RelV y w':=by
 cases r with
 | cons r1 r2 =>
  cases r2 with
  | cons r3 r4=>cases r4;exact⟨_,_,rfl,r1,r3⟩
theorem avF(hc:X.calm=true):qC X (.builtin "max") (fun xs H Q=>∃i j,xs=[.int i,.int j]∧Q (.int (if j>i then j else i)) H):=by
 intro pins s σ H xs us Q I r h;obtain⟨i,j,rfl,q⟩:=h;obtain⟨u,w',rfl,⟨t,rfl⟩,⟨t',rfl⟩⟩:=vals2 r;refine max_two_ints (I.ok.hd hc) fun h' tk k=>⟨_,H,I.kept k,?_,q⟩
 by_cases hj:j>i
 ·rw [if_pos hj,if_pos hj];exact⟨_,rfl⟩
 ·rw [if_neg hj,if_neg hj];exact⟨_,rfl⟩
theorem avE(hc:X.calm=true):qC X (.builtin "min") (fun xs H Q=>∃i j,xs=[.int i,.int j]∧Q (.int (if j<i then j else i)) H):=by
 intro pins s σ H xs us Q I r h;obtain⟨i,j,rfl,q⟩:=h;obtain⟨u,w',rfl,⟨t,rfl⟩,⟨t',rfl⟩⟩:=vals2 r;refine min_two_ints (I.ok.hd hc) fun h' tk k=>⟨_,H,I.kept k,?_,q⟩
 by_cases hj:j<i
 ·rw [if_pos hj,if_pos hj];exact⟨_,rfl⟩
 ·rw [if_neg hj,if_neg hj];exact⟨_,rfl⟩
end
structure BO(h:Heap)(x dx C:Addr)(mA:Str→Option Value):Prop where
 obj:h.get? x=some (instObj C dx)
 ns:h.Ns1 dx mA
 ne:dx≠x
theorem anA{h:Heap}{dx:Addr}{mA:Str→Option Value}(n:h.Ns1 dx mA):∃od,h.get? dx=some od∧∀name,lookIn name od=some (mA name):=by
 obtain⟨o,es,ep,ho,hd,hk,_,hm⟩:=n;refine⟨o,ho,fun name=>?_⟩;have e:=hm name;unfold nsFind findBy at e;rw [← Array.find?_toList]at e;unfold lookIn;rw [hd];dsimp only;split
 ·rename_i y q;rw [q]at e;exact congrArg some e
 ·rename_i q;rw [q]at e;have a:es.toList.any (·.refKey)=false:=by
   rw [List.any_eq_false];intro y hy;obtain⟨z,t,nY⟩:=hk y (Array.mem_toList_iff.mp hy);simp [DictEntry.refKey,nY]
  have a':¬es.toList.any (·.refKey)=true:=by rw [a];exact Zb
  rw [if_neg a'];exact congrArg some e
theorem BO.look{h:Heap}{x dx C:Addr}{mA:Str→Option Value}(I:BO h x dx C mA):∃od,PySem.W.InstAt h x (instObj C dx) C (some od)∧∀name,lookIn name od=some (mA name) :=
 let ⟨od,ho,hl⟩:=anA I.ns
 ⟨od,⟨I.obj,rfl,rfl,ho⟩,hl⟩
section
variable{prog:Program}{w:World}{A:Around}{E:Value→Shared→Prop}{s:Shared}{K:Frag}{x dx C f:Addr}{mA:Str→Option Value}{name:Str}{v:Value}
theorem get_map{expr:Bool}{Q:Value→Shared→Prop}(X:K.In s.heap)(I:BO s.heap x dx C mA)(hg:plainGet K C name=true)(hh:hasDictIn K C=true)
  (ha:findIn K (.ref C) name=some none) (hv:mA name=some v) (ED:PySem.W.handedIn v=true) (h:Q v { s with toks:=s.toks+1 }) :
  wpAny (model prog w) A (getAttr (.ref x) name expr) Q E s:=by
 obtain⟨od,J,hl⟩:=I.look;exact PySem.W.get_value X J (plainGet_of hg).1 (PySem.W.findObj_own hh ha rfl (by rw [hl,hv])) ED h
theorem asK{pl:Sem Bool}{Q:Value×List Value→Shared→Prop}(X:K.In s.heap)(I:BO s.heap x dx C mA)(hg:plainGet K C name=true)
  (hf:findIn K (.ref C) name=some (some (.ref f))) (ht:isFn K (.ref f)=true) (hv:mA name=none) (h:Q (.ref f,[.ref x]) s) :
  wpAny (model prog w) A (getMethod (.ref x) name pl) Q E s:=by
 obtain⟨od,J,hl⟩:=I.look;exact PySem.W.method_fn X J (plainGet_of hg).1 (plainGet_of hg).2 hf (beq_iff_eq.mp ht) (by show(lookIn name od).map (·.isSome)=some false;rw [hl,hv];rfl) h
theorem ag7{ns:List Str}{Q:Unit→Shared→Prop}(X:K.In s.heap)(I:BO s.heap x dx C mA)
  (hs:findIn K (.ref C) "__setattr__" = some (some (.builtin "object.__setattr__"))) (hp:PySem.W.plainOver K C=true) (ht:takerIn K C name=some none) (hh:hasDictIn K C=true)
  (hw:PySem.Within mA ns) (hsz:ns.length≤sizeLine)
  (h:∀h',BO h' x dx C (fun y=>if y=name then some v else mA y)→Heap.SameBut dx s.heap h'→Q () { s with heap:=h',toks:=s.toks+2 }) :
  wpAny (model prog w) A (setAttr (.ref x) name v) Q E s:=by
 obtain⟨od,J,hl⟩:=I.look;refine PySem.W.set_plain X J hs (PySem.W.osa_open (s:={ s with toks:=s.toks+1 }) (r:=none) X J hp ht fun b=>?_);obtain⟨cd,hc,Bn⟩:=PySem.W.any_some hh;have hx:s.heap.get? x=some ⟨.ref C,some dx,.plain,#[]⟩:=I.obj;refine aE (aQ (aE (aE (wpAny_loadPart hx (aE (PySem.W.Looks.here (s:={ s with toks:=s.toks+1 }) (PySem.W.looks_clsIn X hc) ?_))))));rw [Bn];refine aQ (a:=some dx) (aE (aQ (aE ?_)));refine wpAny_nsSet1 (s:={ s with toks:=s.toks+1 }) I.ns fun h' sW nW=>?_;obtain⟨oD,esD,epD,hoD,hdD,hcD⟩:=sW.count (PySem.Within.cons name v hw);refine aE (wpAny_lookBehind hoD (by rw [hdD];exact pastItsLine_dict (kN hcD (by rw [eA];omega))) ?_);exact aQ (h _ ⟨(nW.2 _ (cA I.ne)).trans I.obj,sW,I.ne⟩ nW)
theorem am1{R:Result→Shared→Prop}{vs:List Value}{kw:List (Str×Value)}(X:K.In s.heap)(hm:makesIn K C=true)
  (hi:findIn K (.ref C) "__init__" = some (some (.ref f))) (hf:PySem.W.typeIn K (.ref f)=some (.type "function"))
  (h:codeAny (model prog w) (A.under (.builtin "type.__call__" ⟨.ref C::vs,kw⟩)) (.call (.ref f) ⟨.ref (s.heap.objs.size+1)::vs,kw⟩) (PySem.W.InitBack (s.heap.objs.size+1) R)
   { s with heap:=(s.heap.push emptyDict).push (instObj C s.heap.objs.size) }) :
  codeAny (model prog w) A (.call (.ref C) ⟨vs,kw⟩) R s:=by
 obtain⟨hh,g,d,t,os⟩:=s;exact PySem.W.make_core (PySem.W.makes_of X hm) (PySem.W.looks_findIn X hi) (fun self=>PySem.W.bind_fn X self hf) (.inl rfl) h
end
def iO(f:Str)(v:V):List (Str×V)→List (Str×V)
 | []=>[(f,v)]
 | (g,x)::r=>if g=f then(g,v)::r else(g,x)::iO f v r
theorem Qi(f g:Str)(v:V):∀fs:List (Str×V),(iO f v fs).lookup g=if g=f then some v else fs.lookup g
 | []=>by
  show List.lookup g [(f,v)]=_
  by_cases h:g=f
  ·have hb:(g == f)=true:=beq_iff_eq.mpr h;simp only [List.lookup,hb,if_pos h]
  ·have hb:(g == f)=false:=tL.mpr h;simp only [List.lookup,hb,if_neg h]
 | (k,x)::r=>by
  have ih:=Qi f g v r;rw [show iO f v ((k,x)::r)=(if k=f then(k,v)::r else(k,x)::iO f v r)from rfl]
  by_cases hk:k=f
  ·rw [if_pos hk]
   by_cases h:g=k
   ·have hb:(g == k)=true:=beq_iff_eq.mpr h;simp only [List.lookup,hb,if_pos (h.trans hk)]
   ·have hb:(g == k)=false:=tL.mpr h;simp only [List.lookup,hb,if_neg (fun e:g=f=>h (e.trans hk.symm))]
  ·rw [if_neg hk]
   by_cases h:g=k
   ·have hb:(g == k)=true:=beq_iff_eq.mpr h;simp only [List.lookup,hb,if_neg (fun e:g=f=>hk (h.symm.trans e))]
   ·have hb:(g == k)=false:=tL.mpr h;simp only [List.lookup,hb];exact ih
theorem Ag(f:Str)(v:V):∀fs:List (Str×V),f∈(iO f v fs).map (·.1)∧∀g,g∈fs.map (·.1)→g∈(iO f v fs).map (·.1)
 | []=>⟨by simp [iO],fun g h=>by simp at h⟩
 | (k,x)::r=>by
  obtain⟨i1,i2⟩:=Ag f v r;rw [show iO f v ((k,x)::r)=(if k=f then(k,v)::r else(k,x)::iO f v r)from rfl]
  by_cases hk:k=f
  ·rw [if_pos hk];subst hk;exact⟨by simp,fun g h=>by simpa using h⟩
  ·rw [if_neg hk];refine⟨?_,fun g h=>?_⟩
   ·rw [fE];exact iB _ i1
   ·rw [fE]at h ⊢
    rcases dZ.mp h with e | e
    ·exact dZ.mpr (.inl e)
    ·exact iB _ (i2 g e)
theorem Qp(f:Str)(v:V):∀fs:List (Str×V),(iO f v fs).length≤fs.length+1
 | []=>by simp [iO]
 | (k,x)::r=>by
  have ih:=Qp f v r;rw [show iO f v ((k,x)::r)=(if k=f then(k,v)::r else(k,x)::iO f v r)from rfl]
  by_cases hk:k=f
  ·rw [if_pos hk,eA,eA];omega
  ·rw [if_neg hk,eA,eA];omega
theorem nI.some_of{v:V}{o:Option Value}(r:nI (some v) o):∃u,o=some u∧RelV v u:=by
 cases o with
 | none=>exact(show False from r).elim
 | some u=>exact⟨u,rfl,r⟩
theorem nI.none_of{o:Option Value}(r:nI none o):o=none:=by
 cases o with
 | none=>rfl
 | some u=>exact(show False from r).elim
theorem Td{v:V}{u:Value}(r:RelV v u):PySem.W.handedIn u=true:=by
 cases v with
 | bB=>cases(show u=Value.none from r);rfl
 | bl b=>cases(show u=Value.bool b from r);rfl
 | int i=>obtain⟨t,e⟩:=(show ∃t,u=Value.int i t from r);cases e;rfl
 | str x=>obtain⟨t,e⟩:=(show ∃t,u=Value.str x t from r);cases e;rfl
 | QT b=>obtain⟨t,e⟩:=(show ∃t,u=Value.bytes b t from r);cases e;rfl
 | AS b=>obtain⟨t,e⟩:=(show ∃t,u=Value.float b t from r);cases e;rfl
 | ref a=>cases(show u=Value.ref a from r);rfl
 | ty n=>cases(show u=Value.type n from r);rfl
section
variable{P:Program}{w:World}{H H':Hp}{h h':Heap}{a C dx:Addr}{fs mQ:List (Str×V)}
theorem OY(aK:eW P w H h)(e:H a=some (.ins C dx fs)):∃mA,BO h a dx C mA∧(∀f,nI (fs.lookup f) (mA f))∧PySem.Within mA (fs.map (·.1))∧fs.length≤1000∧H dx=some (.own a):=by
 obtain⟨d,z,ne,ob,mA,n,r,q⟩:=(show gW P w H h a (.ins C dx fs)from aK a _ e);exact⟨mA,⟨ob,n,ne⟩,r,q,z,d⟩
end
structure lZ(K:Frag)(C:Addr):Prop where
 pg:plainGet K C Str.empty=true
 hd:hasDictIn K C=true
 po:PySem.W.plainOver K C=true
 sa:findIn K (.ref C) "__setattr__" = some (some (.builtin "object.__setattr__"))
theorem lZ.get{K:Frag}{C:Addr}(c:lZ K C)(f:Str):plainGet K C f=true:=c.pg
def BP(K:Frag)(C:Addr)(f:Str):Prop:=findIn K (.ref C) f=some none
theorem BP.ab3{K:Frag}{C:Addr}{f:Str}(n:BP K C f):takerIn K C f=some none:=by
 unfold takerIn;rw [show findIn K (.ref C) f=some none from n];rfl
structure Con(K:Frag)(C:Addr)(f:Str)(v:V)(u:Value):Prop where
 at_:findIn K (.ref C) f=some (some u)
 rel:RelV v u
 get:specialIn K u "__get__" = some none
 cp:PySem.W.copiedNames.contains f=false
structure Meth(K:Frag)(C:Addr)(m:Str)(f:Addr):Prop where
 at_:findIn K (.ref C) m=some (some (.ref f))
 fn:isFn K (.ref f)=true
 kp:keepIn K (.ref f)=true
section
variable{X:Cx}{pins:List (Addr×Obj)}{σ:St}{H:Hp}{s:Shared}{a C dx:Addr}{fs:List (Str×V)}{f:Str}{v:V}{A:Around}{E:Value→Shared→Prop}
theorem asJ{b:Bool}{Q:Value→Shared→Prop}(I:Inv X pins σ H s)(e:H a=some (.ins C dx fs))(c:lZ X.K C)(n:BP X.K C f)(l:fs.lookup f=some v)
  (h:∀u s',Inv X pins σ H s'→RelV v u→Q u s'):wpAny (model X.prog X.w) A (getAttr (.ref a) f b) Q E s:=by
 obtain⟨mA,O,r,_,_,_⟩:=OY I.aK e;obtain⟨u,hu,ru⟩:=nI.some_of (v:=v) (o:=mA f) (by rw [← l];exact r f);exact get_map I.gS O (c.get f) c.hd n hu (Td ru) (h u _ (I.tok _) ru)
theorem Tt{m:Str}{g:Addr}{pl:Sem Bool}{Q:Value×List Value→Shared→Prop}(I:Inv X pins σ H s)(e:H a=some (.ins C dx fs))(c:lZ X.K C)(k:Meth X.K C m g)(l:fs.lookup m=none)
  (h:Q (.ref g,[.ref a]) s):wpAny (model X.prog X.w) A (getMethod (.ref a) m pl) Q E s:=by
 obtain⟨mA,O,r,_,_,_⟩:=OY I.aK e;have hn:mA m=none:=nI.none_of (by rw [← l];exact r m);exact asK I.gS O (c.get m) k.at_ k.fn hn h
theorem ag5{y:V}{u:Value}{Q:Unit→Shared→Prop}(I:Inv X pins σ H s)(e:H a=some (.ins C dx fs))(c:lZ X.K C)(n:BP X.K C f)(hl:fs.length<1000)(ry:RelV y u)
  (h:∀s',Inv X pins σ (upd H a (.ins C dx (iO f y fs))) s'→Q () s'):wpAny (model X.prog X.w) A (setAttr (.ref a) f u) Q E s:=by
 obtain⟨mA,O,r,wi,_,ho⟩:=OY I.aK e;have hz:(fs.map (·.1)).length≤sizeLine:=by rw [fW,qK];omega
 refine ag7 I.gS O c.sa c.po n.ab3 c.hd wi hz fun h' O' sb=>h _ ?_;have hd:∃o,h'.get? dx=some o:=let ⟨o,_,_,e',_⟩:=O'.ns; ⟨o,e'⟩;refine I.write (x:=a) (e:=dx) (by rw [e];exact True.intro) (.inr ho) (fun b q hb z=>(sb.2 b hb).trans z) hd ?_;refine⟨by rw [bA O.ne];exact ho,?_,O.ne,O'.obj,_,O'.ns,fun g=>?_,fun g hg=>?_⟩
 ·have:=Qp f y fs;omega
 ·show nI ((iO f y fs).lookup g) (if g=f then some u else mA g);rw [Qi]
  by_cases q:g=f
  ·rw [if_pos q,if_pos q];exact ry
  ·rw [if_neg q,if_neg q];exact r g
 ·by_cases q:g=f
  ·rw [q];exact(Ag f y fs).1
  ·refine(Ag f y fs).2 g (wi g fun z=>hg ?_);show(if g=f then some u else mA g)=none;rw [if_neg q];exact z
theorem Inv.made(I:Inv X pins σ H s):Inv X pins σ (upd (upd H s.heap.objs.size (.own (s.heap.objs.size+1))) (s.heap.objs.size+1) (.ins C s.heap.objs.size []))
  { s with heap:=(s.heap.push emptyDict).push (instObj C s.heap.objs.size) }:=by
 have e1:(s.heap.push emptyDict).get? s.heap.objs.size=some emptyDict:=gM s.heap rfl;have e2:((s.heap.push emptyDict).push (instObj C s.heap.objs.size)).get? (s.heap.objs.size+1)=some (instObj C s.heap.objs.size):=by
  have:=gM (s.heap.push emptyDict) (o:=instObj C s.heap.objs.size) rfl;rwa [CA]at this
 have e3:(s.heap.push emptyDict).Ns s.heap.objs.size (fun _=>none):=⟨emptyDict,#[],_,e1,rfl,(fun e he=>absurd he (by simp)),fun _=>rfl⟩;have I1:=I.laid (a:=s.heap.objs.size) (o := .own (s.heap.objs.size+1)) (h':=s.heap.push emptyDict) (t':=s.toks) (fun b u q=>cZ _ q) cE ⟨_,e1⟩;refine I1.laid (a:=s.heap.objs.size+1) (o := .ins C s.heap.objs.size []) (t':=s.toks) (fun b u q=>cZ _ q) (Nat.le_of_eq (CA _ _)) ?_;have ne:s.heap.objs.size≠s.heap.objs.size+1:=dH (RQ _);refine⟨by rw [bA ne,fA],vH _,ne,e2,fun _=>none,(Heap.Ns1.of_empty e3).at fun o q=>cZ _ q,fun _=>True.intro,fun y hy=>absurd rfl hy⟩
theorem avU{prog:Program}{w:World}{env:Env}{e:Expr}{f:Str}{pos:Pos}{s:Shared}{Q:Value→Shared→Prop}(hb:attributeBase e f env (eval e env)=eval e env)
  (h:wpAny (model prog w) A (eval e env) (fun o s₁=>wpAny (model prog w) A (getAttr o f true) Q E s₁) E s):wpAny (model prog w) A (eval (.Attribute e f pos) env) Q E s :=
 Attribute_any_ h (by rw [arm_eval_Attribute,hb])
end
def acK(K:Frag)(ta:TE)(f:Str):TE:=fun σ H Q=>ta σ H fun x H1=>∃a C dx fs v,x = .ref a∧H1 a=some (.ins C dx fs)∧lZ K C∧BP K C f∧fs.lookup f=some v∧Q v H1
def ahW(K:Frag)(ta tv:TE)(f:Str):TS:=fun D σ H=>tv σ H fun y H1=>ta σ H1 fun x H2=>∃a C dx fs,x = .ref a∧H2 a=some (.ins C dx fs)∧lZ K C∧BP K C f∧fs.length<1000 ∧
 D.nx σ (upd H2 a (.ins C dx (iO f y fs)))
section
variable{X:Cx}{o e value:Expr}{f:Str}{pos pos' abP:Pos}{ta tv:TE}
theorem akS(he:PE X e ta)(hb:attributeBase e f X.env (eval e X.env)=eval e X.env):PE X (.Attribute e f pos) (acK X.K ta f):=by
 intro pins s σ H Q I h;refine avU hb (aY (he pins s σ H _ I h) fun u s1 ⟨x,H1,I1,rx,a,C,dx,fs,v,ex,ea,c,n,l,q⟩=>?_);subst ex;obtain rfl:u=Value.ref a:=rx;exact asJ I1 ea c n l fun u' s2 I2 ru=>⟨v,H1,I2,ru,q⟩
theorem ajM(ha:PE X o ta)(hv:PE X value tv)(hs:swapsWith value (some (.Attribute o f pos')) pos.line X.env=pure false):PS X (.Assign [.Attribute o f pos'] value pos) (ahW X.K ta tv f):=by
 intro pins s σ H D I h;refine plainObj_wpAny_Assign_Attribute (aY (hv pins s σ H _ I h) fun u s1 ⟨y,H1,I1,ry,q⟩=>aY (ha pins s1 σ H1 _ I1 q) fun ov s2 ⟨x,H2,I2,rx,a,C,dx,fs,ex,ea,c,n,l,q2⟩=>?_) hs;subst ex;obtain rfl:ov=Value.ref a:=rx;exact ag5 I2 ea c n l ry fun s3 I3=>⟨σ,_,I3,q2⟩
end
section
variable{X:Cx}{pins:List (Addr×Obj)}{σ:St}{H:Hp}{s:Shared}{A:Around}{E:Value→Shared→Prop}{Q:Value→Shared→Prop}{c:Value}{b:Bool}
inductive oV(K:Frag)(H:Hp):V→Value→Prop where
 | bB:oV K H .bB (.type "NoneType")
 | bl (x:Bool):oV K H (.bl x) (.type "bool")
 | int (i:Int):oV K H (.int i) (.type "int")
 | str (x:Str):oV K H (.str x) (.type "str")
 | AS (x:UInt64):oV K H (.AS x) (.type "float")
 | lst {a:Addr} {xs:List V} (e:H a=some (.lst xs)):oV K H (.ref a) (.type "list")
 | cK {a:Addr} {o:Obj} {xs:List V} (e:H a=some (.cK o (.lst xs))):oV K H (.ref a) (.type "list")
 | tup {a:Addr} {xs:List V} (e:H a=some (.tup xs)):oV K H (.ref a) (.type "tuple")
 | dK {a:Addr} {aB:List (Key×V)} (e:H a=some (.dK aB)):oV K H (.ref a) (.type "dict")
 | dT {a:Addr} {aB:List (List Key×V)} (e:H a=some (.dT aB)):oV K H (.ref a) (.type "dict")
 | ins {a C dx:Addr} {fs:List (Str×V)} (e:H a=some (.ins C dx fs)) (cl:lZ K C) (ha:findIn K (.ref C) "__class__" = some (some (.builtin "object.__class__")))
   (hn:specialIn K (.builtin "object.__class__") "__get__" = some (some (.builtin "getset_descriptor.__get__"))) (Rr:PySem.W.takesIn K (.builtin "object.__class__")=some true)
   (hm:PySem.W.mroIn K C (.type "object")=some true):oV K H (.ref a) (.ref C)
theorem aoG{x:V}{u t:Value}(I:Inv X pins σ H s)(rx:RelV x u)(ty:oV X.K H x t)(e:kitOne X.K t c=some b)(h:∀tk,Q (.bool b) { s with toks:=tk }) :
  wpAny (model X.prog X.w) A (call (.builtin "isinstance") [u,c]) Q E s:=by
 cases ty with
 | bB=>cases(show u=Value.none from rx);exact kia_one PySem.W.kitx_none I.gS True.intro e (fun z=>nomatch z) h
 | bl y=>cases(show u=Value.bool y from rx);exact kia_one PySem.W.kitx_bool I.gS True.intro e (fun z=>nomatch z) h
 | int i=>obtain⟨t,q⟩:=(show ∃t,u=Value.int i t from rx);cases q;exact kia_one PySem.W.kitx_int I.gS True.intro e (fun z=>nomatch z) h
 | str y=>obtain⟨t,q⟩:=(show ∃t,u=Value.str y t from rx);cases q;exact kia_one PySem.W.kitx_str I.gS True.intro e (fun z=>nomatch z) h
 | AS y=>obtain⟨t,q⟩:=(show ∃t,u=Value.float y t from rx);cases q;exact kia_one PySem.W.kitx_float I.gS True.intro e (fun z=>nomatch z) h
 | @lst a xs ea =>
  cases(show u=Value.ref a from rx);obtain⟨_,_,n,_,h1⟩:=(show gW X.prog X.w H s.heap a (.lst xs)from I.aK a _ ea);exact kia_one PySem.W.kitx_list I.gS ⟨_,h1,rfl⟩ e (fun z=>nomatch z) h
 | @cK a ob xs ea =>
  cases(show u=Value.ref a from rx);obtain⟨_,_,_,n,_,h1⟩:=(show gW X.prog X.w H s.heap a (.cK ob (.lst xs))from I.aK a _ ea);exact kia_one PySem.W.kitx_list I.gS ⟨_,h1,rfl⟩ e (fun z=>nomatch z) h
 | @tup a xs ea =>
  cases(show u=Value.ref a from rx);obtain⟨_,_,_,p⟩:=(show gW X.prog X.w H s.heap a (.tup xs)from I.aK a _ ea);obtain⟨o,h1,h2,_⟩:=p;exact kia_one PySem.W.kitx_tuple I.gS ⟨o,h1,h2⟩ e (fun z=>nomatch z) h
 | @dK a aB ea =>
  cases(show u=Value.ref a from rx);obtain⟨_,_,vs,_,p⟩:=(show gW X.prog X.w H s.heap a (.dK aB)from I.aK a _ ea);obtain⟨o,es,ep,h1,h2,_⟩:=p;exact kia_one PySem.W.kitx_dict I.gS ⟨o,h1,h2.1⟩ e (fun z=>nomatch z) h
 | @dT a aB ea =>
  cases(show u=Value.ref a from rx);obtain⟨_,_,xs,_,o,es,ep,h1,h2,_⟩:=(show gW X.prog X.w H s.heap a (.dT aB)from I.aK a _ ea);exact kia_one PySem.W.kitx_dict I.gS ⟨o,h1,h2.1⟩ e (fun z=>nomatch z) h
 | @ins a C dx fs ea cl ha hn Rr hm =>
  cases(show u=Value.ref a from rx);obtain⟨mA,O,_⟩:=OY I.aK ea;obtain⟨od,J,_⟩:=O.look;exact kia_one (PySem.W.kitx_own (cl.get _) cl.hd ha hn Rr hm) I.gS J e (fun z=>nomatch z) h
end
structure cY(k:Nat)(A:Around):Prop where
 hd:A.handled=none
 dp:A.depth+3*k+5<recursionLimit
 un:A.units+16*k+200<cLine
theorem cY.mono{j k:Nat}{A:Around}(r:cY k A)(h:j≤k):cY j A:=⟨r.hd,by have:=r.dp;omega,by have:=r.un;omega⟩
theorem cY.deeper{k:Nat}{A:Around}(r:cY (k+1) A)(env:Env):cY k (A.deeper env) :=
 ⟨r.hd,by have:=r.dp;show A.depth+1+3*k+5<_;omega,by have:=r.un;show A.units+3+16*k+200<_;omega⟩
theorem am2{A:Around}{C:Addr}{us:List Value}{kw:List (Str×Value)}:(A.under (.builtin "type.__call__" ⟨.ref C::us,kw⟩)).depth=A.depth+1:=by
 first | rfl | simp [Around.under,Code.weight,Code.isCreation,Code.isGuard,Code.isCaller,Code.frames,Code.isFrame,guardIds]
theorem am0{A:Around}{C:Addr}{us:List Value}{kw:List (Str×Value)}:(A.under (.builtin "type.__call__" ⟨.ref C::us,kw⟩)).units=A.units+1:=by
 first | rfl | simp [Around.under,Code.cUnits,Code.frames,Code.isFrame]
theorem cY.make{k:Nat}{A:Around}(r:cY (k+1) A)(C:Addr)(us:List Value)(kw:List (Str×Value)):cY k (A.under (.builtin "type.__call__" ⟨.ref C::us,kw⟩)) :=
 ⟨r.hd,by have:=r.dp;rw [am2];omega,by have:=r.un;rw [am0];omega⟩
theorem cY.depth{k:Nat}{A:Around}(r:cY k A):A.depth<recursionLimit:=by have:=r.dp;omega
theorem cY.units{k:Nat}{A:Around}(r:cY k A):A.units+64<cLine:=by have:=r.un;omega
def Ly:TA:=fun _ H Q=>Q [] H
def acO(ta:TE)(tr:TA):TA:=fun σ H Q=>ta σ H fun x H1=>tr σ H1 fun xs H2=>Q (x::xs) H2
section
variable{X:Cx}{e:Expr}{es:List Expr}{te:TE}{t:TA}{pos:Pos}
theorem XR:PA X [] Ly:=fun _ _ _ _ H Q I h=>Calls.spliced_nil ⟨[],H,I,.nil,h⟩
theorem XS(ha:PE X e te)(hr:PA X es t)(hs:starEach (e::es) X.env=(false,eval e X.env)::starEach es X.env:=by rfl):PA X (e::es) (acO te t):=by
 intro pos pins s σ H Q I h;rw [hs];show wpAny _ _ (spliced ((false,eval e X.env)::backTo pos (starEach es X.env))) _ _ s;refine Calls.spliced_cons (aY (ha pins s σ H _ I h) fun u s1 ⟨x,H1,I1,r1,q1⟩=>?_);exact aY (hr pos pins s1 σ H1 _ I1 q1) fun us s2 ⟨xs,H2,I2,r2,q2⟩=>⟨x::xs,H2,I2,.cons r1 r2,q2⟩
def ab5(t:TA):TE:=fun σ H Q=>t σ H fun xs H1=>xs.length≤sizeLine∧∀p,H1 p=none→Q (.ref p) (upd H1 p (.tup xs))
def acI(t:TA):TE:=fun σ H Q=>t σ H fun xs H1=>xs.length≤sizeLine∧∀p,H1 p=none→Q (.ref p) (upd H1 p (.lst xs))
theorem akD{x1}(h:PA X es t):PE X (.Tuple es x1 pos) (ab5 t):=by
 intro pins s σ H Q I hq;refine wpAny_Tuple_spliced (aY (h pos pins s σ H _ I hq) fun us s1 ⟨xs,H1,I1,r,z,q⟩=>⟨by rw [← r.length];exact z,?_⟩);have hf:H1 s1.heap.objs.size=none:=I1.aK.fresh cE;refine⟨.ref s1.heap.objs.size,upd H1 s1.heap.objs.size (.tup xs),I1.laid (t':=s1.toks) (fun b u e=>cZ _ e) cE ?_,rfl,q _ hf⟩;exact⟨z,us,r,⟨_,gM _ rfl,rfl,_,rfl⟩⟩
theorem akN(h:PA X es t):PE X (.List es pos) (acI t):=by
 intro pins s σ H Q I hq;refine wpAny_List_spliced (aY (h pos pins s σ H _ I hq) fun us s1 ⟨xs,H1,I1,r,z,q⟩=>⟨by rw [← r.length];exact z,?_⟩);have hf:H1 s1.heap.objs.size=none:=I1.aK.fresh cE;refine⟨.ref s1.heap.objs.size,upd H1 s1.heap.objs.size (.lst xs),I1.laid (t':=s1.toks) (fun b u e=>cZ _ e) cE ?_,rfl,q _ hf⟩;exact⟨z,us,0,r,gM _ rfl⟩
end
abbrev Sp:=List V→Hp→VK→XK→Prop
abbrev pA:=List Env→Hp→Shared→XK→Value→Shared→Prop
structure CH(P:Program)(w:World)(K:Frag)(mg:Str→Option Value)(base:Heap)(A:Around)(outer:List Env)(s:Shared)(H:Hp):Prop where
 frames:A.frames=some outer
 mod:Mod K mg base
 bs:∀b o,base.get? b=some o→s.heap.get? b=some o∧H b=none
 pU:base.objs.size≤s.heap.objs.size
 oG:s.heap.FunFrames base outer
 tF:∀b∈fU outer,H b=none
 aK:eW P w H s.heap
 bare:AllBare s.gens
def CE(outer:List Env)(P:Program)(w:World)(H:Hp)(s:Shared)(Q:VK)(u:Value)(s':Shared):Prop :=
 ∃v H',s'.os=s.os∧AllBare s'.gens∧Un (fU outer) [] H H' s.heap s'.heap∧eW P w H' s'.heap∧RelV v u∧Q v H'
def CR(CX:pA)(outer:List Env)(P:Program)(w:World)(H:Hp)(s:Shared)(Q:VK)(E:XK)(r:Result)(s':Shared):Prop :=
 match r with
 | .ok (.ret u)=>CE outer P w H s Q u s'
 | .ok _=>False
 | .error e=>CX outer H s E e s'
structure iV(P:Program)(w:World)(K:Frag)(mg:Str→Option Value)(base:Heap)(CX:pA)(k:Nat)(f:Addr)(fd:FuncData)(ps:List Str)(sp:Sp):Prop where
 len:∀vs H Q E,sp vs H Q E→vs.length=ps.length
 run:∀(A:Around) (outer:List Env) (s:Shared) (H:Hp) (args:Args) (us:List Value) (vs:List V) (Q:VK) (E:XK),cY k A→CH P w K mg base A outer s H→BindsTo s fd args (ps.zip us)→Vals vs us→sp vs H Q E →
  codeAny (model P w) A (.call (.ref f) args) (CR CX outer P w H s Q E) s
theorem iV.imp{P:Program}{w:World}{K:Frag}{mg:Str→Option Value}{base:Heap}{CX:pA}{k:Nat}{f:Addr}{fd:FuncData}{ps:List Str}{sp Mn:Sp}(F:iV P w K mg base CX k f fd ps sp)
  (h:∀vs H Q E,Mn vs H Q E→sp vs H Q E):iV P w K mg base CX k f fd ps Mn :=
 ⟨fun vs H Q E q=>F.len vs H Q E (h _ _ _ _ q),fun A outer s H args us vs Q E hr he hb hv hs=>F.run A outer s H args us vs Q E hr he hb hv (h _ _ _ _ hs)⟩
theorem CH.make{P:Program}{w:World}{K:Frag}{mg:Str→Option Value}{base:Heap}{A:Around}{outer:List Env}{s:Shared}{H:Hp}(e:CH P w K mg base A outer s H)(C:Addr)(us:List Value)(kw:List (Str×Value)) :
  CH P w K mg base (A.under (.builtin "type.__call__" ⟨.ref C::us,kw⟩)) outer s H:=⟨by first | exact e.frames | (simpa [Around.under,Code.envs,Code.isFrame,pushEnvs]using e.frames),e.mod,e.bs,e.pU,e.oG,e.tF,e.aK,e.bare⟩
section
variable{X:Cx}{pins:List (Addr×Obj)}{σ:St}{H:Hp}{s s':Shared}
theorem Inv.Eg(I:Inv X pins σ H s):CH X.prog X.w X.K X.mg X.base X.A X.stack s H :=
 ⟨I.ok.frames,I.ok.mod,I.bs,kN I.ok.pU I.sz,I.stack,I.NJ,I.aK,I.bare⟩
theorem Inv.after{Q:VK}{u:Value}(I:Inv X pins σ H s)(h:CE X.stack X.prog X.w H s Q u s'):EP X pins σ Q u s':=by
 obtain⟨v,H',os,bare,un,aK,r,q⟩:=h;obtain⟨hh,g,d,t,XX⟩:=s';obtain rfl:XX=s.os:=os;exact⟨v,H',I.call (h':=hh) (g':=g) (d':=d) (t':=t) (ch:=[]) un aK bare (fun b z=>absurd z (by simp)),r,q⟩
end
def acH(C:Addr)(sp:Sp)(dvs:List V)(E:XK)(t:TA):TE:=fun σ H Q=>t σ H fun vs H1=>∀x dx,H1 x=none→H1 dx=none→dx≠x →
 sp (.ref x::(vs++dvs)) (upd (upd H1 dx (.own x)) x (.ins C dx [])) (fun v H2=>v = .bB∧Q (.ref x) H2) E
def Binds(K:Frag)(fd:FuncData)(ps:List Str)(ds:List Value):Prop :=
 ∀(s:Shared) (us:List Value),K.In s.heap→(us++ds).length=ps.length→BindsTo s fd ⟨us,[]⟩ (ps.zip (us++ds))
theorem Binds.all{K:Frag}{fd:FuncData}{ps:List Str}(h:∀us:List Value,us.length=ps.length→bindArgs fd ⟨us,[]⟩=pure (ps.zip us)):Binds K fd ps []:=fun s us _ hl=>by
 rw [oY]at hl ⊢;exact .of_eq (h us hl)
def Passes(CX:pA)(X:Cx)(E:XK):Prop:=∀(pins:List (Addr×Obj)) (σ:St) (H:Hp) (s:Shared) (e:Value) (s':Shared),Inv X pins σ H s→CX X.stack H s E e s'→X.xe e s'
section
variable{X:Cx}{CX:pA}{k:Nat}{f C:Addr}{fd:FuncData}{ps:List Str}{sp:Sp}{dvs:List V}{ds:List Value}{E:XK}{x m:Str}{p pos apos:Pos}{e o:Expr}{es:List Expr}{ta:TE}{t:TA}
structure Mk(K:Frag)(C f:Addr):Prop where
 makes:makesIn K C=true
 init:findIn K (.ref C) "__init__" = some (some (.ref f))
 fn:isFn K (.ref f)=true
 kp:keepIn K (.ref C)=true
theorem ah4{pins:List (Addr×Obj)}{σ:St}{H:Hp}{s:Shared}{Q:VK}{us:List Value}{vs:List V}(M:Mk X.K C f)(F:iV X.prog X.w X.K X.mg X.base CX k f fd ps sp)(hr:cY (k+1) X.A)(hb:Binds X.K fd ps ds)(hd:Vals dvs ds)
  (hx:Passes CX X E) (I:Inv X pins σ H s) (r:Vals vs us)
  (h:∀x dx,H x=none→H dx=none→dx≠x→sp (.ref x::(vs++dvs)) (upd (upd H dx (.own x)) x (.ins C dx [])) (fun v H2=>v = .bB∧Q (.ref x) H2) E) :
  wpAny (model X.prog X.w) X.A (call (.ref C) us) (EP X pins σ Q) X.xe s:=by
 have hq:=h (s.heap.objs.size+1) s.heap.objs.size (I.aK.fresh (xV _)) (I.aK.fresh cE) (dH (RQ _));have I2:=Inv.made (C:=C) I;have r2:Vals (V.ref (s.heap.objs.size+1)::(vs++dvs)) (Value.ref (s.heap.objs.size+1)::(us++ds)) := .cons rfl (r.append hd);have hl:(Value.ref (s.heap.objs.size+1)::us++ds).length=ps.length:=by
  have e:=r2.length;rw [F.len _ _ _ _ hq]at e;exact e.symm
 refine wpAny_call (am1 (f:=f) I.gS M.makes M.init (beq_iff_eq.mp M.fn) (xP (F.run _ X.stack _ _ ⟨Value.ref (s.heap.objs.size+1)::us,[]⟩ (Value.ref (s.heap.objs.size+1)::(us++ds)) _ _ E (hr.make C us [])
  (I2.Eg.make C us []) (hb _ (Value.ref (s.heap.objs.size+1)::us) I2.gS hl) r2 hq) fun r s' IU=>?_))
 cases r with
 | error e=>exact hx pins σ _ _ e s' I2 IU
 | ok fl =>
  cases fl with
  | ret u =>
   obtain⟨v,H',I3,rv,ev,q3⟩:=I2.after IU;subst ev;exact⟨rv,⟨V.ref (s.heap.objs.size+1),H',I3,rfl,q3⟩⟩
  | next=>exact False.elim IU
  | brk=>exact False.elim IU
  | cont=>exact False.elim IU
theorem akM(M:Mk X.K C f)(F:iV X.prog X.w X.K X.mg X.base CX k f fd ps sp)(hr:cY (k+1) X.A)(hg:Gl X x)(hm:X.mg x=some (.ref C))(hb:Binds X.K fd ps ds)(hd:Vals dvs ds)(hx:Passes CX X E)
  (ha:PA X (e::es) t) (mN:(x == ("__debug__" : Str))=false:=by decide) (he:starEach (e::es) X.env=(false,eval e X.env)::starEach es X.env:=by rfl) (gF:(backTo pos (starEach es X.env)).any (·.1)=false:=by rfl) :
  PE X (.Call (.Name x p) (e::es) [] pos) (acH C sp dvs E t):=by
 intro pins s σ H Q I h;refine TL (OQ I hg hm ?_ mN);refine callWith_K (h₀:=X.base) I.ok.mod.zR M.kp (aY (ha pos pins s σ H _ I h) fun us s1 ⟨vs,H1,I1,r,q⟩=>⟨I1.gS,?_⟩) he gF;exact ah4 M F hr hb hd hx I1 r q
end
section
variable{X:Cx}{CX:pA}{k:Nat}{f C:Addr}{fd:FuncData}{ps ks:List Str}{sp:Sp}{E:XK}{x m:Str}{p pos apos ayQ:Pos}{e o:Expr}{es:List Expr}{kws:List Keyword}{te ta:TE}{t tk:TA}{nm:Option Str}
structure aAD(K:Frag)(fd:FuncData)(ps ks:List Str)(g:List Value→List Value→List Value)(gV:List V→List V→List V):Prop where
 to:∀(s:Shared) (us ws:List Value),K.In s.heap→(g us ws).length=ps.length→BindsTo s fd ⟨us,ks.zip ws⟩ (ps.zip (g us ws))
 rel:∀{vs:List V} {us:List Value} {zs:List V} {ws:List Value},Vals vs us→Vals zs ws→Vals (gV vs zs) (g us ws)
variable{g:List Value→List Value→List Value}{gV:List V→List V→List V}
end
structure dF(N P:List Str)(sc:Scope):Prop where
 kind:sc.kind = .function
 co:sc.isCoroutine=false
 gen:sc.isGenerator=false
 nd:N.Nodup
 pre:N.take P.length=P
 par:∀x∈P,sc.names.lookup x=some .local∨sc.names.lookup x=some .cell
 al5:∀y∈sc.names,y.2 ≠ .free
theorem Wi{kindOf:Str→Option NameKind}{x:Str}:∀{binds:List (Str×Value)} {m:Str→Option Value},(∀v,(x,v)∉binds)→bindL kindOf binds m x=m x
 | [],_,_=>rfl
 | (n,v)::r,m,h=>by
  unfold bindL;rw [Wi fun w hw=>h w (iB _ hw)];split
  ·have:x≠n:=by rintro rfl;exact h v List.mem_cons_self
   simp [this]
  ·rfl
theorem Wk{kindOf:Str→Option NameKind}{x:Str}:∀{binds:List (Str×Value)} {m:Str→Option Value},(∀v,(x,v)∉binds)→bindC kindOf binds m x=m x
 | [],_,_=>rfl
 | (n,v)::r,m,h=>by
  unfold bindC;rw [Wk fun w hw=>h w (iB _ hw)];split
  ·rfl
  ·have:x≠n:=by rintro rfl;exact h v List.mem_cons_self
   simp [this]
theorem Wj{kindOf:Str→Option NameKind}{x:Str}{v:Value}:∀{P:List Str} {vs:List Value} {i:Nat} {m:Str→Option Value},P.Nodup→P[i]? = some x→vs[i]? = some v→kindOf x=some .local →
  bindL kindOf (P.zip vs) m x=some v
 | [],_,_,_,_,h,_,_=>by simp at h
 | _::_,[],_,_,_,_,h,_=>by simp at h
 | p::P,w::vs,0,m,nd,h1,h2,hk=>by
  simp at h1 h2;subst h1;subst h2;show bindL kindOf ((p,w)::P.zip vs) m p=_;unfold bindL;rw [Wi fun v hv=>(vJ.mp nd).1 (List.of_mem_zip hv).1,if_pos hk];simp
 | p::P,w::vs,i+1,m,nd,h1,h2,hk=>by
  show bindL kindOf ((p,w)::P.zip vs) m x=_;unfold bindL;exact Wj (i:=i) (vJ.mp nd).2 (by simpa using h1) (by simpa using h2) hk
theorem Wl{kindOf:Str→Option NameKind}{x:Str}{v:Value}:∀{P:List Str} {vs:List Value} {i:Nat} {m:Str→Option Value},P.Nodup→P[i]? = some x→vs[i]? = some v→kindOf x≠some .local →
  bindC kindOf (P.zip vs) m x=some v
 | [],_,_,_,_,h,_,_=>by simp at h
 | _::_,[],_,_,_,_,h,_=>by simp at h
 | p::P,w::vs,0,m,nd,h1,h2,hk=>by
  simp at h1 h2;subst h1;subst h2;show bindC kindOf ((p,w)::P.zip vs) m p=_;unfold bindC;rw [Wk fun v hv=>(vJ.mp nd).1 (List.of_mem_zip hv).1,if_neg hk];simp
 | p::P,w::vs,i+1,m,nd,h1,h2,hk=>by
  show bindC kindOf ((p,w)::P.zip vs) m x=_;unfold bindC;exact Wl (i:=i) (vJ.mp nd).2 (by simpa using h1) (by simpa using h2) hk
def start(N:List Str)(vs:List V):St:=vs.map some++List.replicate (N.length - vs.length) none
def vE(CX:pA)(P:Program)(w:World)(K:Frag)(mg:Str→Option Value)(base:Heap)(N:List Str)(qual:Str)(scope:Scope)(f:Addr)(cd:Value)(A:Around)(outer:List Env)(s:Shared)(H:Hp)(E:XK):Cx where
 prog:=P
 w:=w
 K:=K
 mg:=mg
 base:=base
 A:=A.deeper (envOfC qual scope s.heap.objs.size f cd)
 N:=N
 s₀:=s
 H₀:=H
 env:=envOfC qual scope s.heap.objs.size f cd
 outer:=outer
 stack:=envOfC qual scope s.heap.objs.size f cd::outer
 ex:=[]
 calm:=true
 fn:=fun _=>true
 pn:=[]
 xe:=fun e s'=>wpAny (model P w) (A.deeper (envOfC qual scope s.heap.objs.size f cd)) (leaving (envOfC qual scope s.heap.objs.size f cd) e) (fun _ zD=>CX outer H s E e zD) (fun e' zD=>CX outer H s E e' zD) s'
theorem Vy{sc:Scope}{n:Nat}{x:Str}(h:sc.names.lookup x=some .cell):∃c,(cellsFrom n sc.names []).lookup x=some c:=by
 have q:=PySem.W.cellsFrom_some sc.names n [] (.inl h);exact Option.isSome_iff_exists.mp q
theorem aoP{CX:pA}{P:Program}{w:World}{K:Frag}{mg:Str→Option Value}{base:Heap}{N ps:List Str}{qual:Str}{scope:Scope}{f:Addr}{cd:Value}{A:Around}{outer:List Env}{s s1:Shared}{H:Hp}{E:XK}{us:List Value}{vs:List V}
  (S:dF N ps scope) (hd:A.handled=none) (e0:CH P w K mg base A outer s H) (hl:vs.length=ps.length) (r:Vals vs us)
  (x:InCallC s s.heap.objs.size (bindL (envOfC qual scope s.heap.objs.size f cd).kindOf (ps.zip us) fun _=>none) (cellsFrom (s.heap.objs.size+1) scope.names []) (bindC (envOfC qual scope s.heap.objs.size f cd).kindOf (ps.zip us) fun _=>none) s1) :
  Inv (vE CX P w K mg base N qual scope f cd A outer s H E) [] (start N vs) H s1:=by
 have gF:ps.length≤N.length:=by have:=congrArg List.length S.pre;rw [tT]at this;omega
 obtain⟨h1,tk,rfl,hk⟩:=x.done;have HX:∀b:Addr,b∉(vE CX P w K mg base N qual scope f cd A outer s H E).ex:=fun b z=>absurd (show b∈([]:List Addr)from z) (by simp);refine⟨⟨e0.mod,S.kind,rfl,rfl,oX _,fun y z c h1 h2=>?_,fun y hy=>?_,fun y c _ h=>?_,fun _=>hd,Around.frames_deeper e0.frames,.inr ⟨rfl,rfl⟩,fun b z=>absurd z (HX b),e0.bs,e0.pU,fun b _ _=>HX b,fun b z=>absurd z (HX b),e0.oG,e0.tF⟩,
  rfl,e0.bare,Un.kept hk,⟨_,x.toInCall.ns,fun i y v h1 h2 h3=>?_⟩,fun y c h=>⟨_,x.cell y c h⟩,e0.aK.fresh cE,fun y c h=>?_,fun p hp=>absurd (show p∈([]:List (Addr×Obj))from hp) (by simp),e0.aK.kept hk,?_⟩
 ·exact name_of_addr x.apart (PySem.mem_of_lookup h1) (PySem.mem_of_lookup h2)
 ·have hy:scope.names.lookup y=some .cell∨scope.names.lookup y=some .free:=hy
  rcases hy with hy | hy
  ·exact Vy hy
  ·exact absurd rfl (S.al5 _ (PySem.mem_of_lookup hy))
 ·exact Nat.le_of_lt (x.above y c (PySem.mem_of_lookup h))
 ·have hi:i<vs.length:=by
   unfold start at h2
   by_cases hi:i<vs.length
   ·exact hi
   ·rw [nK (by simpa using hi)]at h2;rw [List.getElem?_replicate]at h2;split at h2 <;> cases h2
  have ha:vs[i]? = some v:=by
   unfold start at h2;rw [eK (by simpa using hi),lF]at h2;cases e:vs[i]? with
   | none=>rw [e]at h2;cases h2
   | some a=>rw [e]at h2;cases h2;rfl
  obtain⟨u,hu,rv⟩:=r.get ha;have hp:ps[i]? = some y:=by
   rw [← S.pre,List.getElem?_take_of_lt (by omega)];exact h1
  have Pz:ps.Nodup:=by rw [← S.pre];exact S.nd.sublist (LH _ _)
  refine⟨u,rv,?_⟩
  rcases S.par y (kQ hp)with k | k
  ·exact .inl ⟨k,Wj Pz hp hu k⟩
  ·obtain⟨c,e⟩:=Vy (n:=s.heap.objs.size+1) k;refine .inr ⟨.inl k,c,e,?_⟩;have q:=x.cell y c e;rw [Wl Pz hp hu (by show scope.names.lookup y≠_;rw [k];decide)]at q;exact q
 ·exact e0.aK.fresh (Nat.le_of_lt (x.above y c (PySem.mem_of_lookup h)))
 ·unfold start;show _=N.length;rw [fX,fW,List.length_replicate];omega
theorem Dz{CX:pA}{P:Program}{w:World}{K:Frag}{mg:Str→Option Value}{base:Heap}{k:Nat}{f:Addr}{name qual:Str}{params:Arguments}{body:List Stmt}{scope:Scope}{dV kV doc pm bC ct oc:Value}{an od:Option Addr}
  {jT:Array (Option Value)} {N ps:List Str} {sp:Sp} (lk:K.lookup f=some ⟨oc,od,.func (fnOf name qual params body scope dV kV doc pm an bC ct),jT⟩) (mO:codeIn K bC qual=true) (S:dF N ps scope)
  (len:∀vs H Q E,sp vs H Q E→vs.length=ps.length)
  (oA:∀(A:Around) (outer:List Env) (s:Shared) (H:Hp) (vs:List V) (Q:VK) (E:XK),cY k (A.deeper (envOfC qual scope s.heap.objs.size f bC))→sp vs H Q E →
   ∃t,qT (vE CX P w K mg base N qual scope f bC A outer s H E) body t∧t { nx:=fun _ H'=>Q .bB H',rt:=Q } (start N vs) H) :
  iV P w K mg base CX (k+1) f (fnOf name qual params body scope dV kV doc pm an bC ct) ps sp:=by
 refine⟨len,fun A outer s H args us vs Q E hr e0 hb r mK=>?_⟩;have hl:=len _ _ _ _ mK;have KX:K.In s.heap:=e0.mod.zR.keeps fun b o e=>(e0.bs b o e).1;have lim:s.heap.NoLimit:=e0.mod.nolimit.keeps fun b o e=>(e0.bs b o e).1;have aqA:∀y∈ps.zip us,scope.names.lookup y.1=some .local∨(scope.names.lookup y.1=some .cell∧((cellsFrom (s.heap.objs.size+1) scope.names []).lookup y.1).isSome=true):=fun⟨n,v⟩ hy=>by
  rcases S.par n (List.of_mem_zip hy).1 with q | q
  ·exact .inl q
  ·exact .inr ⟨q,PySem.W.cellsFrom_some _ _ _ (.inl q)⟩
 refine codeAny_call_function hr.depth (KX _ _ lk) rfl S.co S.gen rfl (PySem.W.codeRec_of KX mO) (hb _ _ _ _ ?_);refine wpAny_newFunctionEnv_cells S.kind aqA fun env he s1 x=>?_;subst he;refine⟨lim.keeps x.toInCall.keep,codeAny_func ?_⟩;obtain⟨t,ht,hq⟩:=oA A outer s H vs Q E (hr.deeper _) mK;have I:Inv (vE CX P w K mg base N qual scope f bC A outer s H E) [] (start N vs) H s1:=aoP S hr.hd e0 hl r x;refine qE (ht [] s1 (start N vs) H _ I hq) (fun fl s' hs=>?_) fun e s' hs=>hs;have fin:∀{σ':St} {H':Hp} {v:V} {u:Value},Inv (vE CX P w K mg base N qual scope f bC A outer s H E) [] σ' H' s'→RelV v u→Q v H'→CE outer P w H s Q u s' :=
  fun{σ' H' v u} J rv q=>⟨v,H',J.os,J.bare,J.base,J.aK,rv,q⟩
 cases fl with
 | ret u =>
  obtain⟨v,σ',H',J,rv,q⟩:=hs;exact fin J rv q
 | next =>
  obtain⟨σ',H',J,q⟩:=hs;exact fin (v:=V.bB) (u:=Value.none) J rfl q
 | brk =>
  obtain⟨_,_,_,q⟩:=hs;exact False.elim q
 | cont =>
  obtain⟨_,_,_,q⟩:=hs;exact False.elim q
section
variable{X:Cx}{x:Str}{p pos:Pos}{e:Expr}{es:List Expr}{t:TA}{id T:String}{r:List V→Hp→VK→Prop}
def UU(r:List V→Hp→VK→Prop)(t:TA):TE:=fun σ H Q=>t σ H fun vs H1=>r vs H1 Q
theorem Pf(hc:qC X (.builtin id) r)(hg:Gl X x)(hm:X.mg x=none)(hv:bootBuiltins x=some (.builtin id))(ha:PA X (e::es) t)(hn:x ≠ "__name__":=by decide)(mN:(x == ("__debug__" : Str))=false:=by decide)
  (he:starEach (e::es) X.env=(false,eval e X.env)::starEach es X.env:=by rfl) (gF:(backTo pos (starEach es X.env)).any (·.1)=false:=by rfl):PE X (.Call (.Name x p) (e::es) [] pos) (UU r t):=by
 intro pins s σ H Q I h;refine TL (OR I hg hm hv ?_ hn mN);exact PyProof.Rows.callWith_builtin1 (aY (ha pos pins s σ H _ I h) fun us s1 ⟨vs,H1,I1,r1,q1⟩=>hc pins s1 σ H1 vs us Q I1 r1 q1) he gF
theorem akX(hc:qC X (.type T) r)(hg:Gl X x)(hm:X.mg x=none)(hv:bootBuiltins x=some (.type T))(ha:PA X (e::es) t)(hn:x ≠ "__name__":=by decide)(mN:(x == ("__debug__" : Str))=false:=by decide)
  (he:starEach (e::es) X.env=(false,eval e X.env)::starEach es X.env:=by rfl) (gF:(backTo pos (starEach es X.env)).any (·.1)=false:=by rfl):PE X (.Call (.Name x p) (e::es) [] pos) (UU r t):=by
 intro pins s σ H Q I h;refine TL (OR I hg hm hv ?_ hn mN);exact PyProof.Rows.callWith_type1 (aY (ha pos pins s σ H _ I h) fun us s1 ⟨vs,H1,I1,r1,q1⟩=>hc pins s1 σ H1 vs us Q I1 r1 q1) he gF
end
end L2
namespace HT
open PySem PyProof.Rows
section
variable{prog:Program}{w:World}{A:Around}{E:Value→Shared→Prop}{s:Shared}
theorem au7{t b:Addr}{vs ws:List Value}{Q:Value→Shared→Prop}(ht:IsTup s.heap t vs.toArray)(hb:IsTup s.heap b ws.toArray)(hv:vs≠[])
  (h1:ws=[]→Q (.ref t) s) (h2:ws≠[]→Q (.ref s.heap.objs.size) { s with heap:=s.heap.push { cls := .type "tuple",data := .seq (vs++ws).toArray } })
  (hsz:vs.length+ws.length≤sizeLine):wpAny (model prog w) A (binaryOp .Add (.ref t) (.ref b)) Q E s:=by
 obtain⟨⟨cls,dd,data,sl⟩,ho,hc,n,hd⟩:=id ht;obtain⟨⟨azW,Vg,data2,My⟩,wX,PV,n2,hd2⟩:=id hb;simp only at hc hd PV hd2;subst hc hd PV hd2;have e:vs.toArray++ws.toArray=(vs++ws).toArray:=by simp
 by_cases hw:ws=[]
 ·exact concat_meets ⟨_,ho,rfl⟩ ⟨_,wX,rfl⟩ noFill_tuple_add seq_tuple_add PySem.F.slot_tuple_add PySem.F.entry_tuple_add (PySem.F.args_tuple_add_2 _ _)
   (tuple_addW1 t b vs.toArray ws.toArray n n2 dd Vg sl My (by simpa using hv) (by simp [hw])) ⟨ho,wX,h1 hw⟩
 ·refine concat_meets ⟨_,ho,rfl⟩ ⟨_,wX,rfl⟩ noFill_tuple_add seq_tuple_add PySem.F.slot_tuple_add PySem.F.entry_tuple_add (PySem.F.args_tuple_add_2 _ _)
   (tuple_addW2 t b vs.toArray ws.toArray n n2 dd Vg sl My (by simpa using hv) (by simpa using hw) (by rw [fL,fL];exact hsz)) ⟨ho,wX,?_⟩
  rw [e];exact h2 hw
def bY(n d:Nat):Option Int→Nat
 | none=>d
 | some v=>if v<0 then(v+(n:Int)).toNat else min v.toNat n
theorem ahT(n d:Nat):bY n d none=d:=rfl
theorem ahU(n d k:Nat):bY n d (some (k:Int))=min k n:=by
 show(if(k:Int)<0 then((k:Int)+(n:Int)).toNat else min (k:Int).toNat n)=min k n;rw [if_neg (by omega),BX]
theorem ahV(n d:Nat)(hd:d≤n)(o:Option Int):bY n d o≤n:=by
 cases o with
 | none=>exact hd
 | some v =>
  show(if v<0 then(v+(n:Int)).toNat else min v.toNat n)≤n
  by_cases hv:v<0
  ·rw [if_pos hv];omega
  ·rw [if_neg hv];exact Nat.min_le_right _ _
theorem Vs(v:Int)(n d:Nat):(if v<0 then max (v+(n:Int)) 0 else min v (n:Int))=((bY n d (some v):Nat):Int):=by
 show(if v<0 then max (v+(n:Int)) 0 else min v (n:Int))=(((if v<0 then(v+(n:Int)).toNat else min v.toNat n):Nat):Int)
 by_cases hv:v<0
 ·simp only [if_pos hv];omega
 ·simp only [if_neg hv];omega
theorem av1(lo hi:Option Int)(n:Nat):Builtin.Slice.sliceAdjust lo hi 1 (n:Int)=(((bY n 0 lo:Nat):Int),((bY n n hi:Nat):Int)):=by
 have h1:¬((1:Int)<0):=by omega
 unfold Builtin.Slice.sliceAdjust;simp only [h1,eF];refine Prod.ext ?_ ?_
 ·cases lo with
  | none=>rfl
  | some v=>exact Vs v n 0
 ·cases hi with
  | none=>rfl
  | some v=>exact Vs v n n
theorem ajW(i j:Nat):Builtin.Slice.slicePlaces (i:Int) (j:Int) 1=j - i:=by
 unfold Builtin.Slice.slicePlaces;have h1:(1:Int)>0:=by omega
 simp only [h1,dP,Int.ediv_one];split <;> omega
theorem Mx{v:Value}{o:Option Int}{Q:Option Int→Shared→Prop}(p:IsPart v o)(h:Q o s):wpAny (model prog w) A (Builtin.Slice.slicePartIndex v) Q E s:=by
 cases p with
 | none=>exact slicePart_none h
 | int i t=>exact slicePart_int h
theorem agU{sl:Addr}{vl vu:Value}{lo hi:Option Int}{n:Nat}{Q:Int×Int×Nat→Shared→Prop}(hs:s.heap.IsSliceOf sl vl vu .none)(pl:IsPart vl lo)(pu:IsPart vu hi)
  (h:Q (((bY n 0 lo:Nat):Int),1,bY n n hi - bY n 0 lo) s):wpAny (model prog w) A (Builtin.Slice.sliceApplied (.ref sl) (pure (n:Int))) Q E s:=by
 obtain⟨os,gG,JP,gT⟩:=id hs;unfold Builtin.Slice.sliceApplied Builtin.Slice.sliceFields;refine aE (aE (yM gG gT (x:=vl) rfl (aE (yM gG gT (x:=vu) rfl (aE (yM gG gT (x := .none) rfl (aQ ?_)))))));refine aE (slicePart_none ?_);show wpAny _ _ (if((1:Int) == 0)=true then _ else _) _ _ s;rw [if_neg (by decide)];refine aE (Mx pl (aE (Mx pu (aE (aQ ?_)))));show wpAny _ _ (match Builtin.Slice.sliceAdjust lo hi 1 (n:Int)with | (lo,hi)=>pure (lo,(1:Int),Builtin.Slice.slicePlaces lo hi 1)) _ _ s;rw [av1 lo hi n];show wpAny _ _ (pure (((bY n 0 lo:Nat):Int),(1:Int),Builtin.Slice.slicePlaces ((bY n 0 lo:Nat):Int) ((bY n n hi:Nat):Int) 1)) _ _ s;rw [ajW];exact aQ h
theorem aj0(xs:Array Value)(i k:Nat):((List.range k).filterMap fun(m:Nat)=>xs[((i:Int)+(m:Int)*1).toNat]?).toArray=((xs.toList.drop i).take k).toArray:=by
 have e:(fun(m:Nat)=>xs[((i:Int)+(m:Int)*1).toNat]?)=fun m=>xs[i+m]?:=by
  funext m;have:((i:Int)+(m:Int)*1).toNat=i+m:=by omega
  rw [this]
 rw [e];have:=pick_run xs i k;rw [List.filterMap_map]at this;have e2:((fun x=>xs[x]?) ∘ fun x=>i+x)=fun m=>xs[i+m]?:=rfl;rw [e2]at this;rw [this]
theorem asL{t sl:Addr}{items:Array Value}{vl vu:Value}{lo hi:Option Int}{Q:Value→Shared→Prop}(ht:IsTup s.heap t items)(hs:s.heap.IsSliceOf sl vl vu .none)(pl:IsPart vl lo)(pu:IsPart vu hi)
  (hw:¬(bY items.size 0 lo=0∧bY items.size items.size hi=items.size))
  (h:Q (.ref s.heap.objs.size) { s with heap:=s.heap.push { cls := .type "tuple",data := .seq ((items.toList.drop (bY items.size 0 lo)).take (bY items.size items.size hi - bY items.size 0 lo)).toArray } })
  (hsz:items.size≤sizeLine):wpAny (model prog w) A (getItem (.ref t) (.ref sl)) Q E s:=by
 have PC:sizeOk (.seq ((items.toList.drop (bY items.size 0 lo)).take (bY items.size items.size hi - bY items.size 0 lo)).toArray):=by
  show((items.toList.drop (bY items.size 0 lo)).take (bY items.size items.size hi - bY items.size 0 lo)).toArray.size≤sizeLine;rw [fL,tT,LI,eY];omega
 have hj:bY items.size items.size hi≤items.size:=ahV _ _ cE hi;obtain⟨os,gG,JP,gT⟩:=id hs;have hTs:s.TypeIs (.ref sl) "slice":=⟨os,gG,JP⟩;unfold getItem
 try with_reducible refine pE ?_
 first | refine aE (aQ ?_) | skip
 refine aE (wpAny_sequenceKey ht.typeIs (by decide) ?_);refine aE (CQ (name:=Str.ofString "__getitem__") ht.typeIs Xv
  (qF Xv ht.typeIs entry_tuple_getitem ?_ (args_tuple_getitem _ _)))
 show wpAny _ _ (Builtin.Tuple.tupleItemsOf (.ref t) >>= _) _ _ s;refine aE (tupleItemsOf_ ht ?_);refine aE (wpAny_typeOf hTs ?_);rw [if_pos (by decide)];refine aE (agU hs pl pu ?_);have uU:¬((((bY items.size 0 lo:Nat):Int) == 0&&(1:Int) == 1&&(bY items.size items.size hi - bY items.size 0 lo) == items.size)=true):=by
  intro q;rw [mB,mB]at q;have q1:((bY items.size 0 lo:Nat):Int)=0:=eq_of_beq q.1.1;have q2:bY items.size items.size hi - bY items.size 0 lo=items.size:=eq_of_beq q.2;exact hw ⟨by omega,by omega⟩
 show wpAny _ _ (if(((bY items.size 0 lo:Nat):Int) == 0&&(1:Int) == 1&&(bY items.size items.size hi - bY items.size 0 lo) == items.size)=true then _ else _) _ _ s;rw [if_neg uU,aj0]
 first
  | exact aE (m:=Builtin.Tuple.tupleExact _) (mV (aQ ⟨_,rfl,aQ h⟩) PC)
  | exact aE (m:=Builtin.Tuple.tupleExact _) (mV (aE (aQ (aQ ⟨_,rfl,aQ h⟩))) PC)
  | exact aE (aE (m:=Builtin.Tuple.tupleExact _) (mV (aQ (aQ ⟨_,rfl,aQ h⟩)) PC))
  | exact aE (aE (m:=Builtin.Tuple.tupleExact _) (mV (aQ ⟨_,rfl,aQ h⟩) PC))
end
end HT
namespace L2
open PySem PySem.Spec PyProof.Rows
abbrev TO:=St→Hp→(Option Int→Hp→Prop)→Prop
def PO(X:Cx)(e:Option Expr)(t:TO):Prop :=
 ∀(pins:List (Addr×Obj)) (s:Shared) (σ:St) (H:Hp) (Q:Option Int→Hp→Prop),Inv X pins σ H s→t σ H Q →
  wpAny (model X.prog X.w) X.A (evalPart e X.env) (fun u s'=>∃o H',Inv X pins σ H' s'∧IsPart u o∧Q o H') X.xe s
def acE:TO:=fun _ H Q=>Q none H
def acA(t:TE):TO:=fun σ H Q=>t σ H fun x H1=>∃i,x = .int i∧Q (some i) H1
theorem intsAre_of{ns:List Int}:∀{us:List Value},Vals (ns.map V.int) us→IntsAre us ns:=by
 induction ns with
 | nil=>intro us r;rw [BR]at r;cases r;exact .nil
 | cons n ns ih =>
  intro us r;rw [fE]at r;cases r with
  | cons r1 r2 =>
   obtain⟨t,e⟩:=r1;subst e;exact .cons n t (ih r2)
section
variable{X:Cx}{e:Expr}{te:TE}{lo hi:Option Expr}{tl th:TO}{pos p2:Pos}
theorem ajU:PO X none acE:=by
 intro pins s σ H Q I h;rw [evalPart_none];exact aQ ⟨none,H,I,.none,h⟩
theorem ajT(h:PE X e te):PO X (some e) (acA te):=by
 intro pins s σ H Q I hw;rw [evalPart_some];refine aY (h pins s σ H _ I hw) fun u s1 ⟨x,H1,I1,r1,q1⟩=>?_;obtain⟨i,rfl,q⟩:=q1;obtain⟨t,rfl⟩:=r1;exact⟨some i,H1,I1,.int i t,q⟩
def BI(X:Cx)(r:V→Option Int→Option Int→Hp→VK→Prop):Prop :=
 ∀(pins:List (Addr×Obj)) (s:Shared) (σ:St) (H:Hp) (x:V) (v vl vu:Value) (lo hi:Option Int) (sl:Addr) (Q:VK),Inv X pins σ H s→RelV x v→s.heap.IsSliceOf sl vl vu .none→IsPart vl lo→IsPart vu hi→r x lo hi H Q →
  ∃T id,typeLookup (.type T) "__getitem__" = pure (some (.builtin id))∧s.TypeIs v T∧wpAny (model X.prog X.w) X.A (getItem v (.ref sl)) (EP X pins σ Q) X.xe s
theorem BI.or{r r':V→Option Int→Option Int→Hp→VK→Prop}(h:BI X r)(h':BI X r'):BI X (fun x lo hi H Q=>r x lo hi H Q∨r' x lo hi H Q):=by
 intro pins s σ H x v vl vu lo hi sl Q I rx hs pl pu q
 rcases q with q | q
 ·exact h pins s σ H x v vl vu lo hi sl Q I rx hs pl pu q
 ·exact h' pins s σ H x v vl vu lo hi sl Q I rx hs pl pu q
def tSl(r:V→Option Int→Option Int→Hp→VK→Prop)(te:TE)(tl th:TO):TE:=fun σ H Q=>te σ H fun x H1=>tl σ H1 fun l H2=>th σ H2 fun u H3=>r x l u H3 Q
theorem akF{r:V→Option Int→Option Int→Hp→VK→Prop}(hr:BI X r)(he:PE X e te)(hl:PO X lo tl)(hu:PO X hi th):PE X (.Subscript e (.Slice lo hi none p2) pos) (tSl r te tl th):=by
 intro pins s σ H Q I h;refine Subscript_ (aY (he pins s σ H _ I h) fun v s1 ⟨x,H1,I1,r1,q1⟩=>?_);refine wpAny_Slice (aY (hl pins s1 σ H1 _ I1 q1) fun vl s2 ⟨l,H2,I2,pl,q2⟩=>aY (hu pins s2 σ H2 _ I2 q2) fun vu s3 ⟨u,H3,I3,pu,q3⟩=>?_);rw [evalPart_none];refine aQ ?_;have I4:Inv X pins σ H3 { s3 with heap:=s3.heap.push { cls := .type "slice",data := .fields #[vl,vu,.none] } }:=I3.kept (t':=s3.toks) fun b ob q=>cZ _ q;obtain⟨T,id,hT,ht,hg⟩:=hr pins { s3 with heap:=s3.heap.push { cls := .type "slice",data := .fields #[vl,vu,.none] } } σ H3 x v vl vu l u s3.heap.objs.size Q I4 r1 (Heap.IsSliceOf.new ..) pl pu q3;show wpAny (model X.prog X.w) X.A (subscriptTail e (.Slice lo hi none p2) v (.ref s3.heap.objs.size)) (EP X pins σ Q) X.xe { s3 with heap:=s3.heap.push { cls := .type "slice",data := .fields #[vl,vu,.none] } };exact tail_any (ops:=[.ref s3.heap.objs.size,v]) ht hT hg (by with_unfolding_all rfl)
def xO(xs:List V)(lo hi:Option Int):List V:=(xs.drop (HT.bY xs.length 0 lo)).take (HT.bY xs.length xs.length hi - HT.bY xs.length 0 lo)
theorem Vk(xs:List V)(lo hi:Option Int):(xO xs lo hi).length≤xs.length:=by
 unfold xO;rw [tT,LI];omega
def aiE(K:Frag):V→Option Int→Option Int→Hp→VK→Prop:=fun x lo hi H Q=>∃a xs,x = .ref a∧iL K H a xs ∧
 ¬(HT.bY xs.length 0 lo=0∧HT.bY xs.length xs.length hi=xs.length)∧∀p,H p=none→Q (.ref p) (upd H p (.tup (xO xs lo hi)))
theorem agV:BI X (aiE X.K):=by
 intro pins s σ H x v vl vu lo hi sl Q I rx hs pl pu h;obtain⟨a,xs,rfl,hx,hw,q⟩:=h;cases rx;obtain⟨aN,r,ht,hz⟩:=I.tuple hx;have hlen:aN.toArray.size=xs.length:=by rw [fL];exact r.length.symm
 refine⟨"tuple",_,Xv.lookup,ht.typeIs,?_⟩;refine HT.asL ht hs pl pu (by rw [hlen];exact hw) ?_ (by rw [hlen];exact hz);rw [hlen];refine⟨.ref s.heap.objs.size,_,I.laid (t':=s.toks) (o := .tup (xO xs lo hi)) (fun b ob q=>cZ _ q) cE ?_,rfl,q _ (I.aK.fresh cE)⟩;exact⟨kN (Vk xs lo hi) hz,_,(r.drop (HT.bY xs.length 0 lo)).take (HT.bY xs.length xs.length hi - HT.bY xs.length 0 lo),IsTup.new _ _⟩
def aiI(K:Frag):R2:=fun x y H Q=>∃a b xs ys,x = .ref a∧y = .ref b∧iL K H a xs∧iL K H b ys∧xs≠[]∧xs.length+ys.length≤sizeLine ∧
 (ys=[]→Q (.ref a) H)∧(ys≠[]→∀p,H p=none→Q (.ref p) (upd H p (.tup (xs++ys))))
theorem Vals.YD{xs:List V}{us:List Value}(r:Vals xs us):us=[]↔xs=[]:=by
 cases r with
 | nil=>simp
 | cons _ _=>simp
theorem alO:iA X (binaryOp .Add) (aiI X.K):=by
 intro pins s σ H x y v u Q I rx ry h;obtain⟨a,b,xs,ys,rfl,rfl,ha,hb,hx,hz,q1,q2⟩:=h;cases rx;cases ry;obtain⟨aN,r1,p1,_⟩:=I.tuple ha;obtain⟨wU,r2,p2,_⟩:=I.tuple hb;refine HT.au7 p1 p2 (fun z=>hx (r1.YD.mp z)) (fun z=>⟨.ref a,H,I,rfl,q1 (r2.YD.mp z)⟩) (fun z=>?_) (by rw [← r1.length,← r2.length];exact hz);refine⟨.ref s.heap.objs.size,_,I.laid (t':=s.toks) (o := .tup (xs++ys)) (fun b ob q=>cZ _ q) cE ?_,rfl,q2 (fun w=>z (r2.YD.mpr w)) _ (I.aK.fresh cE)⟩;exact⟨by rw [fX];exact hz,_,r1.append r2,IsTup.new _ _⟩
end
def nV(n:Nat)(i:Int):Option Nat:=if 0≤i then(if i<n then some i.toNat else none)else if -(n:Int)≤i then some (i+n).toNat else none
def gU{α:Type}(xs:List α)(i:Int):Option α:=(nV xs.length i).bind fun j=>xs[j]?
theorem Rb{n:Nat}{i:Int}{j:Nat}(h:nV n i=some j):seqIndex? i n=some j∧j<n∧-(n:Int)≤i∧i<n:=by
 unfold nV at h
 by_cases h0:0≤i
 ·rw [if_pos h0]at h
  by_cases h1:i<n
  ·rw [if_pos h1]at h;have e:i.toNat=j:=mS h;exact⟨by rw [seqIndex_of h0 h1,e],by omega,by omega,h1⟩
  ·rw [if_neg h1]at h;cases h
 ·rw [if_neg h0]at h
  by_cases h1 : -(n:Int)≤i
  ·rw [if_pos h1]at h;have e:(i+n).toNat=j:=mS h;exact⟨by rw [seqIndex_neg (by omega) h1,e],by omega,h1,by omega⟩
  ·rw [if_neg h1]at h;cases h
theorem Gj{α:Type}{xs:List α}{i:Int}{v:α}(h:gU xs i=some v):∃j,seqIndex? i xs.length=some j∧xs[j]? = some v∧j<xs.length∧-(xs.length:Int)≤i∧i<xs.length:=by
 unfold gU at h;cases e:nV xs.length i with
 | none=>rw [e]at h;cases h
 | some j =>
  rw [e]at h;obtain⟨h1,h2,h3,h4⟩:=Rb e;exact⟨j,h1,h,h2,h3,h4⟩
def Xx(b:Expr):Prop:=∀o i,subscripted b false o i=operate [o,i] (getItem o i)
def vM(X:Cx)(r:R2):Prop :=
 ∀(value slice:Expr) (pins:List (Addr×Obj)) (s:Shared) (σ:St) (H:Hp) (x y:V) (v u:Value) (Q:VK),Inv X pins σ H s→RelV x v→RelV y u→r x y H Q →
  subscripted slice false v u=operate [v,u] (getItem v u)→wpAny (model X.prog X.w) X.A (subscriptTail value slice v u) (EP X pins σ Q) X.xe s
def Yd(X:Cx)(id:String)(r:V→List V→Hp→VK→Prop):Prop :=
 ∀(pins:List (Addr×Obj)) (s:Shared) (σ:St) (H:Hp) (x:V) (xs:List V) (v:Value) (us:List Value) (Q:VK),Inv X pins σ H s→RelV x v→Vals xs us→r x xs H Q →
  wpAny (model X.prog X.w) X.A (call (.builtin id) (v::us)) (EP X pins σ Q) X.xe s
section
variable{X:Cx}{a b:Expr}{ta tb:TE}{pos:Pos}
theorem vM.or{r r':R2}(h:vM X r)(h':vM X r'):vM X (fun x y H Q=>r x y H Q∨r' x y H Q):=by
 intro value slice pins s σ H x y v u Q I rx ry q hs
 rcases q with q | q
 ·exact h value slice pins s σ H x y v u Q I rx ry q hs
 ·exact h' value slice pins s σ H x y v u Q I rx ry q hs
theorem akP{r:R2}(hr:vM X r)(ha:PE X a ta)(hb:PE X b tb)(hs:Xx b):PE X (.Subscript a b pos) (GU r ta tb):=by
 intro pins s σ H Q I h;exact Subscript_ (Fe ha hb I h fun v u s2 x y H2 I2 rx ry q=>hr a b pins s2 σ H2 x y v u Q I2 rx ry q (hs _ _))
def Oe(K:Frag):R2:=fun x y H Q=>∃p xs i v,x = .ref p∧y = .int i∧fK K H p xs∧gU xs i=some v∧Q v H
def Oc(K:Frag):R2:=fun x y H Q=>∃p xs i v,x = .ref p∧y = .int i∧iL K H p xs∧gU xs i=some v∧Q v H
def Od:R2:=fun x y H Q=>∃z i c,x = .str z∧y = .int i∧z.length≤sizeLine∧gU z.cps.toList i=some c∧Q (.str ⟨#[c]⟩) H
theorem an8:vM X (Oe X.K):=by
 intro value slice pins s σ H x y v u Q I rx ry h hs;obtain⟨p,xs,i,z,rfl,rfl,hq,he,q⟩:=h;cases rx;obtain⟨t,rfl⟩:=ry;obtain⟨aN,r,pl,hz⟩:=I.list hq;obtain⟨j,h1,h2,h3,h4,h5⟩:=Gj he;obtain⟨w,ew,HF⟩:=r.get h2;have hl:=r.length;have hn:=II;have fin:EP X pins σ Q w s:=⟨z,H,I,HF,q⟩
 by_cases h0:0≤i
 ·have hj:i.toNat=j:=by
   rw [seqIndex_of h0 h5]at h1;exact mS h1
  exact item_listR pl.isList h0 (by omega) (by rw [hj];simpa using ew) fin hs
 ·have hj:(i+(aN.toArray.size:Int)).toNat=j:=by
   rw [seqIndex_neg (by omega) h4]at h1;rw [fL,← hl];exact mS h1
  exact subscriptTail_builtinR (x:=w) pl.isList.typeIs slot_list_getitem.lookup
   (wpAny_getItem_list_neg (Q:=fun r s'=>r=w∧EP X pins σ Q r s') pl.isList (by omega) (by rw [fL] <;> omega) (by omega) (by rw [hj];simpa using ew) ⟨rfl,fin⟩) hs
theorem an5:vM X (Oc X.K):=by
 intro value slice pins s σ H x y v u Q I rx ry h hs;obtain⟨p,xs,i,z,rfl,rfl,hq,he,q⟩:=h;cases rx;obtain⟨t,rfl⟩:=ry;obtain⟨aN,r,pl,hz⟩:=I.tuple hq;obtain⟨j,h1,h2,h3,h4,h5⟩:=Gj he;obtain⟨w,ew,HF⟩:=r.get h2;have hl:=r.length;have hn:=II;have fin:EP X pins σ Q w s:=⟨z,H,I,HF,q⟩;exact subscriptTail_builtinR (x:=w) pl.typeIs slot_tuple_getitem.lookup
  (getItem_tuple (j:=j) (Q:=fun r s'=>r=w∧EP X pins σ Q r s') pl (by omega) (by omega) (by rw [fL,← hl];exact h1) (by simpa using ew) ⟨rfl,fin⟩) hs
theorem an6:vM X Od:=by
 intro value slice pins s σ H x y v u Q I rx ry h hs;obtain⟨z,i,c,rfl,rfl,hz,he,q⟩:=h;obtain⟨t,rfl⟩:=rx;obtain⟨t',rfl⟩:=ry;obtain⟨j,h1,h2,h3,h4,h5⟩:=Gj he;have hl:z.cps.toList.length=z.length:=by simp [Str.length]
 rw [hl]at h1 h4 h5;have hn:=II;exact tail_any (typeIs_str s z t) slot_str_getitem.lookup (getItem_str (c:=c) (by
  have e1:decide (i < -(2 ^ 63:Int))=false:=lW (by omega);have e2:decide (i≥2 ^ 63)=false:=lW (by omega);rw [e1,e2,Bool.or_false]) (by rw [h1];simpa using h2) ⟨.str ⟨#[c]⟩,H,I.tok _,⟨_,rfl⟩,q⟩) hs
def rIx(K:Frag):R2:=fun x y H Q=>Oe K x y H Q∨Oc K x y H Q∨Od x y H Q
theorem an7:vM X (rIx X.K):=an8.or (an5.or an6)
theorem amZ(aN:List Value)(n j:Nat)(u:Value):Obj.mapSeq (·.setIfInBounds j u) { cls := .type "list",data := .seq aN.toArray n } = { cls := .type "list",data := .seq (aN.set j u).toArray n }:=by
 simp [Obj.mapSeq]
theorem Inv.lst{pins:List (Addr×Obj)}{σ:St}{H:Hp}{s:Shared}{p:Addr}{xs:List V}(I:Inv X pins σ H s)(h:H p=some (.lst xs)) :
  ∃(aN:List Value) (n:Nat),Vals xs aN∧s.heap.get? p=some { cls := .type "list",data := .seq aN.toArray n }∧xs.length≤sizeLine:=by
 obtain⟨z,aN,n,r,e⟩:=I.aK p _ h;exact⟨aN,n,r,e,z⟩
theorem Inv.am6{pins:List (Addr×Obj)}{σ:St}{H:Hp}{s:Shared}{p:Addr}{xs ys:List V}{aN its':List Value}{n n':Nat}{f:Obj→Obj}(I:Inv X pins σ H s)(h:H p=some (.lst xs))
  (ho:s.heap.get? p=some { cls := .type "list",data := .seq aN.toArray n }) (hf:f { cls := .type "list",data := .seq aN.toArray n } = { cls := .type "list",data := .seq its'.toArray n' }) (r:Vals ys its') (hz:ys.length≤sizeLine) (t:Nat) :
  Inv X pins σ (upd H p (.lst ys)) { s with heap:=s.heap.update p f,toks:=t }:=by
 have e:(s.heap.update p f).get? p=some { cls := .type "list",data := .seq its'.toArray n' }:=by
  rw [LR f ho (by rw [hf] <;> rfl),hf]
 refine I.write (x:=p) (e:=p) (by rw [h];trivial) (.inl rfl) (fun b u hb q=>(rW _ _ (cA hb)).trans q) ⟨_,e⟩ ?_;exact⟨hz,its',n',r,e⟩
def aiG:V→V→V→Hp→(Hp→Prop)→Prop:=fun o i v H Q=>∃p xs k j,o = .ref p∧i = .int k∧H p=some (.lst xs)∧nV xs.length k=some j∧Q (upd H p (.lst (xs.set j v)))
theorem set_list:Xy X aiG:=by
 intro pins s σ H o i v ov iv u Q I ro ri rv h;obtain⟨p,xs,k,j,rfl,rfl,hp,hj,q⟩:=h;cases ro;obtain⟨t,rfl⟩:=ri;obtain⟨aN,n,r,ho,hz⟩:=I.lst hp;obtain⟨h1,h2,h3,h4⟩:=Rb hj;have hl:=r.length;have hn:=II;have I':Inv X pins σ (upd H p (.lst (xs.set j v))) { s with heap:=s.heap.update p (Obj.mapSeq (·.setIfInBounds j u)) } :=
  I.am6 hp ho (amZ aN n j u) (r.set rv j) (by rw [yB];exact hz) s.toks
 by_cases h0:0≤k
 ·have hk:k.toNat=j:=by
   rw [seqIndex_of h0 h4]at h1;exact mS h1
  exact PySem.W.ki_setAt ho h0 (by omega) (by rw [fL,← hl];exact h4) (by rw [hk];exact⟨_,I',q⟩)
 ·have hk:(k+(aN.toArray.size:Int)).toNat=j:=by
   rw [seqIndex_neg (by omega) h3]at h1;rw [fL,← hl];exact mS h1
  exact PySem.W.ki_setBack ho (by omega) (by rw [fL,← hl];exact h3) (by omega) (by rw [hk];exact⟨_,I',q⟩)
theorem agS(lo hi:Option Int)(n:Nat):(sliceBounds lo hi none n).1=((HT.bY n 0 lo:Nat):Int)∧(sliceBounds lo hi none n).2.1=((HT.bY n n hi:Nat):Int)∧(sliceBounds lo hi none n).2.2=1:=by
 refine⟨?_,?_,rfl⟩
 ·cases lo with
  | none=>simp [sliceBounds,HT.bY]
  | some i =>
   simp only [sliceBounds,HT.bY,Option.getD_none,show(1:Int)>0 by decide,dP]
   by_cases h:i<0
   ·simp only [h,dP] <;> omega
   ·simp only [h,eF] <;> omega
 ·cases hi with
  | none=>simp [sliceBounds,HT.bY]
  | some i =>
   simp only [sliceBounds,HT.bY,Option.getD_none,show(1:Int)>0 by decide,dP]
   by_cases h:i<0
   ·simp only [h,dP] <;> omega
   ·simp only [h,eF] <;> omega
theorem agT(aN:List Value)(lo hi:Option Int):slicePick aN.toArray lo hi none=((aN.drop (HT.bY aN.length 0 lo)).take (HT.bY aN.length aN.length hi - HT.bY aN.length 0 lo)).toArray:=by
 obtain⟨h1,h2,h3⟩:=agS lo hi aN.toArray.size;unfold slicePick;rw [h1,h2,h3];simp only [sliceRange_one,pick_run,fL] <;> rfl
def aiF(K:Frag):V→Option Int→Option Int→Hp→VK→Prop:=fun x lo hi H Q=>∃a xs,x = .ref a∧fK K H a xs∧∀p,H p=none→Q (.ref p) (upd H p (.lst (xO xs lo hi)))
theorem agW:BI X (aiF X.K):=by
 intro pins s σ H x v vl vu lo hi sl Q I rx hs pl pu h;obtain⟨a,xs,rfl,hx,q⟩:=h;cases rx;obtain⟨aN,r,ht,hz⟩:=I.list hx;have hlen:=r.length;refine⟨"list",_,slot_list_getitem.lookup,ht.isList.typeIs,?_⟩;refine wpAny_getItem_list_slice ht.isList hs pl pu .none (by simp) ?_ (by rw [fL] <;> omega);rw [agT,← hlen];refine⟨.ref s.heap.objs.size,_,I.laid (t':=s.toks) (o := .lst (xO xs lo hi)) (fun b ob q=>cZ _ q) cE ?_,rfl,q _ (I.aK.fresh cE)⟩;exact⟨kN (Vk xs lo hi) hz,_,0,(r.drop (HT.bY xs.length 0 lo)).take (HT.bY xs.length xs.length hi - HT.bY xs.length 0 lo),gM _ rfl⟩
theorem avG:qC X (.builtin "len") (fun xs H Q=>∃p ys,xs=[.ref p]∧(fK X.K H p ys∨iL X.K H p ys)∧Q (.int ys.length) H):=by
 intro pins s σ H xs us Q I r h;obtain⟨p,ys,rfl,hq,q⟩:=h;obtain⟨u,rfl,rx⟩:=vals1 r;cases rx;have hn:=II
 rcases hq with hq | hq
 ·obtain⟨aN,r',pl,hz⟩:=I.list hq;have hlen:=r'.length;exact Calls.call_len_list pl.isList (by simp only [fL] <;> omega) ⟨.int ys.length,H,I.tok _,⟨s.toks+1,by rw [fL,hlen]⟩,q⟩
 ·obtain⟨aN,r',pl,hz⟩:=I.tuple hq;have hlen:=r'.length;exact len_tuple pl (by simp only [fL] <;> omega) ⟨.int ys.length,H,I.tok _,⟨s.toks+1,by rw [fL,hlen]⟩,q⟩
def UE(K:Frag)(T:String)(x:V)(H:Hp):Prop:=match x with
 | .str _=>T = "str"
 | .int _=>T = "int"
 | .ref p=>(T = "list"∧∃xs,fK K H p xs)∨(T = "tuple"∧∃o,K.lookup p=some o∧o.cls = .type "tuple"∧o.dict=none) ∨
   (T = "dict"∧((∃aB,H p=some (.dK aB))∨∃aB,H p=some (.dT aB)))∨(T = "set"∧∃S n,H p=some (.set S n))
 | _=>False
theorem abC{pins:List (Addr×Obj)}{σ:St}{H:Hp}{s:Shared}{T:String}{x:V}{v:Value}(I:Inv X pins σ H s)(r:RelV x v)(ty:UE X.K T x H) :
  s.TypeIs v T∧∀a,v = .ref a→∃ob,s.heap.get? a=some ob∧ob.dict=none:=by
 cases x with
 | str z =>
  obtain⟨t,rfl⟩:=r;cases(show T = "str" from ty);exact⟨typeIs_str s z t,fun _ e=>nomatch e⟩
 | int i =>
  obtain⟨t,rfl⟩:=r;cases(show T = "int" from ty);exact⟨typeIs_int s i t,fun _ e=>nomatch e⟩
 | ref p =>
  cases r
  rcases ty with⟨rfl,xs,hq⟩ | ⟨rfl,o,hk,hc,hd⟩ | ⟨rfl,hk⟩ | ⟨rfl,S,n,hk⟩
  ·obtain⟨aN,_,pl,_⟩:=I.list hq;refine⟨pl.isList.typeIs,fun a e=>?_⟩;cases e;obtain⟨o,n,e,c,hd,_⟩:=pl;exact⟨o,e,hd⟩
  ·refine⟨⟨o,I.gS p o hk,hc⟩,fun a e=>?_⟩;cases e;exact⟨o,I.gS _ o hk,hd⟩
  ·have z:∃o,s.heap.get? p=some o∧o.ExactDict:=by
    rcases hk with⟨aB,hk⟩ | ⟨aB,hk⟩
    ·obtain⟨_,_,_,_,o,_,_,e,ex,_⟩:=I.aK p _ hk;exact⟨o,e,ex⟩
    ·obtain⟨_,_,_,_,o,_,_,e,ex,_⟩:=I.aK p _ hk;exact⟨o,e,ex⟩
   obtain⟨o,e,ex⟩:=z;refine⟨⟨o,e,ex.1⟩,fun a e2=>?_⟩;cases e2;exact⟨o,e,ex.2.1⟩
  ·obtain⟨o,_,_,_,e,ex,_⟩:=I.aK p _ hk;refine⟨⟨o,e,ex.1⟩,fun a e2=>?_⟩;cases e2;exact⟨o,e,ex.2.1⟩
 | _=>exact False.elim ty
def tBM(K:Frag)(T:String)(r:V→List V→Hp→VK→Prop)(to:TE)(t:TA):TE:=fun σ H Q=>to σ H fun x H1=>UE K T x H1∧t σ H1 fun xs H2=>r x xs H2 Q
variable{o e:Expr}{es:List Expr}{to:TE}{t:TA}{name:Str}{apos kL:Pos}{T id:String}{r:V→List V→Hp→VK→Prop}
theorem akY(pa:PlainAttrs T)(slot:Slot T name id)(Aq:typeOf (.builtin id)=pure (.type "method_descriptor"))(hm:Yd X id r)(ho:PE X o to)(ha:PA X (e::es) t)
  (AI:attributeBase o name X.env (eval o X.env)=eval o X.env:=by rfl)
  (Bl:((backTo kL (starEach (e::es) X.env)).all (fun x=>!x.1)&&(backToKw kL (keywordEach [] X.env)).all (fun x=>x.1.isSome)
   && decide ((e::es).length+([]:List Keyword).length+(if([]:List Keyword).isEmpty then 0 else 1)<30))=true:=by rfl)
  (AA:(apos.endLine == kL.line)=true:=by rfl) (hs:starEach (e::es) X.env=(false,eval e X.env)::starEach es X.env:=by rfl) (Aw:(backTo kL (starEach es X.env)).any (·.1)=false:=by rfl) :
  PE X (.Call (.Attribute o name apos) (e::es) [] kL) (tBM X.K T r to t):=by
 intro pins s σ H Q I h;refine wpAny_Call_method_late AI Bl AA rfl (aY (ho pins s σ H _ I h) fun v s1 ⟨x,H1,I1,r1,ty,q1⟩=>?_);obtain⟨h1,h2⟩:=abC I1 r1 ty;refine⟨T,id,pa,slot,Aq,h1,h2,?_⟩;have hA:=ha kL pins s1 σ H1 _ I1 q1;rw [hs]at hA ⊢;refine Yy (by show(false||(backTo kL (starEach es X.env)).any (·.1))=false;rw [Aw] <;> rfl) (Calls.evalArgs_plain ?_);exact aY hA fun us s2 ⟨vs,H2,I2,r2,q2⟩=>hm pins s2 σ H2 x vs v us Q I2 r1 r2 q2
end
def Ye(X:Cx)(id:String)(r:V→List V→Hp→VK→Prop):Prop :=
 ∀(pins:List (Addr×Obj)) (s:Shared) (σ:St) (H:Hp) (x:V) (xs:List V) (v:Value) (us:List Value) (Q:VK),Inv X pins σ H s→RelV x v→Vals xs us→r x xs H Q →
  wpAny (model X.prog X.w) X.A (call (.builtin id) (v::us)) (EP X pins σ Q) X.xe s
theorem Vals.one:∀{x:V} {us:List Value},Vals [x] us→∃u,us=[u]∧RelV x u
 | _,_,.cons r .nil=>⟨_,rfl,r⟩
theorem Vals.two:∀{x y:V} {us:List Value},Vals [x,y] us→∃u v,us=[u,v]∧RelV x u∧RelV y v
 | _,_,_,.cons r (.cons q .nil)=>⟨_,_,rfl,r,q⟩
section
variable{X:Cx}{pins:List (Addr×Obj)}{σ:St}{H:Hp}{s:Shared}{l b:Addr}{xs ys zs:List V}
theorem Inv.OM{aN its':List Value}{n:Nat}{f:Array Value→Array Value}{t':Nat}(I:Inv X pins σ H s)(hH:H l=some (.lst xs))
  (e:s.heap.get? l=some { cls := .type "list",data := .seq aN.toArray n }) (hf:f aN.toArray=its'.toArray) (hv:Vals ys its') (hz:ys.length≤sizeLine) :
  Inv X pins σ (upd H l (.lst ys)) { s with heap:=s.heap.update l (Obj.mapSeq f),toks:=t' }:=by
 have q:=PySem.IsL.update e f;rw [hf]at q;refine I.write (x:=l) (e:=l) (by rw [hH];exact trivial) (.inl rfl) (fun b' u hb hu=>(rW s.heap (Obj.mapSeq f) (cA hb)).trans hu) ⟨_,q⟩ ?_;exact⟨hz,its',_,hv,q⟩
theorem Inv.anC{aN:List Value}{t':Nat}(I:Inv X pins σ H s)(hv:Vals ys aN)(hz:ys.length≤sizeLine) :
  Inv X pins σ (upd H s.heap.objs.size (.lst ys)) { s with heap:=s.heap.push { cls := .type "list",data := .seq aN.toArray },toks:=t' } :=
 I.laid (fun _ _ q=>cZ _ q) cE ⟨hz,aN,0,hv,gM _ rfl⟩
theorem Inv.fresh(I:Inv X pins σ H s):H s.heap.objs.size=none:=I.aK.fresh cE
theorem Inv.zN(I:Inv X pins σ H s)(hH:H l=some (.lst xs)):xs.length≤sizeLine∧∃(aN:List Value) (n:Nat),Vals xs aN∧xs.length=aN.length∧s.heap.get? l=some { cls := .type "list",data := .seq aN.toArray n }:=by
 obtain⟨z,aN,n,r,e⟩:=I.aK l _ hH;exact⟨z,aN,n,r,r.length,e⟩
theorem al2{n:Nat}(h:n≤sizeLine):Builtin.List.listTooLong n=false:=by
 unfold Builtin.List.listTooLong;exact lW (by omega)
end
section
variable{X:Cx}
def Oh:V→List V→Hp→VK→Prop:=fun x vs H Q=>∃l xs y,x = .ref l∧vs=[y]∧H l=some (.lst xs)∧xs.length<sizeLine∧Q .bB (upd H l (.lst (xs++[y])))
theorem HZ:Ye X "list.append" Oh:=by
 intro pins s σ H x vs v us Q I rx rv h;obtain⟨l,xs,y,rfl,rfl,hH,hz,q⟩:=h;cases rx;obtain⟨u,rfl,ru⟩:=rv.one;obtain⟨z,aN,n,r,hl,e⟩:=I.zN hH;refine call_meets F.slot_list_append ⟨_,e,rfl⟩ F.entry_list_append (Yu _ _) (PySem.list_append l aN.toArray n u (by rw [fL];omega)) ⟨e,?_⟩;refine⟨.bB,_,I.OM (its':=aN++[u]) hH e (by simp) (r.append (.cons ru .nil)) ?_,rfl,q⟩;rw [fX,List.length_singleton];omega
def Of:V→List V→Hp→VK→Prop:=fun x vs H Q=>∃l b xs zs,x = .ref l∧vs=[.ref b]∧H l=some (.lst xs)∧H b=some (.lst zs)∧xs.length+zs.length≤sizeLine∧Q .bB (upd H l (.lst (xs++zs)))
theorem amR:Ye X "list.extend" Of:=by
 intro pins s σ H x vs v us Q I rx rv h;obtain⟨l,b,xs,zs,rfl,rfl,hH,hB,hz,q⟩:=h;cases rx;obtain⟨u,rfl,ru⟩:=rv.one;cases ru;obtain⟨z,aN,n,r,hl,e⟩:=I.zN hH;obtain⟨z2,wU,n2,r2,wY,e2⟩:=I.zN hB;have hsz:aN.toArray.size+wU.toArray.size≤sizeLine:=by rw [fL,fL];omega
 have ap5:¬(!aN.toArray.isEmpty&&Builtin.List.listTooLong (aN.toArray.size+wU.toArray.size))=true:=by
  rw [al2 hsz,Bool.and_false];exact Zb
 refine call_meets F.slot_list_extend ⟨_,e,rfl⟩ F.entry_list_extend (F.args_list_extend_2 _ _)
  (AutoSeq1.list_extend_list_list_0 l aN.toArray n b wU.toArray n2 ap5 (by rw [fL];omega) (by omega)) ⟨e,e2,?_⟩
 refine⟨.bB,_,I.OM (its':=aN++wU) hH e (by simp) (r.append r2) ?_,rfl,q⟩;rw [fX];omega
def Og:R2:=fun x y H Q=>∃l b xs zs,x = .ref l∧y = .ref b∧H l=some (.lst xs)∧H b=some (.lst zs)∧xs.length+zs.length≤sizeLine∧∀p,H p=none→Q (.ref p) (upd H p (.lst (xs++zs)))
theorem alP:iA X (binaryOp .Add) Og:=by
 intro pins s σ H x y v u Q I rx ry h;obtain⟨l,b,xs,zs,rfl,rfl,hH,hB,hz,q⟩:=h;cases rx;cases ry;obtain⟨z,aN,n,r,hl,e⟩:=I.zN hH;obtain⟨z2,wU,n2,r2,wY,e2⟩:=I.zN hB;refine PySem.P.add_list e e2 ?_ (by rw [fL,fL];omega);have ea:aN.toArray++wU.toArray=(aN++wU).toArray:=by simp
 rw [ea];exact⟨.ref _,_,I.anC (t':=s.toks) (r.append r2) (by rw [fX];omega),rfl,q _ I.fresh⟩
end
section
variable{κ:Type} [DecidableEq κ]
def lH(aB:List (κ×V))(k:κ):Option V:=(aB.find? fun kv=>decide (kv.1=k)).map (·.2)
def putK(aB:List (κ×V))(k:κ)(v:V):List (κ×V) :=
 if(aB.any fun kv=>decide (kv.1=k))=true then aB.map (fun kv=>if kv.1=k then(kv.1,v)else kv)else aB++[(k,v)]
theorem TZ{p:κ×V}{r:List (κ×V)}{k:κ}(e:p.1=k):lH (p::r) k=some p.2:=by simp [lH,FZ,e]
theorem UA{p:κ×V}{r:List (κ×V)}{k:κ}(e:¬p.1=k):lH (p::r) k=lH r k:=by simp [lH,FZ,e]
theorem Ky(k:κ):∀aB:List (κ×V),(aB.any fun kv=>decide (kv.1=k))=(lH aB k).isSome
 | []=>rfl
 | p::r=>by
  rw [RZ]
  by_cases e:p.1=k
  ·simp only [TZ e,tJ e,Bool.true_or,Option.isSome_some]
  ·rw [UA e,lW e,Bool.false_or];exact Ky k r
theorem Qo(aB:List (κ×V))(k:κ)(v:V):(putK aB k v).length≤aB.length+1:=by
 unfold putK;split
 ·rw [fW];omega
 ·rw [fX,eA,yC];omega
theorem nI.aoK{o:Option V}{u:Option Value}(r:nI o u):o.isSome=u.isSome:=by
 cases o with
 | none=>cases u with
  | none=>rfl
  | some _=>exact(show False from r).elim
 | some _=>cases u with
  | none=>exact(show False from r).elim
  | some _=>rfl
theorem nI.getD{o:Option V}{u:Option Value}{d:V}{d':Value}(r:nI o u)(rd:RelV d d'):RelV (o.getD d) (u.getD d'):=by
 cases o with
 | none=>cases u with
  | none=>exact rd
  | some _=>exact(show False from r).elim
 | some _=>cases u with
  | none=>exact(show False from r).elim
  | some _=>exact r
theorem KV.val{aB:List (κ×V)}{vs:List (κ×Value)}(r:KV aB vs)(k:κ):nI (lH aB k) (valueAt vs k):=by
 unfold KV at r
 induction r with
 | nil=>exact True.intro
 | @cons p q ps qs h t ih =>
  obtain⟨h1,h2⟩:=h
  by_cases e:p.1=k
  ·have e':q.1=k:=h1.symm.trans e;have b:valueAt (q::qs) k=some q.2:=by simp [valueAt,FZ,e']
   rw [TZ e,b];exact h2
  ·have e':¬q.1=k:=fun z=>e (h1.trans z);have b:valueAt (q::qs) k=valueAt qs k:=by simp [valueAt,FZ,e']
   rw [UA e,b];exact ih
theorem KV.any{aB:List (κ×V)}{vs:List (κ×Value)}(r:KV aB vs)(k:κ):(aB.any fun kv=>decide (kv.1=k))=vs.any fun kv=>decide (kv.1=k):=by
 unfold KV at r
 induction r with
 | nil=>rfl
 | cons h t ih=>rw [RZ,RZ,ih,h.1]
theorem KV.XF{aB:List (κ×V)}{vs:List (κ×Value)}(r:KV aB vs)(k:κ){y:V}{u:Value}(ry:RelV y u) :
  KV (aB.map fun kv=>if kv.1=k then(kv.1,y)else kv) (vs.map fun kv=>if kv.1=k then(kv.1,u)else kv):=by
 unfold KV at r ⊢
 induction r with
 | nil=>exact .nil
 | @cons p q ps qs h t ih =>
  rw [fE,fE];refine .cons ?_ ih;obtain⟨h1,h2⟩:=h
  by_cases e:p.1=k
  ·rw [if_pos e,if_pos (h1.symm.trans e)];exact⟨h1,ry⟩
  ·rw [if_neg e,if_neg (fun z=>e (h1.trans z))];exact⟨h1,h2⟩
theorem KV.put{aB:List (κ×V)}{vs:List (κ×Value)}(r:KV aB vs)(k:κ){y:V}{u:Value}(ry:RelV y u):KV (putK aB k y) (stored vs k u):=by
 unfold putK stored;rw [r.any k]
 by_cases e:(vs.any fun kv=>decide (kv.1=k))=true
 ·rw [if_pos e,if_pos e];exact r.XF k ry
 ·rw [if_neg e,if_neg e];exact Paired.snoc r ⟨rfl,ry⟩
theorem KV.keys{aB:List (κ×V)}{vs:List (κ×Value)}(r:KV aB vs):aB.map (·.1)=vs.map (·.1):=by
 unfold KV at r
 induction r with
 | nil=>rfl
 | cons h t ih=>rw [fE,fE,ih,h.1]
theorem KV.length{aB:List (κ×V)}{vs:List (κ×Value)}(r:KV aB vs):aB.length=vs.length:=Paired.length r
end
theorem Ak{P:Program}{w:World}{k:Key}{u:Value}(r:RelV (kV k) u):(kX P w).is k u=true:=by
 cases k with
 | inl i=>obtain⟨t,e⟩:=(show ∃t,u=Value.int i t from r);subst e;exact amU P w i t
 | inr x=>obtain⟨t,e⟩:=(show ∃t,u=Value.str x t from r);subst e;exact amT P w x t
theorem Rc{P:Program}{w:World}:∀{ks:List Key} {us:List Value},Vals (ks.map kV) us→ItemsAre (kX P w) ks us
 | [],_,r=>by rw [BR]at r;cases r;exact .nil
 | k::ks,_,r=>by
  rw [fE]at r;cases r with
  | cons h t=>exact .cons (Ak h) (Rc t)
abbrev KT(H:Hp):List (List Key×V)→List (List Key×Addr×Value)→Prop:=Paired fun p q=>p.1=q.1∧H q.2.1=some (.tup (p.1.map kV))∧RelV p.2 q.2.2
theorem KT.val{H:Hp}{aB:List (List Key×V)}{xs:List (List Key×Addr×Value)}(r:KT H aB xs)(k:List Key):nI (lH aB k) ((atKey xs k).map (·.2)):=by
 induction r with
 | nil=>exact True.intro
 | @cons p q ps qs h t ih =>
  obtain⟨h1,_,h2⟩:=h
  by_cases e:p.1=k
  ·have e':q.1=k:=h1.symm.trans e;have b:atKey (q::qs) k=some q.2:=by simp [atKey,FZ,e']
   rw [TZ e,b];exact h2
  ·have e':¬q.1=k:=fun z=>e (h1.trans z);have b:atKey (q::qs) k=atKey qs k:=by simp [atKey,FZ,e']
   rw [UA e,b];exact ih
theorem KT.XF{H:Hp}{aB:List (List Key×V)}{xs:List (List Key×Addr×Value)}(r:KT H aB xs)(k:List Key){y:V}{u:Value}(ry:RelV y u) :
  KT H (aB.map fun kv=>if kv.1=k then(kv.1,y)else kv) (xs.map (putAt k u)):=by
 induction r with
 | nil=>exact .nil
 | @cons p q ps qs h t ih =>
  rw [fE,fE];refine .cons ?_ ih;obtain⟨h1,h2,h3⟩:=h;unfold putAt
  by_cases e:p.1=k
  ·rw [if_pos e,if_pos (h1.symm.trans e)];exact⟨h1,h2,ry⟩
  ·rw [if_neg e,if_neg (fun z=>e (h1.trans z))];exact⟨h1,h2,h3⟩
theorem KT.put{H:Hp}{aB:List (List Key×V)}{xs:List (List Key×Addr×Value)}(r:KT H aB xs)(k:List Key){b:Addr}{y:V}{u:Value}(hb:H b=some (.tup (k.map kV)))(ry:RelV y u) :
  KT H (putK aB k y) (storedH xs k b u):=by
 have e:(aB.any fun kv=>decide (kv.1=k))=(atKey xs k).isSome:=by
  rw [Ky,(r.val k).aoK,Option.isSome_map]
 unfold putK storedH;rw [e]
 by_cases q:(atKey xs k).isSome=true
 ·rw [if_pos q,if_pos q];exact r.XF k ry
 ·rw [if_neg q,if_neg q];exact Paired.snoc r ⟨rfl,hb,ry⟩
theorem KT.keeps{H H':Hp}{aB:List (List Key×V)}{xs:List (List Key×Addr×Value)}(r:KT H aB xs)(ht:∀b ys,H b=some (.tup ys)→H' b=some (.tup ys)):KT H' aB xs :=
 Paired.YI r fun _ _ z=>⟨z.1,ht _ _ z.2.1,z.2.2⟩
section
variable{P:Program}{w:World}{H:Hp}{h:Heap}{a:Addr}
theorem Nz{u:HO}(ok:eW P w H h)(e:Rd H a u):gW P w H h a u:=e.ok ok
theorem Ek{aB:List (Key×V)}(ok:eW P w H h)(e:Rd H a (.dK aB)):aB.length≤sizeLine∧(a == sysModules)=false∧∃vs,KV aB vs∧h.DictOf (kX P w) a vs :=
 show gW P w H h a (.dK aB)from Nz ok e
theorem Vc{aB:List (Key×V)}(ok:eW P w H h)(e:H a=some (.dK aB)):aB.length≤sizeLine∧(a == sysModules)=false∧∃vs,KV aB vs∧h.DictOf (kX P w) a vs:=Ek ok (.inl e)
theorem Ai{ks:List Key}(ok:eW P w H h)(e:H a=some (.tup (ks.map kV))):(tupleKind (kX P w)).is h ks a:=by
 obtain⟨_,aN,r,o,h1,h2,n,h3⟩:=(show gW P w H h a (.tup (ks.map kV))from ok a _ e);exact⟨o,aN.toArray,n,h1,h2,h3,by simpa using Rc r⟩
theorem Ei{aB:List (List Key×V)}(ok:eW P w H h)(e:Rd H a (.dT aB)):aB.length≤sizeLine∧(a == sysModules)=false ∧
  ∃xs,KT H aB xs∧h.DictOfH (tupleKind (kX P w)) a xs:=by
 obtain⟨z,y,xs,r,o,es,ep,h1,h2,h3,h4,h5⟩:=(show gW P w H h a (.dT aB)from Nz ok e);refine⟨z,y,xs,r,o,es,ep,h1,h2,h3,h4,fun x hx=>?_,h5⟩;have all:∀{l:List (List Key×V)} {m:List (List Key×Addr×Value)},KT H l m→∀x∈m,(tupleKind (kX P w)).is h x.1 x.2.1:=by
  intro l m q
  induction q with
  | nil=>intro x hx;exact nomatch hx
  | @cons p q ps qs hq t ih =>
   intro x hx
   rcases dZ.mp hx with e | hx
   ·subst e;exact Ai ok (by rw [← hq.1];exact hq.2.1)
   ·exact ih x hx
 exact all r x hx
theorem atN{aB:List (List Key×V)}(ok:eW P w H h)(e:H a=some (.dT aB)):aB.length≤sizeLine∧(a == sysModules)=false ∧
  ∃xs,KT H aB xs∧h.DictOfH (tupleKind (kX P w)) a xs:=Ei ok (.inl e)
end
def MA(H:Hp)(a:Addr)(y:V)(r:Option V):Prop :=
 (∃aB k,Rd H a (.dK aB)∧y=kV k∧r=lH aB k)∨∃aB k b,Rd H a (.dT aB)∧y = .ref b∧H b=some (.tup (k.map kV))∧r=lH aB k
def LZ(H:Hp)(a:Addr)(y v:V)(H':Hp):Prop :=
 (∃aB k,H a=some (.dK aB)∧y=kV k∧aB.length<sizeLine∧H'=upd H a (.dK (putK aB k v))) ∨
 ∃aB k b,H a=some (.dT aB)∧y = .ref b∧H b=some (.tup (k.map kV))∧aB.length<sizeLine∧H'=upd H a (.dT (putK aB k v))
theorem MA.k{H:Hp}{a:Addr}{aB:List (Key×V)}{k:Key}(e:H a=some (.dK aB)):MA H a (kV k) (lH aB k) := .inl ⟨aB,k,.inl e,rfl,rfl⟩
theorem LZ.k{H:Hp}{a:Addr}{aB:List (Key×V)}{k:Key}{v:V}(e:H a=some (.dK aB))(hl:aB.length<sizeLine):LZ H a (kV k) v (upd H a (.dK (putK aB k v))) := .inl ⟨aB,k,e,rfl,hl,rfl⟩
section
variable{X:Cx}{pins:List (Addr×Obj)}{σ:St}{H:Hp}{s:Shared}{a:Addr}{y v:V}{u r:Value}{o:Option V}{A:Around}{E:Value→Shared→Prop}
theorem Inv.big(I:Inv X pins σ H s):sysModules<s.heap.objs.size:=by
 have h:mainGlobals<s.heap.objs.size:=(I.mod.glob.keeps I.bk).lt;exact Nat.lt_trans (by decide) h
theorem Vh{h':Heap}{t':Nat}{ob:HO}(I:Inv X pins σ H s)(mu:LD (H a))(hs:Heap.SameBut a s.heap h')(he:∃q,h'.get? a=some q)(new:gW X.prog X.w (upd H a ob) h' a ob) :
  Inv X pins σ (upd H a ob) { s with heap:=h',toks:=t' } :=
 I.write (x:=a) (e:=a) mu (.inl rfl) (fun b q hb z=>(hs.2 b hb).trans z) he new
theorem atP{P:Program}{w:World}{H':Hp}{h':Heap}{aB:List (Key×V)}{vs:List (Key×Value)}(z:aB.length≤sizeLine)(hd:(a == sysModules)=false)(rel:KV aB vs)(dd:h'.DictOf (kX P w) a vs) :
  gW P w H' h' a (.dK aB):=⟨z,hd,vs,rel,dd⟩
theorem atY{H':Hp}{Q:Unit→Shared→Prop}(hu:A.units+1<cLine)(I:Inv X pins σ H s)(g:LZ H a y v H')(ry:RelV y u)(rv:RelV v r)(h:∀s',Inv X pins σ H' s'→Q () s') :
  wpAny (model X.prog X.w) A (setItem (.ref a) u r) Q E s:=by
 rcases g with⟨aB,k,e,ey,l,eH⟩ | ⟨aB,k,b,e,ey,eb,l,eH⟩
 ·subst ey eH;obtain⟨z,hd,vs,rel,dd⟩:=Vc I.aK e;have hz:vs.length≤sizeLine:=by rw [← rel.length];exact z
  have hl:(putK aB k v).length≤sizeLine:=by have:=Qo aB k v;omega
  refine wpAny_setItem_pairs (hsz:=hz) (Ak ry) dd fun h' QM hs=>h _ ?_;have he:∃q,h'.get? a=some q:=let ⟨q,_,_,hq,_⟩:=QM; ⟨q,hq⟩;exact Vh I (by rw [e];exact True.intro) hs he (atP hl hd (rel.put k rv) QM)
 ·subst ey eH;cases(show u=Value.ref b from ry);obtain⟨z,hd,xs,rel,dd⟩:=atN I.aK e;have hz:xs.length≤sizeLine:=by rw [← Paired.length rel];exact z
  have hl:(putK aB k v).length≤sizeLine:=by have:=Qo aB k v;omega
  refine wpAny_setItem_heap (hsz:=hz) (tupleKind_room_in1 hu) (Ai I.aK eb) dd fun h' QM hs=>h _ ?_;obtain⟨q,es,ep,hq,h2,h3,h4,_,h5⟩:=QM;refine Vh I (by rw [e];exact True.intro) hs ⟨q,hq⟩ ⟨hl,hd,_,(rel.put k eb rv).keeps fun c ys ec=>?_,q,es,ep,hq,h2,h3,h4,h5⟩;rw [bA (wM ec e (fun z=>nomatch z))];exact ec
end
def ahX(td ty tv:TE):TS:=fun D σ H=>tv σ H fun v H1=>td σ H1 fun x H2=>ty σ H2 fun y H3=>∃a H4,x = .ref a∧LZ H3 a y v H4∧D.nx σ H4
section
variable{X:Cx}{o i e value:Expr}{pos pos' abP:Pos}{td ty tv:TE}
theorem ajO(hu:X.A.units+1<cLine)(ho:PE X o td)(hi:PE X i ty)(hv:PE X value tv)(hs:swapsWith value (some (.Subscript o i pos')) pos.line X.env=pure false) :
  PS X (.Assign [.Subscript o i pos'] value pos) (ahX td ty tv):=by
 intro pins s σ H D I h;refine wpAny_Assign_Subscript (aY (hv pins s σ H _ I h) fun r s1 ⟨v,H1,I1,rv,q1⟩=>aY (ho pins s1 σ H1 _ I1 q1) fun u s2 ⟨x,H2,I2,rx,q2⟩=>aY (hi pins s2 σ H2 _ I2 q2) fun iv s3 ⟨y,H3,I3,ry,a,H4,ex,g,q3⟩=>?_) hs;subst ex;obtain rfl:u=Value.ref a:=rx;exact atY hu I3 g ry rv fun s4 I4=>⟨σ,H4,I4,q3⟩
end
theorem atQ{P:Program}{w:World}{H:Hp}(h:Heap)(hb:sysModules<h.objs.size):gW P w H (h.push { cls := .type "dict",data := .dict #[] }) h.objs.size (.dK []) :=
 ⟨vH _,tL.mpr (cA (dH hb)),[],.nil,Heap.DictOf.new h⟩
def acM:TE:=fun _ H Q=>∀p,H p=none→Q (.ref p) (upd H p (.dK []))
section
variable{X:Cx}{pos:Pos}
theorem akT:PE X (.Dict [] [] pos) acM:=fun pins s σ H Q I h =>
 wpAny_Dict_empty ⟨.ref s.heap.objs.size,_,I.laid (a:=s.heap.objs.size) (o := .dK []) (t':=s.toks) (fun _ _ q=>cZ _ q) cE (atQ s.heap I.big),rfl,h _ (I.aK.fresh cE)⟩
end
structure M1(X:Cx)(o:Expr)(m:Str)(apos:Pos)(e:Expr)(kL:Pos):Prop where
 base:attributeBase o m X.env (eval o X.env)=eval o X.env
 Uo:((backTo kL (starEach [e] X.env)).all (fun x=>!x.1)&&(backToKw kL (keywordEach [] X.env)).all (fun x=>x.1.isSome)
  && decide (([e]:List Expr).length+([]:List Keyword).length+(if([]:List Keyword).isEmpty then 0 else 1)<30))=true
 line:(apos.endLine == kL.line)=true
 trees:backTo kL (starEach [e] X.env)=[(false,eval e X.env)]
structure M2(X:Cx)(o:Expr)(m:Str)(apos:Pos)(e f:Expr)(kL:Pos):Prop where
 base:attributeBase o m X.env (eval o X.env)=eval o X.env
 Uo:((backTo kL (starEach [e,f] X.env)).all (fun x=>!x.1)&&(backToKw kL (keywordEach [] X.env)).all (fun x=>x.1.isSome)
  && decide (([e,f]:List Expr).length+([]:List Keyword).length+(if([]:List Keyword).isEmpty then 0 else 1)<30))=true
 line:(apos.endLine == kL.line)=true
 trees:backTo kL (starEach [e,f] X.env)=[(false,eval e X.env),(false,eval f X.env)]
def Yo(H:Hp)(a:Addr):Prop:=(∃aB,Rd H a (.dK aB))∨∃aB,Rd H a (.dT aB)
theorem Rf{X:Cx}{pins:List (Addr×Obj)}{σ:St}{H:Hp}{s:Shared}{a:Addr}(I:Inv X pins σ H s)(d:Yo H a) :
  s.TypeIs (.ref a) "dict"∧(∀b,Value.ref a = .ref b→∃ob,s.heap.get? b=some ob∧ob.dict=none)∧(a == sysModules)=false:=by
 rcases d with⟨aB,e⟩ | ⟨aB,e⟩
 ·obtain⟨_,hd,vs,_,dd⟩:=Ek I.aK e;refine⟨dd.typeIs,fun b q=>?_,hd⟩;cases q;obtain⟨ob,_,_,h1,h2,_⟩:=dd;exact⟨ob,h1,h2.2.1⟩
 ·obtain⟨_,hd,xs,_,dd⟩:=Ei I.aK e;refine⟨dd.typeIs,fun b q=>?_,hd⟩;cases q;obtain⟨ob,_,_,h1,h2,_⟩:=dd;exact⟨ob,h1,h2.2.1⟩
section
variable{X:Cx}{pins:List (Addr×Obj)}{σ:St}{H:Hp}{s:Shared}{a:Addr}{y d:V}{u r:Value}{o:Option V}{A:Around}{E:Value→Shared→Prop}
theorem at1{Q:Value→Shared→Prop}(hu:A.units+1<cLine)(I:Inv X pins σ H s)(g:MA H a y o)(ry:RelV y u)(rd:RelV d r)(h:∀w' s',Inv X pins σ H s'→RelV (o.getD d) w'→Q w' s') :
  wpAny (model X.prog X.w) A (call (.builtin "dict.get") [.ref a,u,r]) Q E s:=by
 rcases g with⟨aB,k,e,ey,l⟩ | ⟨aB,k,b,e,ey,eb,l⟩
 ·subst ey;obtain⟨z,hd,vs,rel,dd⟩:=Ek I.aK e;refine call_meetsIn PySem.F.slot_dict_get dd.typeIs PySem.F.entry_dict_get (PySem.F.args_dict_get_3 _ _ _) (meets_dict_get_default (kX X.prog X.w) a (Ak ry) hd r) ⟨_,dd.mapOf,h _ _ (I.tok _) ?_⟩;rw [l];exact(rel.val k).getD rd
 ·subst ey;cases(show u=Value.ref b from ry);obtain⟨z,hd,xs,rel,dd⟩:=Ei I.aK e;refine call_meetsIn PySem.F.slot_dict_get dd.typeIs PySem.F.entry_dict_get (PySem.F.args_dict_get_3 _ _ _) (meetsH_dict_get_default (tupleKind (kX X.prog X.w)) a b hd r) ⟨tupleKind_room_in1 hu,k,xs,Ai I.aK eb,dd,h _ _ (I.tok _) ?_⟩;rw [l];exact(rel.val k).getD rd
end
def acN(td ty tx:TE):TE:=fun σ H Q=>td σ H fun x H1=>∃a,x = .ref a∧Yo H1 a∧ty σ H1 fun y H2=>tx σ H2 fun z H3=>∃o,MA H3 a y o∧Q (o.getD z) H3
section
variable{X:Cx}{o e f:Expr}{apos kL:Pos}{td ty tx:TE}
theorem akU(hu:X.A.units+1<cLine)(ho:PE X o td)(he:PE X e ty)(hf:PE X f tx)(m:M2 X o "get" apos e f kL):PE X (.Call (.Attribute o "get" apos) [e,f] [] kL) (acN td ty tx):=by
 intro pins s σ H Q I h;refine wpAny_Call_method m.base m.Uo m.line PySem.F.plainAttrs_dict PySem.F.slot_dict_get PySem.F.type_dict_get (aY (ho pins s σ H _ I h) fun u s1 ⟨x,H1,I1,rx,a,ex,d,q1⟩=>?_);subst ex;obtain rfl:u=Value.ref a:=rx;obtain⟨t1,t2,_⟩:=Rf I1 d;refine⟨t1,t2,?_⟩;rw [m.trees];refine Yy rfl (Calls.evalArgs_plain (Calls.spliced_cons (aY (he pins s1 σ H1 _ I1 q1) fun iv s2 ⟨y,H2,I2,ry,q2⟩ =>
  Calls.spliced_cons (aY (hf pins s2 σ H2 _ I2 q2) fun fv s3 ⟨z,H3,I3,rz,ov,g,q3⟩=>Calls.spliced_nil ?_))))
 exact at1 hu I3 g ry rz fun w' s4 I4 HF=>⟨_,H3,I4,HF,q3⟩
end
end L2
namespace Zc
open PySem PySem.W PySem.Calls PyProof.Rows
theorem aoQ{P:Params}{h:Heap}:∀(ns:List Int) (vs:List Value),WellAll P h vs (ns.map WData.int)→IntsAre vs ns:=by
 intro ns
 induction ns with
 | nil =>
  intro vs w;rw [BR]at w;cases w;exact .nil
 | cons n ns ih =>
  intro vs w;rw [fE]at w;cases w with
  | cons a b =>
   cases a;exact .cons _ _ (ih _ b)
theorem ahF{l:OpenLaw}{n:Nat}(hn:l.most=some n){P:Params}{h:Heap}{args:List WData}{vals:List Value}
  (EF:l.row.toRowW.claim.pre args=true) (IP:WellAll P h vals args) :
  ∃a vs ns,vals=[Value.ref a]∧args=[WData.list (ns.map WData.int)]∧h.get? a=some { cls := .type "list",data := .seq vs.toArray }∧IntsAre vs ns∧ns.length≤n:=by
 have IT:WShape.hasAll [] args [.list .int]=true:=(pre_splitW EF).1;have hc:l.pre.holds [] { args:=args }=true:=(pre_splitW EF).2;obtain⟨d,r,rfl,h1,h2⟩:=hasAllW_cons IT;obtain rfl:=hasAllW_nil h2;obtain⟨xs,rfl,h3⟩:=hasW_list h1;obtain⟨ns,rfl⟩:=items_int h3;have hlen:ns.length≤n:=by
  unfold OpenLaw.pre at hc;have h4:(WTm.not (.lt (.lit (.int (n:Int))) (.len (.arg 0)))).holds [] { args:=[.list (ns.map .int)] }=true:=by
   have h4:=(holds_andW hc).1;rw [hn]at h4;exact h4
  have h5:=condW_of h4 (w_not (w_lt w_lit (w_len_list (w_arg rfl))));rw [fW]at h5;refine Hd fun q=>?_;have q':(n:Int)<((ns.length:Nat):Int):=by omega
  first
   | (rw [tJ q']at h5;exact absurd h5 (by decide))
   | (simp at h5;omega)
 cases IP with
 | cons w1 w2 =>
  cases w2;cases w1 with
  | list ho qN=>exact⟨_,_,ns,rfl,rfl,ho,aoQ ns _ qN,hlen⟩
theorem ajR(l:OpenLaw)(args:List WData):l.row.toRowW.claim.post args (.bool true) args=true :=
 postW_of (r:=l.row.toRowW) (X:=(true == true))
  (show WShape.has [] (.bool true) .bool=true by first | rfl | decide | simp [WShape.has,WShape.arms,WShape.armsAll])
  (show(WTm.eq .res (.lit (.bool true))).value [] { args:=args,res:=some (.bool true),after:=args }=some (.bool (true == true))from w_eq_bool (w_res rfl) w_lit) rfl
theorem avV{l:OpenLaw}{n:Nat}{q:Program}{loose:List Str}{XP:(Str→Option Value)→Heap→Prop}{YP:World→Heap→Prop}{d:DefRec}
  (hn:l.most=some n) (JN:d.params.defaults=[])
  (call:∀(w:World) (s₀ s₁:Shared) (mg mb:Str→Option Value) (fa:Addr) (o:Obj) (pm cd doc:Value) (a:Addr) (vs:List Value) (ns:List Int),
   Ground q loose [] XP w s₀ mg mb s₁.heap→YP w s₁.heap →
   s₁.heap.get? fa=some o→o.data = .func (docDef d.name d.params d.body d.scope pm cd doc)→s₁.heap.CodeRec cd d.name→mg d.name=some (.ref fa) →
   s₁.heap.get? a=some { cls := .type "list",data := .seq vs.toArray }→IntsAre vs ns→ns.length≤n→s₁.gens = #[] →
   codeAny (model l.prog w) callerA (.call (.ref fa) ⟨[.ref a],[]⟩) (fun r s'=>r = .ok (.ret (.bool true))∧OldK s₁.heap s'.heap∧s'.os=s₁.os∧AllBare s'.gens) s₁) :
  WalkO q loose XP YP l.row.toRowW d [] (fun f vs=>PySem.call f vs):=by
 intro w s₀ s₁ mg mb G Y fa o pm cd doc dV kV ho hd mO hD IY hg args vals as EF azB hrd IP fR;obtain rfl:dV = .none:=Dflts.none hD JN;obtain rfl:kV = .none:=Dflts.noKw hD;obtain⟨a,vs,ns,rfl,rfl,Ay,hints,hlen⟩:=ahF hn EF IP;refine enter_call (xP (call w s₀ s₁ mg mb fa o pm cd doc a vs ns G Y ho (fd_plain hd) mO IY Ay hints hlen hg) fun r s' hq=>?_);obtain⟨rfl,h2,h3,h4⟩:=hq;exact⟨.inl ⟨.bool true,.bool true,[],rfl,fun _=>rfl,.bool true,ajR l _,fun _=>⟨List.Pairwise.nil,fun _ hm=>(nomatch hm)⟩⟩,h2,h3,h4⟩
section
variable{prog:Program}{w:World}{A:Around}{E:Value→Shared→Prop}{s:Shared}{K:Frag}
def ledger(h:Heap)(L d:Addr):List (Addr×Obj):=(List.range h.objs.size).filterMap fun a=>if a=L∨a=d then none else(h.get? a).map fun o=>(a,o)
end
end Zc
namespace L2
open PySem PySem.Spec PyProof.Rows
theorem TY:∀{vs:List Value} {ns:List Int},IntsAre vs ns→Vals (ns.map V.int) vs
 | _,_,.nil => .nil
 | _,_,.cons n t h => .cons ⟨t,rfl⟩ (TY h)
def Hb(H:Hp):Prop:=∀b,H b=none∨∃o xs,H b=some (.cK o (.lst xs))
theorem anP{P:Program}{w:World}{K:Frag}{mg mb:Str→Option Value}{CX:pA}{k:Nat}{fa a:Addr}{fd:FuncData}{x:Str}{sp:Sp}{s₁:Shared}{vs:List Value}{ns:List Int}
  (KX:K.In s₁.heap) (zZ:s₁.heap.Ns mainGlobals mg) (hb:s₁.heap.Ns builtinsNs mb) (hbb:∀x:Str,x ≠ "__name__"→mb x=bootBuiltins x) (ap8:s₁.heap.NoLimit) (hg:s₁.gens = #[])
  (ha:s₁.heap.get? a=some { cls := .type "list",data := .seq vs.toArray }) (hi:IntsAre vs ns) (hl:ns.length≤sizeLine) (hr:cY k callerA)
  (F:∀base:Heap,K.In base→base.Ns mainGlobals mg→iV P w K mg base CX k fa fd [x] sp) (aq5:∀(s:Shared) (u:Value),BindsTo s fd ⟨[u],[]⟩ [(x,u)])
  (mK:∀H:Hp,Hb H→fK K H a (ns.map V.int)→sp [.ref a] H (fun v _=>v = .bl true) fun _ _ _=>False)
  (Ca:∀H e s',CX [] H s₁ (fun _ _ _=>False) e s'→False) :
  codeAny (model P w) callerA (.call (.ref fa) ⟨[.ref a],[]⟩) (fun r s'=>r = .ok (.ret (.bool true))∧OldK s₁.heap s'.heap∧s'.os=s₁.os∧AllBare s'.gens) s₁:=by
 have rv:=TY hi;have anL:=hi.length;have core:∀H:Hp,Hb H→fK K H a (ns.map V.int)→eW P w H s₁.heap→(∀b,H b≠none→b=a)→(H a≠none→K.lookup a=none) →
   codeAny (model P w) callerA (.call (.ref fa) ⟨[.ref a],[]⟩) (fun r s'=>r = .ok (.ret (.bool true))∧OldK s₁.heap s'.heap∧s'.os=s₁.os∧AllBare s'.gens) s₁:=by
  intro H hO hS aK hA hK;have Wq:∀{b:Addr} {o:Obj},s₁.heap.get? b=some o→H b=none→(uV s₁.heap H).get? b=some o:=fun e n=>aqG e n;have HX:∀{b:Addr} {o:Obj} {es:Array DictEntry} {ep:Nat},s₁.heap.get? b=some o→o.data = .dict es ep→H b=none:=fun{b o es ep} e d=>by
   cases q:H b with
   | none=>rfl
   | some u =>
    have e':b=a:=hA b (by rw [q];simp);subst e';rw [ha]at e;cases e;have d':Data.seq vs.toArray _=Data.dict es ep:=d;cases d'
  have OJ:∀{b:Addr} {m:Str→Option Value},s₁.heap.Ns b m→(uV s₁.heap H).Ns b m:=fun{b m} ⟨o,es,ep,e,d,r⟩=>⟨o,es,ep,Wq e (HX e d),d,r⟩
  have Tq:K.In (uV s₁.heap H):=fun b o e=>Wq (KX b o e) (by
   cases q:H b with
   | none=>rfl
   | some u =>
    have e':b=a:=hA b (by rw [q];simp);subst e';rw [hK (by rw [q];simp)]at e;cases e)
  have hM:Mod K mg (uV s₁.heap H):=⟨Tq,OJ zZ,⟨mb,OJ hb,hbb⟩,let ⟨mc,h1,h2⟩:=ap8; ⟨mc,OJ h1,h2⟩⟩;have e0:CH P w K mg (uV s₁.heap H) callerA [] s₁ H:=⟨rfl,hM,fun b o e=>alT e,Nat.le_of_eq (aqF _ _),trivial,fun b hb=>absurd (show b∈([]:List Addr)from hb) (by simp),aK,.of_eq hg⟩;refine xP ((F _ Tq (OJ zZ)).run callerA [] s₁ H ⟨[.ref a],[]⟩ [.ref a] [.ref a] _ _ hr e0 (aq5 s₁ (.ref a)) (.cons rfl .nil) (mK H hO hS)) fun r s' h=>?_;cases r with
  | error e=>exact(Ca H e s' h).elim
  | ok fl =>
   cases fl with
   | next=>exact False.elim h
   | brk=>exact False.elim h
   | cont=>exact False.elim h
   | ret u =>
    obtain⟨v,H',os,bare,un,IX,r',q⟩:=h;have q':v = .bl true:=q;subst q';obtain rfl:u=Value.bool true:=r';refine⟨rfl,OldK.of_keep fun b o e=>?_,os,bare⟩;cases q:H b with
    | none=>exact un.keep b o e q (by intro z;exact absurd (show b∈([]:List Addr)from z) (by simp)) (by simp)
    | some u =>
     rcases hO b with z | ⟨ob,xs,z⟩
     ·rw [q]at z;cases z
     ·have z2:=un.kJ b ob _ z;obtain⟨e1,_⟩:=aK b _ z;obtain⟨e2,_⟩:=IX b _ z2;rw [e]at e1;cases e1;exact e2
 cases hk:K.lookup a with
 | some o =>
  have e:=KX a o hk;rw [ha]at e;cases e;refine core (fun _=>none) (fun _ => .inl rfl) (.inr ⟨_,vs.toArray,_,hk,rfl,rfl,rfl,by rw [fL,anL];exact hl,by simpa using rv⟩) (fun b u z=>by have z':(none:Option HO)=some u:=z;cases z') (fun b z=>absurd rfl z) fun z=>absurd rfl z
 | none =>
  refine core (fun b=>if b=a then some (.cK { cls := .type "list",data := .seq vs.toArray } (.lst (ns.map V.int)))else none) (fun b=>?_) (.inl (.inr ⟨{ cls := .type "list",data := .seq vs.toArray },if_pos rfl⟩)) (fun b u z=>?_) (fun b z=>?_) fun _=>hk
  ·by_cases hb:b=a
   ·exact .inr ⟨_,_,if_pos hb⟩
   ·exact .inl (if_neg hb)
  ·by_cases hb:b=a
   ·have z':=(if_pos hb).symm.trans z;cases z';subst hb;exact⟨ha,by rw [fW];exact hl,vs,_,rv,ha⟩
   ·have z':=(if_neg hb).symm.trans z;cases z'
  ·by_cases hb:b=a
   ·exact hb
   ·exact absurd (if_neg hb) z
theorem aaJ{l:OpenLaw}{n k:Nat}{q:Program}{loose:List Str}{XP:(Str→Option Value)→Heap→Prop}{YP:World→Heap→Prop}{d:DefRec}{K:Params→Frag}{CX:World→pA}{sp:World→Sp}{x:Str}
  (hn:l.most=some n) (sW:n≤sizeLine) (JN:d.params.defaults=[]) (hr:cY k callerA)
  (hY:∀(w:World) (h:Heap),YP w h→(K w.params).In h)
  (F:∀(w:World) (mg:Str→Option Value) (fa:Addr) (h:Heap),(K w.params).In h→h.Ns mainGlobals mg→mg d.name=some (.ref fa) →
   ∃fd:FuncData,(∀(s:Shared) (u:Value),BindsTo s fd ⟨[u],[]⟩ [(x,u)]) ∧
    ∀base:Heap,(K w.params).In base→base.Ns mainGlobals mg→iV l.prog w (K w.params) mg base (CX w) k fa fd [x] (sp w))
  (mK:∀(w:World) (H:Hp) (a:Addr) (ns:List Int),ns.length≤n→Hb H→fK (K w.params) H a (ns.map V.int)→sp w [.ref a] H (fun v _=>v = .bl true) fun _ _ _=>False)
  (Ca:∀(w:World) (H:Hp) (s:Shared) (e:Value) (s':Shared),CX w [] H s (fun _ _ _=>False) e s'→False) :
  PySem.W.WalkO q loose XP YP l.row.toRowW d [] (fun f vs=>PySem.call f vs):=by
 refine Zc.avV hn JN fun w s₀ s₁ mg mb fa o pm cd doc a vs ns G Y ho hd mO IY Ay hints hlen hg=>?_;have KX:=hY w _ Y;obtain⟨fd,hb,hF⟩:=F w mg fa _ KX G.T.g IY;exact anP KX G.T.g G.T.b G.T.builtins G.T.nolimit hg Ay hints (kN hlen sW) hr hF hb (fun H hO hS=>mK w H a ns hlen hO hS) fun H e s'=>Ca w H s₁ e s'
def inClass(s:Stmt)(j:Nat):Stmt:=match s with
 | .ClassDef _ _ _ body _ _ _ _ _ _ _=>body.getD j (.Pass ⟨0,0,0,0⟩)
 | _ => .Pass ⟨0,0,0,0⟩
def mR(s:Stmt):Arguments:=match s with
 | .FunctionDef _ a _ _ _ _ _ _ _ _=>a
 | _=>{ posonlyargs:=[],args:=[],vararg:=none,kwonlyargs:=[],kw_defaults:=[],kwarg:=none,defaults:=[] }
def hV(s:Stmt):List Stmt:=match s with
 | .FunctionDef _ _ b _ _ _ _ _ _ _=>b
 | _=>[]
def aX(s:Stmt):Scope:=match s with
 | .FunctionDef _ _ _ _ _ _ sc _ _ _=>sc
 | _=>{ kind := .function,names:=[],isGenerator:=false,isCoroutine:=false }
abbrev CK:pA:=fun _ _ _ _ _ _=>False
abbrev E0:XK:=fun _ _ _=>False
theorem ak4{X:Cx}:Passes CK X E0:=fun _ _ _ _ _ _ _ h=>h.elim
structure rA(K:Frag)(x qual:Str)(st:Stmt)(f:Addr)(fd:FuncData):Prop where
 ex:∃(oc:Value) (od:Option Addr) (kV doc pm:Value) (an:Option Addr) (bC ct:Value) (jT:Array (Option Value)),
  fd=fnOf x qual (mR st) (hV st) (aX st) .none kV doc pm an bC ct∧K.lookup f=some ⟨oc,od,.func fd,jT⟩∧codeIn K bC qual=true
 kp:keepIn K (.ref f)=true
section
variable{P:Program}{w:World}{K:Frag}{mg:Str→Option Value}{base:Heap}
theorem rA.binds{x qual:Str}{st:Stmt}{f:Addr}{fd:FuncData}{ps:List Str}(F:rA K x qual st f fd)
  (h:∀(kV doc pm:Value) (an:Option Addr) (bC ct:Value) (us:List Value),us.length=ps.length→bindArgs (fnOf x qual (mR st) (hV st) (aX st) .none kV doc pm an bC ct) ⟨us,[]⟩=pure (ps.zip us)):Binds K fd ps []:=by
 obtain⟨oc,od,kV,doc,pm,an,bC,ct,jT,rfl,lk,mO⟩:=F.ex;exact .all (h kV doc pm an bC ct)
theorem JW{x qual:Str}{st:Stmt}{f:Addr}{oc:Value}{od an:Option Addr}{jT:Array (Option Value)}{kV doc pm bC ct:Value}(l:K.lookup f=some ⟨oc,od,.func (fnOf x qual (mR st) (hV st) (aX st) .none kV doc pm an bC ct),jT⟩)
  (c:codeIn K bC qual=true) (k:keepIn K (.ref f)=true):rA K x qual st f (fnOf x qual (mR st) (hV st) (aX st) .none kV doc pm an bC ct):=⟨⟨oc,od,kV,doc,pm,an,bC,ct,jT,rfl,l,c⟩,k⟩
end
def kM(H H':Hp):Prop:=∀b o,H b=some o→H' b=some o
theorem kM.refl(H:Hp):kM H H:=fun _ _ h=>h
theorem kM.trans{H H1 H2:Hp}(a:kM H H1)(b:kM H1 H2):kM H H2:=fun c o h=>b c o (a c o h)
theorem kM.free{H H':Hp}(e:kM H H'){l:Addr}(h:H' l=Option.none):H l=Option.none:=by
 cases q:H l with
 | none=>rfl
 | some o =>
  rw [e l o q]at h;cases h
theorem kM.seq{K:Frag}{H H':Hp}{a:Addr}{xs:List V}(e:kM H H')(h:fK K H a xs):fK K H' a xs:=by
 rcases h with(h | ⟨o,h⟩) | h
 ·exact .inl (.inl (e _ _ h))
 ·exact .inl (.inr ⟨o,e _ _ h⟩)
 ·exact .inr h
theorem Et(env:Env):∀(names:List (Str×NameKind)) (cs:List (Str×Addr)),(∀y∈names,y.2 = .free→∃c,env.cells.lookup y.1=some c) →
  ∃cl,(forIn names cs (fun(x:Str×NameKind) (cs:List (Str×Addr))=>(match x with | (name,kind)=>if(kind == NameKind.free)=true then(do let c ← cellOf env name;pure (ForInStep.yield ((name,c)::cs)))else pure (ForInStep.yield cs))):Sem (List (Str×Addr)))=pure cl ∧
   (∀x c,cl.lookup x=some c→cs.lookup x=some c∨env.cells.lookup x=some c)∧(∀y∈names,y.2 = .free→∃c,cl.lookup y.1=some c)∧(∀x c,cs.lookup x=some c→∃c',cl.lookup x=some c')
 | [],cs,_=>⟨cs,rfl,fun _ _ h => .inl h,fun _ h=>(nomatch h),fun _ c h=>⟨c,h⟩⟩
 | (n,k)::r,cs,h=>by
  by_cases hk:k = .free
  ·subst hk;obtain⟨c,hc⟩:=h (n,.free) sP rfl;obtain⟨cl,e,h1,h2,h3⟩:=Et env r ((n,c)::cs) fun y hy=>h y (iB _ hy);refine⟨cl,?_,fun x d hd=>?_,fun y hy hf=>?_,fun x d hd=>?_⟩
   ·rw [List.forIn_cons];simp only [beq_self_eq_true,dP,cellOf,hc,pure_bind];exact e
   ·rcases h1 x d hd with q | q
    ·rw [FX]at q;split at q
     ·rename_i hx;have rN:x=n:=by simpa using hx
      subst rN;exact .inr (hc.trans q)
     ·exact .inl q
    ·exact .inr q
   ·rcases dZ.mp hy with e' | e'
    ·subst e';exact h3 n c (by simp)
    ·exact h2 y e' hf
   ·by_cases hx:x=n
    ·subst hx;exact h3 x c (by simp)
    ·have hb:(x == n)=false:=by simpa using hx
     exact h3 x d (by rw [FX,hb];exact hd)
  ·obtain⟨cl,e,h1,h2,h3⟩:=Et env r cs fun y hy=>h y (iB _ hy);have hb:(k == NameKind.free)=false:=by simpa using hk
   refine⟨cl,?_,h1,fun y hy hf=>?_,h3⟩
   ·rw [List.forIn_cons];simp only [hb,iD,eF,pure_bind];exact e
   ·rcases dZ.mp hy with e' | e'
    ·subst e';exact absurd hf hk
    ·exact h2 y e' hf
theorem Vr{scope:Scope}{env:Env}(h:∀y∈scope.names,y.2 = .free→∃c,env.cells.lookup y.1=some c) :
  ∃cl,closureFor scope env=pure cl∧(∀x c,cl.lookup x=some c→env.cells.lookup x=some c)∧∀y∈scope.names,y.2 = .free→∃c,cl.lookup y.1=some c:=by
 obtain⟨cl,e,h1,h2,_⟩:=Et env scope.names [] h;refine⟨cl,?_,fun x c hc=>(h1 x c hc).resolve_left (by simp),h2⟩;unfold closureFor;refine Eq.trans (congrArg (fun m=>m >>= fun cs=>pure cs) e) ?_;rfl
section
variable{prog:Program}{w:World}{A:Around}{R:Result→Shared→Prop}{s:Shared}
theorem Vl{elt target iter:Expr}{ifs:List Expr}{scope:Scope}{pos:Pos}{it acc:Value}{env:Env}(I:Nat→Shared→Prop)
  (turn:∀n s,I n s→wpAny (model prog w) A (pyNext it) (fun r s₁=>match r with
   | none=>R (.ok .next) s₁
   | some v=>wpAny (model prog w) A (letOwnedTupleGo target it v) (fun _ Mb=>wpAny (model prog w) A (assign target env v) (fun _ s₂ =>
     wpAny (model prog w) A (forIn ifs true fun c r=>if r=true then do let ok ← isTrue c env (eval c env);pure (ForInStep.yield ok)else pure (ForInStep.yield r)) (fun ok s₃ =>
      if ok=true then wpAny (model prog w) A (eval elt env) (fun x s₄ =>
       wpAny (model prog w) A (call (.builtin "list.append") [acc,x]) (fun _ s₅=>∃m,m<n∧I m s₅) (fun _ _=>False) s₄) (fun _ _=>False) s₃
      else ∃m,m<n∧I m s₃) (fun _ _=>False) s₂) (fun _ _=>False) Mb) (fun _ _=>False) s₁) (fun _ _=>False) s)
  (n:Nat) (h:I n s) :
  codeAny (model prog w) A (.compLoop (.ListComp elt [⟨target,iter,ifs,0⟩] scope pos) 0 it acc env) R s:=by
 refine codeAny_loop rfl I (fun n s hI=>?_) n h;show wpAny _ A ((compTurn (.ListComp elt [⟨target,iter,ifs,0⟩] scope pos) 0 it acc env).onRaise (fun x=>do noteFrame x env;theTreesLotGoes x)) _ _ s;refine wpAny_noted ?_;rw [compTurn_list];refine aE (wpAny_standAt (aE (qE (turn n s hI) (fun r s₁ h₁=>?_) fun _ _ h'=>h'.elim)));cases r with
 | none=>exact aQ h₁
 | some v =>
  refine aE (qE h₁ (fun _ Mb h₁'=>?_) fun _ _ h'=>h'.elim);refine aE (qE h₁' (fun _ s₂ h₂=>aE (qE h₂ (fun ok s₃ h₃=>?_) fun _ _ h'=>h'.elim)) fun _ _ h'=>h'.elim);cases ok with
  | false=>exact aQ ⟨rfl,h₃⟩
  | true =>
   exact aE (aE (qE h₃ (fun x s₄ h₄=>aE (qE h₄ (fun _ s₅ h₅=>aQ (aQ ⟨rfl,h₅⟩)) fun _ _ h'=>h'.elim)) fun _ _ h'=>h'.elim))
end
def FQ(X:Cx)(ifs:List Expr)(t:TT):Prop :=
 ∀(pins:List (Addr×Obj)) (s:Shared) (σ:St) (H:Hp) (Q:Bool→Hp→Prop),Inv X pins σ H s→t σ H Q →
  wpAny (model X.prog X.w) X.A (forIn ifs true fun c r=>if r=true then do let ok ← isTrue c X.env (eval c X.env);pure (ForInStep.yield ok)else pure (ForInStep.yield r)) (TP X pins σ Q) X.xe s
def ab4:TT:=fun _ H Q=>Q true H
theorem ajZ{X:Cx}:FQ X [] ab4:=fun _ _ _ H _ I h=>wpAny_tests_nil ⟨H,I,h⟩
theorem ajY{X:Cx}{c:Expr}{t:TT}(h:PT X c t):FQ X [c] t:=fun pins s σ H Q I q=>wpAny_tests_one (h pins s σ H Q I q)
def eQ(X:Cx)(scope:Scope)(ls:List Str)(js:List Nat)(cl:List (Str×Addr))(C:Addr)(s:Shared)(H:Hp)(fp:List Addr):Cx :=
 { X with N:=ls++js.map (fun j=>X.N.getD j Str.empty),s₀:=s,H₀:=H,env:=compEnvC scope cl C X.env,outer:=X.stack,ex:=fp,fn:=fun _=>false,xe:=fun _ _=>False }
def sQ(ls:List Str)(js:List Nat)(σ:St):St:=ls.map (fun _=>none)++js.map (fun j=>(σ[j]?).join)
def gk(env:Env)(n:Str)(k:NameKind):NameKind:=if(k == NameKind.free&&env.scope.kind == .function&&env.kindOf n == some .cell)=true then .cell else k
theorem Ny(env:Env)(names:List (Str×NameKind)):(names.map fun(n,k)=>if(k == NameKind.free&&env.scope.kind == .function&&env.kindOf n == some .cell)then(n,NameKind.cell)else(n,k))=names.map fun p=>(p.1,gk env p.1 p.2):=by
 refine RX fun p _=>?_;obtain⟨n,k⟩:=p;show(if(k == NameKind.free&&env.scope.kind == .function&&env.kindOf n == some .cell)=true then(n,NameKind.cell)else(n,k))=(n,gk env n k);unfold gk;split <;> rfl
theorem YL(env:Env)(x:Str):∀names:List (Str×NameKind),(names.map fun p=>(p.1,gk env p.1 p.2)).lookup x=(names.lookup x).map (gk env x)
 | []=>rfl
 | (n,k)::r=>by
  rw [fE];cases hx:x == n with
  | true =>
   have e:x=n:=by simpa using hx
   subst e;rw [FX,FX];simp
  | false =>
   rw [FX,FX];simp only [hx];exact YL env x r
theorem lookup_mem{x:Str}{k:NameKind}:∀{names:List (Str×NameKind)},names.lookup x=some k→(x,k)∈names
 | [],h=>by simp at h
 | (n,k')::r,h=>by
  rw [FX]at h;cases hx:x == n with
  | true =>
   have e:x=n:=by simpa using hx
   subst e;simp only [beq_self_eq_true]at h;cases h;exact List.mem_cons_self ..
  | false =>
   simp only [hx]at h;exact iB _ (lookup_mem h)
theorem DV{env:Env}{names:List (Str×NameKind)}{x:Str}(h:names.lookup x=some .free) :
  (names.map fun(n,k)=>if(k == NameKind.free&&env.scope.kind == .function&&env.kindOf n == some .cell)then(n,NameKind.cell)else(n,k)).lookup x=some .cell ∨
  (names.map fun(n,k)=>if(k == NameKind.free&&env.scope.kind == .function&&env.kindOf n == some .cell)then(n,NameKind.cell)else(n,k)).lookup x=some .free:=by
 rw [Ny,YL,h];show some (gk env x .free)=some .cell∨some (gk env x .free)=some .free;unfold gk;split
 ·exact .inl rfl
 ·exact .inr rfl
theorem HH{env:Env}{names:List (Str×NameKind)}{x:Str}(hc:∀y∈names,y.2 ≠ .cell)
  (h:(names.map fun(n,k)=>if(k == NameKind.free&&env.scope.kind == .function&&env.kindOf n == some .cell)then(n,NameKind.cell)else(n,k)).lookup x=some .cell ∨
   (names.map fun(n,k)=>if(k == NameKind.free&&env.scope.kind == .function&&env.kindOf n == some .cell)then(n,NameKind.cell)else(n,k)).lookup x=some .free):(x,NameKind.free)∈names:=by
 rw [Ny,YL]at h;cases e:names.lookup x with
 | none=>rw [e]at h;rcases h with h | h <;> cases h
 | some k =>
  have hm:=lookup_mem e
  by_cases hk:k = .free
  ·rw [hk]at hm;exact hm
  ·rw [e]at h;have hg:gk env x k=k:=by
    unfold gk;have hb:(k == NameKind.free)=false:=by simpa using hk
    rw [hb];rfl
   have h':gk env x k = .cell∨gk env x k = .free:=h.imp (fun z=>mS z) fun z=>mS z;rw [hg]at h'
   rcases h' with z | z
   ·exact absurd z (hc _ hm)
   ·exact absurd z hk
structure yF(X:Cx)(scope:Scope)(ls:List Str)(js:List Nat):Prop where
 kind:scope.kind = .function
 cell:∀y∈scope.names,y.2 ≠ .cell
 names:∀y∈scope.names,y.2 = .local→scope.names.lookup y.1=some .local
 free:∀y∈scope.names,y.2 = .free→X.env.kindOf y.1=some .cell∨X.env.kindOf y.1=some .free
 Ew:∀j∈js,∃x,X.N[j]? = some x∧scope.names.lookup x=some .free
section
variable{X:Cx}{pins:List (Addr×Obj)}{σ:St}{H:Hp}{s:Shared}
theorem Qu{scope:Scope}{ls:List Str}{js:List Nat}{cl:List (Str×Addr)}{C:Addr}{fp:List Addr}(L:yF X scope ls js)(I:Inv X pins σ H s)
  (h1:∀x c,cl.lookup x=some c→X.env.cells.lookup x=some c) (h2:∀y∈scope.names,y.2 = .free→∃c,cl.lookup y.1=some c)
  {s':Shared} {H':Hp} (hC:s'.heap.objs.size≤C) (bs:∀b o,X.base.get? b=some o→s'.heap.get? b=some o∧H' b=none) (pU:X.base.objs.size≤s'.heap.objs.size)
  (oG:s'.heap.FunFrames X.base X.stack) (tF:∀b∈fU X.stack,H' b=none)
  (EW:∀b∈fp,b≠C∧∀x c,X.env.cells.lookup x=some c→c≠b) (uM:∀b o,X.base.get? b=some o→b∉fp) (AU:∀b∈fp,b∉fU X.stack) :
  (eQ X scope ls js cl C s' H' fp).Ok where
 mod:=I.ok.mod
 kind:=L.kind
 glob:=I.ok.glob
 blt:=I.ok.blt
 above:=hC
 inj:=fun x y c a b=>I.ok.inj x y c (h1 x c a) (h1 y c b)
 has:=fun x hx=>h2 (x,.free) (HH (env:=X.env) L.cell hx) rfl
 FD:=fun x c z=>by cases z
 hd:=I.ok.hd
 frames:=I.ok.frames
 rJ := .inl rfl
 EW:=fun b hb=>⟨(EW b hb).1,fun x c e=>(EW b hb).2 x c (h1 x c e)⟩
 bs:=bs
 pU:=pU
 uM:=uM
 AU:=AU
 oG:=oG
 tF:=tF
theorem Qr{ls:List Str}{js:List Nat}{i:Nat}{v:V}(h:(sQ ls js σ)[i]? = some (some v)):∃k j,i=ls.length+k∧js[k]? = some j∧σ[j]? = some (some v):=by
 unfold sQ at h
 by_cases hi:i<ls.length
 ·rw [eK (by simpa using hi),lF]at h;cases e:ls[i]? with
  | none=>rw [e]at h;cases h
  | some y=>rw [e]at h;cases h
 ·rw [nK (by simpa using Hd hi),lF,fW]at h;cases e:js[i - ls.length]? with
  | none=>rw [e]at h;cases h
  | some j =>
   rw [e]at h;refine⟨i - ls.length,j,by omega,e,?_⟩;have h':(σ[j]?).join=some v:=mS h;cases q:σ[j]? with
   | none=>rw [q]at h';cases h'
   | some o =>
    rw [q]at h';exact congrArg some h'
def LcR(ls:List Str)(js:List Nat)(g:TG)(tc:TT)(te:TE)(σ:St)(Q:VK)(J:It)(H1:Hp):Prop:=∀D,H1 D=none →
 ∃W:Nat→Nat→St→Hp→Prop,(∃m,W 0 m (sQ ls js σ) (upd H1 D (.lst [])))∧∀i m σ' H',W i m σ' H' →
  (J.stop i H'∧Q (.ref D) H')∨(J.go i H'∧∃N:St→Hp→Prop,(∀σ2 H2,N σ2 H2→∃m',m'<m∧W (i+1) m' σ2 H2) ∧
   ∀x H2,J.vR i H' x H2→g x σ' H2 fun σ3 H3=>tc σ3 H3 fun c H4=>if c=true then te σ3 H4 fun y H5=>∃ys,H5 D=some (.lst ys)∧ys.length<sizeLine∧N σ3 (upd H5 D (.lst (ys++[y])))else N σ3 H4)
def UR(ls:List Str)(js:List Nat)(wi:TI)(g:TG)(tc:TT)(te:TE):TE:=fun σ H Q=>wi σ H (LcR ls js g tc te σ Q)
theorem akO{elt tg iter:Expr}{ifs:List Expr}{scope:Scope}{pos:Pos}{ls:List Str}{js:List Nat}{wi:TI}{g:TG}{tc:TT}{te:TE}(hc:X.calm=true)(L:yF X scope ls js)(hi:PI X tg iter wi)
  (hb:∀cl C s H fp,PG (eQ X scope ls js cl C s H fp) tg g∧FQ (eQ X scope ls js cl C s H fp) ifs tc∧PE (eQ X scope ls js cl C s H fp) elt te)
  (hs:∀x,foldedSetIterable iter X.env x=pure x:=by intro _;rfl):PE X (.ListComp elt [⟨tg,iter,ifs,0⟩] scope pos) (UR ls js wi g tc te):=by
 intro pins s σ H Q I h;obtain⟨cl,jI,eS,fS⟩:=Vr (scope:=scope) (env:=X.env) fun y hy hf=>I.ok.has y.1 (L.free y hy hf);rw [eval_ListComp];refine wpAny_comprehension_free (use:=none) rfl hs jI L.kind L.names (aY (hi pins s σ H _ I h) fun v s1 h1=>aY h1 fun OV s2 h2=>?_);obtain⟨it,fp,tn,J,H1,e,I2,T,gZ,f2,h2⟩:=h2;subst e;refine mV (wpAny_newFunctionEnv L.cell (by intro y hy;simp at hy) (fun h₁ zY zX=>?_) L.kind);dsimp only at zY zX ⊢;generalize AM:s2.heap.push { cls := .type "list",dict:=none,data := .seq ([]:List Value).toArray }=G2 at zY zX ⊢;have PZ:G2.objs.size=s2.heap.objs.size+1:=by rw [← AM,CA]
 have JT:H1 s2.heap.objs.size=none:=I2.aK.fresh cE;have Cb:H1 G2.objs.size=none:=I2.aK.fresh (by omega);have Bz:s2.heap.objs.size≠G2.objs.size:=by omega
 have By:G2.get? s2.heap.objs.size=some { cls := .type "list",dict:=none,data := .seq ([]:List Value).toArray }:=by rw [← AM];exact gM _ rfl
 have zS:∀b o,s2.heap.get? b=some o→G2.get? b=some o:=fun b o e=>by rw [← AM];exact cZ _ e
 have I3:Inv X pins σ (upd H1 s2.heap.objs.size (.lst [])) { s2 with heap:=G2,toks:=s2.toks } :=
  I2.laid (t':=s2.toks) zS cE (show gW X.prog X.w _ G2 _ (.lst [])from⟨by simp,[],0,.nil,By⟩)
 have zT:∀b o,G2.get? b=some o→h₁.get? b=some o:=fun b o e=>(zX.2 b (dH (cR e))).trans (cZ _ e);have I4:Inv X pins σ (upd H1 s2.heap.objs.size (.lst [])) { s2 with heap:=h₁,toks:=s2.toks+0 }:=I3.kept (h':=h₁) (t':=s2.toks+0) zT;generalize hT:(H1,(⟨tg,iter,ifs,0⟩:Comprehension))=Al;clear hT Al;have AR:∀b∈fp,b<s2.heap.objs.size:=fun b hb=>by
  obtain⟨o,e,_⟩:=T.obj 0 _ gZ b hb;exact cR e
 have fpD:s2.heap.objs.size∉fp:=fun z=>Nat.lt_irrefl _ (AR _ z);have JY:∀b∈fp,b≠G2.objs.size:=fun b hb=>dH (by rw [PZ];exact vI (AR b hb));have XY:(eQ X scope ls js cl G2.objs.size { s2 with heap:=G2 } (upd H1 s2.heap.objs.size (.lst [])) fp).Ok:=by
  refine Qu L I3 eS fS cE I3.bs (kN I3.ok.pU I3.sz) I3.stack I3.NJ (fun b hb=>⟨JY b hb,(f2 b hb).2.2.2.2.1⟩) (fun b o e hb=>?_) (fun b hb z=>?_)
  ·rcases(f2 b hb).2.2.2.1 with q | q
   ·exact I2.ok.uM b o e q
   ·exact absurd (lE (cR (I2.ok.bs b o e).1) q) (Nat.lt_irrefl _)
  ·rcases dZ.mp (I3.wC b z)with q | q
   ·exact(f2 b hb).2.1 q
   ·exact(f2 b hb).2.2.1 q
 have IC:Inv (eQ X scope ls js cl G2.objs.size { s2 with heap:=G2 } (upd H1 s2.heap.objs.size (.lst [])) fp) [] (sQ ls js σ) (upd H1 s2.heap.objs.size (.lst [])) { s2 with heap:=h₁,toks:=s2.toks+0 }:=by
  refine⟨XY,rfl,I4.bare,Un.kept zT,⟨_,zY,fun i x v e1 e2 e3=>?_⟩,fun x c e=>I4.cell x c (eS x c e),?_,fun x c e=>I4.kK x c (eS x c e),fun p hp=>?_,I4.aK,?_⟩
  ·obtain⟨k,j,jH,hj,hσ⟩:=Qr e2;obtain⟨y,hy,zV⟩:=L.Ew j (kQ hj);have Ao:x=y:=by
    have xK:(ls++js.map (fun j=>X.N.getD j Str.empty))[i]? = some x:=e1;rw [jH,nK (Nat.le_add_right ..),Nat.add_sub_cancel_left,lF,hj]at xK;have Eh:X.N.getD j Str.empty=x:=mS xK;rw [← Eh,Yk,hy];rfl
   subst Ao;have JB:X.env.kindOf x=some .cell∨X.env.kindOf x=some .free:=by
    have hm:(x,NameKind.free)∈scope.names:=by
     have q:=HH (env:=X.env) L.cell (DV (env:=X.env) zV);exact q
    exact L.free _ hm rfl
   obtain⟨m,hn,hl⟩:=I4.loc;obtain⟨u,r,l⟩:=hl j x v hy hσ (JB.elim (fun z => .inr (.inl z)) fun z => .inr (.inr z));refine⟨u,r,.inr ⟨DV (env:=X.env) zV,?_⟩⟩
   rcases l with⟨kl,_⟩ | ⟨_,c,sY,z⟩
   ·rcases JB with q | q
    ·rw [q]at kl;cases kl
    ·rw [q]at kl;cases kl
   ·have hm:(x,NameKind.free)∈scope.names:=HH (env:=X.env) L.cell (DV (env:=X.env) zV);obtain⟨c',JQ⟩:=fS _ hm rfl;have:=eS _ _ JQ;rw [sY]at this;cases this;exact⟨c,JQ,z⟩
  ·show upd H1 s2.heap.objs.size (.lst []) G2.objs.size=none;rw [bA (cA Bz)];exact Cb
  ·have rQ:p∈X.pn:=by simpa [eQ]using hp
   obtain⟨e,n,ne,nf,d⟩:=I4.pin p (kR _ rQ);obtain⟨e3,_⟩:=I3.pin p (kR _ rQ);refine⟨e,n,?_,fun z=>?_,d⟩
   ·exact dH (cR e3)
   ·rcases dZ.mp (I3.wC p.1 z)with q | q
    ·exact ne q
    ·exact nf q
  ·simp [sQ,eQ]
 obtain⟨Bp,Bo,Bq⟩:=hb cl G2.objs.size { s2 with heap:=G2 } (upd H1 s2.heap.objs.size (.lst [])) fp;obtain⟨W,⟨m0,w0⟩,turn⟩:=h2 s2.heap.objs.size JT;have GW:tn 0 h₁:=T.keep _ _ _ gZ fun b hb o e=>zT b o (zS b o e);have cK:∀{H':Hp},(∀b∈fp,H' b=none)→∀b∈fp,rB (eQ X scope ls js cl G2.objs.size { s2 with heap:=G2 } (upd H1 s2.heap.objs.size (.lst [])) fp) [] H' b:=fun hn b hb=>by
  refine⟨hn b hb,JY b hb,fun z=>?_,.inl hb,fun x c e=>(f2 b hb).2.2.2.2.1 x c (eS x c e),fun p hp=>?_⟩
  ·rcases dZ.mp (I3.wC b z)with q | q
   ·exact(f2 b hb).2.1 q
   ·exact(f2 b hb).2.2.1 q
  ·have rQ:p∈X.pn:=by simpa [eQ]using hp
   exact(f2 b hb).2.2.2.2.2 p (kR _ rQ)
 have Dx:∀b∈fp,(upd H1 s2.heap.objs.size (.lst [])) b=none:=fun b hb=>by
  rw [bA (show b≠s2.heap.objs.size from dH (AR b hb))];exact(f2 b hb).1
 have loop:∀s4:Shared,s4 = { s2 with heap:=h₁,toks:=s2.toks+0 } →
   codeAny (model X.prog X.w) X.A (.compLoop (.ListComp elt [⟨tg,iter,ifs,0⟩] scope pos) 0 (.ref it) (.ref s2.heap.objs.size) (compEnvC scope cl G2.objs.size X.env))
    (compPost (model X.prog X.w) X.A X.xe none (EP X pins σ Q) (.ref s2.heap.objs.size) G2.objs.size) s4:=by
  rintro s4 rfl;refine Vl (fun n s'=>∃i σ' H',Inv (eQ X scope ls js cl G2.objs.size { s2 with heap:=G2 } (upd H1 s2.heap.objs.size (.lst [])) fp) [] σ' H' s'∧tn i s'.heap∧(∀b∈fp,H' b=none)∧W i n σ' H') ?_ m0 ⟨0,_,_,IC,GW,Dx,w0⟩;rintro n s5 ⟨i,σ5,H5,I5,sE,AQ,w5⟩
  rcases turn i n σ5 H5 w5 with⟨stop,qn⟩ | ⟨go,N,hN,step⟩
  ·refine aY (T.done (eQ X scope ls js cl G2.objs.size { s2 with heap:=G2 } (upd H1 s2.heap.objs.size (.lst [])) fp) rfl rfl rfl hc i [] s5 σ5 H5 _ I5 (cK AQ) sE stop) fun r s6 ⟨hr,I6⟩=>?_;subst hr;obtain⟨m6,Ba,_⟩:=I6.loc;refine⟨m6,Ba,fun h' lU=>⟨.ref s2.heap.objs.size,H5,?_,rfl,qn⟩⟩;have UD:Un (fU X.stack) fp (upd H1 s2.heap.objs.size (.lst [])) H5 G2 s6.heap:=I6.base;have uD:Un (fU X.stack) fp H1 (upd H1 s2.heap.objs.size (.lst [])) s2.heap G2:=Un.laid zS cE JT;have un:=uD.trans UD;have wN:∀b o,s2.heap.get? b=some o→b≠G2.objs.size:=fun b o e=>dH (by rw [PZ];exact vI (cR e));have dB:Un (fU X.stack) fp H1 H5 s2.heap h':=⟨fun b o e n a x=>(lU.2 b (wN b o e)).trans (un.keep b o e n a x),fun b o e n a x=>by
    obtain⟨sl,q⟩:=un.slot b o e n a x;exact⟨sl,(lU.2 b (wN b o e)).trans q⟩,un.free,fun b o e x=>by
    obtain⟨o',q⟩:=un.there b o e x;exact⟨o',(lU.2 b (wN b o e)).trans q⟩,un.kS,un.kJ,un.kT⟩
   have IX:eW X.prog X.w H5 h':=fun b o e=>by
    refine(I6.aK b o e).oP (fun c u sY q=>(lU.2 c ?_).trans q) (fun _ q=>q) fun _ _ q=>q;have AE:H5 G2.objs.size=none:=I6.free;rintro rfl
    rcases sY with z | z
    ·subst z;rw [AE]at e;cases e
    ·rw [AE]at z;cases z
   refine I2.KL (s':={ s6 with heap:=h' }) (ch:=fp) ?_ dB IX I6.bare fun b hb=>⟨(f2 b hb).2.2.2.1,(f2 b hb).2.1,(f2 b hb).2.2.2.2.1,(f2 b hb).2.2.2.2.2⟩
   exact I6.os
  ·refine aY (T.item (eQ X scope ls js cl G2.objs.size { s2 with heap:=G2 } (upd H1 s2.heap.objs.size (.lst [])) fp) rfl rfl rfl hc i [] s5 σ5 H5 _ I5 (cK AQ) sE go) fun r s6 ⟨u,hr,h6⟩=>?_;subst hr;refine aY h6 fun _ s7 ⟨x,H7,I7,r7,y7,yW,Dw⟩=>?_;have Iw:=I7.pinned (cK Dw) (T.obj _ _ yW);refine aY (Bp _ s7 σ5 H7 x u _ Iw r7 (step x H7 y7)) fun _ s8 ⟨σ8,H8,I8,q8⟩=>?_;refine aY (Bo _ s8 σ8 H8 _ I8 q8) fun ok s9 ⟨H9,I9,q9⟩=>?_;have again:∀{σa:St} {Ha:Hp} {sa:Shared},Inv (eQ X scope ls js cl G2.objs.size { s2 with heap:=G2 } (upd H1 s2.heap.objs.size (.lst [])) fp) ([]++DP fp s7.heap) σa Ha sa→N σa Ha →
     ∃m,m<n∧∃i σ' H',Inv (eQ X scope ls js cl G2.objs.size { s2 with heap:=G2 } (upd H1 s2.heap.objs.size (.lst [])) fp) [] σ' H' sa∧tn i sa.heap∧(∀b∈fp,H' b=none)∧W i m σ' H':=fun{σa Ha sa} Ia na=>by
    obtain⟨m',hm,wa⟩:=hN σa Ha na;refine⟨m',hm,i+1,σa,Ha,Ia.DC,T.keep _ _ _ yW fun b hb o e=>(Ia.pin (b,o) (jA _ (jA _ (zL hb e)))).1,fun b hb=>?_,wa⟩;obtain⟨o,e,d⟩:=T.obj _ _ yW b hb;exact(Ia.pin (b,o) (jA _ (jA _ (zL hb e)))).2.1
   cases ok with
   | false=>exact again I9 q9
   | true =>
    refine aY (Bq _ s9 σ8 H9 _ I9 q9) fun y WZ ⟨z,H10,LP,XJ,ys,hD,bG,nn⟩=>?_;obtain⟨zz,aN,k,r,hl,e⟩:=LP.zN hD;refine call_meets F.slot_list_append ⟨_,e,rfl⟩ F.entry_list_append (Yu _ _) (PySem.list_append s2.heap.objs.size aN.toArray k y (by rw [fL];omega)) ⟨e,?_⟩;refine again (LP.OM (its':=aN++[y]) (t':=WZ.toks) hD e ?_ (r.append (.cons XJ .nil)) ?_) nn
    ·simp
    ·simp;omega
 exact codeAny_compStart_list (loop _ rfl) (T.self _ 0 _ _ _ GW (loop _ rfl))
end
section
variable{X:Cx}
theorem au8(hc:X.calm=true):qC X (.builtin "sum") (fun xs H Q=>∃(a:Addr) (ns:List Int),xs=[.ref a]∧fK X.K H a (ns.map V.int)∧Q (.int ns.sum) H):=by
 intro pins s σ H xs us Q I r h;obtain⟨a,ns,rfl,hq,q⟩:=h;obtain⟨u,rfl,ru⟩:=vals1 r;cases ru;obtain⟨aN,rv,pl,hz⟩:=I.list hq;have hi:IntsAre aN ns:=intsAre_of rv;obtain⟨xs,Ri⟩:=hi.allInts.items;have hl:s.heap.IsList a (intItems xs):=Ri ▸ pl.isList;refine sum_intListG (I.ok.hd hc) hl fun h' tk t' hk=>?_;have e:preSum (numAt xs) xs.size=ns.sum:=by
  rw [preSum_eq,RU (by simp),← nums_intItems,← Ri,show aN.toArray.toList=aN from rfl,hi.numsOf]
 exact⟨.int ns.sum,H,I.kept (t':=tk) hk,⟨t',by rw [e]⟩,q⟩
theorem avH:qC X (.builtin "isinstance") (fun xs H Q=>∃x n t b,xs=[x,.ty n]∧oV X.K H x t∧kitOne X.K t (.type n)=some b∧Q (.bl b) H):=by
 intro pins s σ H xs us Q I r h;obtain⟨x,n,t,b,rfl,ty,e,q⟩:=h;obtain⟨u,v,rfl,rx,ry⟩:=vals2 r;cases ry;exact aoG I rx ty e fun tk=>⟨.bl b,H,I.tok tk,rfl,q⟩
end
inductive Dt where
 | int (i:Int) | bl (b:Bool) | str (x:Str) | bB | tup (ds:List Dt) | lst (ds:List Dt)
def Den(K:Frag)(H:Hp):Nat→V→Dt→Prop
 | _,v,.int j=>v = .int j
 | _,v,.bl b=>v = .bl b
 | _,v,.str x=>v = .str x
 | _,v,.bB=>v = .bB
 | 0,_,.tup _=>False
 | 0,_,.lst _=>False
 | n+1,v,.tup ds=>∃a xs,v = .ref a∧iL K H a xs∧Paired (Den K H n) xs ds
 | n+1,v,.lst ds=>∃a xs,v = .ref a∧fK K H a xs∧Paired (Den K H n) xs ds
structure HasFn(K:Frag)(mg:Str→Option Value)(x:Str)(st:Stmt):Prop where
 ex:∃f fd,mg x=some (.ref f)∧rA K x x st f fd
theorem oB{K:Frag}{h:Heap}{mg:Str→Option Value}{x:Str}{st:Stmt}{f:Addr}{oc:Value}{od an:Option Addr}{jT:Array (Option Value)}{kV doc pm bC ct:Value}(X:K.In h)(G:h.Ns mainGlobals mg)
  (a:nsIn K mainGlobals x=some (some (.ref f))) (l:K.lookup f=some ⟨oc,od,.func (fnOf x x (mR st) (hV st) (aX st) .none kV doc pm an bC ct),jT⟩)
  (c:codeIn K bC x=true) (k:keepIn K (.ref f)=true):HasFn K mg x st:=⟨⟨f,_,mg_of X G a,JW l c k⟩⟩
structure Def(P:Program)(w:World)(K:Frag)(mg:Str→Option Value)(base:Heap)(x:Str)(k:Nat)(ps:List Str)(sp:Sp):Prop where
 ex:∃f fd,iV P w K mg base CK k f fd ps sp∧mg x=some (.ref f)∧keepIn K (.ref f)=true∧Binds K fd ps []
theorem kM.new{H:Hp}{p:Addr}{o:HO}(h:H p=none):kM H (upd H p o):=fun b u e=>by rw [bA (jU e h)];exact e
def Kept(l:Addr)(H H':Hp):Prop:=∀b o,b≠l→H b=some o→H' b=some o
theorem Kept.trans{l:Addr}{H H1 H2:Hp}(a:Kept l H H1)(b:Kept l H1 H2):Kept l H H2:=fun c o hc e=>b c o hc (a c o hc e)
def awZ(K:Frag)(H:Hp)(v:V)(ns:List Int):Prop:=∃p,v = .ref p∧iL K H p (ns.map V.int)
def Rows(K:Frag)(H:Hp)(xs:List V)(rs:List (List Int)):Prop:=Paired (awZ K H) xs rs
def av5(h₀ h:Heap)(H:Hp)(x:Addr)(vs:Array Value):Prop :=
 ∃T oT ts,vs[1]? = some (.ref T)∧T≠x∧h₀.get? T=none∧H T=none∧h.get? T=some oT∧oT.data = .fields ts∧3<ts.size
def mU(h₀ h:Heap)(H:Hp)(x:Addr)(cls:Value)(dx:Option Addr)(tb:Bool):Prop :=
 h₀.get? x=none∧H x=none∧∃oe vs,h.get? x=some oe∧oe.cls=cls∧oe.dict=dx∧oe.data = .fields vs∧1<vs.size∧((tb=false∧vs[1]? = some .none)∨av5 h₀ h H x vs)
theorem mU.any{h₀ h:Heap}{H:Hp}{x:Addr}{cls:Value}{dx:Option Addr}{tb:Bool}(e:mU h₀ h H x cls dx tb):mU h₀ h H x cls dx false:=by
 obtain⟨a,b,oe,vs,c1,c2,c3,c4,c5,c6⟩:=e;exact⟨a,b,oe,vs,c1,c2,c3,c4,c5,c6.imp (fun z=>⟨rfl,z.2⟩) id⟩
structure tN(X:Cx):Prop where
 rJ:X.stack=X.env::X.outer
 JX:X.env.frame=some X.env.locals
 pn:X.pn=[]
theorem tN.mem{X:Cx}(t:tN X){b:Addr}:b∈fU X.stack↔b=X.env.locals∨b∈X.fs:=by
 rw [t.rJ];unfold fU;rw [yD,t.JX];exact dZ
section
variable{X:Cx}{σ:St}{H:Hp}{s:Shared}
theorem Inv.XH{h':Heap}{ch:List Addr}(I:Inv X [] σ H s)(t:tN X)(nZ:∀b∈ch,X.s₀.heap.get? b=none∧H b=none∧∃o vs,s.heap.get? b=some o∧o.data = .fields vs)
  (keep:∀b o,b∉fU X.stack→b∉ch→s.heap.get? b=some o→h'.get? b=some o) (slot:∀b o,b∈fU X.stack→s.heap.get? b=some o→∃sl,h'.get? b=some { o with slots:=sl }) :
  Inv X [] σ H { s with heap:=h' }:=by
 have amE:∀c v,s.heap.IsCell c v→c∉ch:=fun c v ⟨o,ho,hd⟩ hc=>by
  obtain⟨_,_,o',vs,e,d⟩:=nZ c hc;rw [ho]at e;cases e;rw [hd]at d;cases d
 have any:∀b o,b∉ch→s.heap.get? b=some o→∃sl,h'.get? b=some { o with slots:=sl }:=fun b o hc e=>by
  by_cases hb:b∈fU X.stack
  ·exact slot b o hb e
  ·exact⟨o.slots,keep b o hb hc e⟩
 have cellK:∀c v,s.heap.IsCell c v→h'.IsCell c v:=fun c v z=>by
  obtain⟨o,ho,hd⟩:=id z;obtain⟨sl,e⟩:=any c o (amE c v z) ho;exact⟨_,e,hd⟩
 have old:∀b o,X.s₀.heap.get? b=some o→b≠X.env.locals∧b∉ch:=fun b o e =>
  ⟨dH (lE (cR e) I.ok.above),fun hc=>by rw [(nZ b hc).1]at e;cases e⟩
 have nfr:∀b,b≠X.env.locals→b∉X.fs→b∉fU X.stack:=fun b h1 h2 z=>(t.mem.mp z).elim h1 h2;refine⟨I.ok,I.os,I.bare,⟨fun b o e n hb hx=>?_,fun b o e n hb hx=>?_,I.base.free,fun b o e hx=>?_,I.base.kS,I.base.kJ,I.base.kT⟩,?_,fun x c e=>?_,I.free,I.kK,fun p hp=>?_,fun b u e=>?_,I.len⟩
 ·exact keep b o (nfr b (old b o e).1 hb) (old b o e).2 (I.base.keep b o e n hb hx)
 ·obtain⟨sl,e1⟩:=I.base.slot b o e n hb hx;obtain⟨GY,e2⟩:=any b _ (old b o e).2 e1;exact⟨GY,e2⟩
 ·obtain⟨o',e1⟩:=I.base.there b o e hx;obtain⟨sl,e2⟩:=any b o' (old b o e).2 e1;exact⟨_,e2⟩
 ·obtain⟨m,hn,hl⟩:=I.loc;obtain⟨o,es,ep,ho,hd,r⟩:=id hn;have hLc:X.env.locals∉ch:=fun hc=>by
   obtain⟨_,_,o',vs,e,d⟩:=nZ _ hc;rw [ho]at e;cases e;rw [hd]at d;cases d
  obtain⟨sl,e⟩:=any _ o hLc ho;refine⟨m,⟨_,es,ep,e,hd,r⟩,fun i x v e1 e2 e3=>?_⟩;obtain⟨u,ru,l⟩:=hl i x v e1 e2 e3;refine⟨u,ru,?_⟩
  rcases l with l | ⟨k,c,ec,z⟩
  ·exact .inl l
  ·exact .inr ⟨k,c,ec,cellK c _ z⟩
 ·obtain⟨v,z⟩:=I.cell x c e;exact⟨v,cellK c v z⟩
 ·rw [t.pn]at hp;simp at hp
 ·refine(I.aK b u e).oP (fun c v hc q=>keep c v ?_ ?_ q) (fun _ q=>q) fun _ _ q=>q
  ·intro z;have f:=I.NJ c z
   rcases hc with y | y
   ·rw [y,e]at f;cases f
   ·rw [y]at f;cases f
  ·intro z;have f:=(nZ c z).2.1
   rcases hc with y | y
   ·rw [y,e]at f;cases f
   ·rw [y]at f;cases f
variable{M:Model}{E:Value→Shared→Prop}{x:Addr}{cls:Value}{dx:Option Addr}
theorem mU.YB(I:Inv X [] σ H s){b:Addr}{o:Obj}{vs:Array Value}(e:s.heap.get? b=some o)(d:o.data = .fields vs):b∉fU X.stack:=fun hm=>by
 obtain⟨_,o',ho,hnf⟩:=I.stack.mem hm;rw [e]at ho;cases ho;exact hnf vs d
theorem Uy(I:Inv X [] σ H s)(t:tN X){oe:Obj}{vs:Array Value}{head:Value}{had:Bool}{Q:Unit→Shared→Prop}(uS:X.s₀.heap.get? x=none)(uR:H x=none)(he:s.heap.get? x=some oe)(hd:oe.data = .fields vs)(hsz:1<vs.size)
  (q:∀h',Inv X [] σ H { s with heap:=h' }→mU X.s₀.heap h' H x oe.cls oe.dict true→Q () { s with heap:=h' }) :
  wpAny M X.A (do let a ← frameOf X.env;let pl ← entryPlaceOf X.env.locals had;let b ← EntryCells.newEntry head a .none (rawInt X.env.locals) .none pl;setField (.ref x) 1 b) Q E s:=by
 have JJ:X.A.frames=some (X.env::X.outer):=by rw [← t.rJ];exact I.ok.frames
 have hl:s.heap.FunFrames X.base (X.env::X.outer):=by rw [← t.rJ];exact I.stack
 have dY:x∉fU X.stack:=mU.YB I he hd;have efr:(X.env::X.outer).filterMap (·.frame)=fU X.stack:=by rw [t.rJ];rfl
 refine aE (wpAny_frameOf_fun JJ hl t.JX fun h1 s1=>aE (wpAny_entryPlaceOf fun pl gF=>?_));rw [efr]at s1;unfold EntryCells.newEntry;unfold newFields;refine aE (mV ?_ (gF.sizeOk5 _ _ _ _ _));have Su:h1.get? x=some oe:=(s1.2.1 x dY).trans he;generalize Rq:({ cls := .type "traceback",dict:=none,data := .fields ([head,.ref X.env.locals,.none,rawInt X.env.locals,.none]++(if pl.isEmpty then List.replicate 6 Value.none else pl)).toArray }:Obj)=to;have hte:∃ts,to.data = .fields ts∧3<ts.size:=⟨_,by rw [← Rq],by simp only [fL,fX,eA,yC];omega⟩;have htf:to.isFreed=false:=by rw [← Rq];rfl
 have mM:(h1.push to).get? x=some oe:=cZ _ Su;have vA:h1.objs.size≠x:=RP (cR Su);refine wpAny_setField mM hd hsz ?_;have JO:=Obj.data_mapFields hd (·.setIfInBounds 1 (Value.ref h1.objs.size));have he3:=LR (Obj.mapFields (·.setIfInBounds 1 (Value.ref h1.objs.size))) mM (Obj.isFreed_of_fields JO);have hT3:=(rW (h1.push to) (Obj.mapFields (·.setIfInBounds 1 (Value.ref h1.objs.size))) (cA vA)).trans (gM h1 htf);have kp:∀b o,b≠x→h1.get? b=some o→((h1.push to).update x (Obj.mapFields (·.setIfInBounds 1 (Value.ref h1.objs.size)))).get? b=some o:=fun b o hb e =>
  (rW _ _ (cA hb)).trans (cZ _ e)
 have xB:X.s₀.heap.get? h1.objs.size=none:=by
  cases e:X.s₀.heap.get? h1.objs.size with
  | none=>rfl
  | some o =>
   have h2:=lE (cR e) I.sz;rw [s1.1]at h2;exact absurd h2 (Nat.lt_irrefl _)
 have xA:H h1.objs.size=none:=by rw [s1.1];exact I.aK.fresh cE
 refine q _ (I.XH t (ch:=[x]) (fun b hb=>?_) (fun b o hb hc e=>?_) fun b o hb e=>?_) ⟨uS,uR,_,_,he3,Obj.cls_mapFields _ _,?_,JO,by simpa using hsz,.inr ⟨h1.objs.size,to,?_⟩⟩
 ·rw [jP.mp hb];exact⟨uS,uR,oe,vs,he,hd⟩
 ·exact kp b o (fun z=>hc (by rw [z];exact jP.mpr rfl)) ((s1.2.1 b hb).trans e)
 ·obtain⟨sl,e1⟩:=s1.2.2 b o e;exact⟨sl,kp b _ (fun z=>dY (z ▸ hb)) e1⟩
 ·obtain⟨c,d,dt,sl⟩:=oe;cases dt <;> rfl
 ·obtain⟨ts,d1,d2⟩:=hte;exact⟨ts,by simp [hsz],vA,xB,xA,hT3,d1,d2⟩
theorem Pr(I:Inv X [] σ H s)(t:tN X){tb:Bool}{Q:Unit→Shared→Prop}(e:mU X.s₀.heap s.heap H x cls dx tb)
  (q:∀h',Inv X [] σ H { s with heap:=h' }→mU X.s₀.heap h' H x cls dx true→Q () { s with heap:=h' }):wpAny M X.A (noteFrame (.ref x) X.env) Q E s:=by
 obtain⟨uS,uR,oe,vs,he,rfl,rfl,hd,hsz,GS⟩:=id e;unfold noteFrame;simp only [t.JX]
 rcases GS with⟨_,h1⟩ | ⟨T,oT,ts,h1,vA,xB,xA,hT,rT,h3⟩
 ·refine aE (yM he hd h1 ?_);rw [if_neg (by decide)];exact Uy I t uS uR he hd hsz q
 ·refine aE (yM he hd h1 ?_);rw [if_pos (show(Value.ref T != Value.none)=true from by simp)];obtain⟨v3,hv3⟩:∃v3,ts[3]? = some v3:=⟨ts[3],Jo h3⟩;refine aE (yM hT rT hv3 ?_)
  by_cases hb:(v3 == rawInt X.env.locals)=true
  ·rw [if_pos hb];exact aQ (q s.heap I ⟨uS,uR,oe,vs,he,rfl,rfl,hd,hsz,.inr ⟨T,oT,ts,h1,vA,xB,xA,hT,rT,h3⟩⟩)
  ·rw [if_neg hb];refine aE (wpAny_setField hT rT h3 ?_);have zI:∀b,b≠T→(s.heap.update T (Obj.mapFields (·.setIfInBounds 3 Value.none))).get? b=s.heap.get? b:=fun b hb=>rW _ _ (cA hb);have Bv:T∉fU X.stack:=mU.YB I hT rT;have I1:Inv X [] σ H { s with heap:=s.heap.update T (Obj.mapFields (·.setIfInBounds 3 Value.none)) }:=I.XH t (ch:=[T]) (fun b hb=>by
    rw [jP.mp hb];exact⟨xB,xA,oT,ts,hT,rT⟩) (fun b o _ hc e=>(zI b (fun z=>hc (by rw [z];exact jP.mpr rfl))).trans e) fun b o hb e=>⟨o.slots,(zI b (fun z=>Bv (z ▸ hb))).trans e⟩
   exact Uy I1 t uS uR ((zI x (cA vA)).trans he) hd hsz q
theorem Ul{A:Around}(I:Inv X [] σ H s)(t:tN X){fo:Option Addr}{Q:Unit→Shared→Prop}(e:mU X.s₀.heap s.heap H x cls dx true)
  (q:∀h',Inv X [] σ H { s with heap:=h' }→mU X.s₀.heap h' H x cls dx true→Q () { s with heap:=h' }):wpAny M A (setFlight (.ref x) fo) Q E s:=by
 obtain⟨uS,uR,oe,vs,he,rfl,rfl,hd,hsz,GS⟩:=id e
 rcases GS with⟨z,_⟩ | ⟨T,oT,ts,h1,vA,xB,xA,hT,rT,h3⟩
 ·cases z
 unfold setFlight;refine aE (yM he hd h1 ?_);rw [if_pos (show(Value.ref T != Value.none)=true from by simp)];refine wpAny_setField hT rT h3 ?_;generalize (fo.elim Value.none fun f=>rawInt f)=fv;have zI:∀b,b≠T→(s.heap.update T (Obj.mapFields (·.setIfInBounds 3 fv))).get? b=s.heap.get? b:=fun b hb=>rW _ _ (cA hb);have Bv:T∉fU X.stack:=mU.YB I hT rT;have JO:=Obj.data_mapFields rT (·.setIfInBounds 3 fv);refine q _ (I.XH t (ch:=[T]) (fun b hb=>?_) (fun b o _ hc e=>(zI b (fun z=>hc (by rw [z];exact jP.mpr rfl))).trans e) fun b o hb e=>⟨o.slots,(zI b (fun z=>Bv (z ▸ hb))).trans e⟩)
  ⟨uS,uR,oe,vs,(zI x (cA vA)).trans he,rfl,rfl,hd,hsz,.inr ⟨T,_,_,h1,vA,xB,xA,LR _ hT (Obj.isFreed_of_fields JO),JO,by simpa using h3⟩⟩
 rw [jP.mp hb];exact⟨xB,xA,oT,ts,hT,rT⟩
end
abbrev WX:=St→Value→Option Addr→Hp→Prop
def XE(X:Cx)(W:WX):Value→Shared→Prop:=fun e s'=>∃σ H' x cls dx,e = .ref x∧Inv X [] σ H' s'∧mU X.s₀.heap s'.heap H' x cls dx false∧W σ cls dx H'
section
variable{X:Cx}
theorem ak3(t:tN X){W:WX}:PassesOwn (model X.prog X.w) X.A X.env (XE X W):=by
 rintro e s' ⟨σ,H',x,cls,dx,rfl,I,ex,w⟩;unfold notedBy;refine Pr I t ex fun h1 I1 e1=>?_;unfold cameBackBy;obtain⟨uS,uR,oe,vs,he,hc,Sv,hd,hsz,GS⟩:=id e1
 rcases GS with⟨z,_⟩ | ⟨T,oT,ts,vB,vA,xB,xA,hT,rT,h3⟩
 ·cases z
 refine aE (yM he hd vB ?_);rw [if_neg (show ¬((Value.ref T == Value.none)=true)from by simp)];exact Ul I1 t e1 fun h2 I2 e2=>⟨σ,H',x,cls,dx,rfl,I2,e2.any,w⟩
def nN(P:Program)(w:World):pA:=fun outer H s E e s'=>∃x cls dx H',e = .ref x∧s'.os=s.os∧AllBare s'.gens∧Un (fU outer) [] H H' s.heap s'.heap∧eW P w H' s'.heap∧mU s.heap s'.heap H' x cls dx true∧E cls dx H'
end
structure pZ(X:Cx)(W:WX):Prop where
 top:tN X
 ex:X.ex=[]
 to:∀e s',XE X W e s'→X.xe e s'
 passes:PassesOwn (model X.prog X.w) X.A X.env X.xe
theorem pZ.of{X:Cx}(t:tN X)(hx:X.ex=[])(W:WX):pZ (X.rF (XE X W)) W where
 top:=⟨t.rJ,t.JX,t.pn⟩
 ex:=hx
 to:=fun e s' ⟨σ,H',x,cls,dx,a,I,b,c⟩=>⟨σ,H',x,cls,dx,a,I.uC,b,c⟩
 passes:=ak3 t
theorem Inv.Oz{X:Cx}{pins:List (Addr×Obj)}{σ:St}{H:Hp}{s:Shared}(I:Inv X pins σ H s):Inv X [] σ H s:=I.XO fun p hp=>absurd hp (by simp)
theorem Inv.first{X:Cx}{pins:List (Addr×Obj)}{σ:St}{H:Hp}{s:Shared}(I:Inv X pins σ H s)(hx:X.ex=[]){b:Addr}(h:s.heap.get? b=none):X.s₀.heap.get? b=none:=by
 cases e:X.s₀.heap.get? b with
 | none=>rfl
 | some o =>
  obtain⟨o',e'⟩:=I.base.there b o e (by rw [hx];simp);rw [h]at e';cases e'
theorem mU.first{X:Cx}{pins:List (Addr×Obj)}{σ:St}{H H':Hp}{s:Shared}{h':Heap}{x:Addr}{cls:Value}{dx:Option Addr}{tb:Bool}(I:Inv X pins σ H s)(hx:X.ex=[])(e:mU s.heap h' H' x cls dx tb) :
  mU X.s₀.heap h' H' x cls dx tb:=by
 obtain⟨a,b,oe,vs,c1,c2,c3,c4,c5,c6⟩:=e;refine⟨I.first hx a,b,oe,vs,c1,c2,c3,c4,c5,c6.imp id fun⟨T,oT,ts,d1,d2,d3,d4,d5,d6,d7⟩=>⟨T,oT,ts,d1,d2,I.first hx d3,d4,d5,d6,d7⟩⟩
section
variable{P:Program}{w:World}{K:Frag}{mg:Str→Option Value}{base:Heap}
abbrev qQ(P:Program)(w:World)(K:Frag)(mg:Str→Option Value)(base:Heap)(N:List Str)(qual:Str)(scope:Scope)(f:Addr)(cd:Value)(A:Around)(outer:List Env)(s:Shared)(H:Hp)(E:XK):Cx :=
 (vE (nN P w) P w K mg base N qual scope f cd A outer s H E).rF (XE (vE (nN P w) P w K mg base N qual scope f cd A outer s H E) fun _=>E)
theorem UJ{CX:pA}{N:List Str}{qual:Str}{scope:Scope}{f:Addr}{cd:Value}{A:Around}{outer:List Env}{s:Shared}{H:Hp}{E:XK}:tN (vE CX P w K mg base N qual scope f cd A outer s H E):=⟨rfl,rfl,rfl⟩
theorem bV{N:List Str}{qual:Str}{scope:Scope}{f:Addr}{cd:Value}{A:Around}{outer:List Env}{s:Shared}{H:Hp}{E:XK}:pZ (qQ P w K mg base N qual scope f cd A outer s H E) (fun _=>E):=pZ.of UJ rfl _
theorem YU{N:List Str}{qual:Str}{scope:Scope}{f:Addr}{cd:Value}{A:Around}{outer:List Env}{s:Shared}{H:Hp}{E:XK}{st:List Stmt}{t:TS}(h:qT (qQ P w K mg base N qual scope f cd A outer s H E) st t) :
  qT (vE (nN P w) P w K mg base N qual scope f cd A outer s H E) st t:=by
 intro pins s1 σ H1 D I hw;refine qE (h pins s1 σ H1 D (I.rF _) hw) (fun _ _ q=>q.uC) fun e s' hx=>?_;obtain⟨σ',H',x,cls,dx,rfl,I',ex,q⟩:=hx;show wpAny _ _ (leaving _ _) _ _ _;unfold leaving;refine aE (Pr (E:=fun e' zD=>nN P w outer H s E e' zD) I' UJ ex fun h1 I1 e1=>?_);refine Ul I1 UJ e1 fun h2 I2 e2=>?_;exact⟨x,cls,dx,H',rfl,I2.os,I2.bare,I2.base,I2.aK,e2,q⟩
structure Yw(P:Program)(w:World)(K:Frag)(mg:Str→Option Value)(base:Heap)(x:Str)(k:Nat)(ps:List Str)(sp:Sp):Prop where
 ex:∃f fd,iV P w K mg base (nN P w) k f fd ps sp∧mg x=some (.ref f)∧keepIn K (.ref f)=true∧Binds K fd ps []
end
section
variable{X:Cx}{W:WX}{x:Str}{p pos np kL:Pos}{e:Expr}{es:List Expr}{t:TA}
def Ma(sp:Sp)(W:WX)(t:TA):TE:=fun σ H Q=>t σ H fun vs H1=>sp vs H1 Q fun cls dx H'=>W σ cls dx H'
theorem akV{k:Nat}{ps:List Str}{sp:Sp}(T:pZ X W)(D:Yw X.prog X.w X.K X.mg X.base x k ps sp)(hr:cY k X.A)(hg:Gl X x)(ha:PA X (e::es) t)
  (mN:(x == ("__debug__" : Str))=false:=by decide) (he:starEach (e::es) X.env=(false,eval e X.env)::starEach es X.env:=by rfl) (gF:(backTo pos (starEach es X.env)).any (·.1)=false:=by rfl) :
  PE X (.Call (.Name x p) (e::es) [] pos) (Ma sp W t):=by
 obtain⟨f,fd,F,hm,hk,hb⟩:=D.ex;intro pins s σ H Q I h;refine TL (OQ I hg hm ?_ mN);refine callWith_K (h₀:=X.base) I.ok.mod.zR hk (aY (ha pos pins s σ H _ I h) fun us s1 ⟨vs,H1,I1,r,q⟩=>⟨I1.gS,?_⟩) he gF;have hl:us.length=ps.length:=by rw [← r.length];exact F.len _ _ _ _ q
 have Tc:=hb s1 us I1.gS (by rw [oY];exact hl);rw [oY]at Tc;refine wpAny_call (xP (F.run X.A X.stack s1 H1 ⟨us,[]⟩ us vs Q _ hr I1.Eg Tc r q) fun r s' hq=>?_);cases r with
 | error ev =>
  obtain⟨a,cls,dx,H',rfl,os,bare,un,aK,ex,q'⟩:=hq;have I2:=(I1.KL os un aK bare (fun b z=>absurd z (by simp))).Oz;exact T.to _ _ ⟨σ,H',a,cls,dx,rfl,I2,(ex.first I1 T.ex).any,q'⟩
 | ok fl =>
  cases fl with
  | ret u=>exact I1.after hq
  | next=>exact False.elim hq
  | brk=>exact False.elim hq
  | cont=>exact False.elim hq
abbrev Wc:List Value:=[.type "ValueError",.type "Exception",.type "BaseException",.type "object"]
structure aAB(K:Frag)(C:Addr):Prop where
 inK:PySem.W.excIn K C Wc "ValueError.__new__" = true
end
structure XC(K:Frag)(C:Addr):Prop where
 ob:∃nm q N bs bm aqV sn sub ab col dd k0 k1 k2 k3 k5,K.lookup C=some (excClassObj nm q C N bs bm aqV sn sub ab col dd k0 k1 k2 k3 k5 "ValueError.__new__")
 ga:findIn K (.ref C) "__getattribute__" = some (some (.builtin "BaseException.__getattribute__"))
 gt:findIn K (.ref C) "__getattr__" = some none
 cl:findIn K (.ref C) "__class__" = some (some (.builtin "object.__class__"))
 be:subIn K (.ref C) (.type "BaseException")=some true
 oj:subIn K (.ref C) (.type "object")=some true
abbrev TH:=Addr→Value→Option Addr→TS
def YW(scope sc:Scope)(N:List Str)(js:List Nat):Bool :=
 scope.kind == .function&&(scope.names.all fun y=>y.2 != .cell&&(y.2 != .local||scope.names.lookup y.1 == some .local)&&(y.2 != .free||(sc.names.lookup y.1 == some .cell||sc.names.lookup y.1 == some .free))) &&
 js.all fun j=>match N[j]? with
  | some x=>scope.names.lookup x == some .free
  | none=>false
theorem yF.of{X:Cx}{scope:Scope}{ls:List Str}{js:List Nat}(sc:Scope)(N:List Str)(zW:X.env.scope=sc)(hN:X.N=N)(ok:YW scope sc N js=true):yF X scope ls js:=by
 unfold YW at ok;rw [mB,mB]at ok;obtain⟨⟨h1,h2⟩,h3⟩:=ok;rw [LJ]at h2 h3;refine⟨by simpa using h1,fun y hy=>?_,fun y hy hl=>?_,fun y hy hf=>?_,fun j hj=>?_⟩
 ·have q:=h2 y hy;rw [mB,mB]at q;simpa using q.1.1
 ·have q:=h2 y hy;rw [mB,mB]at q;simpa [hl]using q.1.2
 ·have q:=h2 y hy;rw [mB,mB]at q;have q2:=q.2;rw [hf]at q2;unfold Env.kindOf;rw [zW];simpa using q2
 ·have q:=h3 j hj;rw [hN];cases e:N[j]? with
  | none=>rw [e]at q;cases q
  | some x=>rw [e]at q;exact⟨x,rfl,by simpa using q⟩
end L2
namespace V2
open PySem PySem.Spec PyProof.Rows L2
inductive A where
 | int (i:Int) | bl (b:Bool) | str (x:Str) | bB | ty (n:String) | adr (p:Addr) | EV (p d:Addr) (f:Str) (i:Int) | gl (x:Str) | cM (ns:List Int)
 | tup (ds:List A) | lst (ds:List A) | aD (k:Nat)
inductive Fd where
 | val (a:A) | lst (ds:List A) | bD (aB:List (Key×A))
@[simp] def Fd.own:Fd→Bool
 | .val _=>false
 | _=>true
inductive Cell where
 | lst (ds:List A) | bD (aB:List (Key×A)) | ins (cls:Str) (fs:List (Str×Fd)) | tab (x:Str) (pos:Pos) (qual:Str) | dead
@[simp] def Cell.noOwn:Cell→Bool
 | .ins _ fs=>fs.all fun p=>!p.2.own
 | _=>true
structure Exc where
 cls:Str
 fs:List (Str×A)
inductive Rs(α:Type)where
 | ok (a:α) | exc (x:Exc)
abbrev aI:=List Cell
abbrev Ev:=List (Option A)
abbrev Mo(α:Type):=aI→Option (Rs α×aI)
@[simp] def ret{α:Type}(a:α):Mo α:=fun Ω=>some (.ok a,Ω)
@[simp] def mb{α β:Type}(m:Mo α)(k:α→Mo β):Mo β:=fun Ω =>
 match m Ω with
 | some (.ok a,Ω1)=>k a Ω1
 | some (.exc x,Ω1)=>some (.exc x,Ω1)
 | none=>none
@[simp] def stuck{α:Type}:Mo α:=fun _=>none
@[simp] def need{α:Type}(o:Option α):Mo α:=fun Ω=>o.map fun a=>(.ok a,Ω)
@[simp] def nG(p:Prop) [Decidable p]:Mo Unit:=fun Ω=>if p then some (.ok (),Ω)else none
mutual
def Den(K:Frag)(G:Hp)(ι:List Addr):V→A→Prop
 | v,.int j=>v = .int j
 | v,.bl b=>v = .bl b
 | v,.str x=>v = .str x
 | v,.bB=>v = .bB
 | v,.ty n=>v = .ty n
 | v,.adr p=>v = .ref p
 | v, .EV p d f i=>v = .ref p∧G d=some (.xd [(f,.int i)])
 | v,.gl x=>∃C,nsIn K mainGlobals x=some (some (.ref C))∧v = .ref C
 | v,.cM ns=>∃a,v = .ref a∧fK K G a (ns.map V.int)
 | v,.tup ds=>∃a xs,v = .ref a∧G a=some (.tup xs)∧aO K G ι xs ds
 | v,.lst ds=>∃a xs,v = .ref a∧G a=some (.lst xs)∧aO K G ι xs ds
 | v,.aD k=>∃a,v = .ref a∧ι[k]? = some a
def aO(K:Frag)(G:Hp)(ι:List Addr):List V→List A→Prop
 | xs,[]=>xs=[]
 | xs,d::ds=>∃x r,xs=x::r∧Den K G ι x d∧aO K G ι r ds
end
structure Ext(G:Hp)(ι:List Addr)(G':Hp)(ι':List Addr):Prop where
 same:kM G G'
 pre:∀(k:Nat) (a:Addr),ι[k]? = some a→ι'[k]? = some a
theorem Ext.refl(G:Hp)(ι:List Addr):Ext G ι G ι:=⟨kM.refl _,fun _ _ h=>h⟩
theorem Ext.trans{G G1 G2:Hp}{ι ι1 ι2:List Addr}(a:Ext G ι G1 ι1)(b:Ext G1 ι1 G2 ι2):Ext G ι G2 ι2:=⟨a.same.trans b.same,fun k x h=>b.pre k x (a.pre k x h)⟩
section
variable{K:Frag}{G G':Hp}{ι ι':List Addr}
mutual
theorem Den.ext(e:Ext G ι G' ι'):∀{v:V} {d:A},Den K G ι v d→Den K G' ι' v d
 | _,.int _,h=>by simpa only [Den]using h
 | _,.bl _,h=>by simpa only [Den]using h
 | _,.str _,h=>by simpa only [Den]using h
 | _,.bB,h=>by simpa only [Den]using h
 | _,.ty _,h=>by simpa only [Den]using h
 | _,.adr _,h=>by simpa only [Den]using h
 | _, .EV _ _ _ _,h=>by
  simp only [Den]at h ⊢;exact⟨h.1,e.same _ _ h.2⟩
 | _,.gl _,h=>by simpa only [Den]using h
 | _,.cM _,h=>by
  simp only [Den]at h ⊢;obtain⟨a,h1,h2⟩:=h;exact⟨a,h1,e.same.seq h2⟩
 | _,.tup ds,h=>by
  simp only [Den]at h ⊢;obtain⟨a,xs,h1,h2,h3⟩:=h;exact⟨a,xs,h1,e.same _ _ h2,aO.ext e h3⟩
 | _,.lst ds,h=>by
  simp only [Den]at h ⊢;obtain⟨a,xs,h1,h2,h3⟩:=h;exact⟨a,xs,h1,e.same _ _ h2,aO.ext e h3⟩
 | _,.aD k,h=>by
  simp only [Den]at h ⊢;obtain⟨a,h1,h2⟩:=h;exact⟨a,h1,e.pre _ _ h2⟩
theorem aO.ext(e:Ext G ι G' ι'):∀{xs:List V} {ds:List A},aO K G ι xs ds→aO K G' ι' xs ds
 | _,[],h=>by simpa only [aO]using h
 | _,d::ds,h=>by
  simp only [aO]at h ⊢;obtain⟨x,r,h1,h2,h3⟩:=h;exact⟨x,r,h1,Den.ext e h2,aO.ext e h3⟩
end
theorem qP{xs:List V}:aO K G ι xs []↔xs=[]:=by simp only [aO]
theorem aO.length:∀{xs:List V} {ds:List A},aO K G ι xs ds→xs.length=ds.length
 | _,[],h=>by simp only [aO]at h;subst h;rfl
 | _,d::ds,h=>by
  simp only [aO]at h;obtain⟨x,r,rfl,h2,h3⟩:=h;simp only [eA,aO.length h3]
theorem aO.nil:aO K G ι [] []:=by simp only [aO]
theorem aO.cons{x:V}{xs:List V}{d:A}{ds:List A}(h:Den K G ι x d)(t:aO K G ι xs ds):aO K G ι (x::xs) (d::ds):=by
 simp only [aO];exact⟨x,xs,rfl,h,t⟩
theorem aO.lJ{xs:List V}{d:A}{ds:List A}(h:aO K G ι xs (d::ds)):∃x r,xs=x::r∧Den K G ι x d∧aO K G ι r ds:=by simpa only [aO]using h
theorem aO.get:∀{xs:List V} {ds:List A} {i:Nat} {d:A},aO K G ι xs ds→ds[i]? = some d→∃x,xs[i]? = some x∧Den K G ι x d
 | _,[],_,_,_,e=>by simp at e
 | _,_::_,0,_,h,e=>by
  obtain⟨x,r,rfl,h2,h3⟩:=h.lJ;simp at e;subst e;exact⟨x,rfl,h2⟩
 | _,_::_,i+1,_,h,e=>by
  obtain⟨x,r,rfl,h2,h3⟩:=h.lJ;simp at e;obtain⟨y,q1,q2⟩:=aO.get h3 e;exact⟨y,by simpa using q1,q2⟩
theorem aO.append:∀{xs ys:List V} {ds es:List A},aO K G ι xs ds→aO K G ι ys es→aO K G ι (xs++ys) (ds++es)
 | _,_,[],_,h,t=>by rw [qP]at h;subst h;exact t
 | _,_,d::ds,_,h,t=>by
  obtain⟨x,r,rfl,h2,h3⟩:=h.lJ;exact .cons h2 (aO.append h3 t)
theorem aO.take:∀{xs:List V} {ds:List A} (n:Nat),aO K G ι xs ds→aO K G ι (xs.take n) (ds.take n)
 | _,_,0,_=>by simpa using aO.nil
 | _,[],n+1,h=>by rw [qP]at h;subst h;exact aO.nil
 | _,d::ds,n+1,h=>by
  obtain⟨x,r,rfl,h2,h3⟩:=h.lJ;exact .cons h2 (aO.take n h3)
theorem aO.drop:∀{xs:List V} {ds:List A} (n:Nat),aO K G ι xs ds→aO K G ι (xs.drop n) (ds.drop n)
 | _,_,0,h=>by simpa using h
 | _,[],n+1,h=>by rw [qP]at h;subst h;exact aO.nil
 | _,d::ds,n+1,h=>by
  obtain⟨x,r,rfl,h2,h3⟩:=h.lJ;exact aO.drop n h3
theorem aO.set{x:V}{d:A}(hx:Den K G ι x d):∀{xs:List V} {ds:List A} (n:Nat),aO K G ι xs ds→aO K G ι (xs.set n x) (ds.set n d)
 | _,[],n,h=>by rw [qP]at h;subst h;exact aO.nil
 | _,e::ds,0,h=>by
  obtain⟨y,r,rfl,h2,h3⟩:=h.lJ;exact .cons hx h3
 | _,e::ds,n+1,h=>by
  obtain⟨y,r,rfl,h2,h3⟩:=h.lJ;exact .cons h2 (aO.set hx n h3)
theorem QK:∀(ns:List Int),aO K G ι (ns.map V.int) (ns.map A.int)
 | [] => .nil
 | n::ns => .cons (by simp only [Den]) (QK ns)
end
def av6(K:Frag)(G H:Hp)(a:Addr)(x:Str)(pos:Pos)(qual:Str):Prop :=
 G a=none∧(∃c,PySem.W.tabIn K x=some (c,a))∧∃ps,H a=some (.vZ ps)∧TriplesOk ps.toList ∧
  (codeAmong pos ps.toList=none∨∃c' oc vs t,codeAmong pos ps.toList=some (.ref c')∧G c'=some (.cK oc (.own 0))∧oc.data = .fields vs∧vs[1]? = some (.str qual t))
def iC(K:Frag)(G:Hp)(ι:List Addr)(H:Hp)(v:V):Fd→Prop
 | .val a=>Den K G ι v a
 | .lst ds=>∃b xs,v = .ref b∧G b=none∧b∉ι∧H b=some (.lst xs)∧aO K G ι xs ds
 | .bD aB=>∃b,∃ws:List (Key×V),v = .ref b∧G b=none∧b∉ι∧H b=some (.dK ws)∧ws.map (·.1)=aB.map (·.1)∧aO K G ι (ws.map (·.2)) (aB.map (·.2))
def iP(K:Frag)(G:Hp)(ι:List Addr)(H:Hp):List (Str×V)→List (Str×Fd)→Prop
 | [],[]=>True
 | (f,v)::ws,(g,d)::fs=>f=g∧iC K G ι H v d∧iP K G ι H ws fs
 | _,_=>False
def nM(K:Frag)(G:Hp)(ι:List Addr)(H:Hp)(a:Addr):Cell→Prop
 | .lst ds=>G a=none∧∃xs,H a=some (.lst xs)∧aO K G ι xs ds
 | .bD aB=>G a=none∧∃ws:List (Key×V),H a=some (.dK ws)∧ws.map (·.1)=aB.map (·.1)∧aO K G ι (ws.map (·.2)) (aB.map (·.2))
 | .ins cls fs=>G a=none∧∃C dx,∃ws:List (Str×V),nsIn K mainGlobals cls=some (some (.ref C))∧H a=some (.ins C dx ws)∧iP K G ι H ws fs
 | .tab x pos qual=>av6 K G H a x pos qual
 | .dead=>True
def hZ(H:Hp)(ι:List Addr)(Ω:aI)(k i:Nat)(b:Addr):Prop:=∃a cls fs C dx ws g h fd,ι[k]? = some a∧Ω[k]? = some (.ins cls fs)∧H a=some (.ins C dx ws)∧fs[i]? = some (g,fd)∧fd.own=true∧ws[i]? = some (h,.ref b)
structure Wd(K:Frag)(G:Hp)(ι:List Addr)(Ω:aI)(H:Hp):Prop where
 sub:kM G H
 inj:ι.Nodup
 len:ι.length=Ω.length
 live:∀a∈ι,∃o,H a=some o
 aD:∀(k:Nat) (c:Cell) (a:Addr),Ω[k]? = some c→ι[k]? = some a→nM K G ι H a c
 sep:∀(b:Addr) (k i k' i':Nat),hZ H ι Ω k i b→hZ H ι Ω k' i' b→k=k'∧i=i'
section
variable{K:Frag}{G G' H H':Hp}{ι ι':List Addr}{Ω:aI}{a p:Addr}
theorem iC.mono{v:V}{fd:Fd}(h:iC K G ι H v fd)(e:Ext G ι G' ι')(ho:∀b o,b∉ι→G b=none→H b=some o→b∉ι'∧G' b=none∧H' b=some o):iC K G' ι' H' v fd:=by
 cases fd with
 | val a=>exact Den.ext e h
 | lst ds =>
  obtain⟨b,xs,h1,h2,h3,h4,h5⟩:=h;obtain⟨q1,q2,q3⟩:=ho b _ h3 h2 h4;exact⟨b,xs,h1,q2,q1,q3,h5.ext e⟩
 | bD aB =>
  obtain⟨b,ws,h1,h2,h3,h4,h5,h6⟩:=h;obtain⟨q1,q2,q3⟩:=ho b _ h3 h2 h4;exact⟨b,ws,h1,q2,q1,q3,h5,h6.ext e⟩
theorem iP.map{K':Frag}{G' H':Hp}{ι':List Addr}(f:∀v fd,iC K G ι H v fd→iC K' G' ι' H' v fd):∀{ws:List (Str×V)} {fs:List (Str×Fd)},iP K G ι H ws fs→iP K' G' ι' H' ws fs
 | [],[],_=>trivial
 | (_,_)::_,(_,_)::_,h=>⟨h.1,f _ _ h.2.1,iP.map f h.2.2⟩
 | [],_::_,h=>h.elim
 | _::_,[],h=>h.elim
theorem nM.mono{c:Cell}(h:nM K G ι H a c)(e:Ext G ι G' ι')(hg:G' a=G a)(hh:H' a=H a)(ho:∀b o,b∉ι→G b=none→H b=some o→b∉ι'∧G' b=none∧H' b=some o):nM K G' ι' H' a c:=by
 cases c with
 | lst ds=>obtain⟨g,xs,h1,h2⟩:=h;exact⟨hg.trans g,xs,hh.trans h1,h2.ext e⟩
 | bD aB=>obtain⟨g,ws,h1,h2,h3⟩:=h;exact⟨hg.trans g,ws,hh.trans h1,h2,h3.ext e⟩
 | ins cls fs=>obtain⟨g,C,dx,ws,h0,h1,h2⟩:=h;exact⟨hg.trans g,C,dx,ws,h0,hh.trans h1,h2.map fun _ _ q=>q.mono e ho⟩
 | tab x pos qual =>
  obtain⟨g,hc,ps,h1,h2,h3⟩:=h;exact⟨hg.trans g,hc,ps,hh.trans h1,h2,h3.imp id fun⟨c',oc,vs,t,q1,q2,q3⟩=>⟨c',oc,vs,t,q1,e.same _ _ q2,q3⟩⟩
 | dead=>trivial
theorem Wd.addr(w:Wd K G ι Ω H){k:Nat}{c:Cell}(h:Ω[k]? = some c):∃a,ι[k]? = some a:=by
 have hk:=(bO.mp h).1;exact⟨ι[k]'(by rw [w.len];exact hk),gK _⟩
theorem Wd.ne(w:Wd K G ι Ω H)(hp:H p=none)(ha:a∈ι):a≠p:=by
 obtain⟨o,ho⟩:=w.live a ha;exact jU ho hp
theorem Wd.qO(w:Wd K G ι Ω H)(hp:H p=none):G p=none:=by
 cases e:G p with
 | none=>rfl
 | some o=>rw [w.sub _ _ e]at hp;cases hp
theorem hZ.to{k i:Nat}{b:Addr}{ι':List Addr}{Ω Ω':aI}(h:hZ H ι Ω k i b)(h1:∀a,ι[k]? = some a→ι'[k]? = some a∧∀o,H a=some o→H' a=some o)(h2:∀cls fs,Ω[k]? = some (.ins cls fs)→Ω'[k]? = some (.ins cls fs)):hZ H' ι' Ω' k i b:=by
 obtain⟨a,cls,fs,C,dx,ws,g,h',fd,q1,q2,q3,q4,q5,q6⟩:=h;exact⟨a,cls,fs,C,dx,ws,g,h',fd,(h1 a q1).1,h2 _ _ q2,(h1 a q1).2 _ q3,q4,q5,q6⟩
theorem hZ.no{k i:Nat}{b:Addr}{c:Cell}(h:hZ H ι Ω k i b)(hc:Ω[k]? = some c)(hn:c.noOwn=true):False:=by
 obtain⟨a,cls,fs,C,dx,ws,g,h',fd,q1,q2,q3,q4,q5,q6⟩:=h;rw [hc]at q2;cases q2;simp only [Cell.noOwn,LJ]at hn;have:=hn _ (kQ q4);simp only []at this;rw [q5]at this;cases this
theorem Wd.grow(w:Wd K G ι Ω H)(s:kM H H'):Wd K G ι Ω H' where
 sub:=w.sub.trans s
 inj:=w.inj
 len:=w.len
 live:=fun a ha=>let ⟨o,ho⟩:=w.live a ha; ⟨o,s _ _ ho⟩
 aD:=fun k c a h1 h2=>by
  have q:=w.aD k c a h1 h2;cases c with
  | lst ds=>obtain⟨g,xs,h1,h2⟩:=q;exact⟨g,xs,s _ _ h1,h2⟩
  | bD aB=>obtain⟨g,ws,h1,h2,h3⟩:=q;exact⟨g,ws,s _ _ h1,h2,h3⟩
  | ins cls fs=>obtain⟨g,C,dx,ws,h0,h1,h2⟩:=q;exact⟨g,C,dx,ws,h0,s _ _ h1,h2.map fun _ _ q=>q.mono (Ext.refl _ _) fun b o x y z=>⟨x,y,s _ _ z⟩⟩
  | tab x pos qual =>
   obtain⟨g,hc,ps,h1,h2⟩:=q;exact⟨g,hc,ps,s _ _ h1,h2⟩
  | dead=>trivial
 sep:=fun b k i k' i' h1 h2=>by
  have back:∀{k i},hZ H' ι Ω k i b→hZ H ι Ω k i b:=fun h=>h.to (fun a ha=>⟨ha,fun o ho=>by
   obtain⟨o',sU⟩:=w.live a (kQ ha);have:=s _ _ sU;rw [ho]at this;cases this;exact sU⟩) fun _ _ q=>q
  exact w.sep b k i k' i' (back h1) (back h2)
theorem wL{α:Type}:∀{l:List α} {i j:Nat} {x:α},l.Nodup→l[i]? = some x→l[j]? = some x→i=j
 | [],_,_,_,_,h,_=>by simp at h
 | y::l,0,0,_,_,_,_=>rfl
 | y::l,0,j+1,x,n,h1,h2=>by
  simp at h1 h2;subst h1;exact absurd (kQ h2) (vJ.mp n).1
 | y::l,i+1,0,x,n,h1,h2=>by
  simp at h1 h2;subst h2;exact absurd (kQ h1) (vJ.mp n).1
 | y::l,i+1,j+1,x,n,h1,h2=>by
  simp at h1 h2;rw [wL (vJ.mp n).2 h1 h2]
theorem DU{α:Type}{l:List α}{k:Nat}{x:α}(h:l[k]? = some x):x∈l:=kQ h
theorem Ext.new(hp:G p=none)(o:HO):Ext G ι (upd G p o) ι:=⟨kM.new hp,fun _ _ h=>h⟩
theorem Wd.new(w:Wd K G ι Ω H)(hp:H p=none)(o:HO):Wd K (upd G p o) ι Ω (upd H p o)where
 sub:=fun b u h=>by
  by_cases e:b=p
  ·subst e;rw [fA]at h ⊢;exact h
  ·rw [bA e]at h ⊢;exact w.sub _ _ h
 inj:=w.inj
 len:=w.len
 live:=fun a ha=>by rw [bA (w.ne hp ha)];exact w.live a ha
 aD:=fun k c a h1 h2=>by
  have n:=w.ne hp (DU h2);exact(w.aD k c a h1 h2).mono (Ext.new (w.qO hp) o) (bA n) (bA n) fun b u x y z=>by
   have nb:b≠p:=jU z hp;exact⟨x,by rw [bA nb];exact y,by rw [bA nb];exact z⟩
 sep:=fun b k i k' i' h1 h2=>by
  have back:∀{k i},hZ (upd H p o) ι Ω k i b→hZ H ι Ω k i b:=fun h=>h.to (fun a ha=>⟨ha,fun u hu=>by rwa [bA (w.ne hp (kQ ha))]at hu⟩) fun _ _ q=>q;exact w.sep b k i k' i' (back h1) (back h2)
theorem Ext.cell(x:Addr):Ext G ι G (ι++[x]):=⟨kM.refl _,fun k a h=>by
 rw [eK (bO.mp h).1];exact h⟩
theorem Wd.cell(w:Wd K G ι Ω H)(hp:H p=none){o:HO}{c:Cell}(hc:nM K G (ι++[p]) (upd H p o) p c)(uU:c.noOwn=true:=by rfl):Wd K G (ι++[p]) (Ω++[c]) (upd H p o)where
 sub:=fun b u h=>by
  have e:b≠p:=fun e=>by subst e;rw [w.sub _ _ h]at hp;cases hp
  rw [bA e];exact w.sub _ _ h
 inj:=by
  rw [Hs];exact⟨w.inj,by simp,fun a ha b hb=>by simp at hb;subst hb;exact w.ne hp ha⟩
 len:=by simp [w.len]
 live:=fun a ha=>by
  rcases iU.mp ha with h | h
  ·rw [bA (w.ne hp h)];exact w.live a h
  ·simp at h;subst h;exact⟨o,fA⟩
 aD:=fun k c' a h1 h2=>by
  by_cases hk:k<ι.length
  ·rw [eK hk]at h2;rw [eK (by rw [← w.len];exact hk)]at h1;exact(w.aD k c' a h1 h2).mono (Ext.cell p) rfl (bA (w.ne hp (DU h2))) fun b u x y z=>by
    have nb:b≠p:=jU z hp;exact⟨by simp [x,nb],y,by rw [bA nb];exact z⟩
  ·have fS:k=ι.length:=by
    have:=(bO.mp h2).1;simp at this;omega
   subst fS;simp at h2;subst h2;rw [w.len]at h1;simp at h1;subst h1;exact hc
 sep:=fun b k i k' i' h1 h2=>by
  have back:∀{k i},hZ (upd H p o) (ι++[p]) (Ω++[c]) k i b→hZ H ι Ω k i b:=fun{k i} h=>by
   have h0:=h;obtain⟨a,cls,fs,C,dx,ws,g,h',fd,q1,q2,q3,q4,q5,q6⟩:=h
   by_cases hk:k<Ω.length
   ·rw [eK hk]at q2;rw [eK (by rw [w.len];exact hk)]at q1;rw [bA (w.ne hp (DU q1))]at q3;exact⟨a,cls,fs,C,dx,ws,g,h',fd,q1,q2,q3,q4,q5,q6⟩
   ·have fS:k=Ω.length:=by
     have:=(bO.mp q2).1;simp at this;omega
    subst fS;exact(h0.no (by simp) uU).elim
  exact w.sep b k i k' i' (back h1) (back h2)
theorem Wd.put(w:Wd K G ι Ω H){k:Nat}{c:Cell}{o:HO}(hk:ι[k]? = some a)(hg:G a=none)(hc:nM K G ι (upd H a o) a c)(uU:c.noOwn=true:=by rfl):Wd K G ι (Ω.set k c) (upd H a o)where
 sub:=fun b u h=>by
  have e:b≠a:=fun e=>by subst e;rw [hg]at h;cases h
  rw [bA e];exact w.sub _ _ h
 inj:=w.inj
 len:=by rw [yB];exact w.len
 live:=fun b hb=>by
  by_cases e:b=a
  ·subst e;exact⟨o,fA⟩
  ·rw [bA e];exact w.live b hb
 aD:=fun j c' b h1 h2=>by
  by_cases hj:j=k
  ·subst hj;rw [hk]at h2;cases h2;have hl:j<Ω.length:=by rw [← w.len];exact(bO.mp hk).1
   rw [gX hl]at h1;cases h1;exact hc
  ·rw [fY (cA hj)]at h1;have dY:b≠a:=fun e=>by
    subst e;exact hj (wL w.inj h2 hk)
   exact(w.aD j c' b h1 h2).mono (Ext.refl _ _) rfl (bA dY) fun b u x y z=>by
    have nb:b≠a:=fun e=>by subst e;exact x (DU hk)
    exact⟨x,y,by rw [bA nb];exact z⟩
 sep:=fun b j i j' i' h1 h2=>by
  have back:∀{j i},hZ (upd H a o) ι (Ω.set k c) j i b→hZ H ι Ω j i b:=fun{j i} h=>by
   have h0:=h;obtain⟨a',cls,fs,C,dx,ws,g,h',fd,q1,q2,q3,q4,q5,q6⟩:=h
   by_cases hj:j=k
   ·subst hj;have hl:j<Ω.length:=by rw [← w.len];exact(bO.mp hk).1
    exact(h0.no (by rw [gX hl]) uU).elim
   ·rw [fY (cA hj)]at q2;have dY:a'≠a:=fun e=>by subst e;exact hj (wL w.inj q1 hk)
    rw [bA dY]at q3;exact⟨a',cls,fs,C,dx,ws,g,h',fd,q1,q2,q3,q4,q5,q6⟩
  exact w.sep b j i j' i' (back h1) (back h2)
theorem Wd.freeze(w:Wd K G ι Ω H){k:Nat}{o:HO}(hk:ι[k]? = some a)(hg:G a=none)(ho:H a=some o):Wd K (upd G a o) ι (Ω.set k .dead) H where
 sub:=fun b u h=>by
  by_cases e:b=a
  ·subst e;rw [fA]at h;cases h;exact ho
  ·rw [bA e]at h;exact w.sub _ _ h
 inj:=w.inj
 len:=by rw [yB];exact w.len
 live:=w.live
 aD:=fun j c' b h1 h2=>by
  by_cases hj:j=k
  ·subst hj;have hl:j<Ω.length:=by rw [← w.len];exact(bO.mp hk).1
   rw [gX hl]at h1;cases h1;trivial
  ·rw [fY (cA hj)]at h1;have dY:b≠a:=fun e=>by
    subst e;exact hj (wL w.inj h2 hk)
   exact(w.aD j c' b h1 h2).mono (Ext.new hg o) (bA dY) rfl fun b u x y z=>by
    have nb:b≠a:=fun e=>by subst e;exact x (DU hk)
    exact⟨x,by rw [bA nb];exact y,z⟩
 sep:=fun b j i j' i' h1 h2=>by
  have back:∀{j i},hZ H ι (Ω.set k .dead) j i b→hZ H ι Ω j i b:=fun{j i} h=>by
   have h0:=h;obtain⟨a',cls,fs,C,dx,ws,g,h',fd,q1,q2,q3,q4,q5,q6⟩:=h
   by_cases hj:j=k
   ·subst hj;have hl:j<Ω.length:=by rw [← w.len];exact(bO.mp hk).1
    exact(h0.no (by rw [gX hl]) rfl).elim
   ·rw [fY (cA hj)]at q2;exact⟨a',cls,fs,C,dx,ws,g,h',fd,q1,q2,q3,q4,q5,q6⟩
  exact w.sep b j i j' i' (back h1) (back h2)
end
def fQ(K:Frag)(G:Hp)(ι:List Addr)(σ:L2.St)(ρ:Ev):Prop:=σ.length=ρ.length∧∀(i:Nat) (d:A),ρ[i]? = some (some d)→∃v,σ[i]? = some (some v)∧Den K G ι v d
theorem fQ.ext{K:Frag}{G G':Hp}{ι ι':List Addr}{σ:L2.St}{ρ:Ev}(r:fQ K G ι σ ρ)(e:Ext G ι G' ι'):fQ K G' ι' σ ρ:=⟨r.1,fun i d h=>let ⟨v,h1,h2⟩:=r.2 i d h; ⟨v,h1,h2.ext e⟩⟩
theorem fQ.set{K:Frag}{G:Hp}{ι:List Addr}{σ:L2.St}{ρ:Ev}(r:fQ K G ι σ ρ)(j:Nat){v:V}{d:A}(h:Den K G ι v d):fQ K G ι (σ.set j (some v)) (ρ.set j (some d)):=by
 refine⟨by rw [yB,yB];exact r.1,fun i e he=>?_⟩
 by_cases hU:i=j
 ·subst hU;have hl:i<ρ.length:=by
   have:=(bO.mp he).1;rwa [yB]at this
  rw [gX hl]at he;cases he;exact⟨v,gX (by rw [r.1];exact hl),h⟩
 ·rw [fY (cA hU)]at he ⊢;exact r.2 i e he
def Yv(K:Frag)(G:Hp)(ι:List Addr)(H:Hp)(x:Exc)(cls:Value)(dx:Option Addr):Prop :=
 (∃C,nsIn K mainGlobals x.cls=some (some (.ref C))∧cls = .ref C)∧((x.fs=[]∧dx=none)∨∃d f i,dx=some d∧x.fs=[(f,.int i)]∧G d=some (.xd [(f,.int i)]))
abbrev Rl(α β:Type):=Hp→List Addr→β→α→Prop
def bH{α β:Type}(K:Frag)(rel:Rl α β)(W:WX)(G:Hp)(ι:List Addr)(σ:L2.St)(Q:β→Hp→Prop):Option (Rs α×aI)→Prop
 | some (.ok a,Ω')=>∀v H' G' ι',Ext G ι G' ι'→Wd K G' ι' Ω' H'→rel G' ι' v a→Q v H'
 | some (.exc x,Ω')=>∀cls dx H' G' ι',Ext G ι G' ι'→Wd K G' ι' Ω' H'→Yv K G' ι' H' x cls dx→W σ cls dx H'
 | none=>False
theorem bH.ext{α β:Type}{K:Frag}{rel:Rl α β}{W:WX}{G G1:Hp}{ι ι1:List Addr}{σ:L2.St}{Q:β→Hp→Prop}{r:Option (Rs α×aI)}(h:bH K rel W G ι σ Q r)(e:Ext G ι G1 ι1):bH K rel W G1 ι1 σ Q r:=by
 match r,h with
 | some (.ok a,Ω'),h=>exact fun v H' G' ι' x w d=>h v H' G' ι' (e.trans x) w d
 | some (.exc x,Ω'),h=>exact fun cls dx H' G' ι' x w d=>h cls dx H' G' ι' (e.trans x) w d
theorem bH.mb{α β γ δ:Type}{K:Frag}{rel:Rl α β}{wI:Rl γ δ}{W:WX}{G:Hp}{ι:List Addr}{σ:L2.St}{Q:δ→Hp→Prop}{Q1:β→Hp→Prop}{m:Mo α}{k:α→Mo γ}{Ω:aI}(h:bH K wI W G ι σ Q (mb m k Ω))
  (hk:∀a Ω1 v H1 G1 ι1,Ext G ι G1 ι1→Wd K G1 ι1 Ω1 H1→rel G1 ι1 v a→bH K wI W G1 ι1 σ Q (k a Ω1)→Q1 v H1):bH K rel W G ι σ Q1 (m Ω):=by
 unfold V2.mb at h
 revert h
 generalize m Ω=r;intro h
 match r,h with
 | some (.ok a,Ω1),h=>exact fun v H1 G1 ι1 x w d=>hk a Ω1 v H1 G1 ι1 x w d (bH.ext h x)
 | some (.exc x,Ω1),h=>exact h
theorem bH.need{α β γ:Type}{K:Frag}{wI:Rl α β}{W:WX}{G:Hp}{ι:List Addr}{σ:L2.St}{Q:β→Hp→Prop}{o:Option γ}{k:γ→Mo α}{Ω:aI}(h:bH K wI W G ι σ Q (V2.mb (need o) k Ω)):∃a,o=some a∧bH K wI W G ι σ Q (k a Ω):=by
 cases o with
 | none=>exact False.elim h
 | some a=>exact⟨a,rfl,h⟩
theorem bH.nG{α β:Type}{K:Frag}{wI:Rl α β}{W:WX}{G:Hp}{ι:List Addr}{σ:L2.St}{Q:β→Hp→Prop}{p:Prop} [Decidable p]{k:Unit→Mo α}{Ω:aI}(h:bH K wI W G ι σ Q (V2.mb (nG p) k Ω)):p∧bH K wI W G ι σ Q (k () Ω):=by
 unfold V2.mb V2.nG at h
 by_cases hp:p
 ·rw [if_pos hp]at h;exact⟨hp,h⟩
 ·rw [if_neg hp]at h;exact False.elim h
def hW{α β:Type}(K:Frag)(rel:Rl α β)(W:WX)(t:L2.St→Hp→(β→Hp→Prop)→Prop)(f:Ev→Mo α):Prop :=
 ∀G ι Ω H σ ρ Q,Wd K G ι Ω H→fQ K G ι σ ρ→bH K rel W G ι σ Q (f ρ Ω)→t σ H Q
def zE:Rl Bool Bool:=fun _ _ b c=>b=c
def VE(X:Cx)(W:WX)(e:Expr)(f:Ev→Mo A):Prop:=∃t,PE X e t∧hW X.K (Den X.K) W t f
def VT(X:Cx)(W:WX)(e:Expr)(f:Ev→Mo Bool):Prop:=∃t,PT X e t∧hW X.K zE W t f
def VW(X:Cx)(W:WX)(e:Expr)(f:Ev→Mo Bool):Prop:=∃t,PW X e t∧hW X.K zE W t f
def VA(X:Cx)(W:WX)(es:List Expr)(f:Ev→Mo (List A)):Prop:=∃t,PA X es t∧hW X.K (aO X.K) W t f
end V2
namespace V2
open PySem PySem.Spec PyProof.Rows L2
section
variable{K:Frag}{G H:Hp}{ι:List Addr}{Ω:aI}{v:V}{a:A}
def cU(Ω:aI):A→Option (List A)
 | .lst ds=>some ds
 | .cM ns=>some (ns.map A.int)
 | .aD k=>match Ω[k]? with
  | some (.lst ds)=>some ds
  | _=>none
 | _=>none
def gE(Ω:aI):A→Option (List A)
 | .tup ds=>some ds
 | a=>cU Ω a
theorem rM(w:Wd K G ι Ω H)(d:Den K G ι v a){ds:List A}(h:cU Ω a=some ds):∃p xs,v = .ref p∧fK K H p xs∧aO K G ι xs ds:=by
 cases a with
 | lst es =>
  simp only [cU,jO]at h;subst h;simp only [Den]at d;obtain⟨p,xs,h1,h2,h3⟩:=d;exact⟨p,xs,h1,fK.of (w.sub _ _ h2),h3⟩
 | cM ns =>
  simp only [cU,jO]at h;subst h;simp only [Den]at d;obtain⟨p,h1,h2⟩:=d;exact⟨p,_,h1,w.sub.seq h2,QK ns⟩
 | aD k =>
  simp only [cU]at h;cases e:Ω[k]? with
  | none=>rw [e]at h;cases h
  | some c =>
   rw [e]at h;cases c with
   | lst es =>
    simp only [jO]at h;subst h;simp only [Den]at d;obtain⟨p,h1,h2⟩:=d;obtain⟨g,xs,h3,h4⟩:=w.aD k _ p e h2;exact⟨p,xs,h1,fK.of h3,h4⟩
   | _=>cases h
 | _=>simp [cU]at h
theorem VL(w:Wd K G ι Ω H)(d:Den K G ι v a){ds:List A}(h:gE Ω a=some ds):∃p xs,v = .ref p∧(fK K H p xs∨iL K H p xs)∧aO K G ι xs ds:=by
 cases a with
 | tup es =>
  simp only [gE,jO]at h;subst h;simp only [Den]at d;obtain⟨p,xs,h1,h2,h3⟩:=d;exact⟨p,xs,h1,.inr (iL.of (w.sub _ _ h2)),h3⟩
 | _ =>
  obtain⟨p,xs,h1,h2,h3⟩:=rM w d h;exact⟨p,xs,h1,.inl h2,h3⟩
theorem Oy(w:Wd K G ι Ω H)(d:Den K G ι v a){ds:List A}(h:cU Ω a=some ds)(hs:∀ns,a ≠ .cM ns):∃p xs,v = .ref p∧H p=some (.lst xs)∧aO K G ι xs ds:=by
 cases a with
 | lst es =>
  simp only [cU,jO]at h;subst h;simp only [Den]at d;obtain⟨p,xs,h1,h2,h3⟩:=d;exact⟨p,xs,h1,w.sub _ _ h2,h3⟩
 | cM ns=>exact absurd rfl (hs ns)
 | aD k =>
  simp only [cU]at h;cases e:Ω[k]? with
  | none=>rw [e]at h;cases h
  | some c =>
   rw [e]at h;cases c with
   | lst es =>
    simp only [jO]at h;subst h;simp only [Den]at d;obtain⟨p,h1,h2⟩:=d;obtain⟨g,xs,h3,h4⟩:=w.aD k _ p e h2;exact⟨p,xs,h1,h3,h4⟩
   | _=>cases h
 | _=>simp [cU]at h
end
@[simp] def uO(c:Bool)(ds:List A):Mo A:=fun Ω=>if c then some (.ok (.aD Ω.length),Ω++[.lst ds])else some (.ok (.lst ds),Ω)
section
variable{K:Frag}{G H:Hp}{ι:List Addr}{Ω:aI}{W:WX}{σ:L2.St}{Q:VK}
theorem zJ{c:Bool}{ds:List A}{xs:List V}{p:Addr}(w:Wd K G ι Ω H)(hp:H p=none)(d:aO K G ι xs ds)(h:bH K (Den K) W G ι σ Q (uO c ds Ω)):Q (.ref p) (upd H p (.lst xs)):=by
 cases c with
 | true =>
  refine h _ _ G (ι++[p]) (Ext.cell p) (w.cell hp ⟨w.qO hp,xs,fA,d.ext (Ext.cell p)⟩) ?_;simp only [Den];exact⟨p,rfl,by rw [← w.len];simp⟩
 | false =>
  refine h _ _ _ _ (Ext.new (w.qO hp) (.lst xs)) (w.new hp _) ?_;simp only [Den];exact⟨p,xs,rfl,fA,d.ext (Ext.new (w.qO hp) _)⟩
@[simp] def YF(ds:List A):Mo A:=ret (.tup ds)
theorem YE{ds:List A}{xs:List V}{p:Addr}(w:Wd K G ι Ω H)(hp:H p=none)(d:aO K G ι xs ds)(h:bH K (Den K) W G ι σ Q (YF ds Ω)):Q (.ref p) (upd H p (.tup xs)):=by
 refine h _ _ _ _ (Ext.new (w.qO hp) (.tup xs)) (w.new hp _) ?_;simp only [Den];exact⟨p,xs,rfl,fA,d.ext (Ext.new (w.qO hp) _)⟩
theorem kG{α β:Type}{rel:Rl α β}{Q:β→Hp→Prop}{a:α}{b:β}(w:Wd K G ι Ω H)(d:rel G ι b a)(h:bH K rel W G ι σ Q (ret a Ω)):Q b H:=h b H G ι (Ext.refl _ _) w d
end
section
variable{X:Cx}{W:WX}{e a b:Expr}{es:List Expr}{pos:Pos}{fa fb:Ev→Mo A}{fs:Ev→Mo (List A)}
@[simp] def dG(i:Nat):Ev→Mo A:=fun ρ=>need (ρ[i]?).join
theorem join_some{α:Type}{o:Option (Option α)}{x:α}(h:o.join=some x):o=some (some x):=by
 cases o with
 | none=>cases h
 | some y=>cases y with
  | none=>cases h
  | some z=>cases h;rfl
theorem agY{K:Frag}{i:Nat}:hW K (Den K) W (UP i) (dG i):=by
 intro G ι Ω H σ ρ Q w r h;unfold dG need at h;cases e:(ρ[i]?).join with
 | none=>rw [e]at h;exact False.elim h
 | some d =>
  rw [e]at h;obtain⟨v,h1,h2⟩:=r.2 i d (join_some e);exact⟨v,h1,h v H G ι (Ext.refl _ _) w h2⟩
theorem vv(i:Nat){x:Str}(hN:X.N[i]? = some x:=by rfl)(hv:KU X.env.scope x:=by first | exact Or.inl rfl | exact Or.inr (Or.inl rfl) | exact Or.inr (Or.inr rfl))(hd:(x == ("__debug__" : Str))=false:=by decide)
  (mO:(x == ("__classdict__" : Str))=false:=by decide):VE X W (.Name x pos) (dG i):=⟨_,Pe hN hv hd mO,agY⟩
@[simp] def GO(i:Nat):Ev→Mo A:=fun ρ Ω=>match (ρ[i]?).join with
 | some (.aD k)=>match Ω[k]? with
  | some (.lst ds)=>some (.ok (.lst ds),Ω.set k .dead)
  | _=>none
 | _=>none
theorem ag0{K:Frag}{i:Nat}:hW K (Den K) W (UP i) (GO i):=by
 intro G ι Ω H σ ρ Q w r h;unfold GO at h;cases e:(ρ[i]?).join with
 | none=>rw [e]at h;exact False.elim h
 | some d =>
  rw [e]at h;cases d with
  | aD k =>
   simp only at h;cases e2:Ω[k]? with
   | none=>rw [e2]at h;exact False.elim h
   | some c =>
    rw [e2]at h;cases c with
    | lst ds =>
     obtain⟨v,h1,h2⟩:=r.2 i _ (join_some e);simp only [Den]at h2;obtain⟨p,rfl,h4⟩:=h2;obtain⟨g,xs,h5,h6⟩:=w.aD k _ p e2 h4;refine⟨_,h1,h _ H (upd G p (.lst xs)) ι (Ext.new g _) (w.freeze h4 g h5) ?_⟩;simp only [Den];exact⟨p,xs,rfl,fA,h6.ext (Ext.new g _)⟩
    | _=>exact False.elim h
  | _=>exact False.elim h
theorem vf(i:Nat){x:Str}(hN:X.N[i]? = some x:=by rfl)(hv:KU X.env.scope x:=by first | exact Or.inl rfl | exact Or.inr (Or.inl rfl) | exact Or.inr (Or.inr rfl))(hd:(x == ("__debug__" : Str))=false:=by decide)
  (mO:(x == ("__classdict__" : Str))=false:=by decide):VE X W (.Name x pos) (GO i):=⟨_,Pe hN hv hd mO,ag0⟩
theorem GZ{K:Frag}{v:V}{d:A}(h:∀G ι,Den K G ι v d):hW K (Den K) W (tC v) (fun _=>ret d):=fun G ι _ _ _ _ _ w _ q=>kG w (h G ι) q
theorem aM{i:Int}{j}:VE X W (.Constant (.int i) j pos) (fun _=>ret (.int i)):=⟨_,akQ,GZ fun _ _=>by simp only [Den]⟩
theorem uB{i:Bool}{j}:VE X W (.Constant (.bool i) j pos) (fun _=>ret (.bl i)):=⟨_,ak0,GZ fun _ _=>by simp only [Den]⟩
theorem MP{j}:VE X W (.Constant .none j pos) (fun _=>ret .bB):=⟨_,akJ,GZ fun _ _=>by simp only [Den]⟩
theorem aaY{x:Str}{i:Int}(hg:Gl X x)(hm:∃t,X.mg x=some (.int i t))(hd:(x == ("__debug__" : Str))=false:=by decide):VE X W (.Name x pos) (fun _=>ret (.int i)):=by
 obtain⟨t,hm⟩:=hm;exact⟨_,akR (v := .int i) hg hm ⟨t,rfl⟩ hd,GZ fun _ _=>by simp only [Den]⟩
theorem yQ{x:Str}{n:String}(hg:Gl X x)(hm:X.mg x=none)(hv:bootBuiltins x=some (.type n))(hn:x ≠ "__name__":=by decide)(hd:(x == ("__debug__" : Str))=false:=by decide):VE X W (.Name x pos) (fun _=>ret (.ty n)) :=
 ⟨_,akZ (v := .ty n) hg hm hv rfl hn hd,GZ fun _ _=>by simp only [Den]⟩
theorem aU:VA X W [] (fun _=>ret []):=⟨_,XR,fun _ _ _ _ _ _ _ w _ q=>kG w .nil q⟩
@[simp] def aH(f:Ev→Mo A)(g:Ev→Mo (List A)):Ev→Mo (List A):=fun ρ=>mb (f ρ) fun x=>mb (g ρ) fun xs=>ret (x::xs)
theorem aJ(h1:VE X W e fa)(h2:VA X W es fs)(hs:starEach (e::es) X.env=(false,eval e X.env)::starEach es X.env:=by rfl):VA X W (e::es) (aH fa fs):=by
 obtain⟨t,p1,s1⟩:=h1;obtain⟨u,p2,s2⟩:=h2;refine⟨_,XS p1 p2 hs,fun G ι Ω H σ ρ Q w r h=>?_⟩;refine s1 G ι Ω H σ ρ _ w r (bH.mb h fun x Ω1 v H1 G1 ι1 x1 w1 d1 h1=>?_);refine s2 G1 ι1 Ω1 H1 σ ρ _ w1 (r.ext x1) (bH.mb h1 fun xs Ω2 vs H2 G2 ι2 x2 w2 d2 h2=>?_);exact kG w2 (.cons (d1.ext x2) d2) h2
@[simp] def GN(g:Ev→Mo (List A)):Ev→Mo A:=fun ρ=>mb (g ρ) fun xs=>mb (nG (xs.length≤sizeLine)) fun _=>YF xs
theorem MO{k}(h:VA X W es fs):VE X W (.Tuple es k pos) (GN fs):=by
 obtain⟨t,p,s⟩:=h;refine⟨_,akD p,fun G ι Ω H σ ρ Q w r h=>?_⟩;refine s G ι Ω H σ ρ _ w r (bH.mb h fun xs Ω1 vs H1 G1 ι1 x1 w1 d1 h1=>?_);obtain⟨hl,h2⟩:=bH.nG h1;exact⟨by rw [d1.length];exact hl,fun p hp=>YE w1 hp d1 h2⟩
@[simp] def jD(c:Bool)(g:Ev→Mo (List A)):Ev→Mo A:=fun ρ=>mb (g ρ) fun xs=>mb (nG (xs.length≤sizeLine)) fun _=>uO c xs
theorem oO(c:Bool)(h:VA X W es fs):VE X W (.List es pos) (jD c fs):=by
 obtain⟨t,p,s⟩:=h;refine⟨_,akN p,fun G ι Ω H σ ρ Q w r h=>?_⟩;refine s G ι Ω H σ ρ _ w r (bH.mb h fun xs Ω1 vs H1 G1 ι1 x1 w1 d1 h1=>?_);obtain⟨hl,h2⟩:=bH.nG h1;exact⟨by rw [d1.length];exact hl,fun p hp=>zJ w1 hp d1 h2⟩
def BN(K:Frag)(W:WX)(r:R2)(g:A→A→Mo A):Prop :=
 ∀G ι Ω H σ x y a b Q,Wd K G ι Ω H→Den K G ι x a→Den K G ι y b→bH K (Den K) W G ι σ Q (g a b Ω)→r x y H Q
def lY(X:Cx)(W:WX)(f:Value→Value→Sem Value)(g:A→A→Mo A):Prop:=∃r,iA X f r∧BN X.K W r g
@[simp] def aF(g:A→A→Mo A)(f h:Ev→Mo A):Ev→Mo A:=fun ρ=>mb (f ρ) fun x=>mb (h ρ) fun y=>g x y
theorem NP{K:Frag}{r:R2}{g:A→A→Mo A}{ta tb:TE}(ho:BN K W r g)(h1:hW K (Den K) W ta fa)(h2:hW K (Den K) W tb fb):hW K (Den K) W (GU r ta tb) (aF g fa fb):=by
 intro G ι Ω H σ ρ Q w q h;refine h1 G ι Ω H σ ρ _ w q (bH.mb h fun x Ω1 v H1 G1 ι1 x1 w1 d1 h1=>?_);refine h2 G1 ι1 Ω1 H1 σ ρ _ w1 (q.ext x1) (bH.mb h1 fun y Ω2 u H2 G2 ι2 x2 w2 d2 h2=>?_);exact ho G2 ι2 Ω2 H2 σ v u x y Q w2 (d1.ext x2) d2 h2
theorem aR{op:Operator}{g:A→A→Mo A}(ho:lY X W (binaryOp op) g)(ha:VE X W a fa)(hb:VE X W b fb):VE X W (.BinOp a op b pos) (aF g fa fb):=by
 obtain⟨r,o1,o2⟩:=ho;obtain⟨t,p1,s1⟩:=ha;obtain⟨u,p2,s2⟩:=hb;exact⟨_,akG o1 p1 p2,NP o2 s1 s2⟩
@[simp] def gI(C:Int→Int→Prop) [∀i j,Decidable (C i j)](g:Int→Int→A):A→A→Mo A
 | .int i,.int j=>mb (nG (C i j)) fun _=>ret (g i j)
 | _,_=>stuck
theorem HN{K:Frag}{C:Int→Int→Prop} [∀i j,Decidable (C i j)]{g:Int→Int→V}{g':Int→Int→A}(hg:∀G ι i j,Den K G ι (g i j) (g' i j)):BN K W (rI C g) (gI C g'):=by
 intro G ι Ω H σ x y a b Q w d1 d2 h;cases a with
 | int i =>
  cases b with
  | int j =>
   simp only [Den]at d1 d2;obtain⟨hc,h2⟩:=bH.nG h;exact⟨i,j,d1,d2,hc,kG w (hg _ _ _ _) h2⟩
  | _=>exact False.elim h
 | _=>exact False.elim h
@[simp] def ET(g:Int→Int→A):A→A→Mo A
 | .int i,.int j=>ret (g i j)
 | _,_=>stuck
theorem HM{K:Frag}{g:Int→Int→V}{g':Int→Int→A}(hg:∀G ι i j,Den K G ι (g i j) (g' i j)):BN K W (uJ g) (ET g'):=by
 intro G ι Ω H σ x y a b Q w d1 d2 h;cases a with
 | int i =>
  cases b with
  | int j =>
   simp only [Den]at d1 d2;exact⟨i,j,d1,d2,kG w (hg _ _ _ _) h⟩
  | _=>exact False.elim h
 | _=>exact False.elim h
instance:∀i j,Decidable (kB i j):=fun i j=>by unfold kB;infer_instance
instance:∀i j,Decidable (rE i j):=fun i j=>by unfold rE;infer_instance
instance:∀i j,Decidable (rX i j):=fun i j=>by unfold rX;infer_instance
@[simp] def jJ:=ET fun i j => .int (i - j)
@[simp] def fT:=gI kB fun i j => .int (i*j)
@[simp] def nF:=gI rE fun i j => .int (i/j)
@[simp] def gH:=gI (fun _ j=>0<j) fun i j => .int (i%j)
@[simp] def AN:=gI rX fun i j => .int (i ^ j.toNat)
@[simp] def ES:=gI rX fun i j => .int (i*2 ^ j.toNat)
theorem nC:lY X W (binaryOp .Sub) jJ:=⟨_,alA,HM fun _ _ _ _=>by simp only [Den]⟩
theorem mH:lY X W (binaryOp .Mult) fT:=⟨_,alF,HN fun _ _ _ _=>by simp only [Den]⟩
theorem sN:lY X W (binaryOp .FloorDiv) nF:=⟨_,alM,HN fun _ _ _ _=>by simp only [Den]⟩
theorem iS:lY X W (binaryOp .Mod) gH:=⟨_,alG,HN fun _ _ _ _=>by simp only [Den]⟩
theorem DQ:lY X W (binaryOp .Pow) AN:=⟨_,alC,HN fun _ _ _ _=>by simp only [Den]⟩
theorem Pp:lY X W (binaryOp .LShift) ES:=⟨_,alB,HN fun _ _ _ _=>by simp only [Den]⟩
@[simp] def IL:A→Bool
 | .cM _=>true
 | _=>false
theorem Pt{a:A}(h:IL a=false):∀ns,a ≠ .cM ns:=fun ns e=>by subst e;cases h
@[simp] def QE(c:Bool)(a b:A):Mo A:=fun Ω=>match cU Ω a,cU Ω b with
  | some xs,some ys=>if IL a||IL b||decide (sizeLine<xs.length+ys.length)then none else uO c (xs++ys) Ω
  | _,_=>none
@[simp] def Ds(c:Bool):A→A→Mo A
 | .int i,.int j=>ret (.int (i+j))
 | .tup xs,.tup ys=>mb (nG (0<xs.length∧xs.length+ys.length≤sizeLine)) fun _=>YF (xs++ys)
 | a,b=>QE c a b
theorem ak9{K:Frag}{c:Bool}:BN K W Og (QE c):=by
 intro G ι Ω H σ x y a b Q w d1 d2 h;unfold QE at h
 match e1:cU Ω a,e2:cU Ω b with
 | none,_=>rw [e1]at h;exact False.elim h
 | some xs,none=>rw [e1,e2]at h;exact False.elim h
 | some xs,some ys =>
  rw [e1,e2]at h;simp only at h
  by_cases hb:(IL a||IL b||decide (sizeLine<xs.length+ys.length))=true
  ·rw [if_pos hb]at h;exact False.elim h
  ·rw [if_neg hb]at h;simp only [Bool.or_eq_true,xN,not_or,Bool.not_eq_true]at hb;obtain⟨p,us,rfl,h2,h3⟩:=Oy w d1 e1 (Pt hb.1.1);obtain⟨q,ws,rfl,h5,h6⟩:=Oy w d2 e2 (Pt hb.1.2);exact⟨p,q,us,ws,rfl,rfl,h2,h5,by rw [h3.length,h6.length];omega,fun r hr=>zJ w hr (h3.append h6) h⟩
theorem iF(c:Bool):lY X W (binaryOp .Add) (Ds c):=by
 refine⟨_,alQ.or (alP.or alO),?_⟩;intro G ι Ω H σ x y a b Q w d1 d2 h;unfold Ds at h;split at h
 ·simp only [Den]at d1 d2;exact .inl ⟨_,_,d1,d2,kG w (by simp only [Den]) h⟩
 ·rename_i xs ys;simp only [Den]at d1 d2;obtain⟨p,us,rfl,h2,h3⟩:=d1;obtain⟨q,ws,rfl,h5,h6⟩:=d2;obtain⟨⟨c1,c2⟩,h⟩:=bH.nG h;refine .inr (.inr ⟨p,q,us,ws,rfl,rfl,iL.of (w.sub _ _ h2),iL.of (w.sub _ _ h5),?_,by rw [h3.length,h6.length];exact c2,fun e=>?_,fun _ r hr=>YE w hr (h3.append h6) h⟩)
  ·intro e;subst e;have:=h3.length;simp at this;omega
  ·subst e;refine kG w ?_ h;simp only [Den];exact⟨p,us,rfl,h2,by simpa using h3.append h6⟩
 ·exact .inr (.inl (ak9 G ι Ω H σ x y _ _ Q w d1 d2 h))
end
def cD:Nat→A→Bool
 | _,.int _=>true
 | _,.bl _=>true
 | _,.bB=>true
 | _,.str x=>PyData.canLay0 (.str x)
 | n+1,.tup ds=>ds.all (cD n)
 | n+1,.lst ds=>ds.all (cD n)
 | _,_=>false
def xJ(f:A→A→Bool):List A→List A→Bool
 | [],[]=>true
 | x::xs,y::ys=>f x y&&xJ f xs ys
 | _,_=>false
def fV:Nat→A→A→Bool
 | _,.int i,.int j=>i == j
 | _,.bl i,.bl j=>i == j
 | _,.bl i,.int j=>(if i then 1 else 0) == j
 | _,.int i,.bl j=>i == (if j then 1 else 0)
 | _,.bB,.bB=>true
 | _,.str x,.str y=>x == y
 | n+1,.tup xs,.tup ys=>xJ (fV n) xs ys
 | n+1,.lst xs,.lst ys=>xJ (fV n) xs ys
 | _,_,_=>false
def toPy:Nat→A→PyData
 | _,.int i => .int i
 | _,.bl i => .bool i
 | _,.str x => .str x
 | n+1,.tup ds => .tuple (ds.map (toPy n))
 | n+1,.lst ds => .list (ds.map (toPy n))
 | _,_ => .none
theorem QS:∀(ds:List A) (n:Nat),(∀d∈ds,cD n d=true→PyData.canLay0 (toPy n d)=true)→ds.all (cD n)=true→PyData.canLayAll0 (ds.map (toPy n))=true
 | [],_,_,_=>rfl
 | d::ds,n,ih,h=>by
  simp only [Ig,mB]at h;simp only [fE,PyData.canLayAll0,mB];exact⟨ih d sP h.1,QS ds n (fun e he=>ih e (iB _ he)) h.2⟩
theorem DF:∀(n:Nat) (a:A),cD n a=true→PyData.canLay0 (toPy n a)=true:=by
 intro n
 induction n with
 | zero=>intro a h;cases a <;> first | rfl | exact h | cases h
 | succ n ih =>
  intro a h;cases a with
  | tup ds=>exact QS ds n (fun d _=>ih d) h
  | lst ds=>exact QS ds n (fun d _=>ih d) h
  | str x=>exact h
  | int i=>rfl
  | bl b=>rfl
  | bB=>rfl
  | _=>cases h
theorem Em:∀(ds:List A) (n:Nat),(∀d∈ds,(toPy n d).depth≤n)→PyData.depthAll (ds.map (toPy n))≤n
 | [],_,_=>vH _
 | d::ds,n,ih=>by
  simp only [fE,PyData.depthAll];exact Nat.max_le.mpr ⟨ih d sP,Em ds n fun e he=>ih e (iB _ he)⟩
theorem UL:∀(n:Nat) (a:A),(toPy n a).depth≤n:=by
 intro n
 induction n with
 | zero=>intro a;cases a <;> exact oX _
 | succ n ih =>
  intro a;cases a with
  | tup ds=>exact Nat.succ_le_succ (Em ds n fun d _=>ih d)
  | lst ds=>exact Nat.succ_le_succ (Em ds n fun d _=>ih d)
  | _=>exact vH _
theorem Uv:∀(xs ys:List A) (n:Nat),(∀x∈xs,∀y∈ys,PyData.eqv (toPy n x) (toPy n y)=fV n x y)→PyData.eqvAll (xs.map (toPy n)) (ys.map (toPy n))=xJ (fV n) xs ys
 | [],[],_,_=>rfl
 | [],_::_,_,_=>rfl
 | _::_,[],_,_=>rfl
 | x::xs,y::ys,n,ih=>by
  simp only [fE,PyData.eqvAll,xJ];rw [ih x sP y sP,Uv xs ys n fun a ha b hb=>ih a (iB _ ha) b (iB _ hb)]
theorem UK:∀(n:Nat) (a b:A),cD n a=true→cD n b=true→PyData.eqv (toPy n a) (toPy n b)=fV n a b:=by
 intro n
 induction n with
 | zero=>intro a b ha hb;cases a <;> cases b <;> first | rfl | (simp [cD]at ha;done) | (simp [cD]at hb;done)
 | succ n ih =>
  intro a b ha hb;have lst:∀xs ys:List A,xs.all (cD n)=true→ys.all (cD n)=true→PyData.eqvAll (xs.map (toPy n)) (ys.map (toPy n))=xJ (fV n) xs ys:=fun xs ys h1 h2 =>
   Uv xs ys n fun x hx y hy=>ih x y (LJ.mp h1 x hx) (LJ.mp h2 y hy)
  cases a <;> cases b <;> first | rfl | (simp [cD]at ha;done) | (simp [cD]at hb;done) | exact lst _ _ ha hb
section
variable{X:Cx}{pins:List (Addr×Obj)}{σ:L2.St}{H:Hp}{s:Shared}{ι:List Addr}
theorem readsAll(n:Nat)(ih:∀(v:V) (u:Value) (a:A),cD n a=true→Den X.K H ι v a→RelV v u→∃as,Reads s.heap u (toPy n a) as) :
  ∀(ds:List A) (xs:List V) (us:List Value),ds.all (cD n)=true→aO X.K H ι xs ds→Vals xs us→∃as,ReadsAll s.heap us (ds.map (toPy n)) as
 | [],xs,us,_,d,r=>by
  rw [qP]at d;subst d;cases r;exact⟨_,.nil⟩
 | a::ds,xs,us,h,d,r=>by
  obtain⟨x,t,rfl,d1,d2⟩:=d.lJ;simp only [Ig,mB]at h;cases r with
  | cons r1 r2 =>
   obtain⟨as,q1⟩:=ih _ _ _ h.1 d1 r1;obtain⟨bs,q2⟩:=readsAll n ih ds _ _ h.2 d2 r2;exact⟨_,.cons q1 q2⟩
theorem DN(I:Inv X pins σ H s):∀(n:Nat) (v:V) (u:Value) (a:A),cD n a=true→Den X.K H ι v a→RelV v u→∃as,Reads s.heap u (toPy n a) as:=by
 intro n
 induction n with
 | zero =>
  intro v u a h d r;cases a with
  | int i=>simp only [Den]at d;subst d;obtain⟨t,rfl⟩:=r;exact⟨_,.int i t⟩
  | bl b=>simp only [Den]at d;subst d;cases r;exact⟨_,.bool b⟩
  | str x=>simp only [Den]at d;subst d;obtain⟨t,rfl⟩:=r;exact⟨_,.str x t⟩
  | bB=>simp only [Den]at d;subst d;cases r;exact⟨_,.none⟩
  | _=>cases h
 | succ n ih =>
  intro v u a h d r;cases a with
  | int i=>simp only [Den]at d;subst d;obtain⟨t,rfl⟩:=r;exact⟨_,.int i t⟩
  | bl b=>simp only [Den]at d;subst d;cases r;exact⟨_,.bool b⟩
  | str x=>simp only [Den]at d;subst d;obtain⟨t,rfl⟩:=r;exact⟨_,.str x t⟩
  | bB=>simp only [Den]at d;subst d;cases r;exact⟨_,.none⟩
  | tup ds =>
   simp only [Den]at d;obtain⟨p,xs,rfl,h2,h3⟩:=d;cases r;obtain⟨aN,rv,pl,hz⟩:=I.tuple (iL.of h2);obtain⟨as,q⟩:=readsAll n ih ds xs aN h h3 rv;obtain⟨o,ho,hc,m,hd⟩:=(show s.heap.IsTuple p aN.toArray from pl);exact⟨_,.tuple ho hc hd (by simpa using q)⟩
  | lst ds =>
   simp only [Den]at d;obtain⟨p,xs,rfl,h2,h3⟩:=d;cases r;obtain⟨aN,rv,pl,hz⟩:=I.list (fK.of h2);obtain⟨as,q⟩:=readsAll n ih ds xs aN h h3 rv;obtain⟨o,ho,hc,m,hd⟩:=pl.isList;exact⟨_,.list ho hc hd (by simpa using q)⟩
  | _=>cases h
end
def XI(K:Frag)(neg:Bool):R2:=fun x y H Q=>∃ι a b,cD 8 a=true∧cD 8 b=true∧Den K H ι x a∧Den K H ι y b∧Q (.bl (if neg then !fV 8 a b else fV 8 a b)) H
theorem alN{X:Cx}(hu:X.A.units+64<cLine):iA X (compareOp .Eq) (XI X.K false):=by
 intro pins s σ H x y v u Q I rx ry h;obtain⟨ι,a,b,h1,h2,d1,d2,q⟩:=h;obtain⟨as,q1⟩:=DN I 8 x v a h1 d1 rx;obtain⟨bs,q2⟩:=DN I 8 y u b h2 d2 ry;have e1:=UL 8 a;refine SeqAt.compareEq_reads q1 q2 (DF 8 a h1) (DF 8 b h2) (by omega) ?_;rw [UK 8 a b h1 h2];exact⟨.bl (fV 8 a b),H,I,rfl,q⟩
theorem alE{X:Cx}(hu:X.A.units+64<cLine):iA X (compareOp .NotEq) (XI X.K true):=by
 intro pins s σ H x y v u Q I rx ry h;obtain⟨ι,a,b,h1,h2,d1,d2,q⟩:=h;obtain⟨as,q1⟩:=DN I 8 x v a h1 d1 rx;obtain⟨bs,q2⟩:=DN I 8 y u b h2 d2 ry;have e1:=UL 8 a;refine SeqAt.compareNe_reads q1 q2 (DF 8 a h1) (DF 8 b h2) (by omega) ?_;rw [UK 8 a b h1 h2];exact⟨.bl (!fV 8 a b),H,I,rfl,q⟩
def sO(f:A→Option A):List A→Option (List A)
 | []=>some []
 | x::xs=>match f x,sO f xs with
  | some y,some ys=>some (y::ys)
  | _,_=>none
def res(Ω:aI):Nat→A→Option A
 | 0,a=>if cD 8 a=true then some a else none
 | n+1,a=>if cD 8 a=true then some a else match a with
  | .tup ds=>(sO (res Ω n) ds).map .tup
  | .lst ds=>(sO (res Ω n) ds).map .lst
  | .aD k=>match Ω[k]? with
   | some (.lst ds)=>(sO (res Ω n) ds).map .lst
   | _=>none
  | _=>none
section
variable{K:Frag}{G H:Hp}{ι:List Addr}{Ω:aI}
theorem Wd.Uu(w:Wd K G ι Ω H):Ext G ι H ι:=⟨w.sub,fun _ _ h=>h⟩
theorem OL{f:A→Option A}(ih:∀v a b,Den K G ι v a→f a=some b→Den K H ι v b):∀(ds es:List A) (xs:List V),aO K G ι xs ds→sO f ds=some es→aO K H ι xs es
 | [],es,xs,d,h=>by
  simp only [sO,jO]at h;subst h;rw [qP]at d ⊢;exact d
 | a::ds,es,xs,d,h=>by
  obtain⟨x,t,rfl,d1,d2⟩:=d.lJ;simp only [sO]at h;split at h
  ·rename_i y ys e1 e2;cases h;exact .cons (ih _ _ _ d1 e1) (OL ih ds ys t d2 e2)
  ·cases h
theorem OB(w:Wd K G ι Ω H):∀(n:Nat) (v:V) (a b:A),Den K G ι v a→res Ω n a=some b→Den K H ι v b:=by
 intro n
 induction n with
 | zero =>
  intro v a b d h;simp only [res]at h;split at h
  ·cases h;exact d.ext w.Uu
  ·cases h
 | succ n ih =>
  intro v a b d h;simp only [res]at h;split at h
  ·cases h;exact d.ext w.Uu
  ·split at h
   ·rename_i ds _;simp only [BK]at h;obtain⟨es,h1,rfl⟩:=h;simp only [Den]at d ⊢;obtain⟨p,xs,q1,q2,q3⟩:=d;exact⟨p,xs,q1,w.sub _ _ q2,OL ih ds es xs q3 h1⟩
   ·rename_i ds _;simp only [BK]at h;obtain⟨es,h1,rfl⟩:=h;simp only [Den]at d ⊢;obtain⟨p,xs,q1,q2,q3⟩:=d;exact⟨p,xs,q1,w.sub _ _ q2,OL ih ds es xs q3 h1⟩
   ·rename_i k _;split at h
    ·rename_i ds e;simp only [BK]at h;obtain⟨es,h1,rfl⟩:=h;simp only [Den]at d ⊢;obtain⟨p,q1,q2⟩:=d;obtain⟨g,xs,q3,q4⟩:=w.aD k _ p e q2;exact⟨p,xs,q1,q3,OL ih ds es xs q4 h1⟩
    ·cases h
   ·cases h
end
def xI(neg:Bool)(a b:A):Mo A:=fun Ω=>match res Ω 6 a,res Ω 6 b with
 | some x,some y=>if(cD 8 x&&cD 8 y)=true then some (.ok (.bl (if neg then !fV 8 x y else fV 8 x y)),Ω)else none
 | _,_=>none
def kZ:=xI false
def nE:=xI true
section
variable{X:Cx}{W:WX}{e a b c:Expr}{pos:Pos}{fa fb fc:Ev→Mo A}{ta tb:Ev→Mo Bool}
theorem Pl{K:Frag}{neg:Bool}:BN K W (XI K neg) (xI neg):=by
 intro G ι Ω H σ x y a b Q w d1 d2 h;unfold xI at h;split at h
 ·rename_i a' b' e1 e2;split at h
  ·rename_i hp;rw [mB]at hp;exact⟨ι,a',b',hp.1,hp.2,OB w 6 x a a' d1 e1,OB w 6 y b b' d2 e2,h _ H G ι (Ext.refl _ _) w (by simp only [Den])⟩
  ·exact False.elim h
 ·exact False.elim h
theorem sL(hu:X.A.units+64<cLine):lY X W (compareOp .Eq) kZ:=⟨_,alN hu,Pl⟩
theorem DR(hu:X.A.units+64<cLine):lY X W (compareOp .NotEq) nE:=⟨_,alE hu,Pl⟩
@[simp] def xG:=ET fun i j => .bl (decide (i<j))
@[simp] def Uc:=ET fun i j => .bl (decide (i≤j))
@[simp] def tD:=ET fun i j => .bl (decide (j<i))
@[simp] def AO:=ET fun i j => .bl (decide (j≤i))
theorem HS:lY X W (compareOp .Lt) xG:=⟨_,alH,HM fun _ _ _ _=>by simp only [Den]⟩
theorem alY:lY X W (compareOp .LtE) Uc:=⟨_,alI,HM fun _ _ _ _=>by simp only [Den]⟩
theorem DS:lY X W (compareOp .Gt) tD:=⟨_,alK,HM fun _ _ _ _=>by simp only [Den]⟩
theorem YA:lY X W (compareOp .GtE) AO:=⟨_,alL,HM fun _ _ _ _=>by simp only [Den]⟩
def wV:A→Option Bool
 | .bB=>some true
 | _=>some false
theorem aoL{K:Frag}{G:Hp}{ι:List Addr}{v:V}{a:A}(d:Den K G ι v a):wV a=some (decide (v = .bB)):=by
 cases a with
 | bB=>simp only [Den]at d;subst d;rfl
 | tup ds=>simp only [Den]at d;obtain⟨p,xs,rfl,_⟩:=d;rfl
 | lst ds=>simp only [Den]at d;obtain⟨p,xs,rfl,_⟩:=d;rfl
 | cM ds=>simp only [Den]at d;obtain⟨p,rfl,_⟩:=d;rfl
 | aD ds=>simp only [Den]at d;obtain⟨p,rfl,_⟩:=d;rfl
 | gl x=>simp only [Den]at d;obtain⟨p,_,rfl⟩:=d;rfl
 | EV p d' f i=>simp only [Den]at d;obtain⟨rfl,_⟩:=d;rfl
 | _=>simp only [Den]at d;subst d;rfl
@[simp] def Dl(neg:Bool):A→A→Mo A
 | a,.bB=>mb (need (wV a)) fun k=>ret (.bl (if neg then !k else k))
 | _,_=>stuck
theorem alZ:lY X W (compareOp .Is) (Dl false):=by
 refine⟨_,alJ,?_⟩;intro G ι Ω H σ x y a b Q w d1 d2 h;cases b with
 | bB =>
  simp only [Den]at d2;obtain⟨k,e,h⟩:=bH.need h;rw [aoL d1]at e;cases e;exact⟨d2,kG w (by simp only [Den];rfl) h⟩
 | _=>exact False.elim h
@[simp] def Dr:A→Mo Bool
 | .bl b=>ret b
 | _=>stuck
@[simp] def bM(f:Ev→Mo A):Ev→Mo Bool:=fun ρ=>mb (f ρ) Dr
theorem Na{K:Frag}{t:TE}(h:hW K (Den K) W t fa):hW K zE W (Lw t) (bM fa):=by
 intro G ι Ω H σ ρ Q w r q;refine h G ι Ω H σ ρ _ w r (bH.mb q fun x Ω1 v H1 G1 ι1 x1 w1 d1 h1=>?_);cases x with
 | bl b=>simp only [Den]at d1;exact⟨b,d1,kG w1 rfl h1⟩
 | _=>exact False.elim h1
theorem aa2{op:CmpOp}{g:A→A→Mo A}(ho:lY X W (compareOp op) g)(ha:VE X W a fa)(hb:VE X W b fb)(hm:behindInMarks op b=false):VE X W (.Compare a [op] [b] pos) (aF g fa fb):=by
 obtain⟨r,o1,o2⟩:=ho;obtain⟨t,p1,s1⟩:=ha;obtain⟨u,p2,s2⟩:=hb;exact⟨_,akW o1 p1 p2 hm,NP o2 s1 s2⟩
theorem fM{op:CmpOp}{g:A→A→Mo A}(ho:lY X W (compareOp op) g)(ha:VE X W a fa)(hb:VE X W b fb)(hm:behindInMarks op b=false):VT X W (.Compare a [op] [b] pos) (bM (aF g fa fb)):=by
 obtain⟨r,o1,o2⟩:=ho;obtain⟨t,p1,s1⟩:=ha;obtain⟨u,p2,s2⟩:=hb;exact⟨_,ajB o1 p1 p2 hm,Na (NP o2 s1 s2)⟩
theorem uA(h:VE X W e fa)(he:∀whole,isTrue e X.env whole=(do let v ← whole;standAt e.pos;holding [v] (truthy v)):=by intro _;rfl):VT X W e (bM fa):=by
 obtain⟨t,p,s⟩:=h;exact⟨_,ai9 p he,Na s⟩
@[simp] def vX(f g:Ev→Mo Bool):Ev→Mo Bool:=fun ρ=>mb (f ρ) fun c=>if c then g ρ else ret false
@[simp] def iW(f g:Ev→Mo Bool):Ev→Mo Bool:=fun ρ=>mb (f ρ) fun c=>if c then ret true else g ρ
@[simp] def nR(f:Ev→Mo Bool):Ev→Mo Bool:=fun ρ=>mb (f ρ) fun c=>ret (!c)
variable{rest:List Expr}
theorem Kk(h:VT X W a ta):VW X W (.BoolOp .And [a] pos) ta:=let ⟨t,p,s⟩:=h; ⟨t,pw_and1 p,s⟩
theorem tZ(h:VT X W a ta):VW X W (.BoolOp .Or [a] pos) ta:=let ⟨t,p,s⟩:=h; ⟨t,pw_or1 p,s⟩
theorem Kl(h1:VT X W a ta)(h2:VW X W (.BoolOp .And (b::rest) pos) tb):VW X W (.BoolOp .And (a::b::rest) pos) (vX ta tb):=by
 obtain⟨t,p1,s1⟩:=h1;obtain⟨u,p2,s2⟩:=h2;refine⟨_,pw_and p1 p2,fun G ι Ω H σ ρ Q w r h=>?_⟩;refine s1 G ι Ω H σ ρ _ w r (bH.mb h fun c Ω1 c' H1 G1 ι1 x1 w1 d1 h1=>?_);cases(show c'=c from d1);cases c with
 | true=>exact s2 G1 ι1 Ω1 H1 σ ρ Q w1 (r.ext x1) h1
 | false=>exact kG w1 rfl h1
theorem qH(h1:VT X W a ta)(h2:VW X W (.BoolOp .Or (b::rest) pos) tb):VW X W (.BoolOp .Or (a::b::rest) pos) (iW ta tb):=by
 obtain⟨t,p1,s1⟩:=h1;obtain⟨u,p2,s2⟩:=h2;refine⟨_,pw_or p1 p2,fun G ι Ω H σ ρ Q w r h=>?_⟩;refine s1 G ι Ω H σ ρ _ w r (bH.mb h fun c Ω1 c' H1 G1 ι1 x1 w1 d1 h1=>?_);cases(show c'=c from d1);cases c with
 | false=>exact s2 G1 ι1 Ω1 H1 σ ρ Q w1 (r.ext x1) h1
 | true=>exact kG w1 rfl h1
theorem VW.vt(h:VW X W e ta):VT X W e ta:=let ⟨t,p,s⟩:=h; ⟨t,p.pt,s⟩
theorem vU(h:VT X W a ta):VT X W (.UnaryOp .Not a pos) (nR ta):=by
 obtain⟨t,p,s⟩:=h;refine⟨_,ajA p,fun G ι Ω H σ ρ Q w r h=>?_⟩;refine s G ι Ω H σ ρ _ w r (bH.mb h fun c Ω1 c' H1 G1 ι1 x1 w1 d1 h1=>?_);cases(show c'=c from d1);exact kG w1 rfl h1
@[simp] def DB(f g:Ev→Mo A):Ev→Mo A:=fun ρ=>mb (f ρ) fun x=>mb (Dr x) fun c=>if c then g ρ else ret (.bl false)
@[simp] def Lb(f:Ev→Mo A):Ev→Mo A:=fun ρ=>mb (f ρ) fun x=>mb (Dr x) fun c=>ret (.bl (!c))
theorem TU{op}(h:VE X W a fa):VE X W (.BoolOp op [a] pos) fa:=let ⟨t,p,s⟩:=h; ⟨t,akH p,s⟩
theorem TX(h1:VE X W a fa)(h2:VE X W (.BoolOp .And (b::rest) pos) fb):VE X W (.BoolOp .And (a::b::rest) pos) (DB fa fb):=by
 obtain⟨t,p1,s1⟩:=h1;obtain⟨u,p2,s2⟩:=h2;refine⟨_,ak2 p1 p2,fun G ι Ω H σ ρ Q w r h=>?_⟩;refine s1 G ι Ω H σ ρ _ w r (bH.mb h fun x Ω1 v H1 G1 ι1 x1 w1 d1 h1=>?_);cases x with
 | bl c =>
  simp only [Den]at d1;refine⟨c,d1,?_⟩;cases c with
  | true=>exact s2 G1 ι1 Ω1 H1 σ ρ Q w1 (r.ext x1) h1
  | false=>exact kG w1 (by simp only [Den]) h1
 | _=>exact False.elim h1
theorem aaW(h:VE X W a fa):VE X W (.UnaryOp .Not a pos) (Lb fa):=by
 obtain⟨t,p,s⟩:=h;refine⟨_,akI p,fun G ι Ω H σ ρ Q w r h=>?_⟩;refine s G ι Ω H σ ρ _ w r (bH.mb h fun x Ω1 v H1 G1 ι1 x1 w1 d1 h1=>?_);cases x with
 | bl c =>
  simp only [Den]at d1;exact⟨c,d1,kG w1 (by simp only [Den]) h1⟩
 | _=>exact False.elim h1
end
inductive Out where
 | nx | bk | ct | ret (a:A) | exc (x:Exc)
abbrev OS:=Option (Out×Ev×aI)
abbrev MS:=Ev→aI→OS
def Yc(K:Frag)(W:WX)(G:Hp)(ι:List Addr)(D:Ends)(σ:L2.St)(H:Hp):Out→Prop
 | .nx=>D.nx σ H
 | .bk=>D.bk σ H
 | .ct=>D.ct σ H
 | .ret a=>∀v,Den K G ι v a→D.rt v H
 | .exc x=>∀cls dx,Yv K G ι H x cls dx→W σ cls dx H
def cV(K:Frag)(W:WX)(G:Hp)(ι:List Addr)(D:Ends):OS→Prop
 | some (o,ρ',Ω')=>∀σ' H' G' ι',Ext G ι G' ι'→Wd K G' ι' Ω' H'→fQ K G' ι' σ' ρ'→Yc K W G' ι' D σ' H' o
 | none=>False
@[simp] def sM{α:Type}(m:Mo α)(ρ:Ev)(k:α→aI→OS):aI→OS:=fun Ω=>match m Ω with
 | some (.ok a,Ω1)=>k a Ω1
 | some (.exc x,Ω1)=>some (.exc x,ρ,Ω1)
 | none=>none
section
variable{K:Frag}{W:WX}{G:Hp}{ι:List Addr}{Ω:aI}{σ:L2.St}{ρ:Ev}{D:Ends}
theorem cV.ext{G1:Hp}{ι1:List Addr}{r:OS}(h:cV K W G ι D r)(e:Ext G ι G1 ι1):cV K W G1 ι1 D r:=by
 match r,h with
 | some (o,ρ',Ω'),h=>exact fun σ' H' G' ι' x w d=>h σ' H' G' ι' (e.trans x) w d
theorem cV.sM{α β:Type}{rel:Rl α β}{m:Mo α}{k:α→aI→OS}{Q1:β→Hp→Prop}(h:cV K W G ι D (V2.sM m ρ k Ω))(r:fQ K G ι σ ρ)
  (hk:∀a Ω1 v H1 G1 ι1,Ext G ι G1 ι1→Wd K G1 ι1 Ω1 H1→rel G1 ι1 v a→cV K W G1 ι1 D (k a Ω1)→Q1 v H1):bH K rel W G ι σ Q1 (m Ω):=by
 unfold V2.sM at h
 revert h
 generalize m Ω=q;intro h
 match q,h with
 | some (.ok a,Ω1),h=>exact fun v H1 G1 ι1 x w d=>hk a Ω1 v H1 G1 ι1 x w d (cV.ext h x)
 | some (.exc x,Ω1),h=>exact fun cls dx H' G' ι' e w d=>h σ H' G' ι' e w (r.ext e) cls dx d
end
def qS(K:Frag)(W:WX)(t:TS)(f:MS):Prop:=∀G ι Ω H σ ρ D,Wd K G ι Ω H→fQ K G ι σ ρ→cV K W G ι D (f ρ Ω)→t D σ H
def VS(X:Cx)(W:WX)(st:Stmt)(f:MS):Prop:=∃t,PS X st t∧qS X.K W t f
def lD(X:Cx)(W:WX)(st:List Stmt)(f:MS):Prop:=∃t,qT X st t∧qS X.K W t f
def FN(K:Frag)(W:WX)(t:TG)(g:A→MS):Prop:=∀G ι Ω H σ ρ v a D,Wd K G ι Ω H→fQ K G ι σ ρ→Den K G ι v a→cV K W G ι D (g a ρ Ω)→t v σ H D.nx
def av7(K:Frag)(W:WX)(t:tO)(g:List A→MS):Prop:=∀G ι Ω H σ ρ vs as D,Wd K G ι Ω H→fQ K G ι σ ρ→aO K G ι vs as→cV K W G ι D (g as ρ Ω)→t vs σ H D.nx
def VG(X:Cx)(W:WX)(tg:Expr)(g:A→MS):Prop:=∃t,PG X tg t∧FN X.K W t g
def KW(X:Cx)(W:WX)(tgs:List Expr)(g:List A→MS):Prop:=∃t,FR X tgs t∧av7 X.K W t g
@[simp] def jE:MS:=fun ρ Ω=>some (.nx,ρ,Ω)
@[simp] def aZ(f g:MS):MS:=fun ρ Ω=>match f ρ Ω with
 | some (.nx,ρ1,Ω1)=>g ρ1 Ω1
 | r=>r
section
variable{X:Cx}{W:WX}{st:Stmt}{rest:List Stmt}{f g:MS}{e:Expr}{fe:Ev→Mo A}{pos:Pos}
theorem pJ{K:Frag}{G H:Hp}{ι:List Addr}{Ω:aI}{σ:L2.St}{ρ:Ev}{D:Ends}(w:Wd K G ι Ω H)(r:fQ K G ι σ ρ)(h:cV K W G ι D (some (.nx,ρ,Ω))):D.nx σ H:=h σ H G ι (Ext.refl _ _) w r
theorem kO:lD X W [] jE:=⟨_,ajD,fun _ _ _ _ _ _ _ w r h=>pJ w r h⟩
theorem agZ{K:Frag}{t u:TS}(h1:qS K W t f)(h2:qS K W u g):qS K W (Lx t u) (aZ f g):=by
 intro G ι Ω H σ ρ D w r h;refine h1 G ι Ω H σ ρ _ w r ?_;unfold aZ at h
 revert h
 generalize f ρ Ω=q;intro h
 match q,h with
 | some (.nx,ρ1,Ω1),h=>exact fun σ' H' G' ι' x w' r'=>h2 G' ι' Ω1 H' σ' ρ1 D w' r' (cV.ext h x)
 | some (.bk,ρ1,Ω1),h=>exact h
 | some (.ct,ρ1,Ω1),h=>exact h
 | some (.ret a,ρ1,Ω1),h=>exact h
 | some (.exc a,ρ1,Ω1),h=>exact h
theorem bE(h1:VS X W st f)(h2:lD X W rest g):lD X W (st::rest) (aZ f g):=by
 obtain⟨t,p1,s1⟩:=h1;obtain⟨u,p2,s2⟩:=h2;exact⟨_,ajE p1 p2,agZ s1 s2⟩
theorem bN(h1:VS X W st f):lD X W [st] f:=let ⟨t,p,s⟩:=h1; ⟨t,ajC p,s⟩
@[simp] def kF(fe:Ev→Mo A):MS:=fun ρ=>sM (fe ρ) ρ fun _ Ω=>some (.nx,ρ,Ω)
theorem nQ(h:VE X W e fe)(hs:swapsWith e none pos.line X.env=pure false:=by rfl):VS X W (.Expr e pos) (kF fe):=by
 obtain⟨t,p,s⟩:=h;refine⟨_,ajN p hs,fun G ι Ω H σ ρ D w r h=>?_⟩;exact s G ι Ω H σ ρ _ w r (cV.sM h r fun a Ω1 v H1 G1 ι1 x1 w1 d1 h1=>pJ w1 (r.ext x1) h1)
@[simp] def cH(fe:Ev→Mo A):MS:=fun ρ=>sM (fe ρ) ρ fun a Ω=>some (.ret a,ρ,Ω)
theorem dO(h:VE X W e fe):VS X W (.Return (some e) pos) (cH fe):=by
 obtain⟨t,p,s⟩:=h;refine⟨_,ajJ p,fun G ι Ω H σ ρ D w r h=>?_⟩;exact s G ι Ω H σ ρ _ w r (cV.sM h r fun a Ω1 v H1 G1 ι1 x1 w1 d1 h1=>h1 σ H1 G1 ι1 (Ext.refl _ _) w1 (r.ext x1) v d1)
@[simp] def fG(c:Ev→Mo Bool)(f g:MS):MS:=fun ρ=>sM (c ρ) ρ fun b Ω=>if b then f ρ Ω else g ρ Ω
theorem jR{c:Expr}{a b:List Stmt}{fc:Ev→Mo Bool}(hc:VT X W c fc)(h1:lD X W a f)(h2:lD X W b g):VS X W (.If c a b pos) (fG fc f g):=by
 obtain⟨t0,p0,s0⟩:=hc;obtain⟨t,p1,s1⟩:=h1;obtain⟨u,p2,s2⟩:=h2;refine⟨_,ajL p0 p1 p2,fun G ι Ω H σ ρ D w r h=>?_⟩;refine s0 G ι Ω H σ ρ _ w r (cV.sM h r fun c Ω1 c' H1 G1 ι1 x1 w1 d1 h1=>?_);cases(show c'=c from d1);cases c with
 | true=>exact s1 G1 ι1 Ω1 H1 σ ρ D w1 (r.ext x1) h1
 | false=>exact s2 G1 ι1 Ω1 H1 σ ρ D w1 (r.ext x1) h1
@[simp] def gN(i:Nat):A→MS:=fun a ρ Ω=>some (.nx,ρ.set i (some a),Ω)
theorem jC{i:Nat}{x:Str}(hN:X.N.Nodup)(hi:X.N[i]? = some x)(hx:Loc X.env.scope x)(hf:X.fn x=true∨X.env.scope.names.lookup x=some .local:=by first | exact .inl rfl | exact .inr rfl | assumption):VG X W (.Name x pos) (gN i) :=
 ⟨_,Pd hN hi hx hf,fun _ _ _ _ _ _ _ _ _ w r d h=>pJ w (r.set i d) h⟩
@[simp] def pP:List A→MS:=fun as ρ Ω=>match as with
 | []=>some (.nx,ρ,Ω)
 | _=>none
@[simp] def iH(g:A→MS)(gs:List A→MS):List A→MS:=fun as=>match as with
 | a::r=>aZ (g a) (gs r)
 | []=>fun _ _=>none
theorem vV:KW X W [] pP:=⟨_,aj8,fun G ι Ω H σ ρ vs as D w r d h=>by
 cases as with
 | nil=>rw [qP]at d;exact⟨d,pJ w r h⟩
 | cons=>exact False.elim h⟩
theorem mF{es:List Expr}{g:A→MS}{gs:List A→MS}(h1:VG X W e g)(h2:KW X W es gs)
  (hs:(assignEach (e::es) X.env).map (·.2)=assign e X.env::(assignEach es X.env).map (·.2):=by rfl):KW X W (e::es) (iH g gs):=by
 obtain⟨t,p1,s1⟩:=h1;obtain⟨u,p2,s2⟩:=h2;refine⟨_,aj9 p1 p2 hs,fun G ι Ω H σ ρ vs as D w r d h=>?_⟩;cases as with
 | nil=>exact False.elim h
 | cons a as =>
  obtain⟨x,xs,rfl,d1,d2⟩:=d.lJ;refine⟨x,xs,rfl,s1 G ι Ω H σ ρ x a { D with nx:=fun σ' H'=>u xs σ' H' D.nx } w r d1 ?_⟩;simp only [iH,aZ]at h
  revert h
  generalize g a ρ Ω=q;intro h
  match q,h with
  | some (.nx,ρ1,Ω1),h=>exact fun σ' H' G' ι' x w' r'=>s2 G' ι' Ω1 H' σ' ρ1 xs as D w' r' (d2.ext x) (cV.ext h x)
  | some (.bk,ρ1,Ω1),h=>exact h
  | some (.ct,ρ1,Ω1),h=>exact h
  | some (.ret a,ρ1,Ω1),h=>exact h
  | some (.exc a,ρ1,Ω1),h=>exact h
@[simp] def pO(n:Nat)(gs:List A→MS):A→MS:=fun a ρ Ω=>match a with
 | .tup ds=>if ds.length=n then gs ds ρ Ω else none
 | _=>none
theorem yP{es:List Expr}{k:Nat}{n:Nat}{gs:List A→MS}(hc:X.calm=true)(h:KW X W es gs)
  (hn:(assignEach es X.env).length=n:=by rfl) (iT:(assignEach es X.env).findIdx? (·.1)=none:=by rfl):VG X W (.Tuple es k pos) (pO n gs):=by
 obtain⟨t,p,s⟩:=h;refine⟨_,akA hc p hn iT,fun G ι Ω H σ ρ v a D w r d h=>?_⟩;unfold pO at h;cases a with
 | tup ds =>
  simp only at h
  by_cases hl:ds.length=n
  ·rw [if_pos hl]at h;simp only [Den]at d;obtain⟨p,xs,rfl,h2,h3⟩:=d;exact⟨p,xs,rfl,iL.of (w.sub _ _ h2),by rw [h3.length];exact hl,s G ι Ω H σ ρ xs ds D w r h3 h⟩
  ·rw [if_neg hl]at h;exact False.elim h
 | _=>exact False.elim h
@[simp] def setCell(o i v:A)(Ω:aI):Option aI:=match o,i with
 | .aD k,.int n=>match Ω[k]? with
  | some (.lst ds)=>match nV ds.length n with
   | some j=>some (Ω.set k (.lst (ds.set j v)))
   | none=>none
  | _=>none
 | _,_=>none
@[simp] def Dd(fo fi:Ev→Mo A):A→MS:=fun a ρ=>sM (fo ρ) ρ fun o=>sM (fi ρ) ρ fun i Ω=>match setCell o i a Ω with
 | some Ω'=>some (.nx,ρ,Ω')
 | none=>none
theorem TQ{o i:Expr}{fo fi:Ev→Mo A}(ho:VE X W o fo)(hi:VE X W i fi)
  (ha:∀v,assign (.Subscript o i pos) X.env v=(do
   let ov ← holding [v] (eval o X.env)
   let iv ← holding [v,ov] (eval i X.env)
   standAt pos
   holding [v,ov,iv] (setItem ov iv v)
   release [v,ov,iv] []):=by intro _;rfl):VG X W (.Subscript o i pos) (Dd fo fi):=by
 obtain⟨t,p1,s1⟩:=ho;obtain⟨u,p2,s2⟩:=hi;refine⟨_,akB p1 p2 set_list ha,fun G ι Ω H σ ρ v a D w r d h=>?_⟩;refine s1 G ι Ω H σ ρ _ w r (cV.sM h r fun x Ω1 v1 H1 G1 ι1 x1 w1 d1 h1=>?_);refine s2 G1 ι1 Ω1 H1 σ ρ _ w1 (r.ext x1) (cV.sM h1 (r.ext x1) fun y Ω2 v2 H2 G2 ι2 x2 w2 d2 h2=>?_);unfold setCell at h2;cases x with
 | aD k =>
  cases y with
  | int n =>
   simp only at h2;cases e:Ω2[k]? with
   | none=>rw [e]at h2;exact False.elim h2
   | some c =>
    rw [e]at h2;cases c with
    | lst ds =>
     simp only at h2;cases e2:nV ds.length n with
     | none=>rw [e2]at h2;exact False.elim h2
     | some j =>
      rw [e2]at h2;have Vi:=d1.ext x2;simp only [Den]at Vi d2;obtain⟨p,rfl,hk⟩:=Vi;obtain⟨gg,xs,h5,h6⟩:=w2.aD k _ p e hk;refine⟨p,xs,n,j,rfl,d2,h5,by rw [h6.length];exact e2,?_⟩;refine pJ (w2.put (c := .lst (ds.set j a)) hk gg ⟨gg,_,fA,?_⟩) (r.ext (x1.trans x2)) h2;exact aO.set (d.ext (x1.trans x2)) j h6
    | _=>exact False.elim h2
  | _=>exact False.elim h2
 | _=>exact False.elim h2
@[simp] def bS(fe:Ev→Mo A)(g:A→MS):MS:=fun ρ=>sM (fe ρ) ρ fun a Ω=>g a ρ Ω
theorem VM{K:Frag}{te:TE}{t:TG}{g:A→MS}(h1:hW K (Den K) W te fe)(h2:FN K W t g):qS K W (NI te t) (bS fe g):=by
 intro G ι Ω H σ ρ D w r h;exact h1 G ι Ω H σ ρ _ w r (cV.sM h r fun a Ω1 v H1 G1 ι1 x1 w1 d1 h1=>h2 G1 ι1 Ω1 H1 σ ρ v a D w1 (r.ext x1) d1 h1)
theorem MN{tg:Expr}{g:A→MS}(he:VE X W e fe)(hg:VG X W tg g)(hs:swapsWithSole [tg] e pos.line X.env=pure false:=by rfl)(hw:swappedStores [tg] e X.env=pure none:=by rfl)
  (h1:(assignEach [tg] X.env).map (·.2)=[assign tg X.env]:=by rfl):VS X W (.Assign [tg] e pos) (bS fe g):=by
 obtain⟨t,p1,s1⟩:=he;obtain⟨u,p2,s2⟩:=hg;exact⟨_,ajQ p1 p2 hs hw h1,VM s1 s2⟩
theorem dS{i:Nat}{x:Str}{pos':Pos}(hN:X.N.Nodup)(hi:X.N[i]? = some x)(hx:Loc X.env.scope x)(he:VE X W e fe)(hs:swapsWith e (some (.Name x pos')) pos.line X.env=pure false:=by rfl)(hf:X.fn x=true∨X.env.scope.names.lookup x=some .local:=by first | exact .inl rfl | exact .inr rfl | assumption) :
  VS X W (.Assign [.Name x pos'] e pos) (bS fe (gN i)):=by
 obtain⟨t,p1,s1⟩:=he;exact⟨_,ajI hN hi hx p1 hs hf,VM s1 fun _ _ _ _ _ _ _ _ _ w r d h=>pJ w (r.set i d) h⟩
structure Src where
 ds:List A
 ok:aI→Prop
structure GB(K:Frag)(G:Hp)(ι:List Addr)(J:It)(S:Src):Prop where
 go:∀G' ι' Ω' H',Ext G ι G' ι'→Wd K G' ι' Ω' H'→S.ok Ω'→∀i,i<S.ds.length→J.go i H'
 stop:∀G' ι' Ω' H',Ext G ι G' ι'→Wd K G' ι' Ω' H'→S.ok Ω'→∀i,S.ds.length≤i→J.stop i H'
 vR:∀G' ι' Ω' H',Ext G ι G' ι'→Wd K G' ι' Ω' H'→S.ok Ω'→∀i x H2 d,S.ds[i]? = some d→J.vR i H' x H2→∃G2,Ext G' ι' G2 ι'∧Wd K G2 ι' Ω' H2∧Den K G2 ι' x d
def XG(K:Frag):Rl Src It:=fun G ι J S=>GB K G ι J S
def VI(X:Cx)(W:WX)(tg iter:Expr)(f:Ev→Mo Src):Prop:=∃t,PI X tg iter t∧hW X.K (XG X.K) W t f
open Classical in
noncomputable def eG(ok:aI→Prop)(g:A→MS)(b:MS):List A→MS
 | [],ρ,Ω=>if ok Ω then some (.nx,ρ,Ω)else none
 | x::xs,ρ,Ω=>if ok Ω then(match g x ρ Ω with
  | some (.nx,ρ0,Ω0)=>(match b ρ0 Ω0 with
   | some (.nx,ρ1,Ω1)=>eG ok g b xs ρ1 Ω1
   | some (.ct,ρ1,Ω1)=>eG ok g b xs ρ1 Ω1
   | some (.bk,ρ1,Ω1)=>some (.nx,ρ1,Ω1)
   | r=>r)
  | some (.exc e,ρ0,Ω0)=>some (.exc e,ρ0,Ω0)
  | _=>none)else none
@[simp] noncomputable def sI(fi:Ev→Mo Src)(g:A→MS)(b:MS):MS:=fun ρ=>sM (fi ρ) ρ fun S Ω=>eG S.ok g b S.ds ρ Ω
theorem Ur{K:Frag}{G:Hp}{ι:List Addr}{D:Ends}{ok:aI→Prop}{g:A→MS}{b:MS}{xs:List A}{ρ:Ev}{Ω:aI}(h:cV K W G ι D (eG ok g b xs ρ Ω)):ok Ω:=by
 cases xs with
 | nil =>
  unfold eG at h
  by_cases hp:ok Ω
  ·exact hp
  ·rw [if_neg hp]at h;exact False.elim h
 | cons =>
  unfold eG at h
  by_cases hp:ok Ω
  ·exact hp
  ·rw [if_neg hp]at h;exact False.elim h
theorem ag2{K:Frag}{wi:TI}{tg:TG}{tb:TS}{fi:Ev→Mo Src}{g:A→MS}{b:MS}(hi:hW K (XG K) W wi fi)(hg:FN K W tg g)(hb:qS K W tb b):qS K W (US wi tg tb) (sI fi g b):=by
 intro G ι Ω H σ ρ D w r h;refine hi G ι Ω H σ ρ _ w r (cV.sM h r fun S Ω1 J H1 G1 ι1 x1 w1 j1 h1=>?_);refine⟨fun i m σ' H'=>m=S.ds.length - i∧i≤S.ds.length∧∃G' ι' Ω' ρ',Ext G1 ι1 G' ι'∧Wd K G' ι' Ω' H'∧fQ K G' ι' σ' ρ'∧cV K W G' ι' D (eG S.ok g b (S.ds.drop i) ρ' Ω'),
  ⟨_,rfl,vH _,G1,ι1,Ω1,ρ,Ext.refl _ _,w1,r.ext x1,by simpa using h1⟩,?_⟩
 rintro i m σ' H' ⟨rfl,Sm,G',ι',Ω',ρ',e',w',r',h'⟩;have aK:=Ur h'
 by_cases bG:i<S.ds.length
 ·right
  refine⟨j1.go G' ι' Ω' H' e' w' aK i bG,fun σ2 H2=>∃G2 ι2 Ω2 ρ2,Ext G1 ι1 G2 ι2∧Wd K G2 ι2 Ω2 H2∧fQ K G2 ι2 σ2 ρ2∧cV K W G2 ι2 D (eG S.ok g b (S.ds.drop (i+1)) ρ2 Ω2),fun σ2 H2 n=>?_,fun x H2 y=>?_⟩
  ·exact⟨S.ds.length - (i+1),by omega,rfl,bG,n⟩
  ·obtain⟨G2,e2,w2,d2⟩:=j1.vR G' ι' Ω' H' e' w' aK i x H2 S.ds[i] (gK bG) y;rw [BV bG]at h';unfold eG at h';rw [if_pos aK]at h';refine hg G2 ι' Ω' H2 σ' ρ' x S.ds[i] { D with nx:=fun σ3 H3=>tb _ σ3 H3 } w2 (r'.ext e2) d2 ?_
   revert h'
   generalize g S.ds[i] ρ' Ω'=q;intro h'
   match q,h' with
   | some (.nx,ρ3,Ω3),h' =>
    intro σ3 H3 G3 ι3 x3 w3 r3;refine hb G3 ι3 Ω3 H3 σ3 ρ3 _ w3 r3 ?_;simp only at h'
    revert h'
    generalize b ρ3 Ω3=q2;intro h'
    match q2,h' with
    | some (.nx,ρ4,Ω4),h'=>exact fun σ4 H4 G4 ι4 x4 w4 r4=>⟨G4,ι4,Ω4,ρ4,(e'.trans (e2.trans x3)).trans x4,w4,r4,cV.ext h' ((e2.trans x3).trans x4)⟩
    | some (.ct,ρ4,Ω4),h'=>exact fun σ4 H4 G4 ι4 x4 w4 r4=>⟨G4,ι4,Ω4,ρ4,(e'.trans (e2.trans x3)).trans x4,w4,r4,cV.ext h' ((e2.trans x3).trans x4)⟩
    | some (.bk,ρ4,Ω4),h'=>exact fun σ4 H4 G4 ι4 x4 w4 r4=>h' σ4 H4 G4 ι4 ((e2.trans x3).trans x4) w4 r4
    | some (.ret a,ρ4,Ω4),h'=>exact fun σ4 H4 G4 ι4 x4 w4 r4=>h' σ4 H4 G4 ι4 ((e2.trans x3).trans x4) w4 r4
    | some (.exc a,ρ4,Ω4),h'=>exact fun σ4 H4 G4 ι4 x4 w4 r4=>h' σ4 H4 G4 ι4 ((e2.trans x3).trans x4) w4 r4
   | some (.exc a,ρ3,Ω3),h'=>exact fun σ4 H4 G4 ι4 x4 w4 r4=>h' σ4 H4 G4 ι4 (e2.trans x4) w4 r4
 ·have JF:i=S.ds.length:=by omega
  subst JF
  left
  rw [Ib]at h';unfold eG at h';rw [if_pos aK]at h';exact⟨j1.stop G' ι' Ω' H' e' w' aK _ cE,pJ w' r' h'⟩
theorem GL{tg iter:Expr}{body:List Stmt}{fi:Ev→Mo Src}{g:A→MS}{b:MS}(hp:PassesOwn (model X.prog X.w) X.A X.env X.xe)(hc:X.calm=true)(hi:VI X W tg iter fi)(hg:VG X W tg g)(hb:lD X W body b)
  (hs:∀x,foldedSetIterable iter X.env x=pure x:=by intro _;rfl):VS X W (.For tg iter body [] pos) (sI fi g b):=by
 obtain⟨t1,p1,s1⟩:=hi;obtain⟨t2,p2,s2⟩:=hg;obtain⟨t3,p3,s3⟩:=hb;exact⟨_,Ow hp hc p1 p2 p3 hs,ag2 s1 s2 s3⟩
def jW(c:Ev→Mo Bool)(b:MS):Nat→MS
 | 0,_,_=>none
 | n+1,ρ,Ω=>sM (c ρ) ρ (fun k Ω1=>if k then(match b ρ Ω1 with
   | some (.nx,ρ1,Ω2)=>jW c b n ρ1 Ω2
   | some (.ct,ρ1,Ω2)=>jW c b n ρ1 Ω2
   | some (.bk,ρ1,Ω2)=>some (.nx,ρ1,Ω2)
   | r=>r)else some (.nx,ρ,Ω1)) Ω
theorem agX{K:Frag}{tc:TT}{tb:TS}{c:Ev→Mo Bool}{b:MS}(n:Ev→aI→Nat)(hc:hW K zE W tc c)(hb:qS K W tb b):qS K W (Lv tc tb) (fun ρ Ω=>jW c b (n ρ Ω) ρ Ω):=by
 intro G ι Ω H σ ρ D w r h;refine⟨fun m σ' H'=>∃G' ι' Ω' ρ',Ext G ι G' ι'∧Wd K G' ι' Ω' H'∧fQ K G' ι' σ' ρ'∧cV K W G' ι' D (jW c b m ρ' Ω'),⟨_,G,ι,Ω,ρ,Ext.refl _ _,w,r,h⟩,?_⟩;rintro m σ' H' ⟨G',ι',Ω',ρ',e',w',r',h'⟩;cases m with
 | zero=>exact False.elim h'
 | succ m =>
  unfold jW at h';refine hc G' ι' Ω' H' σ' ρ' _ w' r' (cV.sM h' r' fun k Ω1 k' H1 G1 ι1 x1 w1 d1 h1=>?_);cases(show k'=k from d1);cases k with
  | false=>exact pJ w1 (r'.ext x1) h1
  | true =>
   refine⟨fun σ2 H2=>∃G2 ι2 Ω2 ρ2,Ext G ι G2 ι2∧Wd K G2 ι2 Ω2 H2∧fQ K G2 ι2 σ2 ρ2∧cV K W G2 ι2 D (jW c b m ρ2 Ω2),fun σ2 H2 q=>⟨m,RQ _,q⟩,?_⟩;refine hb G1 ι1 Ω1 H1 σ' ρ' _ w1 (r'.ext x1) ?_;simp only [dP]at h1
   revert h1
   generalize b ρ' Ω1=q;intro h1
   match q,h1 with
   | some (.nx,ρ4,Ω4),h1=>exact fun σ4 H4 G4 ι4 x4 w4 r4=>⟨G4,ι4,Ω4,ρ4,(e'.trans x1).trans x4,w4,r4,cV.ext h1 x4⟩
   | some (.ct,ρ4,Ω4),h1=>exact fun σ4 H4 G4 ι4 x4 w4 r4=>⟨G4,ι4,Ω4,ρ4,(e'.trans x1).trans x4,w4,r4,cV.ext h1 x4⟩
   | some (.bk,ρ4,Ω4),h1=>exact fun σ4 H4 G4 ι4 x4 w4 r4=>h1 σ4 H4 G4 ι4 x4 w4 r4
   | some (.ret a,ρ4,Ω4),h1=>exact fun σ4 H4 G4 ι4 x4 w4 r4=>h1 σ4 H4 G4 ι4 x4 w4 r4
   | some (.exc a,ρ4,Ω4),h1=>exact fun σ4 H4 G4 ι4 x4 w4 r4=>h1 σ4 H4 G4 ι4 x4 w4 r4
theorem MM{ce:Expr}{body:List Stmt}{c:Ev→Mo Bool}{b:MS}(n:Ev→aI→Nat)(hp:PassesOwn (model X.prog X.w) X.A X.env X.xe)(hc:VT X W ce c)(hb:lD X W body b):VS X W (.While ce body [] pos) (fun ρ Ω=>jW c b (n ρ Ω) ρ Ω):=by
 obtain⟨t1,p1,s1⟩:=hc;obtain⟨t2,p2,s2⟩:=hb;exact⟨_,ajF hp p1 p2,agX n s1 s2⟩
@[simp] def srcOf(a:A)(ds:List A):Src:=⟨ds,fun Ω=>gE Ω a=some ds⟩
theorem wG{Ω:aI}{a:A}{ds:List A}(h:cU Ω a=some ds):gE Ω a=some ds:=by
 cases a with
 | tup es=>simp [cU]at h
 | _=>exact h
theorem Qk{Ω:aI}{a:A}{ds:List A}(h:gE Ω a=some ds)(ha:∀es,a ≠ .tup es):cU Ω a=some ds:=by
 cases a with
 | tup es=>exact absurd rfl (ha es)
 | _=>exact h
theorem aj5{tg l:Expr}{tl:TE}(hl:PE X l tl):PI X tg l (fun σ H R=>tl σ H fun x H1=>∃a,x = .ref a∧(((∃xs,fK X.K H1 a xs)∧R (Io X.K a) H1)∨((∃xs,iL X.K H1 a xs)∧R (Im X.K a) H1))):=by
 intro pins s σ H R I h;refine aY (hl pins s σ H _ I h) fun v s1 ⟨x,H1,I1,r1,q1⟩=>?_;obtain⟨a,e,q⟩:=q1;subst e;cases r1
 rcases q with⟨⟨xs,hq⟩,q⟩ | ⟨⟨xs,hq⟩,q⟩
 ·obtain⟨aN,rv,p,hz⟩:=I1.list hq;refine wpAny_pyIter_list p.isList ?_;refine⟨s1.heap.objs.size,[s1.heap.objs.size],_,_,H1,rfl,I1.kept (t':=s1.toks) fun b o e=>cZ _ e,abH a _,⟨_,gM _ rfl,rfl,rfl⟩,fun b hb=>?_,q⟩;have e:b=s1.heap.objs.size:=by simpa using hb
  subst e;exact I1.EU cE (I1.aK.fresh cE)
 ·obtain⟨aN,rv,p,hz⟩:=I1.tuple hq;refine wpAny_pyIter_tuple (show s1.heap.IsTuple a aN.toArray from p) ?_;refine⟨s1.heap.objs.size,[s1.heap.objs.size],_,_,H1,rfl,I1.kept (t':=s1.toks) fun b o e=>cZ _ e,abF a _,⟨_,gM _ rfl,rfl,rfl⟩,fun b hb=>?_,q⟩;have e:b=s1.heap.objs.size:=by simpa using hb
  subst e;exact I1.EU cE (I1.aK.fresh cE)
@[simp] def lI(f:Ev→Mo A):Ev→Mo Src:=fun ρ=>mb (f ρ) fun a Ω=>match gE Ω a with
 | some ds=>some (.ok (srcOf a ds),Ω)
 | none=>none
theorem aoA{K:Frag}{G:Hp}{ι:List Addr}{p:Addr}{a:A}{ds:List A}(d:Den K G ι (.ref p) a)(ha:∀es,a ≠ .tup es):GB K G ι (Io K p) (srcOf a ds):=by
 have key:∀G' ι' Ω' H',Ext G ι G' ι'→Wd K G' ι' Ω' H'→gE Ω' a=some ds→∃xs,fK K H' p xs∧aO K G' ι' xs ds:=fun G' ι' Ω' H' e w h=>by
  obtain⟨q,xs,h1,h2,h3⟩:=rM w (d.ext e) (Qk h ha);cases h1;exact⟨xs,h2,h3⟩
 refine⟨fun G' ι' Ω' H' e w h i hi=>?_,fun G' ι' Ω' H' e w h i hi=>?_,fun G' ι' Ω' H' e w h i x H2 y hy hd=>?_⟩
 ·obtain⟨xs,h2,h3⟩:=key G' ι' Ω' H' e w h;have hl:i<xs.length:=by rw [h3.length];exact hi
  exact⟨xs,xs[i],h2,gK hl⟩
 ·obtain⟨xs,h2,h3⟩:=key G' ι' Ω' H' e w h;exact⟨xs,h2,by rw [h3.length];exact hi⟩
 ·obtain⟨xs,h2,h3⟩:=key G' ι' Ω' H' e w h;obtain⟨e1,e2⟩:=hd;subst e1;obtain⟨z,q1,q2⟩:=h3.get hy;rw [e2 xs h2]at q1;cases q1;exact⟨G',Ext.refl _ _,w,q2⟩
theorem an9{K:Frag}{G:Hp}{ι:List Addr}{p:Addr}{ds es:List A}(d:Den K G ι (.ref p) (.tup es)):GB K G ι (Im K p) (srcOf (.tup es) ds):=by
 have key:∀G' ι' Ω' H',Ext G ι G' ι'→Wd K G' ι' Ω' H'→gE Ω' (.tup es)=some ds→∃xs,iL K H' p xs∧aO K G' ι' xs ds:=fun G' ι' Ω' H' e w h=>by
  simp only [gE,jO]at h;subst h;have d':=d.ext e;simp only [Den]at d';obtain⟨q,xs,h1,h2,h3⟩:=d';cases h1;exact⟨xs,iL.of (w.sub _ _ h2),h3⟩
 refine⟨fun G' ι' Ω' H' e w h i hi=>?_,fun G' ι' Ω' H' e w h i hi=>?_,fun G' ι' Ω' H' e w h i x H2 y hy hd=>?_⟩
 ·obtain⟨xs,h2,h3⟩:=key G' ι' Ω' H' e w h;have hl:i<xs.length:=by rw [h3.length];exact hi
  exact⟨xs,xs[i],h2,gK hl⟩
 ·obtain⟨xs,h2,h3⟩:=key G' ι' Ω' H' e w h;exact⟨xs,h2,by rw [h3.length];exact hi⟩
 ·obtain⟨xs,h2,h3⟩:=key G' ι' Ω' H' e w h;obtain⟨e1,e2⟩:=hd;subst e1;obtain⟨z,q1,q2⟩:=h3.get hy;rw [e2 xs h2]at q1;cases q1;exact⟨G',Ext.refl _ _,w,q2⟩
theorem rH{tg l:Expr}{fe:Ev→Mo A}(h:VE X W l fe):VI X W tg l (lI fe):=by
 obtain⟨t,p,s⟩:=h;refine⟨_,aj5 p,fun G ι Ω H σ ρ R w r h=>?_⟩;refine s G ι Ω H σ ρ _ w r (bH.mb h fun a Ω1 v H1 G1 ι1 x1 w1 d1 h1=>?_);cases e:gE Ω1 a with
 | none=>simp only [e]at h1;exact False.elim h1
 | some ds =>
  simp only [e]at h1;obtain⟨q,xs,h2,h3,h4⟩:=VL w1 d1 e;subst h2;refine⟨q,rfl,?_⟩;cases a with
  | tup es =>
   right
   simp only [Den]at d1;obtain⟨q',Zi,e1,e2,e3⟩:=id d1;cases e1;exact⟨⟨_,iL.of (w1.sub _ _ e2)⟩,h1 _ H1 G1 ι1 (Ext.refl _ _) w1 (an9 (by simpa only [Den]using d1))⟩
  | _ =>
   left
   obtain⟨q',Zi,e1,e2,e3⟩:=rM w1 d1 (Qk e (by intro _ z;cases z));cases e1;exact⟨⟨_,e2⟩,h1 _ H1 G1 ι1 (Ext.refl _ _) w1 (aoA d1 (by intro _ z;cases z))⟩
@[simp] def DM(lo:Int)(n:Nat):Src:=⟨(List.range n).map fun(i:Nat)=>A.int (lo+(i:Int)),fun _=>True⟩
def DI(i:Int):Prop:=-(2 ^ 62)≤i∧i<2 ^ 62
instance (i:Int):Decidable (DI i):=by unfold DI;infer_instance
theorem aoB{K:Frag}{G:Hp}{ι:List Addr}{lo:Int}{n:Nat}:GB K G ι (SD lo n) (DM lo n):=by
 refine⟨fun _ _ _ _ _ _ _ i hi=>show i<n by simpa [DM]using hi,fun _ _ _ _ _ _ _ i hi=>show n≤i by simpa [DM]using hi,fun G' ι' Ω' H' e w h i x H2 y hy hd=>?_⟩;obtain⟨e1,e2⟩:=hd;subst e1 e2;refine⟨G',Ext.refl _ _,w,?_⟩;simp only [DM,lF]at hy;cases e:(List.range n)[i]? with
 | none=>rw [e]at hy;cases hy
 | some j =>
  rw [e]at hy;cases hy;have:=(bO.mp e).2;simp at this;subst this;simp only [Den]
@[simp] def MR(f:Ev→Mo (List A)):Ev→Mo Src:=fun ρ=>mb (f ρ) fun as=>match as with
 | [.int j]=>mb (nG (DI j)) fun _=>ret (DM 0 j.toNat)
 | _=>stuck
theorem aaS{tg a:Expr}{fs:Ev→Mo (List A)}{p:Pos}(hg:Gl X "range")(hm:X.mg "range" = none)(ha:VA X W [a] fs)(hs:starEach [a] X.env=[(false,eval a X.env)]:=by rfl):VI X W tg (.Call (.Name "range" p) [a] [] pos) (MR fs):=by
 obtain⟨t,p,s⟩:=ha;refine⟨_,aj6 hg hm p hs,fun G ι Ω H σ ρ R w r h=>?_⟩;refine s G ι Ω H σ ρ _ w r (bH.mb h fun as Ω1 vs H1 G1 ι1 x1 w1 d1 h1=>?_);split at h1
 ·rename_i j;obtain⟨v,t,rfl,q1,q2⟩:=d1.lJ;rw [qP]at q2;subst q2;simp only [Den]at q1;subst q1;obtain⟨hc,h2⟩:=bH.nG h1;exact⟨j,rfl,hc.1,hc.2,kG w1 aoB h2⟩
 ·exact False.elim h1
end
section
variable{X:Cx}{W:WX}{e a b:Expr}{es:List Expr}{pos:Pos}{fa fb:Ev→Mo A}{fs:Ev→Mo (List A)}
@[simp] def kI(a i:A):Mo A:=fun Ω=>match gE Ω a,i with
 | some ds,.int n=>match gU ds n with
  | some d=>some (.ok d,Ω)
  | none=>none
 | _,_=>none
theorem avY{K:Frag}{G:Hp}{ι:List Addr}{xs:List V}{ds:List A}{n:Int}{d:A}(h:aO K G ι xs ds)(e:gU ds n=some d):∃x,gU xs n=some x∧Den K G ι x d:=by
 unfold gU at e ⊢;rw [h.length];cases q:nV ds.length n with
 | none=>rw [q]at e;cases e
 | some j=>rw [q]at e;exact h.get e
theorem mG(ha:VE X W a fa)(hb:VE X W b fb)(hs:Xx b):VE X W (.Subscript a b pos) (aF kI fa fb):=by
 obtain⟨t,p1,s1⟩:=ha;obtain⟨u,p2,s2⟩:=hb;refine⟨_,akP an7 p1 p2 hs,NP ?_ s1 s2⟩;intro G ι Ω H σ x y a i Q w d1 d2 h;unfold kI at h;split at h
 ·rename_i ds n e1;split at h
  ·rename_i d e;simp only [Den]at d2;have fin:∀v,Den X.K G ι v d→Q v H:=fun v hv=>h v H G ι (Ext.refl _ _) w hv;obtain⟨p,xs,rfl,hq,hd⟩:=VL w d1 e1;obtain⟨v,q1,q2⟩:=avY hd e
   rcases hq with hq | hq
   ·exact .inl ⟨p,xs,n,v,rfl,d2,hq,q1,fin v q2⟩
   ·exact .inr (.inl ⟨p,xs,n,v,rfl,d2,hq,q1,fin v q2⟩)
  ·exact False.elim h
 ·exact False.elim h
def VO(X:Cx)(W:WX)(e:Option Expr)(f:Ev→Mo (Option Int)):Prop:=∃t,PO X e t∧hW X.K (fun _ _ o o'=>o=o') W t f
theorem Kp:VO X W none (fun _=>ret none):=⟨_,ajU,fun _ _ _ _ _ _ _ w _ q=>kG w rfl q⟩
@[simp] def yS(f:Ev→Mo A):Ev→Mo (Option Int):=fun ρ=>mb (f ρ) fun x=>match x with
 | .int i=>ret (some i)
 | _=>stuck
theorem CV(h:VE X W e fa):VO X W (some e) (yS fa):=by
 obtain⟨t,p,s⟩:=h;refine⟨_,ajT p,fun G ι Ω H σ ρ Q w r h=>?_⟩;refine s G ι Ω H σ ρ _ w r (bH.mb h fun x Ω1 v H1 G1 ι1 x1 w1 d1 h1=>?_);cases x with
 | int i=>simp only [Den]at d1;exact⟨i,d1,kG w1 rfl h1⟩
 | _=>exact False.elim h1
def AX(ds:List A)(lo hi:Option Int):List A:=(ds.drop (HT.bY ds.length 0 lo)).take (HT.bY ds.length ds.length hi - HT.bY ds.length 0 lo)
theorem Vj{K:Frag}{G:Hp}{ι:List Addr}{xs:List V}{ds:List A}(h:aO K G ι xs ds)(lo hi:Option Int):aO K G ι (xO xs lo hi) (AX ds lo hi):=by
 unfold xO AX;rw [h.length];exact(h.drop _).take _
@[simp] def Ub(c:Bool)(a:A)(lo hi:Option Int):Mo A:=fun Ω=>match a with
 | .tup ds=>if HT.bY ds.length 0 lo=0∧HT.bY ds.length ds.length hi=ds.length then none else some (.ok (.tup (AX ds lo hi)),Ω)
 | a=>match cU Ω a with
  | some ds=>uO c (AX ds lo hi) Ω
  | none=>none
@[simp] def La(c:Bool)(f:Ev→Mo A)(l h:Ev→Mo (Option Int)):Ev→Mo A:=fun ρ=>mb (f ρ) fun a=>mb (l ρ) fun lo=>mb (h ρ) fun hi=>Ub c a lo hi
theorem aaV(c:Bool){lo hi:Option Expr}{fl fh:Ev→Mo (Option Int)}{p2:Pos}(he:VE X W e fa)(hl:VO X W lo fl)(hh:VO X W hi fh):VE X W (.Subscript e (.Slice lo hi none p2) pos) (La c fa fl fh):=by
 obtain⟨t,p1,s1⟩:=he;obtain⟨u,p2,s2⟩:=hl;obtain⟨u',p3,s3⟩:=hh;refine⟨_,akF (agW.or agV) p1 p2 p3,fun G ι Ω H σ ρ Q w r h=>?_⟩;refine s1 G ι Ω H σ ρ _ w r (bH.mb h fun x Ω1 v H1 G1 ι1 x1 w1 d1 h1=>?_);refine s2 G1 ι1 Ω1 H1 σ ρ _ w1 (r.ext x1) (bH.mb h1 fun o Ω2 o' H2 G2 ι2 x2 w2 d2 h2=>?_);cases(show o'=o from d2);refine s3 G2 ι2 Ω2 H2 σ ρ _ w2 ((r.ext x1).ext x2) (bH.mb h2 fun k Ω3 k' H3 G3 ι3 x3 w3 d3 h3=>?_);cases(show k'=k from d3);have d:=d1.ext (x2.trans x3);unfold Ub at h3;cases x with
 | tup ds =>
  simp only at h3;split at h3
  ·exact False.elim h3
  ·rename_i hn;simp only [Den]at d;obtain⟨p,xs,rfl,q2,q3⟩:=d;exact .inr ⟨p,xs,rfl,iL.of (w3.sub _ _ q2),by rw [q3.length];exact hn,fun l hl=>YE w3 hl (Vj q3 o k) h3⟩
 | _ =>
  simp only at h3;split at h3
  ·rename_i ds e;obtain⟨p,xs,rfl,q2,q3⟩:=rM w3 d e;exact .inl ⟨p,xs,rfl,q2,fun l hl=>zJ w3 hl (Vj q3 o k) h3⟩
  ·exact False.elim h3
def Yz(K:Frag)(W:WX)(r:List V→Hp→VK→Prop)(g:List A→Mo A):Prop :=
 ∀G ι Ω H σ xs as Q,Wd K G ι Ω H→aO K G ι xs as→bH K (Den K) W G ι σ Q (g as Ω)→r xs H Q
def vQ(X:Cx)(W:WX)(f:Value)(g:List A→Mo A):Prop:=∃r,qC X f r∧Yz X.K W r g
@[simp] def aS(g:List A→Mo A)(f:Ev→Mo (List A)):Ev→Mo A:=fun ρ=>mb (f ρ) g
theorem ag3{K:Frag}{r:List V→Hp→VK→Prop}{g:List A→Mo A}{t:TA}(hg:Yz K W r g)(h:hW K (aO K) W t fs):hW K (Den K) W (UU r t) (aS g fs):=by
 intro G ι Ω H σ ρ Q w q h2;exact h G ι Ω H σ ρ _ w q (bH.mb h2 fun as Ω1 vs H1 G1 ι1 x1 w1 d1 h1=>hg G1 ι1 Ω1 H1 σ vs as Q w1 d1 h1)
theorem eZ{id:String}{x:Str}{g:List A→Mo A}{p:Pos}(hc:vQ X W (.builtin id) g)(hg:Gl X x)(hm:X.mg x=none)(hv:bootBuiltins x=some (.builtin id))(ha:VA X W (e::es) fs)(hn:x ≠ "__name__":=by decide)(mN:(x == ("__debug__" : Str))=false:=by decide)
  (he:starEach (e::es) X.env=(false,eval e X.env)::starEach es X.env:=by rfl) (gF:(backTo pos (starEach es X.env)).any (·.1)=false:=by rfl):VE X W (.Call (.Name x p) (e::es) [] pos) (aS g fs):=by
 obtain⟨r,c1,c2⟩:=hc;obtain⟨t,p1,s1⟩:=ha;exact⟨_,Pf c1 hg hm hv p1 hn mN he gF,ag3 c2 s1⟩
theorem xM{K:Frag}{G:Hp}{ι:List Addr}{xs:List V}{d:A}(h:aO K G ι xs [d]):∃x,xs=[x]∧Den K G ι x d:=by
 obtain⟨x,r,rfl,h1,h2⟩:=h.lJ;rw [qP]at h2;subst h2;exact⟨x,rfl,h1⟩
theorem En{K:Frag}{G:Hp}{ι:List Addr}{xs:List V}{d d':A}(h:aO K G ι xs [d,d']):∃x y,xs=[x,y]∧Den K G ι x d∧Den K G ι y d':=by
 obtain⟨x,r,rfl,h1,h2⟩:=h.lJ;obtain⟨y,rfl,h3⟩:=xM h2;exact⟨x,y,rfl,h1,h3⟩
@[simp] def iG(as:List A):Mo A:=fun Ω=>match as with
 | [a]=>(match gE Ω a with
  | some ds=>some (.ok (.int ds.length),Ω)
  | none=>none)
 | _=>none
theorem oU:vQ X W (.builtin "len") iG:=by
 refine⟨_,avG,?_⟩;intro G ι Ω H σ xs as Q w d h;unfold iG at h;split at h
 ·rename_i a;split at h
  ·rename_i ds e;obtain⟨x,rfl,d1⟩:=xM d;obtain⟨p,ys,rfl,h2,h3⟩:=VL w d1 e;exact⟨p,ys,rfl,h2,h _ H G ι (Ext.refl _ _) w (by simp only [Den,h3.length])⟩
  ·exact False.elim h
 ·exact False.elim h
@[simp] def vC(as:List A):Mo A:=match as with
 | [.int i,.int j]=>ret (.int (max i j))
 | _=>stuck
@[simp] def Di(as:List A):Mo A:=match as with
 | [.int i,.int j]=>ret (.int (min i j))
 | _=>stuck
theorem KN(hc:X.calm=true):vQ X W (.builtin "max") vC:=by
 refine⟨_,avF hc,?_⟩;intro G ι Ω H σ xs as Q w d h;unfold vC at h;split at h
 ·rename_i i j;obtain⟨x,y,rfl,d1,d2⟩:=En d;simp only [Den]at d1 d2;subst d1 d2;refine⟨i,j,rfl,?_⟩;have e:(if j>i then j else i)=max i j:=by split <;> omega
  rw [e];exact kG w (by simp only [Den]) h
 ·exact False.elim h
theorem avK(hc:X.calm=true):vQ X W (.builtin "min") Di:=by
 refine⟨_,avE hc,?_⟩;intro G ι Ω H σ xs as Q w d h;unfold Di at h;split at h
 ·rename_i i j;obtain⟨x,y,rfl,d1,d2⟩:=En d;simp only [Den]at d1 d2;subst d1 d2;refine⟨i,j,rfl,?_⟩;have e:(if j<i then j else i)=min i j:=by split <;> omega
  rw [e];exact kG w (by simp only [Den]) h
 ·exact False.elim h
def intsOf:List A→Option (List Int)
 | []=>some []
 | .int i::r=>(intsOf r).map (i :: ·)
 | _=>none
theorem IM{K:Frag}{G:Hp}{ι:List Addr}:∀{ds:List A} {xs:List V} {ns:List Int},intsOf ds=some ns→aO K G ι xs ds→xs=ns.map V.int
 | [],xs,ns,h,d=>by
  simp only [intsOf,jO]at h;subst h;rw [qP]at d;subst d;rfl
 | a::ds,xs,ns,h,d=>by
  obtain⟨x,t,rfl,d1,d2⟩:=d.lJ;cases a with
  | int i =>
   simp only [intsOf,BK]at h;obtain⟨ms,h1,rfl⟩:=h;simp only [Den]at d1;subst d1;rw [IM h1 d2];rfl
  | _=>simp [intsOf]at h
theorem EC(ns:List Int):intsOf (ns.map A.int)=some ns:=by
 induction ns with
 | nil=>rfl
 | cons n ns ih=>simp [intsOf,ih]
@[simp] def xE(as:List A):Mo A:=fun Ω=>match as with
 | [a]=>(match (cU Ω a).bind intsOf with
  | some ns=>some (.ok (.int ns.sum),Ω)
  | none=>none)
 | _=>none
theorem Ez(hc:X.calm=true):vQ X W (.builtin "sum") xE:=by
 refine⟨_,au8 hc,?_⟩;intro G ι Ω H σ xs as Q w d h;unfold xE at h;split at h
 ·rename_i a;split at h
  ·rename_i ns e;obtain⟨x,rfl,d1⟩:=xM d;rw [BL]at e;obtain⟨ds,e1,e2⟩:=e;obtain⟨p,ys,rfl,h2,h3⟩:=rM w d1 e1;rw [IM e2 h3]at h2;exact⟨p,ns,rfl,h2,h _ H G ι (Ext.refl _ _) w (by simp only [Den])⟩
  ·exact False.elim h
 ·exact False.elim h
def lK(Ω:aI):A→Option String
 | .int _=>some "int"
 | .bl _=>some "bool"
 | .str _=>some "str"
 | .bB=>some "NoneType"
 | .tup _=>some "tuple"
 | .lst _=>some "list"
 | .aD k=>match Ω[k]? with
  | some (.lst _)=>some "list"
  | some (.bD _)=>some "dict"
  | _=>none
 | _=>none
theorem abE{K:Frag}{G H:Hp}{ι:List Addr}{Ω:aI}{v:V}{a:A}{t:String}(w:Wd K G ι Ω H)(d:Den K G ι v a)(h:lK Ω a=some t):oV K H v (.type t):=by
 cases a with
 | int i=>simp only [lK,jO]at h;subst h;simp only [Den]at d;subst d;exact .int i
 | bl i=>simp only [lK,jO]at h;subst h;simp only [Den]at d;subst d;exact .bl i
 | str i=>simp only [lK,jO]at h;subst h;simp only [Den]at d;subst d;exact .str i
 | bB=>simp only [lK,jO]at h;subst h;simp only [Den]at d;subst d;exact .bB
 | tup ds=>simp only [lK,jO]at h;subst h;simp only [Den]at d;obtain⟨p,xs,rfl,h2,_⟩:=d;exact .tup (w.sub _ _ h2)
 | lst ds=>simp only [lK,jO]at h;subst h;simp only [Den]at d;obtain⟨p,xs,rfl,h2,_⟩:=d;exact .lst (w.sub _ _ h2)
 | aD k =>
  simp only [Den]at d;obtain⟨p,rfl,hk⟩:=d;simp only [lK]at h;split at h
  ·rename_i ds e;cases h;obtain⟨g,xs,h3,_⟩:=w.aD k _ p e hk;exact .lst h3
  ·rename_i ds e;cases h;obtain⟨g,xs,h3,_⟩:=w.aD k _ p e hk;exact .dK h3
  ·cases h
 | _=>simp [lK]at h
theorem ZU(K:Frag):kitOne K (.type "int") (.type "int")=some true:=by unfold kitOne;rw [if_pos (beq_self_eq_true _)]
theorem ZZ(K:Frag):kitOne K (.type "bool") (.type "int")=some true:=by kernel_rfl
theorem ZK(K:Frag):kitOne K (.type "str") (.type "int")=some false:=by kernel_rfl
theorem Ae(K:Frag):kitOne K (.type "NoneType") (.type "int")=some false:=by kernel_rfl
theorem ZF(K:Frag):kitOne K (.type "tuple") (.type "int")=some false:=by kernel_rfl
theorem ZP(K:Frag):kitOne K (.type "list") (.type "int")=some false:=by kernel_rfl
theorem ZV(K:Frag):kitOne K (.type "int") (.type "bool")=some false:=by kernel_rfl
theorem Aa(K:Frag):kitOne K (.type "bool") (.type "bool")=some true:=by unfold kitOne;rw [if_pos (beq_self_eq_true _)]
theorem ZL(K:Frag):kitOne K (.type "str") (.type "bool")=some false:=by kernel_rfl
theorem Af(K:Frag):kitOne K (.type "NoneType") (.type "bool")=some false:=by kernel_rfl
theorem ZG(K:Frag):kitOne K (.type "tuple") (.type "bool")=some false:=by kernel_rfl
theorem ZQ(K:Frag):kitOne K (.type "list") (.type "bool")=some false:=by kernel_rfl
theorem ZR(K:Frag):kitOne K (.type "int") (.type "tuple")=some false:=by kernel_rfl
theorem ZW(K:Frag):kitOne K (.type "bool") (.type "tuple")=some false:=by kernel_rfl
theorem ZH(K:Frag):kitOne K (.type "str") (.type "tuple")=some false:=by kernel_rfl
theorem Ab(K:Frag):kitOne K (.type "NoneType") (.type "tuple")=some false:=by kernel_rfl
theorem ZC(K:Frag):kitOne K (.type "tuple") (.type "tuple")=some true:=by unfold kitOne;rw [if_pos (beq_self_eq_true _)]
theorem ZM(K:Frag):kitOne K (.type "list") (.type "tuple")=some false:=by kernel_rfl
theorem ZT(K:Frag):kitOne K (.type "int") (.type "list")=some false:=by kernel_rfl
theorem ZY(K:Frag):kitOne K (.type "bool") (.type "list")=some false:=by kernel_rfl
theorem ZJ(K:Frag):kitOne K (.type "str") (.type "list")=some false:=by kernel_rfl
theorem Ad(K:Frag):kitOne K (.type "NoneType") (.type "list")=some false:=by kernel_rfl
theorem ZE(K:Frag):kitOne K (.type "tuple") (.type "list")=some false:=by kernel_rfl
theorem ZO(K:Frag):kitOne K (.type "list") (.type "list")=some true:=by unfold kitOne;rw [if_pos (beq_self_eq_true _)]
theorem ZS(K:Frag):kitOne K (.type "int") (.type "str")=some false:=by kernel_rfl
theorem ZX(K:Frag):kitOne K (.type "bool") (.type "str")=some false:=by kernel_rfl
theorem ZI(K:Frag):kitOne K (.type "str") (.type "str")=some true:=by unfold kitOne;rw [if_pos (beq_self_eq_true _)]
theorem Ac(K:Frag):kitOne K (.type "NoneType") (.type "str")=some false:=by kernel_rfl
theorem ZD(K:Frag):kitOne K (.type "tuple") (.type "str")=some false:=by kernel_rfl
theorem ZN(K:Frag):kitOne K (.type "list") (.type "str")=some false:=by kernel_rfl
inductive fJ:String→String→Bool→Prop where
 | ZU:fJ "int" "int" true
 | ZZ:fJ "bool" "int" true
 | ZK:fJ "str" "int" false
 | Ae:fJ "NoneType" "int" false
 | ZF:fJ "tuple" "int" false
 | ZP:fJ "list" "int" false
 | ZV:fJ "int" "bool" false
 | Aa:fJ "bool" "bool" true
 | ZL:fJ "str" "bool" false
 | Af:fJ "NoneType" "bool" false
 | ZG:fJ "tuple" "bool" false
 | ZQ:fJ "list" "bool" false
 | ZR:fJ "int" "tuple" false
 | ZW:fJ "bool" "tuple" false
 | ZH:fJ "str" "tuple" false
 | Ab:fJ "NoneType" "tuple" false
 | ZC:fJ "tuple" "tuple" true
 | ZM:fJ "list" "tuple" false
 | ZT:fJ "int" "list" false
 | ZY:fJ "bool" "list" false
 | ZJ:fJ "str" "list" false
 | Ad:fJ "NoneType" "list" false
 | ZE:fJ "tuple" "list" false
 | ZO:fJ "list" "list" true
 | ZS:fJ "int" "str" false
 | ZX:fJ "bool" "str" false
 | ZI:fJ "str" "str" true
 | Ac:fJ "NoneType" "str" false
 | ZD:fJ "tuple" "str" false
 | ZN:fJ "list" "str" false
theorem fJ.ok(K:Frag){t n:String}{b:Bool}(h:fJ t n b):kitOne K (.type t) (.type n)=some b:=by
 cases h
 ·exact V2.ZU K
 ·exact V2.ZZ K
 ·exact V2.ZK K
 ·exact V2.Ae K
 ·exact V2.ZF K
 ·exact V2.ZP K
 ·exact V2.ZV K
 ·exact V2.Aa K
 ·exact V2.ZL K
 ·exact V2.Af K
 ·exact V2.ZG K
 ·exact V2.ZQ K
 ·exact V2.ZR K
 ·exact V2.ZW K
 ·exact V2.ZH K
 ·exact V2.Ab K
 ·exact V2.ZC K
 ·exact V2.ZM K
 ·exact V2.ZT K
 ·exact V2.ZY K
 ·exact V2.ZJ K
 ·exact V2.Ad K
 ·exact V2.ZE K
 ·exact V2.ZO K
 ·exact V2.ZS K
 ·exact V2.ZX K
 ·exact V2.ZI K
 ·exact V2.Ac K
 ·exact V2.ZD K
 ·exact V2.ZN K
def qM(t n:String):Option Bool:=if t = "int"∧n = "int" then some true else if t = "bool"∧n = "int" then some true else if t = "str"∧n = "int" then some false else if t = "NoneType"∧n = "int" then some false else if t = "tuple"∧n = "int" then some false else if t = "list"∧n = "int" then some false else if t = "int"∧n = "bool" then some false else if t = "bool"∧n = "bool" then some true else if t = "str"∧n = "bool" then some false else if t = "NoneType"∧n = "bool" then some false else if t = "tuple"∧n = "bool" then some false else if t = "list"∧n = "bool" then some false else if t = "int"∧n = "tuple" then some false else if t = "bool"∧n = "tuple" then some false else if t = "str"∧n = "tuple" then some false else if t = "NoneType"∧n = "tuple" then some false else if t = "tuple"∧n = "tuple" then some true else if t = "list"∧n = "tuple" then some false else if t = "int"∧n = "list" then some false else if t = "bool"∧n = "list" then some false else if t = "str"∧n = "list" then some false else if t = "NoneType"∧n = "list" then some false else if t = "tuple"∧n = "list" then some false else if t = "list"∧n = "list" then some true else if t = "int"∧n = "str" then some false else if t = "bool"∧n = "str" then some false else if t = "str"∧n = "str" then some true else if t = "NoneType"∧n = "str" then some false else if t = "tuple"∧n = "str" then some false else if t = "list"∧n = "str" then some false else none
theorem aoI{t n:String}{b:Bool}(h:qM t n=some b):fJ t n b:=by
 unfold qM at h
 by_cases h0:t = "int"∧n = "int"
 ·rw [if_pos h0]at h;cases h;obtain⟨rfl,rfl⟩:=h0;exact .ZU
 rw [if_neg h0]at h
 by_cases h1:t = "bool"∧n = "int"
 ·rw [if_pos h1]at h;cases h;obtain⟨rfl,rfl⟩:=h1;exact .ZZ
 rw [if_neg h1]at h
 by_cases h2:t = "str"∧n = "int"
 ·rw [if_pos h2]at h;cases h;obtain⟨rfl,rfl⟩:=h2;exact .ZK
 rw [if_neg h2]at h
 by_cases h3:t = "NoneType"∧n = "int"
 ·rw [if_pos h3]at h;cases h;obtain⟨rfl,rfl⟩:=h3;exact .Ae
 rw [if_neg h3]at h
 by_cases h4:t = "tuple"∧n = "int"
 ·rw [if_pos h4]at h;cases h;obtain⟨rfl,rfl⟩:=h4;exact .ZF
 rw [if_neg h4]at h
 by_cases h5:t = "list"∧n = "int"
 ·rw [if_pos h5]at h;cases h;obtain⟨rfl,rfl⟩:=h5;exact .ZP
 rw [if_neg h5]at h
 by_cases h6:t = "int"∧n = "bool"
 ·rw [if_pos h6]at h;cases h;obtain⟨rfl,rfl⟩:=h6;exact .ZV
 rw [if_neg h6]at h
 by_cases h7:t = "bool"∧n = "bool"
 ·rw [if_pos h7]at h;cases h;obtain⟨rfl,rfl⟩:=h7;exact .Aa
 rw [if_neg h7]at h
 by_cases h8:t = "str"∧n = "bool"
 ·rw [if_pos h8]at h;cases h;obtain⟨rfl,rfl⟩:=h8;exact .ZL
 rw [if_neg h8]at h
 by_cases h9:t = "NoneType"∧n = "bool"
 ·rw [if_pos h9]at h;cases h;obtain⟨rfl,rfl⟩:=h9;exact .Af
 rw [if_neg h9]at h
 by_cases Cy:t = "tuple"∧n = "bool"
 ·rw [if_pos Cy]at h;cases h;obtain⟨rfl,rfl⟩:=Cy;exact .ZG
 rw [if_neg Cy]at h
 by_cases Cw:t = "list"∧n = "bool"
 ·rw [if_pos Cw]at h;cases h;obtain⟨rfl,rfl⟩:=Cw;exact .ZQ
 rw [if_neg Cw]at h
 by_cases Cv:t = "int"∧n = "tuple"
 ·rw [if_pos Cv]at h;cases h;obtain⟨rfl,rfl⟩:=Cv;exact .ZR
 rw [if_neg Cv]at h
 by_cases Cu:t = "bool"∧n = "tuple"
 ·rw [if_pos Cu]at h;cases h;obtain⟨rfl,rfl⟩:=Cu;exact .ZW
 rw [if_neg Cu]at h
 by_cases Ct:t = "str"∧n = "tuple"
 ·rw [if_pos Ct]at h;cases h;obtain⟨rfl,rfl⟩:=Ct;exact .ZH
 rw [if_neg Ct]at h
 by_cases Cs:t = "NoneType"∧n = "tuple"
 ·rw [if_pos Cs]at h;cases h;obtain⟨rfl,rfl⟩:=Cs;exact .Ab
 rw [if_neg Cs]at h
 by_cases Cr:t = "tuple"∧n = "tuple"
 ·rw [if_pos Cr]at h;cases h;obtain⟨rfl,rfl⟩:=Cr;exact .ZC
 rw [if_neg Cr]at h
 by_cases Cq:t = "list"∧n = "tuple"
 ·rw [if_pos Cq]at h;cases h;obtain⟨rfl,rfl⟩:=Cq;exact .ZM
 rw [if_neg Cq]at h
 by_cases Cp:t = "int"∧n = "list"
 ·rw [if_pos Cp]at h;cases h;obtain⟨rfl,rfl⟩:=Cp;exact .ZT
 rw [if_neg Cp]at h
 by_cases Co:t = "bool"∧n = "list"
 ·rw [if_pos Co]at h;cases h;obtain⟨rfl,rfl⟩:=Co;exact .ZY
 rw [if_neg Co]at h
 by_cases Cn:t = "str"∧n = "list"
 ·rw [if_pos Cn]at h;cases h;obtain⟨rfl,rfl⟩:=Cn;exact .ZJ
 rw [if_neg Cn]at h
 by_cases Cm:t = "NoneType"∧n = "list"
 ·rw [if_pos Cm]at h;cases h;obtain⟨rfl,rfl⟩:=Cm;exact .Ad
 rw [if_neg Cm]at h
 by_cases Ck:t = "tuple"∧n = "list"
 ·rw [if_pos Ck]at h;cases h;obtain⟨rfl,rfl⟩:=Ck;exact .ZE
 rw [if_neg Ck]at h
 by_cases Cj:t = "list"∧n = "list"
 ·rw [if_pos Cj]at h;cases h;obtain⟨rfl,rfl⟩:=Cj;exact .ZO
 rw [if_neg Cj]at h
 by_cases Ci:t = "int"∧n = "str"
 ·rw [if_pos Ci]at h;cases h;obtain⟨rfl,rfl⟩:=Ci;exact .ZS
 rw [if_neg Ci]at h
 by_cases Cg:t = "bool"∧n = "str"
 ·rw [if_pos Cg]at h;cases h;obtain⟨rfl,rfl⟩:=Cg;exact .ZX
 rw [if_neg Cg]at h
 by_cases Cf:t = "str"∧n = "str"
 ·rw [if_pos Cf]at h;cases h;obtain⟨rfl,rfl⟩:=Cf;exact .ZI
 rw [if_neg Cf]at h
 by_cases Ce:t = "NoneType"∧n = "str"
 ·rw [if_pos Ce]at h;cases h;obtain⟨rfl,rfl⟩:=Ce;exact .Ac
 rw [if_neg Ce]at h
 by_cases Cd:t = "tuple"∧n = "str"
 ·rw [if_pos Cd]at h;cases h;obtain⟨rfl,rfl⟩:=Cd;exact .ZD
 rw [if_neg Cd]at h
 by_cases Cc:t = "list"∧n = "str"
 ·rw [if_pos Cc]at h;cases h;obtain⟨rfl,rfl⟩:=Cc;exact .ZN
 rw [if_neg Cc]at h;cases h
theorem aoJ(K:Frag){t n:String}{b:Bool}(h:qM t n=some b):kitOne K (.type t) (.type n)=some b:=(aoI h).ok K
@[simp] def sZ(as:List A):Mo A:=fun Ω=>match as with
 | [a,.ty n]=>(match (lK Ω a).bind fun t=>qM t n with
  | some b=>some (.ok (.bl b),Ω)
  | none=>none)
 | _=>none
theorem BC:vQ X W (.builtin "isinstance") sZ:=by
 refine⟨_,avH,?_⟩;intro G ι Ω H σ xs as Q w d h;unfold sZ at h;split at h
 ·rename_i a n;split at h
  ·rename_i b e;rw [BL]at e;obtain⟨t,e1,e2⟩:=e;obtain⟨x,y,rfl,d1,d2⟩:=En d;simp only [Den]at d2;subst d2;exact⟨x,n,_,b,rfl,abE w d1 e1,aoJ _ e2,h _ H G ι (Ext.refl _ _) w (by simp only [Den])⟩
  ·exact False.elim h
 ·exact False.elim h
def Hf(K:Frag)(W:WX)(r:V→List V→Hp→VK→Prop)(g:A→List A→Mo A):Prop :=
 ∀G ι Ω H σ x xs a as Q,Wd K G ι Ω H→Den K G ι x a→aO K G ι xs as→bH K (Den K) W G ι σ Q (g a as Ω)→r x xs H Q
def zU(Ω:aI)(a:A):Prop:=∃ds,cU Ω a=some ds
open Classical in
@[simp] noncomputable def pG(g:A→List A→Mo A)(fo:Ev→Mo A)(f:Ev→Mo (List A)):Ev→Mo A:=fun ρ=>mb (fo ρ) fun o Ω=>if zU Ω o then mb (f ρ) (fun as=>g o as) Ω else none
theorem abB{K:Frag}{G H:Hp}{ι:List Addr}{Ω:aI}{v:V}{a:A}(w:Wd K G ι Ω H)(d:Den K G ι v a)(h:zU Ω a):UE K "list" v H:=by
 obtain⟨ds,e⟩:=h;obtain⟨p,xs,rfl,q,_⟩:=rM w d e;exact .inl ⟨rfl,xs,q⟩
theorem CZ{name:Str}{apos:Pos}{id:String}{r:V→List V→Hp→VK→Prop}{g:A→List A→Mo A}(pa:PlainAttrs "list")(slot:Slot "list" name id)(Aq:typeOf (.builtin id)=pure (.type "method_descriptor"))(hm:Yd X id r)(hv:Hf X.K W r g)(ho:VE X W a fa)(ha:VA X W (e::es) fs)
  (AI:attributeBase a name X.env (eval a X.env)=eval a X.env:=by rfl)
  (Bl:((backTo pos (starEach (e::es) X.env)).all (fun x=>!x.1)&&(backToKw pos (keywordEach [] X.env)).all (fun x=>x.1.isSome)
   && decide ((e::es).length+([]:List Keyword).length+(if([]:List Keyword).isEmpty then 0 else 1)<30))=true:=by rfl)
  (AA:(apos.endLine == pos.line)=true:=by rfl) (hs:starEach (e::es) X.env=(false,eval e X.env)::starEach es X.env:=by rfl) (Aw:(backTo pos (starEach es X.env)).any (·.1)=false:=by rfl) :
  VE X W (.Call (.Attribute a name apos) (e::es) [] pos) (pG g fa fs):=by
 obtain⟨t,p1,s1⟩:=ho;obtain⟨u,p2,s2⟩:=ha;refine⟨_,akY pa slot Aq hm p1 p2 AI Bl AA hs Aw,fun G ι Ω H σ ρ Q w r h=>?_⟩;refine s1 G ι Ω H σ ρ _ w r (bH.mb h fun x Ω1 v H1 G1 ι1 x1 w1 d1 h1=>?_);split at h1
 ·rename_i hl;refine⟨abB w1 d1 hl,s2 G1 ι1 Ω1 H1 σ ρ _ w1 (r.ext x1) (bH.mb h1 fun as Ω2 vs H2 G2 ι2 x2 w2 d2 h2=>?_)⟩;exact hv G2 ι2 Ω2 H2 σ v vs x as Q w2 (d1.ext x2) d2 h2
 ·exact False.elim h1
def rU(Ω:aI):A→Option (Nat×List A)
 | .aD k=>match Ω[k]? with
  | some (.lst ds)=>some (k,ds)
  | _=>none
 | _=>none
theorem Vz{K:Frag}{G H:Hp}{ι:List Addr}{Ω:aI}{v:V}{a:A}{k:Nat}{ds:List A}(w:Wd K G ι Ω H)(d:Den K G ι v a)(h:rU Ω a=some (k,ds)):∃p xs,v = .ref p∧ι[k]? = some p∧G p=none∧H p=some (.lst xs)∧aO K G ι xs ds:=by
 cases a with
 | aD j =>
  simp only [rU]at h;split at h
  ·rename_i es e;cases h;simp only [Den]at d;obtain⟨p,rfl,hk⟩:=d;obtain⟨g,xs,h3,h4⟩:=w.aD k _ p e hk;exact⟨p,xs,rfl,hk,g,h3,h4⟩
  ·cases h
 | _=>simp [rU]at h
@[simp] def tE(o:A)(as:List A):Mo A:=fun Ω=>match rU Ω o,as with
 | some (k,ds),[y]=>if ds.length<sizeLine then some (.ok .bB,Ω.set k (.lst (ds++[y])))else none
 | _,_=>none
theorem IF:Hf X.K W Oh tE:=by
 intro G ι Ω H σ x xs a as Q w d1 d2 h;unfold tE at h;split at h
 ·rename_i k ds y e;split at h
  ·rename_i hl;obtain⟨p,zs,rfl,hk,g,h3,h4⟩:=Vz w d1 e;obtain⟨u,rfl,du⟩:=xM d2;refine⟨p,zs,u,rfl,rfl,h3,by rw [h4.length];exact hl,?_⟩;exact h _ _ G ι (Ext.refl _ _) (w.put (c := .lst (ds++[y])) hk g ⟨g,_,fA,h4.append (.cons du .nil)⟩) (by simp only [Den])
  ·exact False.elim h
 ·exact False.elim h
end
mutual
def Cl(n:Nat):A→Prop
 | .aD k=>k<n
 | .tup ds=>gC n ds
 | .lst ds=>gC n ds
 | _=>True
def gC(n:Nat):List A→Prop
 | []=>True
 | d::ds=>Cl n d∧gC n ds
end
section
variable{K:Frag}{G:Hp}{ι:List Addr}
mutual
theorem Den.cl:∀{v:V} {d:A},Den K G ι v d→Cl ι.length d
 | _,.int _,_=>by simp only [Cl]
 | _,.bl _,_=>by simp only [Cl]
 | _,.str _,_=>by simp only [Cl]
 | _,.bB,_=>by simp only [Cl]
 | _,.ty _,_=>by simp only [Cl]
 | _,.adr _,_=>by simp only [Cl]
 | _, .EV _ _ _ _,_=>by simp only [Cl]
 | _,.gl _,_=>by simp only [Cl]
 | _,.cM _,_=>by simp only [Cl]
 | _,.tup ds,h=>by
  simp only [Den]at h;simp only [Cl];obtain⟨a,xs,_,_,h3⟩:=h;exact aO.cl h3
 | _,.lst ds,h=>by
  simp only [Den]at h;simp only [Cl];obtain⟨a,xs,_,_,h3⟩:=h;exact aO.cl h3
 | _,.aD k,h=>by
  simp only [Den]at h;simp only [Cl];obtain⟨a,_,h2⟩:=h;exact(bO.mp h2).1
theorem aO.cl:∀{xs:List V} {ds:List A},aO K G ι xs ds→gC ι.length ds
 | _,[],_=>by simp only [gC]
 | _,d::ds,h=>by
  simp only [aO]at h;simp only [gC];obtain⟨x,r,_,h2,h3⟩:=h;exact⟨Den.cl h2,aO.cl h3⟩
end
mutual
theorem Den.cut{ι':List Addr}{n:Nat}(e:∀k,k<n→ι[k]? = ι'[k]?):∀{v:V} {d:A},Den K G ι' v d→Cl n d→Den K G ι v d
 | _,.int _,h,_=>by simpa only [Den]using h
 | _,.bl _,h,_=>by simpa only [Den]using h
 | _,.str _,h,_=>by simpa only [Den]using h
 | _,.bB,h,_=>by simpa only [Den]using h
 | _,.ty _,h,_=>by simpa only [Den]using h
 | _,.adr _,h,_=>by simpa only [Den]using h
 | _, .EV _ _ _ _,h,_=>by simpa only [Den]using h
 | _,.gl _,h,_=>by simpa only [Den]using h
 | _,.cM _,h,_=>by simpa only [Den]using h
 | _,.tup ds,h,c=>by
  simp only [Den]at h ⊢;simp only [Cl]at c;obtain⟨a,xs,h1,h2,h3⟩:=h;exact⟨a,xs,h1,h2,aO.cut e h3 c⟩
 | _,.lst ds,h,c=>by
  simp only [Den]at h ⊢;simp only [Cl]at c;obtain⟨a,xs,h1,h2,h3⟩:=h;exact⟨a,xs,h1,h2,aO.cut e h3 c⟩
 | _,.aD k,h,c=>by
  simp only [Den]at h ⊢;simp only [Cl]at c;obtain⟨a,h1,h2⟩:=h;exact⟨a,h1,(e k c).trans h2⟩
theorem aO.cut{ι':List Addr}{n:Nat}(e:∀k,k<n→ι[k]? = ι'[k]?):∀{xs:List V} {ds:List A},aO K G ι' xs ds→gC n ds→aO K G ι xs ds
 | _,[],h,_=>by simpa only [aO]using h
 | _,d::ds,h,c=>by
  simp only [aO]at h ⊢;simp only [gC]at c;obtain⟨x,r,h1,h2,h3⟩:=h;exact⟨x,r,h1,Den.cut e h2 c.1,aO.cut e h3 c.2⟩
end
def oN(n:Nat):Fd→Prop
 | .val a=>Cl n a
 | .lst ds=>gC n ds
 | .bD aB=>gC n (aB.map (·.2))
def nL(n:Nat):List (Str×Fd)→Prop
 | []=>True
 | p::r=>oN n p.2∧nL n r
def CJ(n:Nat):Cell→Prop
 | .lst ds=>gC n ds
 | .bD aB=>gC n (aB.map (·.2))
 | .ins _ fs=>nL n fs
 | _=>True
theorem iC.cl{H:Hp}{v:V}{fd:Fd}(h:iC K G ι H v fd):oN ι.length fd:=by
 cases fd with
 | val a=>exact Den.cl h
 | lst ds=>obtain⟨_,_,_,_,_,_,q⟩:=h;exact q.cl
 | bD aB=>obtain⟨_,_,_,_,_,_,_,q⟩:=h;exact q.cl
theorem iP.cl{H:Hp}:∀{ws:List (Str×V)} {fs:List (Str×Fd)},iP K G ι H ws fs→nL ι.length fs
 | [],[],_=>trivial
 | (_,_)::_,(_,_)::_,h=>⟨h.2.1.cl,h.2.2.cl⟩
 | [],_::_,h=>h.elim
 | _::_,[],h=>h.elim
theorem nM.cl{H:Hp}{a:Addr}{c:Cell}(h:nM K G ι H a c):CJ ι.length c:=by
 cases c with
 | lst ds=>obtain⟨_,_,_,q⟩:=h;exact q.cl
 | bD aB=>obtain⟨_,_,_,_,q⟩:=h;exact q.cl
 | ins cls fs=>obtain⟨_,_,_,_,_,_,q⟩:=h;exact q.cl
 | tab x pos qual=>trivial
 | dead=>trivial
theorem iC.cut{H:Hp}{ι':List Addr}{n:Nat}{v:V}{fd:Fd}(h:iC K G ι' H v fd)(e:∀k,k<n→ι[k]? = ι'[k]?)(hi:∀b,b∉ι'→b∉ι)(c:oN n fd):iC K G ι H v fd:=by
 cases fd with
 | val a=>exact Den.cut e h c
 | lst ds=>obtain⟨b,xs,h1,h2,h3,h4,h5⟩:=h;exact⟨b,xs,h1,h2,hi b h3,h4,h5.cut e c⟩
 | bD aB=>obtain⟨b,ws,h1,h2,h3,h4,h5,h6⟩:=h;exact⟨b,ws,h1,h2,hi b h3,h4,h5,h6.cut e c⟩
theorem iP.cut{H:Hp}{ι':List Addr}{n:Nat}(e:∀k,k<n→ι[k]? = ι'[k]?)(hi:∀b,b∉ι'→b∉ι):∀{ws:List (Str×V)} {fs:List (Str×Fd)},iP K G ι' H ws fs→nL n fs→iP K G ι H ws fs
 | [],[],_,_=>trivial
 | (_,_)::_,(_,_)::_,h,c=>⟨h.1,h.2.1.cut e hi c.1,iP.cut e hi h.2.2 c.2⟩
 | [],_::_,h,_=>h.elim
 | _::_,[],h,_=>h.elim
theorem nM.cut{H:Hp}{ι':List Addr}{n:Nat}{a:Addr}{c:Cell}(h:nM K G ι' H a c)(e:∀k,k<n→ι[k]? = ι'[k]?)(hi:∀b,b∉ι'→b∉ι)(hc:CJ n c):nM K G ι H a c:=by
 cases c with
 | lst ds=>obtain⟨g,xs,h1,h2⟩:=h;exact⟨g,xs,h1,h2.cut e hc⟩
 | bD aB=>obtain⟨g,ws,h1,h2,h3⟩:=h;exact⟨g,ws,h1,h2,h3.cut e hc⟩
 | ins cls fs=>obtain⟨g,C,dx,ws,h0,h1,h2⟩:=h;exact⟨g,C,dx,ws,h0,h1,h2.cut e hi hc⟩
 | tab x pos qual=>exact h
 | dead=>trivial
theorem Ext.cut{G':Hp}{ι':List Addr}(e:Ext G ι G' ι'):∀k,k<ι.length→ι[k]? = ι'[k]?:=fun k hk=>by
 rw [gK hk,e.pre k _ (gK hk)]
theorem Wd.cut{G' H H':Hp}{ι':List Addr}{Ω Ω':aI}(w:Wd K G ι Ω H)(w':Wd K G' ι' Ω' H')(e:Ext G ι G' ι')(ht:Ω'.take Ω.length=Ω):Wd K G' ι Ω H' where
 sub:=w'.sub
 inj:=w.inj
 len:=w.len
 live:=fun a ha=>by
  obtain⟨k,hk,ea⟩:=vK ha;exact w'.live a (kQ (e.pre k a (by rw [← ea];exact gK hk)))
 aD:=fun k c a h1 h2=>by
  have hk:k<Ω.length:=(bO.mp h1).1;have vB:Ω'[k]? = some c:=by
   rw [← ht,FY]at h1;rw [if_pos hk]at h1;exact h1
  have q:=w'.aD k c a vB (e.pre k a h2);have q0:=w.aD k c a h1 h2;cases c with
  | lst ds =>
   obtain⟨g,xs,h3,h4⟩:=q;obtain⟨_,_,_,h5⟩:=q0;exact⟨g,xs,h3,h4.cut e.cut h5.cl⟩
  | bD aB =>
   obtain⟨g,ws,h3,h4,h5⟩:=q;obtain⟨_,_,_,_,h6⟩:=q0;exact⟨g,ws,h3,h4,h5.cut e.cut h6.cl⟩
  | ins cls fs =>
   obtain⟨g,C,dx,ws,h0,h3,h4⟩:=q;obtain⟨_,_,_,_,_,_,h6⟩:=q0;exact⟨g,C,dx,ws,h0,h3,h4.cut (n:=ι.length) e.cut (fun b hb z=>hb (by
    obtain⟨k,hk,ea⟩:=vK z;exact kQ (e.pre k b (by rw [← ea];exact gK hk)))) h6.cl⟩
  | tab x pos qual=>exact q
  | dead=>trivial
 sep:=fun b k i k' i' h1 h2=>by
  have back:∀{k i},hZ H' ι Ω k i b→hZ H' ι' Ω' k i b:=fun{k i} h=>h.to (fun a ha=>⟨e.pre k a ha,fun _ z=>z⟩) fun cls fs q=>by
   have hk:k<Ω.length:=(bO.mp q).1;rw [← ht,FY,if_pos hk]at q;exact q
  exact w'.sep b k i k' i' (back h1) (back h2)
end
open Classical in
noncomputable def trim(Ω:aI):Option (Rs A×aI)→Option (Rs A×aI)
 | some (.ok a,Ω')=>if Ω'.take Ω.length=Ω∧Cl Ω.length a then some (.ok a,Ω)else some (.ok a,Ω')
 | some (.exc x,Ω')=>if Ω'.take Ω.length=Ω∧gC Ω.length (x.fs.map (·.2))then some (.exc x,Ω)else some (.exc x,Ω')
 | none=>none
theorem abN{K:Frag}{W:WX}{G H:Hp}{ι:List Addr}{Ω:aI}{σ:L2.St}{Q:VK}{r:Option (Rs A×aI)}(w:Wd K G ι Ω H)(h:bH K (Den K) W G ι σ Q (trim Ω r)):bH K (Den K) W G ι σ Q r:=by
 match r,h with
 | some (.ok a,Ω'),h =>
  simp only [trim]at h;split at h
  ·rename_i hc;exact fun v H' G' ι' e w' d=>h v H' G' ι ⟨e.same,fun _ _ q=>q⟩ (w.cut w' e hc.1) (d.cut e.cut (by rw [w.len];exact hc.2))
  ·exact h
 | some (.exc x,Ω'),h =>
  simp only [trim]at h;split at h
  ·rename_i hc;intro cls dx H' G' ι' e w' d;refine h cls dx H' G' ι ⟨e.same,fun _ _ q=>q⟩ (w.cut w' e hc.1) d
  ·exact h
@[simp] def cS:OS→Option (Rs A×aI)
 | some (.nx,_,Ω)=>some (.ok .bB,Ω)
 | some (.ret a,_,Ω)=>some (.ok a,Ω)
 | some (.exc x,_,Ω)=>some (.exc x,Ω)
 | _=>none
@[simp] def KD(n:Nat)(ds:List A):Ev:=ds.map some++List.replicate (n - ds.length) none
@[simp] noncomputable def dN(n:Nat)(b:MS):List A→Mo A:=fun ds Ω=>trim Ω (cS (b (KD n ds) Ω))
def sF(K:Frag)(n:Nat)(F:List A→Mo A):Sp:=fun vs H Q E=>vs.length=n∧∃G ι Ω ds,Wd K G ι Ω H∧aO K G ι vs ds∧bH K (Den K) (fun _=>E) G ι [] Q (F ds Ω)
abbrev eX(P:Program)(w:World)(K:Frag)(mg:Str→Option Value)(base:Heap)(x:Str)(k:Nat)(ps:List Str)(F:List A→Mo A):Prop:=Yw P w K mg base x k ps (sF K ps.length F)
theorem atD{K:Frag}{G:Hp}{ι:List Addr}{N:List Str}{vs:List V}{ds:List A}(d:aO K G ι vs ds):fQ K G ι (L2.start N vs) (KD N.length ds):=by
 unfold L2.start KD;have hl:=d.length;refine⟨by simp [hl],fun i a h=>?_⟩
 by_cases hi:i<ds.length
 ·rw [eK (by simpa using hi)]at h;rw [lF]at h;cases e:ds[i]? with
  | none=>rw [e]at h;cases h
  | some a' =>
   rw [e]at h;cases h;obtain⟨v,q1,q2⟩:=d.get e;refine⟨v,?_,q2⟩;rw [eK (by simp;omega),lF,q1];rfl
 ·rw [nK (by simpa using hi)]at h;have:=kQ h;simp at this
theorem Fb{K:Frag}{N:List Str}{t:TS}{b:MS}{H:Hp}{vs:List V}{Q:VK}{E:XK}{n:Nat}(s:qS K (fun _=>E) t b)(h:sF K n (dN N.length b) vs H Q E):t { nx:=fun _ H'=>Q .bB H',rt:=Q } (L2.start N vs) H:=by
 obtain⟨hl,G,ι,Ω,ds,w,d,q⟩:=h;refine s G ι Ω H _ (KD N.length ds) _ w (atD d) ?_;have q':=abN w q
 revert q'
 generalize b (KD N.length ds) Ω=r;intro q'
 match r,q' with
 | some (.nx,ρ',Ω'),q'=>exact fun σ' H' G' ι' e w' r'=>q' .bB H' G' ι' e w' (by simp only [Den])
 | some (.ret a,ρ',Ω'),q'=>exact fun σ' H' G' ι' e w' r' v d'=>q' v H' G' ι' e w' d'
 | some (.exc x,ρ',Ω'),q'=>exact fun σ' H' G' ι' e w' r' cls dx d'=>q' cls dx H' G' ι' e w' d'
 | some (.bk,ρ',Ω'),q'=>exact False.elim q'
 | some (.ct,ρ',Ω'),q'=>exact False.elim q'
section
variable{P:Program}{w:World}{K:Frag}{mg:Str→Option Value}{base:Heap}
theorem Uk{x:Str}{st:Stmt}{N ps:List Str}{k:Nat}{b:MS}{f:Addr}{fd:FuncData}(F:rA K x x st f fd)(S:dF N ps (aX st))
  (oA:∀(f:Addr) (bC:Value) (A:Around) (outer:List Env) (s:Shared) (H:Hp) (E:XK),cY k (A.deeper (envOfC x (aX st) s.heap.objs.size f bC)) →
   lD (qQ P w K mg base N x (aX st) f bC A outer s H E) (fun _=>E) (hV st) b):iV P w K mg base (nN P w) (k+1) f fd ps (sF K ps.length (dN N.length b)):=by
 obtain⟨oc,od,kV,doc,pm,an,bC,ct,jT,rfl,lk,mO⟩:=F.ex;refine Dz lk mO S (fun vs H Q E h=>h.1) fun A outer s H vs Q E hr mK=>?_;obtain⟨t,p,q⟩:=oA f bC A outer s H E hr;exact⟨t,YU p,Fb q mK⟩
theorem eX.of{x:Str}{st:Stmt}{N ps:List Str}{k:Nat}{b:MS}(h:HasFn K mg x st)(S:dF N ps (aX st))
  (bind:∀(kV doc pm:Value) (an:Option Addr) (bC ct:Value) (us:List Value),us.length=ps.length→bindArgs (fnOf x x (mR st) (hV st) (aX st) .none kV doc pm an bC ct) ⟨us,[]⟩=pure (ps.zip us))
  (oA:∀(f:Addr) (bC:Value) (A:Around) (outer:List Env) (s:Shared) (H:Hp) (E:XK),cY k (A.deeper (envOfC x (aX st) s.heap.objs.size f bC)) →
   lD (qQ P w K mg base N x (aX st) f bC A outer s H E) (fun _=>E) (hV st) b):eX P w K mg base x (k+1) ps (dN N.length b):=by
 obtain⟨f,fd,hm,F⟩:=h.ex;exact⟨f,fd,Uk F S oA,hm,F.kp,F.binds bind⟩
abbrev aw3(P:Program)(w:World)(K:Frag)(mg:Str→Option Value)(base:Heap)(x:Str)(k:Nat)(ps:List Str)(F:List A→Mo A):Prop:=Def P w K mg base x k ps (fun vs H Q _=>sF K ps.length F vs H Q fun _ _ _=>False)
theorem Ex{k:Nat}{f:Addr}{fd:FuncData}{ps:List Str}{sp:Sp}(F:iV P w K mg base (nN P w) k f fd ps sp):iV P w K mg base CK k f fd ps (fun vs H Q _=>sp vs H Q fun _ _ _=>False) :=
 ⟨fun vs H Q E h=>F.len _ _ _ _ h,fun A outer s H args us vs Q E hr e0 hb r mK=>xP (F.run A outer s H args us vs Q _ hr e0 hb r mK) fun r s' hq=>by
  cases r with
  | error ev=>obtain⟨x,cls,dx,H',_,_,_,_,_,_,q⟩:=hq;exact q.elim
  | ok fl=>cases fl <;> exact hq⟩
theorem eX.calm{x:Str}{k:Nat}{ps:List Str}{F:List A→Mo A}(D:eX P w K mg base x k ps F):aw3 P w K mg base x k ps F:=by
 obtain⟨f,fd,h1,h2,h3,h4⟩:=D.ex;exact⟨f,fd,Ex h1,h2,h3,h4⟩
def NN(K:Frag):Sp:=fun vs H Q _=>∃(a:Addr) (ns:List Int),vs=[.ref a]∧fK K H a (ns.map V.int)∧ns.length≤63∧∀H',Q (.bl true) H'
theorem anO{fa:Addr}{fd:FuncData}{k:Nat}{F:List A→Mo A}(h1:iV P w K mg base (nN P w) k fa fd ["_law_script"] (sF K 1 F))(hF:∀ns:List Int,ns.length≤63→∃Ω,F [.cM ns] []=some (.ok (.bl true),Ω)) :
  iV P w K mg base CK k fa fd ["_law_script"] (NN K):=by
 refine(Ex h1).imp fun vs H Q E hq=>?_;obtain⟨a,ns,rfl,hs,hl,q⟩:=hq;obtain⟨Ω,e⟩:=hF ns hl;refine⟨rfl,H,[],[],[.cM ns],⟨kM.refl _,List.nodup_nil,rfl,fun a ha=>by simp at ha,fun k c a h=>by simp at h,fun b k i k' i' h=>by obtain⟨_,_,_,_,_,_,_,_,_,q,_⟩:=h;simp at q⟩,.cons (by simp only [Den];exact⟨a,rfl,hs⟩) .nil,?_⟩;rw [e];intro v H' G' ι' _ _ d;simp only [Den]at d;subst d;exact q H'
end
section
variable{X:Cx}{W:WX}{x:Str}{p pos:Pos}{e:Expr}{es:List Expr}{fs:Ev→Mo (List A)}
@[simp] def bW(n:Nat)(F:List A→Mo A):List A→Mo A:=fun as=>if as.length=n then F as else stuck
theorem Ey{K:Frag}{G G1:Hp}{ι ι1:List Addr}{σ:L2.St}{Q:VK}{r:Option (Rs A×aI)}{W:WX}(h:bH K (Den K) W G ι σ Q r)(x1:Ext G ι G1 ι1):bH K (Den K) (fun _=>fun cls dx H'=>W σ cls dx H') G1 ι1 [] Q r:=by
 match r,h with
 | some (.ok a,Ω2),h=>exact fun v H' G' ι' x2 w2 d2=>h v H' G' ι' (x1.trans x2) w2 d2
 | some (.exc a,Ω2),h=>exact fun cls dx H' G' ι' x2 w2 d2=>h cls dx H' G' ι' (x1.trans x2) w2 d2
theorem gP{k:Nat}{ps:List Str}{F:List A→Mo A}(T:pZ X W)(D:eX X.prog X.w X.K X.mg X.base x k ps F)(hr:cY k X.A)(hg:Gl X x)(ha:VA X W (e::es) fs)
  (mN:(x == ("__debug__" : Str))=false:=by decide) (he:starEach (e::es) X.env=(false,eval e X.env)::starEach es X.env:=by rfl) (gF:(backTo pos (starEach es X.env)).any (·.1)=false:=by rfl):VE X W (.Call (.Name x p) (e::es) [] pos) (aS (bW ps.length F) fs):=by
 obtain⟨t,p1,s1⟩:=ha;refine⟨_,akV T D hr hg p1 mN he gF,fun G ι Ω H σ ρ Q w r h=>?_⟩;refine s1 G ι Ω H σ ρ _ w r (bH.mb h fun as Ω1 vs H1 G1 ι1 x1 w1 d1 h1=>?_);unfold bW at h1;split at h1
 ·rename_i hl;exact⟨by rw [d1.length];exact hl,G1,ι1,Ω1,as,w1,d1,Ey h1 (Ext.refl _ _)⟩
 ·exact False.elim h1
abbrev cI(i:Int):Ev→Mo A:=fun _=>ret (.int i)
abbrev cB(i:Bool):Ev→Mo A:=fun _=>ret (.bl i)
abbrev cN:Ev→Mo A:=fun _=>ret .bB
abbrev cT(n:String):Ev→Mo A:=fun _=>ret (.ty n)
abbrev a0:Ev→Mo (List A):=fun _=>ret []
abbrev Mz:Ev→Mo (Option Int):=fun _=>ret none
end
end V2
namespace V2
open PySem L2
section
variable{α β:Type}{Ω Ω':aI}{a:A}
@[simp] theorem ayC(x:α)(k:α→Mo β):mb (ret x) k=k x:=rfl
theorem bZ{m:Mo α}{k:α→Mo β}{x:α}(h:m Ω=some (.ok x,Ω')):mb m k Ω=k x Ω':=by unfold mb;rw [h]
@[simp] theorem ayD(x:α)(k:α→Mo β):mb (need (some x)) k=k x:=rfl
theorem amY{p:Prop} [Decidable p](k:Unit→Mo β)(h:p):mb (nG p) k=k ():=by funext Ω;simp [mb,nG,h]
@[simp] theorem ax1(x:α):(ret x:Mo α) Ω=some (.ok x,Ω):=rfl
@[simp] theorem axS:trim Ω (some (.ok a,Ω))=some (.ok a,Ω):=by simp only [trim];split <;> rfl
theorem Ln{Δ:aI}(h:Cl Ω.length a):trim Ω (some (.ok a,Ω++Δ))=some (.ok a,Ω):=by
 simp only [trim];rw [if_pos ⟨by simp,h⟩]
@[simp] theorem ax0(x:α)(ρ:Ev)(k:α→aI→OS):sM (ret x) ρ k=k x:=rfl
theorem eP{m:Mo α}{ρ:Ev}{k:α→aI→OS}{x:α}(h:m Ω=some (.ok x,Ω')):sM m ρ k Ω=k x Ω':=by unfold sM;rw [h]
@[simp] theorem ax2(ρ:Ev):cS (some (.ret a,ρ,Ω))=some (.ok a,Ω):=rfl
@[simp] theorem ax3(ρ:Ev):cS (some (.nx,ρ,Ω))=some (.ok .bB,Ω):=rfl
theorem bP{f g:MS}{ρ ρ1:Ev}(h:f ρ Ω=some (.nx,ρ1,Ω')):aZ f g ρ Ω=g ρ1 Ω':=by unfold aZ;rw [h]
theorem tM{α:Type}(xs:List α)(n:Nat):gU xs (n:Int)=xs[n]?:=by
 unfold gU nV;rw [if_pos (by omega)]
 by_cases h:(n:Int)<xs.length
 ·rw [if_pos h];simp
 ·rw [if_neg h];simp;omega
theorem RK{α:Type}(xs:List α)(n:Nat):gU xs (OfNat.ofNat n:Int)=xs[n]?:=tM xs n
theorem avW{α:Type}(xs:List α):gU xs 0=xs[0]?:=tM xs 0
theorem avX{α:Type}(xs:List α):gU xs 1=xs[1]?:=tM xs 1
end
@[simp] theorem axK:qM "int" "int" = some true:=by simp [qM]
@[simp] theorem axL:qM "int" "bool" = some false:=by simp [qM]
@[simp] theorem axI:qM "tuple" "tuple" = some true:=by simp [qM]
@[simp] theorem axJ:qM "list" "list" = some true:=by simp [qM]
@[simp] theorem ayK(Ω:aI)(ds:List A):cU Ω (.lst ds)=some ds:=rfl
@[simp] theorem ayJ(Ω:aI)(ns:List Int):cU Ω (.cM ns)=some (ns.map A.int):=rfl
@[simp] theorem ayI(Ω:aI)(ds:List A):cU Ω (.tup ds)=none:=rfl
@[simp] theorem ayL(Ω:aI)(i:Int):cU Ω (.int i)=none:=rfl
@[simp] theorem axX(Ω:aI)(ds:List A):gE Ω (.lst ds)=some ds:=rfl
@[simp] theorem axW(Ω:aI)(ns:List Int):gE Ω (.cM ns)=some (ns.map A.int):=rfl
@[simp] theorem axV(Ω:aI)(ds:List A):gE Ω (.tup ds)=some ds:=rfl
@[simp] theorem axY(Ω:aI)(k:Nat):gE Ω (.aD k)=cU Ω (.aD k):=rfl
@[simp] theorem axQ(Ω:aI)(i:Int):lK Ω (.int i)=some "int":=rfl
@[simp] theorem axR(Ω:aI)(i:Bool):lK Ω (.bl i)=some "bool":=rfl
@[simp] theorem axN(Ω:aI)(i:Str):lK Ω (.str i)=some "str":=rfl
@[simp] theorem axO(Ω:aI):lK Ω .bB=some "NoneType":=rfl
@[simp] theorem axM(Ω:aI)(ds:List A):lK Ω (.tup ds)=some "tuple":=rfl
@[simp] theorem axP(Ω:aI)(ds:List A):lK Ω (.lst ds)=some "list":=rfl
@[simp] theorem ayS:wV .bB=some true:=rfl
@[simp] theorem ayU(i:Int):wV (.int i)=some false:=rfl
@[simp] theorem ayR(ds:List A):wV (.tup ds)=some false:=rfl
@[simp] theorem ayT(ds:List A):wV (.lst ds)=some false:=rfl
@[simp] theorem ayV(b:Bool):wV (.bl b)=some false:=rfl
theorem jV{Ω:aI}{k:Nat}{ds:List A}(h:Ω[k]? = some (.lst ds)):cU Ω (.aD k)=some ds:=by simp [cU,h]
theorem Lg{Ω:aI}{k:Nat}{ds:List A}(h:Ω[k]? = some (.lst ds)):lK Ω (.aD k)=some "list":=by simp [lK,h]
theorem QQ{Ω:aI}{k:Nat}{ds:List A}(h:Ω[k]? = some (.lst ds)):rU Ω (.aD k)=some (k,ds):=by simp [rU,h]
theorem OX{Ω:aI}{a:A}{ds:List A}(h:cU Ω a=some ds):zU Ω a:=⟨ds,h⟩
section
variable{ok:aI→Prop}{g:A→MS}{b:MS}{x:A}{xs:List A}{ρ ρ0 ρ1:Ev}{Ω Ω0 Ω1:aI}{a:A}
theorem KC(h:ok Ω):eG ok g b [] ρ Ω=some (.nx,ρ,Ω):=by simp [eG,h]
theorem KA(h:ok Ω)(hg:g x ρ Ω=some (.nx,ρ0,Ω0))(hb:b ρ0 Ω0=some (.nx,ρ1,Ω1)):eG ok g b (x::xs) ρ Ω=eG ok g b xs ρ1 Ω1:=by simp [eG,h,hg,hb]
theorem as6(h:ok Ω)(hg:g x ρ Ω=some (.nx,ρ0,Ω0))(hb:b ρ0 Ω0=some (.ct,ρ1,Ω1)):eG ok g b (x::xs) ρ Ω=eG ok g b xs ρ1 Ω1:=by simp [eG,h,hg,hb]
theorem Us(I:Nat→Ev→aI→Prop)(aK:∀i ρ Ω,I i ρ Ω→ok Ω):∀(xs:List A) (j:Nat) (ρ:Ev) (Ω:aI),I j ρ Ω →
  (∀i x ρ Ω,xs[i]? = some x→I (j+i) ρ Ω→∃ρ0 Ω0 ρ1 Ω1,g x ρ Ω=some (.nx,ρ0,Ω0)∧(b ρ0 Ω0=some (.nx,ρ1,Ω1)∨b ρ0 Ω0=some (.ct,ρ1,Ω1))∧I (j+i+1) ρ1 Ω1) →
  ∃ρ' Ω',eG ok g b xs ρ Ω=some (.nx,ρ',Ω')∧I (j+xs.length) ρ' Ω'
 | [],j,ρ,Ω,h0,_=>⟨ρ,Ω,KC (aK _ _ _ h0),h0⟩
 | x::xs,j,ρ,Ω,h0,turn=>by
  obtain⟨ρ0,Ω0,ρ1,Ω1,e1,e2,e3⟩:=turn 0 x ρ Ω rfl h0;obtain⟨ρ',Ω',q1,q2⟩:=Us I aK xs (j+1) ρ1 Ω1 e3 fun i y ρ Ω hy hI=>by
   have:=turn (i+1) y ρ Ω (by simpa using hy) (by rw [show j+(i+1)=j+1+i by omega];exact hI);rwa [show j+(i+1)+1=j+1+i+1 by omega]at this
  refine⟨ρ',Ω',?_,by rw [eA,show j+(xs.length+1)=j+1+xs.length by omega];exact q2⟩
  rcases e2 with e2 | e2
  ·rw [KA (aK _ _ _ h0) e1 e2,q1]
  ·rw [as6 (aK _ _ _ h0) e1 e2,q1]
end
section
variable{c:Ev→Mo Bool}{b:MS}{n:Nat}{ρ ρ1:Ev}{Ω Ω1 Ω2:aI}{a:A}
theorem JZ(hc:c ρ Ω=some (.ok true,Ω1))(hb:b ρ Ω1=some (.nx,ρ1,Ω2)):jW c b (n+1) ρ Ω=jW c b n ρ1 Ω2:=by simp [jW,hc,hb]
theorem QH(hc:c ρ Ω=some (.ok false,Ω1)):jW c b (n+1) ρ Ω=some (.nx,ρ,Ω1):=by simp [jW,hc]
end
open PySem PySem.Spec PyProof.Rows L2
theorem Inv.abO{X:Cx}{pins:List (Addr×Obj)}{σ:L2.St}{H:Hp}{s:Shared}{p:Addr}{o:HO}(I:Inv X pins σ H s)(hp:H p=none)(h0:X.s₀.heap.get? p=none)(hL:p≠X.env.locals)(hC:∀x c,X.env.cells.lookup x=some c→c≠p)(hP:∀q∈X.pn++pins,q.1≠p)
  (aK:eW X.prog X.w (upd H p o) s.heap):Inv X pins σ (upd H p o) s where
 ok:=I.ok
 os:=I.os
 bare:=I.bare
 base:={
  keep:=I.base.keep
  slot:=I.base.slot
  free:=fun b ob q n hx=>by
   have hb:b≠p:=fun z=>by subst z;rw [h0]at q;cases q
   rw [bA hb];exact I.base.free b ob q n hx
  there:=I.base.there
  kS:=fun b xs q=>by have z:=I.base.kS b xs q;rw [bA (jU z hp)];exact z
  kJ:=fun b ob u q=>by have z:=I.base.kJ b ob u q;rw [bA (jU z hp)];exact z
  kT:=fun b ps q=>by obtain⟨more,z⟩:=I.base.kT b ps q;exact⟨more,by rw [bA (jU z hp)];exact z⟩ }
 loc:=I.loc
 cell:=I.cell
 free:=by rw [bA (cA hL)];exact I.free
 kK:=fun x c q=>by rw [bA (hC x c q)];exact I.kK x c q
 pin:=fun q hq=>by
  obtain⟨a,b,c⟩:=I.pin q hq;exact⟨a,by rw [bA (hP q hq)];exact b,c⟩
 aK:=aK
 len:=I.len
section
variable{X:Cx}{W:WX}{pos:Pos}
theorem Km{st:Stmt}:VS X W st (fun _ _=>none):=⟨_,ajK,fun _ _ _ _ _ _ _ _ _ h=>h.elim⟩
end
def uP(n:Nat)(js:List Nat)(ρ:Ev):Ev:=List.replicate n none++js.map (fun j=>(ρ[j]?).join)
def FI(X:Cx)(W:WX)(ifs:List Expr)(f:Ev→Mo Bool):Prop:=∃t,FQ X ifs t∧hW X.K zE W t f
abbrev qD:Ev→Mo Bool:=fun _=>ret true
theorem CW{X:Cx}{W:WX}:FI X W [] qD:=⟨_,ajZ,fun _ _ _ _ _ _ _ w _ q=>kG w rfl q⟩
theorem aaR{X:Cx}{W:WX}{c:Expr}{f:Ev→Mo Bool}(h:VT X W c f):FI X W [c] f:=let ⟨t,p,s⟩:=h; ⟨t,ajY p,s⟩
open Classical in
noncomputable def oH(ok:aI→Prop)(g:A→MS)(c:Ev→Mo Bool)(e:Ev→Mo A)(n:Nat):List A→Ev→aI→Option (Ev×aI)
 | [],ρ,Ω=>if ok Ω then some (ρ,Ω)else none
 | x::xs,ρ,Ω=>if ok Ω then(match g x ρ Ω with
  | some (.nx,ρ1,Ω1)=>(match c ρ1 Ω1 with
   | some (.ok true,Ω2)=>(match e ρ1 Ω2 with
    | some (.ok y,Ω3)=>(match Ω3[n]? with
     | some (.lst ys)=>if ys.length<sizeLine then oH ok g c e n xs ρ1 (Ω3.set n (.lst (ys++[y])))else none
     | _=>none)
    | _=>none)
   | some (.ok false,Ω2)=>oH ok g c e n xs ρ1 Ω2
   | _=>none)
  | _=>none)else none
open Classical in
noncomputable def YV(cf:Bool)(Ω1:aI)(r:Option (Ev×aI)):Option (Rs A×aI):=match r with
 | some (_,Ω')=>(match Ω'[Ω1.length]? with
  | some (.lst ys)=>if cf then some (.ok (.aD Ω1.length),Ω')else if Ω'.take Ω1.length=Ω1∧gC Ω1.length ys then some (.ok (.lst ys),Ω1)else some (.ok (.lst ys),Ω'.set Ω1.length .dead)
  | _=>none)
 | none=>none
noncomputable def mX(cf:Bool)(n:Nat)(js:List Nat)(fi:Ev→Mo Src)(g:A→MS)(c:Ev→Mo Bool)(e:Ev→Mo A):Ev→Mo A:=fun ρ=>mb (fi ρ) fun S Ω1=>YV cf Ω1 (oH S.ok g c e Ω1.length S.ds (uP n js ρ) (Ω1++[.lst []]))
theorem as5{ok:aI→Prop}{g:A→MS}{c:Ev→Mo Bool}{e:Ev→Mo A}{n:Nat}{xs:List A}{ρ:Ev}{Ω:aI}{r:Ev×aI}(h:oH ok g c e n xs ρ Ω=some r):ok Ω:=by
 cases xs with
 | nil=>unfold oH at h;by_cases hp:ok Ω;exact hp;rw [if_neg hp]at h;cases h
 | cons=>unfold oH at h;by_cases hp:ok Ω;exact hp;rw [if_neg hp]at h;cases h
theorem anN{K:Frag}{G:Hp}{ι:List Addr}{σ:L2.St}{ρ:Ev}(ls:List Str)(js:List Nat)(r:fQ K G ι σ ρ):fQ K G ι (sQ ls js σ) (uP ls.length js ρ):=by
 unfold sQ uP;refine⟨by simp,fun i d h=>?_⟩
 by_cases hi:i<ls.length
 ·rw [eK (by simpa using hi)]at h;rw [List.getElem?_replicate,if_pos hi]at h;cases h
 ·rw [nK (by simpa using Hd hi),List.length_replicate,lF]at h;cases e:js[i - ls.length]? with
  | none=>rw [e]at h;cases h
  | some j =>
   rw [e]at h;have h':(ρ[j]?).join=some d:=mS h;obtain⟨v,q1,q2⟩:=r.2 j d (join_some h');refine⟨v,?_,q2⟩;rw [nK (by simpa using Hd hi),fW,lF,e];show some (σ[j]?).join=_;rw [q1];rfl
section
variable{K:Frag}{W:WX}
theorem Nc{ls:List Str}{js:List Nat}{wi:TI}{tg:TG}{tc:TT}{te:TE}{fi:Ev→Mo Src}{g:A→MS}{c:Ev→Mo Bool}{e:Ev→Mo A}{cf:Bool}(W0:WX)(hi:hW K (XG K) W wi fi)(hg:FN K W0 tg g)(hc:hW K zE W0 tc c)(he:hW K (Den K) W0 te e) :
  hW K (Den K) W (UR ls js wi tg tc te) (mX cf ls.length js fi g c e):=by
 intro G ι Ω H σ ρ Q w r h;refine hi G ι Ω H σ ρ _ w r (bH.mb h fun S Ω1 J H1 G1 ι1 x1 w1 j1 h1=>?_);intro D hD;unfold YV at h1;cases er:oH S.ok g c e Ω1.length S.ds (uP ls.length js ρ) (Ω1++[.lst []])with
 | none=>rw [er]at h1;exact False.elim h1
 | some rr =>
 obtain⟨ρe,Ωe⟩:=rr;rw [er]at h1;simp only at h1;have hw0:Wd K G1 (ι1++[D]) (Ω1++[.lst []]) (upd H1 D (.lst [])):=w1.cell hD ⟨w1.qO hD,[],fA,.nil⟩;have r0:fQ K G1 (ι1++[D]) (sQ ls js σ) (uP ls.length js ρ):=anN ls js (r.ext (x1.trans (Ext.cell D)));have Tr:(ι1++[D])[Ω1.length]? = some D:=by rw [← w1.len];simp
 refine⟨fun i m σ' H'=>m=S.ds.length - i∧i≤S.ds.length∧∃G' ι' Ω' ρ',Ext G1 (ι1++[D]) G' ι'∧Wd K G' ι' Ω' H'∧fQ K G' ι' σ' ρ'∧oH S.ok g c e Ω1.length (S.ds.drop i) ρ' Ω'=some (ρe,Ωe),
  ⟨_,rfl,vH _,G1,_,_,_,Ext.refl _ _,hw0,r0,by simpa using er⟩,?_⟩
 rintro i m σ' H' ⟨rfl,Sm,G',ι',Ω',ρ',e',w',r',h'⟩;have aK:=as5 h';have eJ:Ext G1 ι1 G' ι':=(Ext.cell D).trans e'
 by_cases bG:i<S.ds.length
 ·right
  refine⟨j1.go G' ι' Ω' H' eJ w' aK i bG,fun σ2 H2=>∃G2 ι2 Ω2 ρ2,Ext G1 (ι1++[D]) G2 ι2∧Wd K G2 ι2 Ω2 H2∧fQ K G2 ι2 σ2 ρ2∧oH S.ok g c e Ω1.length (S.ds.drop (i+1)) ρ2 Ω2=some (ρe,Ωe),fun σ2 H2 n=>?_,fun x H2 y=>?_⟩
  ·exact⟨S.ds.length - (i+1),by omega,rfl,bG,n⟩
  ·obtain⟨G2,e2,w2,d2⟩:=j1.vR G' ι' Ω' H' eJ w' aK i x H2 S.ds[i] (gK bG) y;rw [BV bG]at h';unfold oH at h';rw [if_pos aK]at h';refine hg G2 ι' Ω' H2 σ' ρ' x S.ds[i] ⟨_,fun _ _=>False,fun _ _=>False,fun _ _=>False⟩ w2 (r'.ext e2) d2 ?_
   revert h'
   generalize g S.ds[i] ρ' Ω'=q;intro h';split at h'
   ·rename_i ρ3 Ω3;intro σ3 H3 G3 ι3 x3 w3 r3;refine hc G3 ι3 Ω3 H3 σ3 ρ3 _ w3 r3 ?_
    revert h'
    generalize c ρ3 Ω3=q2;intro h';split at h'
    ·rename_i Ω4;intro b H4 G4 ι4 x4 w4 hb;cases(show b=true from hb);rw [if_pos rfl];refine he G4 ι4 Ω4 H4 σ3 ρ3 _ w4 (r3.ext x4) ?_
     revert h'
     generalize e ρ3 Ω4=q3;intro h';split at h'
     ·rename_i z Ω5;intro v H5 G5 ι5 x5 w5 d5;split at h'
      ·rename_i ys ey;split at h'
       ·rename_i hl;have eD:=(((e'.trans e2).trans x3).trans x4).trans x5;have hk:=eD.pre _ _ Tr;obtain⟨gg,xs,q1,q2⟩:=w5.aD _ _ D ey hk;refine⟨xs,q1,by rw [q2.length];exact hl,G5,ι5,_,ρ3,eD,w5.put (c := .lst (ys++[z])) hk gg ⟨gg,_,fA,q2.append (.cons d5 .nil)⟩,(r3.ext x4).ext x5,h'⟩
       ·cases h'
      ·cases h'
     ·cases h'
    ·rename_i Ω4;intro b H4 G4 ι4 x4 w4 hb;cases(show b=false from hb);rw [if_neg (by simp)];exact⟨G4,ι4,Ω4,ρ3,((e'.trans e2).trans x3).trans x4,w4,r3.ext x4,h'⟩
    ·cases h'
   ·cases h'
 ·have JF:i=S.ds.length:=by omega
  subst JF
  left
  refine⟨j1.stop G' ι' Ω' H' eJ w' aK _ cE,?_⟩;rw [Ib]at h';unfold oH at h';rw [if_pos aK]at h';cases h';split at h1
  ·rename_i ys ey;have hk:=e'.pre _ _ Tr;obtain⟨gg,xs,q1,q2⟩:=w'.aD _ _ D ey hk;split at h1
   ·exact h1 _ H' G' ι' eJ w' (by simp only [Den];exact⟨D,rfl,hk⟩)
   ·have wf:=w'.freeze hk gg q1;split at h1
    ·rename_i PU;have eC:Ext G1 ι1 (upd G' D (.lst xs)) ι':=eJ.trans (Ext.new gg _);have wc:=w1.cut wf eC (by rw [List.take_set_of_le cE];exact PU.1);refine h1 _ H' _ ι1 ⟨eC.same,fun _ _ q=>q⟩ wc ?_;simp only [Den];exact⟨D,xs,rfl,fA,(q2.ext (Ext.new gg _)).cut eC.cut (by rw [w1.len];exact PU.2)⟩
    ·refine h1 _ H' _ ι' (eJ.trans (Ext.new gg _)) wf ?_;simp only [Den];exact⟨D,xs,rfl,fA,q2.ext (Ext.new gg _)⟩
  ·exact False.elim h1
end
def UT{α β:Type}(K:Frag)(rel:Rl α β)(W:WX)(f:Ev→Mo α):L2.St→Hp→(β→Hp→Prop)→Prop:=fun σ H Q=>∃G ι Ω ρ,Wd K G ι Ω H∧fQ K G ι σ ρ∧bH K rel W G ι σ Q (f ρ Ω)
def Lz(K:Frag)(W:WX)(g:A→MS):TG:=fun v σ H Q=>∃G ι Ω ρ a D,Wd K G ι Ω H∧fQ K G ι σ ρ∧Den K G ι v a∧cV K W G ι D (g a ρ Ω)∧D.nx=Q
theorem NQ{α β:Type}{K:Frag}{rel:Rl α β}{W:WX}{f:Ev→Mo α}:hW K rel W (UT K rel W f) f:=fun G ι Ω H σ ρ Q w r h=>⟨G,ι,Ω,ρ,w,r,h⟩
theorem Nd{K:Frag}{W:WX}{g:A→MS}:FN K W (Lz K W g) g:=fun G ι Ω H σ ρ v a D w r d h=>⟨G,ι,Ω,ρ,a,D,w,r,d,h,rfl⟩
theorem VE.xR{X:Cx}{W:WX}{e:Expr}{f:Ev→Mo A}(h:VE X W e f):PE X e (UT X.K (Den X.K) W f):=by
 obtain⟨t,p,s⟩:=h;exact fun pins sh σ H Q I ⟨G,ι,Ω,ρ,w,r,q⟩=>p pins sh σ H Q I (s G ι Ω H σ ρ Q w r q)
theorem FI.xR{X:Cx}{W:WX}{ifs:List Expr}{f:Ev→Mo Bool}(h:FI X W ifs f):FQ X ifs (UT X.K zE W f):=by
 obtain⟨t,p,s⟩:=h;exact fun pins sh σ H Q I ⟨G,ι,Ω,ρ,w,r,q⟩=>p pins sh σ H Q I (s G ι Ω H σ ρ Q w r q)
theorem VG.xR{X:Cx}{W:WX}{tg:Expr}{g:A→MS}(h:VG X W tg g):PG X tg (Lz X.K W g):=by
 obtain⟨t,p,s⟩:=h;exact fun pins sh σ H v u Q I rv ⟨G,ι,Ω,ρ,a,D,w,r,d,q,e⟩=>p pins sh σ H v u Q I rv (e ▸ s G ι Ω H σ ρ v a D w r d q)
abbrev DT:WX:=fun _ _ _ _=>False
theorem CY{X:Cx}{W:WX}{elt tg iter:Expr}{ifs:List Expr}{scope:Scope}{pos:Pos}{fi:Ev→Mo Src}{g:A→MS}{c:Ev→Mo Bool}{e:Ev→Mo A}(cf:Bool)(ls:List Str)(js:List Nat)(hc:X.calm=true)(L:yF X scope ls js)(hi:VI X W tg iter fi)
  (hb:∀cl C s H fp,VG (eQ X scope ls js cl C s H fp) DT tg g∧FI (eQ X scope ls js cl C s H fp) DT ifs c∧VE (eQ X scope ls js cl C s H fp) DT elt e)
  (hs:∀x,foldedSetIterable iter X.env x=pure x:=by intro _;rfl):VE X W (.ListComp elt [⟨tg,iter,ifs,0⟩] scope pos) (mX cf ls.length js fi g c e):=by
 obtain⟨t1,p1,s1⟩:=hi;exact⟨_,akO hc L p1 (fun cl C s H fp=>⟨(hb cl C s H fp).1.xR,(hb cl C s H fp).2.1.xR,(hb cl C s H fp).2.2.xR⟩) hs,Nc _ s1 Nd NQ NQ⟩
end V2
namespace PyProof.Rows
open PySem
def oF:Bool→Keyed→Array Keyed→Nat→Nat→Nat→StateT SortSt Sem (Option Nat):=sortPriv% PySem.Builtin.gallop
def wH:Nat→StateT SortSt Sem Unit:=sortPriv% PySem.Builtin.setMinGallop
def IB:Array Keyed→Array Keyed→StateT SortSt Sem (Array Keyed):=sortPriv% PySem.Builtin.mergeLo
def ID:Array Keyed→Array Keyed→StateT SortSt Sem (Array Keyed):=sortPriv% PySem.Builtin.mergeHi
structure TB(kd:SortKind)(a₀:Array Keyed)(st:SortSt):Prop where
 kind:kindOf st=kd
 failed:failedOf st=none
def gJ(M:Model)(A:Around)(E:Value→Shared→Prop)(s:Shared)(kd:SortKind)(P:Keyed→Prop)(rk:Keyed→Int):Prop :=
 ∀x y,P x→P y→∀(st:SortSt) (Q:Option Bool→SortSt→Prop),kindOf st=kd→Q (some (decide (rk x<rk y))) st→wpS M A E s (lt' x y) Q st
theorem asO(left:Bool)(key:Keyed)(arr:Array Keyed)(base n hint:Nat):oF left key arr base n hint=(do
 let beyond (i:Nat):StateT SortSt Sem (Option Bool):=do
  let x ← elem' arr (base+i)
  if left then lt' x key else return (← lt' key x).map (!·)
 let mut pL:=0
 let mut hJ:=1
 let mut lo:=0
 let mut hi:=0
 let some right ← beyond hint | return none
 if right then
  let IE:=n - hint
  for _ in [0:n] do
   if hJ≥IE then break
   let some more ← beyond (hint+hJ) | return none
   if !more then break
   pL:=hJ
   hJ:=2*hJ+1
  lo:=hint+pL+1
  hi:=hint+min hJ IE
 else
  let IE:=hint+1
  for _ in [0:n] do
   if hJ≥IE then break
   let some found ← beyond (hint - hJ) | return none
   if found then break
   pL:=hJ
   hJ:=2*hJ+1
  lo:=hint+1 - min hJ IE
  hi:=hint - pL
 for _ in [0:n] do
  if lo≥hi then break
  let m:=lo+(hi - lo)/2
  let some more ← beyond m | return none
  if more then lo:=m+1 else hi:=m
 return some hi):=rfl
section
variable{M:Model}{A:Around}{E:Value→Shared→Prop}{s:Shared}{kd:SortKind}{P:Keyed→Prop}{rk:Keyed→Int}
theorem aaD(hL:gJ M A E s kd P rk){st:SortSt}(hk:kindOf st=kd){left:Bool}{key:Keyed}{arr:Array Keyed}{base i:Nat}{x:Keyed}(nY:P key)(hx:arr[base+i]? = some x)(Sd:P x){Q:Option Bool→SortSt→Prop}
  (h:Q (some (if left then decide (rk x<rk key)else !decide (rk key<rk x))) st):wpS M A E s (do
  let x ← elem' arr (base+i)
  if left then lt' x key else return (← lt' key x).map (!·)) Q st:=by
 have e:elem' arr (base+i)=pure x:=by rw [elem'_eq,hx]
 rw [e,pure_bind];cases left with
 | true=>exact hL x key Sd nY st Q hk h
 | false=>exact aV (hL key x nY Sd st _ hk (bQ h))
def Tv(left:Bool)(key:Keyed)(arr:Array Keyed)(base n lo0 uX:Nat):StateT SortSt Sem (Option Nat):=do
 let beyond (i:Nat):StateT SortSt Sem (Option Bool):=do
  let x ← elem' arr (base+i)
  if left then lt' x key else return (← lt' key x).map (!·)
 let mut lo:=lo0
 let mut hi:=uX
 for _ in [0:n] do
  if lo≥hi then break
  let m:=lo+(hi - lo)/2
  let some more ← beyond m | return none
  if more then lo:=m+1 else hi:=m
 return some hi
theorem Ka{st:SortSt}{left:Bool}{key:Keyed}{arr:Array Keyed}{base n:Nat}(eV:Nat→Bool)
  (AG:∀i,i<n→∀{Q:Option Bool→SortSt→Prop},Q (some (eV i)) st→wpS M A E s (do
  let x ← elem' arr (base+i)
  if left then lt' x key else return (← lt' key x).map (!·)) Q st) (mono:∀i j,i≤j→j<n→eV j=true→eV i=true) {Q:Option Nat→SortSt→Prop}
  (h:∀k,k≤n→(∀i,i<k→eV i=true)→(∀i,k≤i→i<n→eV i=false)→Q (some k) st) {lo hi:Nat} (h1:lo≤hi) (h2:hi≤n) (h3:∀i,i<lo→eV i=true) (h4:∀i,hi≤i→i<n→eV i=false) :
  wpS M A E s (Tv left key arr base n lo hi) Q st:=by
 unfold Tv;dsimp only;refine aV (mD (nO
  (I:=fun i (c:Option (Option Nat)×Nat×Nat) aG=>aG=st∧c.1=none∧c.2.1≤c.2.2∧c.2.2≤n∧(∀i,i<c.2.1→eV i=true)∧(∀i,c.2.2≤i→i<n→eV i=false)∧c.2.2 - c.2.1≤n - i)
  (Q:=fun(c:Option (Option Nat)×Nat×Nat) aG=>aG=st∧c.1=none∧c.2.1=c.2.2∧c.2.2≤n∧(∀i,i<c.2.1→eV i=true)∧(∀i,c.2.2≤i→i<n→eV i=false)) ?step ?fin ⟨rfl,rfl,h1,h2,h3,h4,by dsimp only;omega⟩) ?post)
 case fin =>
  rintro⟨r,lo,hi⟩ aG ⟨e,e0,a1,a2,a3,a4,a5⟩;dsimp only at *;exact⟨e,e0,by omega,a2,a3,a4⟩
 case step =>
  rintro i ⟨r,lo,hi⟩ aG _ lV ⟨rfl,e0,a1,a2,a3,a4,a5⟩;dsimp only at *
  by_cases bG:lo≥hi
  ·rw [if_pos bG];exact wpS_pure ⟨rfl,rfl,by dsimp only;omega,a2,a3,a4⟩
  ·rw [if_neg bG];refine aV (AG (lo+(hi - lo)/2) (by omega) ?_);dsimp only;cases hm:eV (lo+(hi - lo)/2)with
   | true =>
    simp only [dP];refine wpS_pure ⟨rfl,rfl,by dsimp only;omega,a2,fun j hj=>mono j _ (by dsimp only at hj;omega) (by omega) hm,a4,by dsimp only;omega⟩
   | false =>
    simp only [iD,eF];refine wpS_pure ⟨rfl,rfl,by dsimp only;omega,by dsimp only;omega,a3,fun j hj sX=>?_,by dsimp only;omega⟩;dsimp only at hj;cases hbj:eV j with
    | false=>rfl
    | true=>rw [mono _ j hj sX hbj]at hm;cases hm
 case post =>
  rintro⟨r,lo,hi⟩ aG ⟨rfl,e0,a1,a2,a3,a4⟩;dsimp only at *;subst e0;exact bQ (h hi a2 (by rw [← a1];exact a3) a4)
theorem Jy(hL:gJ M A E s kd P rk){st:SortSt}(hk:kindOf st=kd){left:Bool}{key:Keyed}{arr:Array Keyed}{base n hint:Nat}(nY:P key)(aq9:∀i,i<n→∃x,arr[base+i]? = some x∧P x)(hh:hint<n)(eV:Nat→Bool)
  (hb:∀i x,i<n→arr[base+i]? = some x→eV i=if left then decide (rk x<rk key)else !decide (rk key<rk x)) (mono:∀i j,i≤j→j<n→eV j=true→eV i=true) {Q:Option Nat→SortSt→Prop}
  (h:∀k,k≤n→(∀i,i<k→eV i=true)→(∀i,k≤i→i<n→eV i=false)→Q (some k) st):wpS M A E s (oF left key arr base n hint) Q st:=by
 have AG:∀i,i<n→∀{Q:Option Bool→SortSt→Prop},Q (some (eV i)) st→wpS M A E s (do
  let x ← elem' arr (base+i)
  if left then lt' x key else return (← lt' key x).map (!·)) Q st:=fun i hi Q q=>by
  obtain⟨x,hx,hp⟩:=aq9 i hi;rw [hb i x hi hx]at q;exact aaD hL hk nY hx hp q
 rw [asO];dsimp only;refine aV (AG hint hh ?_);dsimp only;cases Tb:eV hint with
 | true =>
  simp only [dP];refine aV (mD (nO
   (I:=fun i (c:Option (Option Nat)×Nat×Nat) aG=>aG=st∧c.1=none∧eV (hint+c.2.1)=true∧c.2.1<c.2.2∧i+1≤c.2.2∧hint+c.2.1<n)
   (Q:=fun(c:Option (Option Nat)×Nat×Nat) aG=>aG=st∧c.1=none∧eV (hint+c.2.1)=true∧c.2.1<c.2.2∧hint+c.2.1<n∧(n - hint≤c.2.2∨eV (hint+c.2.2)=false)) ?step ?fin (show _∧_∧eV (hint+0)=true∧(0:Nat)<1∧0+1≤(1:Nat)∧hint+0<n from⟨rfl,rfl,Tb,by decide,by decide,hh⟩)) ?post)
  case fin =>
   rintro⟨r,pL,hJ⟩ aG ⟨e,e0,a1,a2,a3,a4⟩;dsimp only at *;exact⟨e,e0,a1,a2,a4,.inl (by omega)⟩
  case step =>
   rintro i ⟨r,pL,hJ⟩ aG _ lV ⟨rfl,e0,a1,a2,a3,a4⟩;dsimp only at *
   by_cases eU:hJ≥n - hint
   ·rw [if_pos eU];exact bQ ⟨rfl,rfl,a1,a2,a4,.inl eU⟩
   ·rw [if_neg eU];refine aV (AG (hint+hJ) (by omega) ?_);dsimp only;cases hm:eV (hint+hJ)with
    | true =>
     simp only [Bool.not_true,iD,eF];exact wpS_pure ⟨rfl,rfl,hm,by dsimp only;omega,by dsimp only;omega,by dsimp only;omega⟩
    | false =>
     simp only [Bool.not_false,dP];exact bQ ⟨rfl,rfl,a1,a2,a4,.inr hm⟩
  case post =>
   rintro⟨r,pL,hJ⟩ aG ⟨rfl,e0,a1,a2,a4,a5⟩;dsimp only at *;subst e0;refine Ka (lo:=hint+pL+1) (hi:=hint+min hJ (n - hint)) eV (fun i hi=>AG i hi) mono h (by omega) (by omega) (fun i hi=>mono i (hint+pL) (by omega) (by omega) a1) (fun i hi lV=>?_)
   rcases a5 with z | z
   ·omega
   ·cases PX:eV i with
    | false=>rfl
    | true =>
     by_cases hle:hint+hJ≤i
     ·rw [mono _ i hle lV PX]at z;cases z
     ·omega
 | false =>
  simp only [iD,eF];refine aV (mD (nO
   (I:=fun i (c:Option (Option Nat)×Nat×Nat) aG=>aG=st∧c.1=none∧eV (hint - c.2.1)=false∧c.2.1<c.2.2∧i+1≤c.2.2∧c.2.1≤hint)
   (Q:=fun(c:Option (Option Nat)×Nat×Nat) aG=>aG=st∧c.1=none∧eV (hint - c.2.1)=false∧c.2.1<c.2.2∧c.2.1≤hint∧(hint+1≤c.2.2∨(c.2.2≤hint∧eV (hint - c.2.2)=true))) ?step ?fin (show _∧_∧eV (hint - 0)=false∧(0:Nat)<1∧0+1≤(1:Nat)∧0≤hint from⟨rfl,rfl,Tb,by decide,by decide,vH _⟩)) ?post)
  case fin =>
   rintro⟨r,pL,hJ⟩ aG ⟨e,e0,a1,a2,a3,a4⟩;dsimp only at *;exact⟨e,e0,a1,a2,a4,.inl (by omega)⟩
  case step =>
   rintro i ⟨r,pL,hJ⟩ aG _ lV ⟨rfl,e0,a1,a2,a3,a4⟩;dsimp only at *
   by_cases eU:hJ≥hint+1
   ·rw [if_pos eU];exact bQ ⟨rfl,rfl,a1,a2,a4,.inl eU⟩
   ·rw [if_neg eU];refine aV (AG (hint - hJ) (by omega) ?_);dsimp only;cases hm:eV (hint - hJ)with
    | true =>
     simp only [dP];exact wpS_pure ⟨rfl,rfl,a1,a2,a4,.inr ⟨by dsimp only;omega,hm⟩⟩
    | false =>
     simp only [iD,eF];exact wpS_pure ⟨rfl,rfl,hm,by dsimp only;omega,by dsimp only;omega,by dsimp only;omega⟩
  case post =>
   rintro⟨r,pL,hJ⟩ aG ⟨rfl,e0,a1,a2,a4,a5⟩;dsimp only at *;subst e0;refine Ka (lo:=hint+1 - min hJ (hint+1)) (hi:=hint - pL) eV (fun i hi=>AG i hi) mono h (by omega) (by omega) (fun i hi=>?_) (fun i hi lV=>?_)
   ·rcases a5 with z | ⟨z0,z⟩
    ·omega
    ·exact mono i (hint - hJ) (by omega) (by omega) z
   ·cases PX:eV i with
    | false=>rfl
    | true=>rw [mono _ i hi lV PX]at a1;cases a1
end
theorem amV(a b:Array Keyed):IB a b=(do
 rule "list.sort.merge-lo"
 let total:=a.size+b.size
 let done (out:Array Keyed) (ia ib:Nat):=out++a.extract ia a.size++b.extract ib b.size
 let OT (out:Array Keyed) (ia ib:Nat):=out++b.extract ib b.size++a.extract ia a.size
 let mut out:Array Keyed:=#[← elem' b 0]
 let mut ia:=0
 let mut ib:=1
 if ib == b.size then return done out ia ib
 if ia+1 == a.size then return OT out ia ib
 let mut minGallop:=gallopOf (← get)
 for _ in [0:total] do
  let mut pX:=0
  let mut pV:=0
  for _ in [0:total] do
   let some Gi ← lt' (← elem' b ib) (← elem' a ia) | return done out ia ib
   if Gi then
    out:=out.push (← elem' b ib);ib:=ib+1;pV:=pV+1;pX:=0
    if ib == b.size then return done out ia ib
    if pV≥minGallop then break
   else
    out:=out.push (← elem' a ia);ia:=ia+1;pX:=pX+1;pV:=0
    if ia+1 == a.size then return OT out ia ib
    if pX≥minGallop then break
  rule "list.sort.gallop"
  minGallop:=minGallop+1
  for _ in [0:total] do
   if minGallop>1 then minGallop:=minGallop - 1
   wH minGallop
   let some k ← oF false (← elem' b ib) a ia (a.size - ia) 0 | return done out ia ib
   pX:=k
   if k>0 then
    out:=out++a.extract ia (ia+k);ia:=ia+k
    if ia+1 == a.size then return OT out ia ib
    if ia == a.size then return done out ia ib
   out:=out.push (← elem' b ib);ib:=ib+1
   if ib == b.size then return done out ia ib
   let some k ← oF true (← elem' a ia) b ib (b.size - ib) 0 | return done out ia ib
   pV:=k
   if k>0 then
    out:=out++b.extract ib (ib+k);ib:=ib+k
    if ib == b.size then return done out ia ib
   out:=out.push (← elem' a ia);ia:=ia+1
   if ia+1 == a.size then return OT out ia ib
   if pX<7&&pV<7 then break
  minGallop:=minGallop+1
  wH minGallop
 unsupported "internal:list.sort.merge-bound"):=rfl
section
variable{α:Type}{rk:α→Int}{al bl out:List α}{ia ib:Nat}
abbrev cF(rk:α→Int)(l:List α):Prop:=l.Pairwise fun x y=>rk x≤rk y
structure MI(rk:α→Int)(al bl out:List α)(ia ib:Nat):Prop where
 la:ia≤al.length
 lb:ib≤bl.length
 perm:out.Perm (al.take ia++bl.take ib)
 wD:cF rk out
 low:∀x∈out,∀y∈al.drop ia++bl.drop ib,rk x≤rk y
theorem MI.OD(h:MI rk al bl out ia ib){y:α}(hy:bl[ib]? = some y)(sb:cF rk bl)(ha:∀x∈al.drop ia,rk y≤rk x):MI rk al bl (out++[y]) ia (ib+1):=by
 have Bg:ib<bl.length:=(bO.mp hy).1;have ey:bl[ib]=y:=(bO.mp hy).2;have ed:bl.drop ib=y::bl.drop (ib+1):=by rw [BV Bg,ey]
 have et:bl.take (ib+1)=bl.take ib++[y]:=by rw [RV,hy];rfl
 refine⟨h.la,Bg,?_,?_,fun x hx z hz=>?_⟩
 ·rw [et,← fZ];exact h.perm.append_right [y]
 ·refine tR.mpr ⟨h.wD,by simp,fun x hx z hz=>?_⟩;simp only [jP]at hz;subst hz;exact h.low x hx z (by rw [ed];simp)
 ·have Rh:z∈al.drop ia++bl.drop ib:=by
   rw [ed]
   rcases iU.mp hz with q | q
   ·exact kR _ q
   ·exact jA _ (iB _ q)
  rcases iU.mp hx with q | q
  ·exact h.low x q z Rh
  ·simp only [jP]at q;subst q
   rcases iU.mp hz with q | q
   ·exact ha z q
   ·have:=(List.pairwise_iff_getElem (R:=fun x y=>rk x≤rk y)).mp sb;obtain⟨j,hj,rfl⟩:=vK q;rw [Hw];rw [← ey];exact this ib (ib+1+j) Bg (by simp at hj;omega) (by omega)
theorem MI.swap(h:MI rk al bl out ia ib):MI rk bl al out ib ia :=
 ⟨h.lb,h.la,h.perm.trans BQ,h.wD,fun x hx y hy=>h.low x hx y (by
  rcases iU.mp hy with q | q
  ·exact jA _ q
  ·exact kR _ q)⟩
theorem MI.DO(h:MI rk al bl out ia ib){x:α}(hx:al[ia]? = some x)(sa:cF rk al)(hb:∀y∈bl.drop ib,rk x≤rk y):MI rk al bl (out++[x]) (ia+1) ib:=(h.swap.OD hx sa hb).swap
theorem MI.DJ(h:MI rk al bl out ia ib)(sa:cF rk al):∀k,ia+k≤al.length→(∀j x,j<k→al[ia+j]? = some x→∀y∈bl.drop ib,rk x≤rk y)→MI rk al bl (out++(al.drop ia).take k) (ia+k) ib
 | 0,_,_=>by simpa using h
 | k+1,hk,hb=>by
  have ih:=h.DJ sa k (by omega) fun j x hj=>hb j x (by omega);have hx:al[ia+k]? = some (al[ia+k]'(by omega)):=gK _;have e:(al.drop ia).take (k+1)=(al.drop ia).take k++[al[ia+k]'(by omega)]:=by
   rw [RV,Yj,hx];rfl
  rw [e,← fZ];exact ih.DO hx sa (hb k _ (by omega) hx)
theorem MI.ahE(h:MI rk al bl out ia ib)(sb:cF rk bl)(k:Nat)(hk:ib+k≤bl.length)(ha:∀j y,j<k→bl[ib+j]? = some y→∀x∈al.drop ia,rk y≤rk x):MI rk al bl (out++(bl.drop ib).take k) ia (ib+k):=(h.swap.DJ sb k hk ha).swap
theorem MI.AW(h:MI rk al bl out ia ib)(sa:cF rk al)(he:ib=bl.length):(out++al.drop ia++bl.drop ib).Perm (al++bl)∧cF rk (out++al.drop ia++bl.drop ib):=by
 subst he;have e:bl.drop bl.length=[]:=Ib;rw [e,oY];have p:=h.perm;rw [List.take_length]at p;refine⟨?_,tR.mpr ⟨h.wD,sa.sublist (List.drop_sublist _ _),fun x hx y hy=>h.low x hx y (kR _ hy)⟩⟩;have q:(al.take ia++bl++al.drop ia).Perm (al++bl):=by
  have:(al.take ia++bl++al.drop ia).Perm (al.take ia++al.drop ia++bl):=by
   rw [fZ,fZ];exact GA _ BQ
  rwa [qU]at this
 exact(p.append_right _).trans q
theorem MI.OU(h:MI rk al bl out ia ib)(sb:cF rk bl)(he:ia+1=al.length)(hl:∀x∈al.drop ia,∀y∈bl,rk y≤rk x):(out++bl.drop ib++al.drop ia).Perm (al++bl)∧cF rk (out++bl.drop ib++al.drop ia):=by
 constructor
 ·have p:=h.perm;have q:(al.take ia++bl.take ib++(bl.drop ib++al.drop ia)).Perm (al++bl):=by
   have e1:al.take ia++bl.take ib++(bl.drop ib++al.drop ia)=al.take ia++(bl.take ib++bl.drop ib++al.drop ia):=by simp only [fZ]
   rw [e1,qU];have:(al.take ia++(bl++al.drop ia)).Perm (al.take ia++(al.drop ia++bl)):=GA _ BQ;rwa [← fZ (al.take ia) (al.drop ia),qU]at this
  rw [fZ];exact(p.append_right _).trans q
 ·refine tR.mpr ⟨tR.mpr ⟨h.wD,sb.sublist (List.drop_sublist _ _),fun x hx y hy=>h.low x hx y (jA _ hy)⟩,?_,fun x hx y hy=>?_⟩
  ·have e:(al.drop ia).length=1:=by simp;omega
   match hd:al.drop ia,e with
   | [z],_=>simp
  ·rcases iU.mp hx with q | q
   ·exact h.low x q y (kR _ hy)
   ·exact hl y hy x (List.mem_of_mem_drop q)
end
section
variable{M:Model}{A:Around}{E:Value→Shared→Prop}{s:Shared}
theorem jQ{arr:Array Keyed}{i:Nat}{x:Keyed}{st:SortSt}{Q:Keyed→SortSt→Prop}(h:arr[i]? = some x)(q:Q x st):wpS M A E s (elem' arr i) Q st:=by
 rw [elem'_eq,h];exact bQ q
theorem ag8(g:Nat):wH g=modify fun s=>SortSt.mk' (kindOf s) (arrOf s) (pendingOf s) g (failedOf s):=rfl
structure dE(st aG:SortSt):Prop where
 kind:kindOf aG=kindOf st
 arr:arrOf aG=arrOf st
 pend:pendingOf aG=pendingOf st
 failed:failedOf aG=failedOf st
theorem dE.refl(st:SortSt):dE st st:=⟨rfl,rfl,rfl,rfl⟩
theorem MF{g:Nat}{st:SortSt}{Q:Unit→SortSt→Prop}(h:∀aG,dE st aG→Q () aG):wpS M A E s (wH g) Q st:=by
 rw [ag8];exact CN (h _ ⟨rfl,rfl,rfl,rfl⟩)
theorem dE.trans{a b c:SortSt}(h:dE a b)(k:dE b c):dE a c:=⟨k.kind.trans h.kind,k.arr.trans h.arr,k.pend.trans h.pend,k.failed.trans h.failed⟩
end
theorem vD(out a b:Array Keyed)(ia ib:Nat):(out++a.extract ia a.size++b.extract ib b.size).toList=out.toList++a.toList.drop ia++b.toList.drop ib:=by
 simp [SV,RU]
theorem Nh(a:Array Keyed)(i k:Nat):(a.extract i (i+k)).toList=(a.toList.drop i).take k:=by
 simp [SV]
abbrev RT:=Option (Array Keyed)×Array Keyed×Nat×Nat×Nat×Nat
def YO(a b:Array Keyed)(mg:Nat)(kW:Array Keyed)(lS lQ:Nat):StateT SortSt Sem RT :=
 forIn [0:a.size+b.size] ((none,kW,lS,lQ,0,0):RT) fun _ c=>do
  let y ← elem' b c.2.2.2.1
  let x ← elem' a c.2.2.1
  let r ← lt' y x
  match r with
  | some Gi =>
   if Gi=true then do
    let y ← elem' b c.2.2.2.1
    if(c.2.2.2.1+1 == b.size)=true then pure (ForInStep.done (some (c.2.1.push y++a.extract c.2.2.1 a.size++b.extract (c.2.2.2.1+1) b.size),c.2.1.push y,c.2.2.1,c.2.2.2.1+1,0,c.2.2.2.2.2+1))
    else if c.2.2.2.2.2+1≥mg then pure (ForInStep.done (none,c.2.1.push y,c.2.2.1,c.2.2.2.1+1,0,c.2.2.2.2.2+1))
    else pure (ForInStep.yield (none,c.2.1.push y,c.2.2.1,c.2.2.2.1+1,0,c.2.2.2.2.2+1))
   else do
    let x ← elem' a c.2.2.1
    if(c.2.2.1+1+1 == a.size)=true then pure (ForInStep.done (some (c.2.1.push x++b.extract c.2.2.2.1 b.size++a.extract (c.2.2.1+1) a.size),c.2.1.push x,c.2.2.1+1,c.2.2.2.1,c.2.2.2.2.1+1,0))
    else if c.2.2.2.2.1+1≥mg then pure (ForInStep.done (none,c.2.1.push x,c.2.2.1+1,c.2.2.2.1,c.2.2.2.2.1+1,0))
    else pure (ForInStep.yield (none,c.2.1.push x,c.2.2.1+1,c.2.2.2.1,c.2.2.2.2.1+1,0))
  | _=>pure (ForInStep.done (some (c.2.1++a.extract c.2.2.1 a.size++b.extract c.2.2.2.1 b.size),c.2.1,c.2.2.1,c.2.2.2.1,c.2.2.2.2.1,c.2.2.2.2.2))
structure BG(P:Keyed→Prop)(rk:Keyed→Int)(a b:Array Keyed):Prop where
 pa:∀x∈a.toList,P x
 pb:∀x∈b.toList,P x
 sa:cF rk a.toList
 sb:cF rk b.toList
 top:∀x∈a.toList.drop (a.size - 1),∀y∈b.toList,rk y≤rk x
def iM(rk:Keyed→Int)(a b m:Array Keyed):Prop:=m.toList.Perm (a.toList++b.toList)∧cF rk m.toList
section
variable{M:Model}{A:Around}{E:Value→Shared→Prop}{s:Shared}{kd:SortKind}{P:Keyed→Prop}{rk:Keyed→Int}{a b:Array Keyed}
theorem DH{l:List Keyed}(h:cF rk l){i:Nat}{x:Keyed}(hx:l[i]? = some x):∀z∈l.drop i,rk x≤rk z:=fun z hz=>by
 have hi:i<l.length:=(bO.mp hx).1;have ex:l[i]=x:=(bO.mp hx).2;obtain⟨j,hj,rfl⟩:=vK hz;rw [Hw,← ex]
 by_cases h0:j=0
 ·subst h0;exact qZ _
 ·exact(List.pairwise_iff_getElem (R:=fun x y=>rk x≤rk y)).mp h i (i+j) hi (by simp at hj;omega) (by omega)
theorem Zu(hL:gJ M A E s kd P rk)(T:BG P rk a b){st:SortSt}(hk:kindOf st=kd){mg:Nat}{kW:Array Keyed}{lS lQ:Nat}(h0:MI rk a.toList b.toList kW.toList lS lQ)(h1:lS+1<a.size)(h2:lQ<b.size){Q:RT→SortSt→Prop}
  (hr:∀m o i j x y,iM rk a b m→Q (some m,o,i,j,x,y) st)
  (hn:∀out ia ib x y,MI rk a.toList b.toList out.toList ia ib→ia+1<a.size→ib<b.size→lS+lQ≤ia+ib→Q (none,out,ia,ib,x,y) st):wpS M A E s (YO a b mg kW lS lQ) Q st:=by
 unfold YO;refine nO (I:=fun _ (c:RT) aG=>aG=st∧c.1=none∧MI rk a.toList b.toList c.2.1.toList c.2.2.1 c.2.2.2.1∧c.2.2.1+1<a.size∧c.2.2.2.1<b.size∧lS+lQ≤c.2.2.1+c.2.2.2.1) ?step ?fin ⟨rfl,rfl,h0,h1,h2,oX _⟩
 case fin =>
  rintro⟨r,out,ia,ib,x,y⟩ aG ⟨rfl,e0,a1,a2,a3,a4⟩;dsimp only at *;subst e0;exact hn out ia ib x y a1 a2 a3 a4
 case step =>
  rintro i ⟨r,out,ia,ib,ac,bc⟩ aG _ lV ⟨rfl,e0,a1,a2,a3,a4⟩;dsimp only at *;subst e0;have hy:b[ib]? = some b[ib]:=mP b ib a3;have hx:a[ia]? = some (a[ia]'(by omega)):=mP a ia (by omega);generalize b[ib]=y at hy;generalize a[ia]'(by omega)=x at hx;have uQ:b.toList[ib]? = some y:=by rw [mC];exact hy
  have rN:a.toList[ia]? = some x:=by rw [mC];exact hx
  refine aV (jQ hy (aV (jQ hx (aV (hL y x (T.pb y (kQ uQ)) (T.pa x (kQ rN)) aG _ hk ?_)))));dsimp only
  by_cases bG:rk y<rk x
  ·rw [tJ bG,if_pos rfl];refine aV (jQ hy ?_);have m1:=a1.OD uQ T.sb fun z hz=>by have:=DH T.sa rN z hz;omega
   rw [← CL]at m1
   by_cases he:ib+1=b.size
   ·rw [if_pos (by simpa using he)];refine bQ (hr _ _ _ _ _ _ ?_);have g:=m1.AW T.sa (by simpa using he);unfold iM;rw [vD];exact g
   ·rw [if_neg (by simpa using he)]
    by_cases hg:bc+1≥mg
    ·rw [if_pos hg];exact bQ (hn _ _ _ _ _ m1 a2 (by omega) (by omega))
    ·rw [if_neg hg];exact wpS_pure ⟨rfl,rfl,m1,a2,by dsimp only;omega,by dsimp only;omega⟩
  ·rw [lW bG,if_neg (by simp)];refine aV (jQ hx ?_);have m1:=a1.DO rN T.sa fun z hz=>by have:=DH T.sb uQ z hz;omega
   rw [← CL]at m1
   by_cases he:ia+1+1=a.size
   ·rw [if_pos (by simpa using he)];refine bQ (hr _ _ _ _ _ _ ?_);have g:=m1.OU T.sb (by simpa using he) (by rw [show ia+1=a.size - 1 by omega];exact T.top);unfold iM;rw [vD];exact g
   ·rw [if_neg (by simpa using he)]
    by_cases hg:ac+1≥mg
    ·rw [if_pos hg];exact bQ (hn _ _ _ _ _ m1 (by omega) a3 (by omega))
    ·rw [if_neg hg];exact wpS_pure ⟨rfl,rfl,m1,by dsimp only;omega,a3,by dsimp only;omega⟩
end
abbrev tQ:=Option (Array Keyed)×Array Keyed×Nat×Nat×Nat×Nat×Nat
def ON(a b:Array Keyed)(out:Array Keyed)(ia ib mg ac bc:Nat):StateT SortSt Sem (ForInStep tQ):=do
 let x ← elem' a ia
 if(ia+1+1 == a.size)=true then pure (ForInStep.done (some (out.push x++b.extract ib b.size++a.extract (ia+1) a.size),out.push x,ia+1,ib,mg,ac,bc))
 else if(decide (ac<7)&&decide (bc<7))=true then pure (ForInStep.done (none,out.push x,ia+1,ib,mg,ac,bc))
 else pure (ForInStep.yield (none,out.push x,ia+1,ib,mg,ac,bc))
def YQ(a b:Array Keyed)(out:Array Keyed)(ia ib mg ac bc:Nat):StateT SortSt Sem (ForInStep tQ):=do
 let x ← elem' a ia
 let r ← oF true x b ib (b.size - ib) 0
 match r with
 | some k =>
  if k>0 then
   if(ib+k == b.size)=true then pure (ForInStep.done (some (out++b.extract ib (ib+k)++a.extract ia a.size++b.extract (ib+k) b.size),out++b.extract ib (ib+k),ia,ib+k,mg,ac,k))
   else ON a b (out++b.extract ib (ib+k)) ia (ib+k) mg ac k
  else ON a b out ia ib mg ac k
 | _=>pure (ForInStep.done (some (out++a.extract ia a.size++b.extract ib b.size),out,ia,ib,mg,ac,bc))
def OO(a b:Array Keyed)(out:Array Keyed)(ia ib mg ac bc:Nat):StateT SortSt Sem (ForInStep tQ):=do
 let y ← elem' b ib
 if(ib+1 == b.size)=true then pure (ForInStep.done (some (out.push y++a.extract ia a.size++b.extract (ib+1) b.size),out.push y,ia,ib+1,mg,ac,bc))
 else YQ a b (out.push y) ia (ib+1) mg ac bc
def IG(a b:Array Keyed)(out:Array Keyed)(ia ib mg ac bc:Nat):StateT SortSt Sem (ForInStep tQ):=do
 wH mg
 let y ← elem' b ib
 let r ← oF false y a ia (a.size - ia) 0
 match r with
 | some k =>
  if k>0 then
   if(ia+k+1 == a.size)=true then pure (ForInStep.done (some (out++a.extract ia (ia+k)++b.extract ib b.size++a.extract (ia+k) a.size),out++a.extract ia (ia+k),ia+k,ib,mg,k,bc))
   else if(ia+k == a.size)=true then pure (ForInStep.done (some (out++a.extract ia (ia+k)++a.extract (ia+k) a.size++b.extract ib b.size),out++a.extract ia (ia+k),ia+k,ib,mg,k,bc))
   else OO a b (out++a.extract ia (ia+k)) (ia+k) ib mg k bc
  else OO a b out ia ib mg k bc
 | _=>pure (ForInStep.done (some (out++a.extract ia a.size++b.extract ib b.size),out,ia,ib,mg,ac,bc))
section
variable{M:Model}{A:Around}{E:Value→Shared→Prop}{s:Shared}{kd:SortKind}{P:Keyed→Prop}{rk:Keyed→Int}{a b:Array Keyed}
def xZ(rk:Keyed→Int)(a b:Array Keyed)(lo:Nat)(st:SortSt)(r:ForInStep tQ)(aG:SortSt):Prop:=dE st aG∧(match r with
 | .done c=>(∃m,c.1=some m∧iM rk a b m)∨(c.1=none∧MI rk a.toList b.toList c.2.1.toList c.2.2.1 c.2.2.2.1∧c.2.2.1+1<a.size∧c.2.2.2.1<b.size∧lo≤c.2.2.1+c.2.2.2.1)
 | .yield c=>c.1=none∧MI rk a.toList b.toList c.2.1.toList c.2.2.1 c.2.2.2.1∧c.2.2.1+1<a.size∧c.2.2.2.1<b.size∧lo≤c.2.2.1+c.2.2.2.1)
theorem lX{a:Array Keyed}{i:Nat}(h:i<a.size):∃x,a[i]? = some x∧a.toList[i]? = some x∧x∈a.toList:=by
 refine⟨a[i],mP a i h,?_,?_⟩
 ·rw [mC];exact mP a i h
 ·exact Array.getElem_mem_toList h
theorem Ju(T:BG P rk a b){st:SortSt}{out:Array Keyed}{ia ib mg ac bc lo:Nat}(h:MI rk a.toList b.toList out.toList ia ib)(h1:ia+1<a.size)(h2:ib<b.size)(hx:∀x,a.toList[ia]? = some x→∀z∈b.toList.drop ib,rk x≤rk z)(fR:lo≤ia+ib+1) :
  wpS M A E s (ON a b out ia ib mg ac bc) (xZ rk a b lo st) st:=by
 obtain⟨x,x1,x2,_⟩:=lX (show ia<a.size by omega);unfold ON;refine aV (jQ x1 ?_);have m1:=h.DO x2 T.sa (hx x x2);rw [← CL]at m1
 by_cases he:ia+1+1=a.size
 ·rw [if_pos (by simpa using he)];refine bQ ⟨dE.refl _,.inl ⟨_,rfl,?_⟩⟩;have g:=m1.OU T.sb (by simpa using he) (by rw [show ia+1=a.size - 1 by omega];exact T.top);unfold iM;rw [vD];exact g
 ·rw [if_neg (by simpa using he)];split
  ·exact wpS_pure ⟨dE.refl _,.inr ⟨rfl,m1,by dsimp only;omega,h2,by dsimp only;omega⟩⟩
  ·exact wpS_pure ⟨dE.refl _,rfl,m1,by dsimp only;omega,h2,by dsimp only;omega⟩
theorem DG{l:List Keyed}(h:cF rk l){i j:Nat}{x y:Keyed}(hU:i≤j)(hx:l[i]? = some x)(hy:l[j]? = some y):rk x≤rk y :=
 DH h hx y (kQ (i:=j - i) (by rw [Yj,show i+(j - i)=j by omega];exact hy))
theorem Vb{l:List Keyed}{i:Nat}{z:Keyed}(h:z∈l.drop i):∃j,i≤j∧l[j]? = some z:=by
 obtain⟨j,hj⟩:=List.getElem?_of_mem h;rw [Yj]at hj;exact⟨i+j,by omega,hj⟩
theorem Kb(hL:gJ M A E s kd P rk){st:SortSt}(hk:kindOf st=kd){left:Bool}{key:Keyed}{arr:Array Keyed}(nY:P key)(hp:∀x∈arr.toList,P x)(hs:cF rk arr.toList){base:Nat}(hb:base<arr.size){Q:Option Nat→SortSt→Prop}
  (h:∀k,base+k≤arr.size→(∀j x,j<k→arr.toList[base+j]? = some x→(if left then rk x<rk key else rk x≤rk key))→(∀j x,base+k≤j→arr.toList[j]? = some x→(if left then rk key≤rk x else rk key<rk x))→Q (some k) st) :
  wpS M A E s (oF left key arr base (arr.size - base) 0) Q st:=by
 have JI:∀i,i<arr.size - base→∃x,arr[base+i]? = some x∧arr.toList[base+i]? = some x∧x∈arr.toList:=fun i hi=>lX (by omega);refine Jy hL hk nY (fun i hi=>let ⟨x,x1,_,x3⟩:=JI i hi; ⟨x,x1,hp x x3⟩) (by omega) (fun i=>match arr[base+i]? with | some x=>if left then decide (rk x<rk key)else !decide (rk key<rk x) | none=>false) (fun i x hi hx=>by simp only [hx]) (fun i j hU hj hb=>?_) (fun k eS bG eU=>h k (by omega) (fun j x hj hx=>?_) (fun j x hj hx=>?_))
 ·obtain⟨x,x1,x2,_⟩:=JI i (by omega);obtain⟨y,y1,y2,_⟩:=JI j hj;simp only [x1,y1]at hb ⊢;have:=DG hs (show base+i≤base+j by omega) x2 y2;cases left with
  | true=>simp only [dP,xN]at hb ⊢;omega
  | false=>simp only [iD,eF,SU,FA]at hb ⊢;omega
 ·have q:=bG j hj;rw [mC]at hx;simp only [hx]at q;cases left with
  | true=>simpa using q
  | false=>simp only [iD,eF,SU,FA]at q ⊢;omega
 ·have JD:j<arr.size:=by have:=(bO.mp hx).1;simpa using this
  have q:=eU (j - base) (by omega) (by omega);rw [mC]at hx;rw [show base+(j - base)=j by omega]at q;simp only [hx]at q;cases left with
  | true=>simp only [dP,FA]at q ⊢;omega
  | false=>simp only [iD,eF,Bool.not_eq_false',xN]at q ⊢;exact q
theorem Zv(hL:gJ M A E s kd P rk)(T:BG P rk a b){st:SortSt}(hk:kindOf st=kd){out:Array Keyed}{ia ib mg ac bc lo:Nat}(h:MI rk a.toList b.toList out.toList ia ib)(h1:ia+1<a.size)(h2:ib<b.size)(fR:lo≤ia+ib+1) :
  wpS M A E s (YQ a b out ia ib mg ac bc) (xZ rk a b lo st) st:=by
 obtain⟨x,x1,x2,x3⟩:=lX (show ia<a.size by omega);unfold YQ;refine aV (jQ x1 (aV (Kb hL hk (T.pa x x3) T.pb T.sb h2 fun k eS bG eU=>?_)));dsimp only;simp only [dP]at bG eU;have m1:=h.ahE T.sb k (by simpa using eS) fun j y hj hy z hz=>by
  have:=bG j y hj hy;have:=DH T.sa x2 z hz;omega
 rw [← Nh,← Zd]at m1;have last:∀y,a.toList[ia]? = some y→∀z∈b.toList.drop (ib+k),rk y≤rk z:=fun y hy z hz=>by
  rw [x2]at hy;cases hy;obtain⟨j,hj,ej⟩:=Vb hz;exact eU j z hj ej
 by_cases mL:k>0
 ·rw [if_pos mL]
  by_cases he:ib+k=b.size
  ·rw [if_pos (by simpa using he)];refine bQ ⟨dE.refl _,.inl ⟨_,rfl,?_⟩⟩;have g:=m1.AW T.sa (by simpa using he);unfold iM;rw [vD];exact g
  ·rw [if_neg (by simpa using he)];exact Ju T m1 h1 (by omega) last (by omega)
 ·rw [if_neg mL];have k0:k=0:=by omega
  subst k0;exact Ju T h h1 h2 last fR
theorem Jv(hL:gJ M A E s kd P rk)(T:BG P rk a b){st:SortSt}(hk:kindOf st=kd){out:Array Keyed}{ia ib mg ac bc lo:Nat}(h:MI rk a.toList b.toList out.toList ia ib)(h1:ia+1<a.size)(h2:ib<b.size)(hy:∀y,b.toList[ib]? = some y→∀z∈a.toList.drop ia,rk y≤rk z)(fR:lo≤ia+ib+2) :
  wpS M A E s (OO a b out ia ib mg ac bc) (xZ rk a b lo st) st:=by
 obtain⟨y,y1,y2,_⟩:=lX h2;unfold OO;refine aV (jQ y1 ?_);have m1:=h.OD y2 T.sb (hy y y2);rw [← CL]at m1
 by_cases he:ib+1=b.size
 ·rw [if_pos (by simpa using he)];refine bQ ⟨dE.refl _,.inl ⟨_,rfl,?_⟩⟩;have g:=m1.AW T.sa (by simpa using he);unfold iM;rw [vD];exact g
 ·rw [if_neg (by simpa using he)];exact Zv hL T hk m1 h1 (by omega) (by omega)
end
def YN(a b:Array Keyed)(kW:Array Keyed)(lS lQ zK BF BD:Nat):StateT SortSt Sem tQ :=
 forIn [0:a.size+b.size] ((none,kW,lS,lQ,zK,BF,BD):tQ) fun _ c =>
  if c.2.2.2.2.1>1 then IG a b c.2.1 c.2.2.1 c.2.2.2.1 (c.2.2.2.2.1 - 1) c.2.2.2.2.2.1 c.2.2.2.2.2.2 else IG a b c.2.1 c.2.2.1 c.2.2.2.1 c.2.2.2.2.1 c.2.2.2.2.2.1 c.2.2.2.2.2.2
section
variable{M:Model}{A:Around}{E:Value→Shared→Prop}{s:Shared}{kd:SortKind}{P:Keyed→Prop}{rk:Keyed→Int}{a b:Array Keyed}
theorem xZ.trans{lo:Nat}{st kP gZ:SortSt}{r:ForInStep tQ}(g:dE st kP)(h:xZ rk a b lo kP r gZ):xZ rk a b lo st r gZ:=⟨g.trans h.1,h.2⟩
theorem Zw(hL:gJ M A E s kd P rk)(T:BG P rk a b){st:SortSt}(hk:kindOf st=kd){out:Array Keyed}{ia ib mg ac bc lo:Nat}(h:MI rk a.toList b.toList out.toList ia ib)(h1:ia+1<a.size)(h2:ib<b.size)(fR:lo≤ia+ib+2) :
  wpS M A E s (IG a b out ia ib mg ac bc) (xZ rk a b lo st) st:=by
 obtain⟨y,y1,y2,y3⟩:=lX h2;unfold IG;refine aV (MF fun kP g1=>?_);have eS:kindOf kP=kd:=g1.kind.trans hk;refine aV (jQ y1 (aV (Kb hL eS (T.pb y y3) T.pa T.sa (by omega) fun k Be bG eU=>?_)));dsimp only;simp only [iD,eF]at bG eU;have m1:=h.DJ T.sa k (by simpa using Be) fun j x hj hx z hz=>by
  have:=bG j x hj hx;have:=DH T.sb y2 z hz;omega
 rw [← Nh,← Zd]at m1;have HU:∀z,b.toList[ib]? = some z→∀x∈a.toList.drop (ia+k),rk z≤rk x:=fun z hz x hx=>by
  rw [y2]at hz;cases hz;obtain⟨j,hj,ej⟩:=Vb hx;have:=eU j x hj ej;omega
 by_cases mL:k>0
 ·rw [if_pos mL]
  by_cases he:ia+k+1=a.size
  ·rw [if_pos (by simpa using he)];refine bQ ⟨g1,.inl ⟨_,rfl,?_⟩⟩;have g:=m1.OU T.sb (by simpa using he) (by rw [show ia+k=a.size - 1 by omega];exact T.top);unfold iM;rw [vD];exact g
  ·rw [if_neg (by simpa using he)]
   by_cases mM:ia+k=a.size
   ·rw [if_pos (by simpa using mM)];refine bQ ⟨g1,.inl ⟨_,rfl,?_⟩⟩;have g:=m1.swap.AW T.sb (by simpa using mM);have e0:a.toList.drop (ia+k)=[]:=List.drop_of_length_le (by simp;omega);unfold iM;rw [vD];rw [e0,oY]at g ⊢;exact⟨g.1.trans BQ,g.2⟩
   ·rw [if_neg (by simpa using mM)];exact mD (Jv hL T eS m1 (by omega) h2 HU (by omega)) fun r gZ q=>q.trans g1
 ·rw [if_neg mL];have k0:k=0:=by omega
  subst k0;exact mD (Jv hL T eS h h1 h2 HU fR) fun r gZ q=>q.trans g1
theorem Zt(hL:gJ M A E s kd P rk)(T:BG P rk a b){st:SortSt}(hk:kindOf st=kd){kW:Array Keyed}{lS lQ zK BF BD:Nat}(h0:MI rk a.toList b.toList kW.toList lS lQ)(h1:lS+1<a.size)(h2:lQ<b.size){Q:tQ→SortSt→Prop}
  (hr:∀m c aG,dE st aG→iM rk a b m→Q (some m,c) aG)
  (hn:∀out ia ib c aG,dE st aG→MI rk a.toList b.toList out.toList ia ib→ia+1<a.size→ib<b.size→lS+lQ+2≤ia+ib→Q (none,out,ia,ib,c) aG):wpS M A E s (YN a b kW lS lQ zK BF BD) Q st:=by
 unfold YN;refine nO (I:=fun i (c:tQ) aG=>dE st aG∧c.1=none∧MI rk a.toList b.toList c.2.1.toList c.2.2.1 c.2.2.2.1∧c.2.2.1+1<a.size∧c.2.2.2.1<b.size∧(i=0→c.2.2.1=lS∧c.2.2.2.1=lQ)∧(0<i→lS+lQ+2≤c.2.2.1+c.2.2.2.1)) ?step ?fin ⟨dE.refl _,rfl,h0,h1,h2,fun _=>⟨rfl,rfl⟩,fun h=>absurd h (by decide)⟩
 case fin =>
  rintro⟨r,out,ia,ib,c⟩ aG ⟨g,e0,a1,a2,a3,a4,a5⟩;dsimp only at *;subst e0;exact hn out ia ib c aG g a1 a2 a3 (a5 (by omega))
 case step =>
  rintro i ⟨r,out,ia,ib,mg,ac,bc⟩ aG _ lV ⟨g,e0,a1,a2,a3,a4,a5⟩;dsimp only at *;subst e0;have fR:lS+lQ≤ia+ib:=by
   by_cases hi:i=0
   ·have:=a4 hi;omega
   ·have:=a5 (by omega);omega
  have Cz:∀mg,wpS M A E s (IG a b out ia ib mg ac bc) (xZ rk a b (lS+lQ+2) aG) aG:=fun mg=>Zw hL T (g.kind.trans hk) a1 a2 a3 (by omega);split
  all_goals
   refine mD (Cz _) fun r iR q=>?_;obtain⟨g2,q⟩:=q
   match r,q with
   | .done (some m,c),.inl ⟨m',e,gm⟩=>dsimp only at e;cases e;exact hr _ _ _ (g.trans g2) gm
   | .done (none,XW,ia',ib',c),.inr ⟨_,m,x1,x2,x3⟩=>exact hn XW ia' ib' c iR (g.trans g2) m x1 x2 x3
   | .yield c,q=>exact⟨g.trans g2,q.1,q.2.1,q.2.2.1,q.2.2.2.1,fun h=>by omega,fun _=>q.2.2.2.2⟩
theorem fF{σ α:Type}{c:Prop} [Decidable c]{t e:StateT σ Sem α}{Q:α→σ→Prop}{st:σ}(h1:c→wpS M A E s t Q st)(h2:¬c→wpS M A E s e Q st):wpS M A E s (if c then t else e) Q st:=by
 split
 ·exact h1 ‹_›
 ·exact h2 ‹_›
theorem Zp(hL:gJ M A E s kd P rk)(T:BG P rk a b)(ha:0<a.size)(hb:0<b.size)(aq2:∀y,b.toList[0]? = some y→∀x∈a.toList,rk y≤rk x){st:SortSt}(hk:kindOf st=kd):wpS M A E s (IB a b) (fun m aG=>dE st aG∧iM rk a b m) st:=by
 rw [amV];refine aV (yK (sA ⟨rfl,?_⟩));obtain⟨y,y1,y2,y3⟩:=lX hb;refine aV (jQ y1 ?_);have m1:MI rk a.toList b.toList (#[y]:Array Keyed).toList 0 1:=by
  have m0:MI rk a.toList b.toList [] 0 0:=⟨by simp,by simp,by simp,by simp,by simp⟩;exact m0.OD y2 T.sb (by simpa using aq2 y y2)
 refine fF (fun he=>?_) (fun he=>?_)
 ·have he:1=b.size:=by simpa using he
  refine bQ ⟨dE.refl _,?_⟩;have g:=m1.AW T.sa (by simpa using he);unfold iM;rw [vD];exact g
 have he:¬1=b.size:=by simpa using he
 refine fF (fun hf=>?_) (fun hf=>?_)
 ·have hf:0+1=a.size:=by simpa using hf
  refine bQ ⟨dE.refl _,?_⟩;have g:=m1.OU T.sb (by simpa using hf) (by rw [show 0=a.size - 1 by omega];exact T.top);unfold iM;rw [vD];exact g
 have hf:¬0+1=a.size:=by simpa using hf
 refine aV (rZ ?_);refine aV (mD (nO
  (I:=fun i (c:Option (Array Keyed)×Array Keyed×Nat×Nat×Nat) aG=>dE st aG∧c.1=none∧MI rk a.toList b.toList c.2.1.toList c.2.2.1 c.2.2.2.1∧c.2.2.1+1<a.size∧c.2.2.2.1<b.size∧i≤c.2.2.1+c.2.2.2.1)
  (Q:=fun(c:Option (Array Keyed)×Array Keyed×Nat×Nat×Nat) aG=>dE st aG∧∃m,c.1=some m∧iM rk a b m) ?step ?fin ⟨dE.refl _,rfl,m1,by dsimp only;omega,by dsimp only;omega,by dsimp only;omega⟩) ?post)
 case fin =>
  rintro⟨r,out,ia,ib,c⟩ aG ⟨g,e0,a1,a2,a3,a4⟩;dsimp only at *;omega
 case post =>
  rintro⟨r,out,ia,ib,c⟩ aG ⟨g,m,e,gm⟩;dsimp only at e;subst e;exact bQ ⟨g,gm⟩
 case step =>
  rintro i ⟨r,out,ia,ib,mg⟩ aG _ lV ⟨g,e0,a1,a2,a3,a4⟩;dsimp only at e0 a1 a2 a3 a4;subst e0;refine aV (show wpS M A E s (YO a b mg out ia ib) _ _ from Zu hL T (g.kind.trans hk) a1 a2 a3 (fun m o i j x y gm=>?_) (fun out ia1 ib1 x y n1 n2 n3 n4=>?_))
  ·exact bQ ⟨g,m,rfl,gm⟩
  ·refine aV (yK (sA ⟨rfl,?_⟩));refine aV (show wpS M A E s (YN a b out ia1 ib1 (mg+1) x y) _ _ from Zt hL T (g.kind.trans hk) n1 n2 n3 (fun m c kP g1 gm=>?_) (fun out ia2 ib2 c kP g1 o1 o2 o3 o4=>?_))
   ·exact bQ ⟨g.trans g1,m,rfl,gm⟩
   ·refine aV (MF fun gZ g2=>?_);exact wpS_pure ⟨(g.trans g1).trans g2,rfl,o1,o2,o3,by dsimp only;omega⟩
end
section
variable{α:Type}{rk:α→Int}{al bl out:List α}{na nb:Nat}
structure MH(rk:α→Int)(al bl out:List α)(na nb:Nat):Prop where
 la:na≤al.length
 lb:nb≤bl.length
 perm:out.Perm (al.drop na++bl.drop nb)
 wD:out.Pairwise fun x y=>rk y≤rk x
 high:∀x∈out,∀y∈al.take na++bl.take nb,rk y≤rk x
theorem Ls{l:List α}{n:Nat}{x:α}(hx:l[n]? = some x):l.take (n+1)=l.take n++[x]:=by rw [RV,hx];rfl
theorem QI{l:List α}{n:Nat}{x:α}(hx:l[n]? = some x):l.drop n=x::l.drop (n+1):=by
 have h:=(bO.mp hx);rw [BV h.1,h.2]
theorem agL{l:List α}(h:cF rk l){n:Nat}{x:α}(hx:l[n]? = some x):∀y∈l.take n,rk y≤rk x:=fun y hy=>by
 have e:l=l.take n++x::l.drop (n+1):=by rw [← QI hx,qU]
 rw [e]at h;exact(tR.mp h).2.2 y hy x (by simp)
theorem MH.swap(h:MH rk al bl out na nb):MH rk bl al out nb na :=
 ⟨h.lb,h.la,h.perm.trans BQ,h.wD,fun x hx y hy=>h.high x hx y (by
  rcases iU.mp hy with q | q
  ·exact jA _ q
  ·exact kR _ q)⟩
theorem MH.DO(h:MH rk al bl out (na+1) nb){x:α}(hx:al[na]? = some x)(sa:cF rk al)(hb:∀y∈bl.take nb,rk y≤rk x):MH rk al bl (out++[x]) na nb:=by
 have et:=Ls hx;have ed:=QI hx;have hi:=h.high;rw [et]at hi;refine⟨by have:=h.la;omega,h.lb,?_,?_,fun y hy z hz=>?_⟩
 ·rw [ed];exact BQ.trans (GA [x] h.perm)
 ·refine tR.mpr ⟨h.wD,by simp,fun y hy z hz=>?_⟩;simp only [jP]at hz;subst hz;exact hi y hy z (by simp)
 ·rcases iU.mp hy with q | q
  ·refine hi y q z ?_
   rcases iU.mp hz with r | r
   ·exact kR _ (kR _ r)
   ·exact jA _ r
  ·simp only [jP]at q;subst q
   rcases iU.mp hz with r | r
   ·exact agL sa hx z r
   ·exact hb z r
theorem MH.DJ(sa:cF rk al):∀k na,MH rk al bl out (na+k) nb→(∀j x,na≤j→j<na+k→al[j]? = some x→∀y∈bl.take nb,rk y≤rk x)→MH rk al bl (out++((al.drop na).take k).reverse) na nb
 | 0,na,h,_=>by simpa using h
 | k+1,na,h,hb=>by
  have hx:al[na]? = some (al[na]'(by have:=h.la;omega)):=gK _;have ih:=MH.DJ sa k (na+1) (by rw [show na+1+k=na+(k+1)by omega];exact h) fun j x h1 h2=>hb j x (by omega) (by omega);have e:((al.drop na).take (k+1)).reverse=((al.drop (na+1)).take k).reverse++[al[na]'(by have:=h.la;omega)]:=by
   rw [QI hx,List.take_succ_cons,List.reverse_cons]
  rw [e,← fZ];exact ih.DO hx sa (hb na _ (by omega) (by omega) hx)
theorem MH.all(h:MH rk al bl out na nb):(al.take na++bl.take nb++out.reverse).Perm (al++bl):=by
 have p:(al.take na++bl.take nb++out.reverse).Perm (al.take na++bl.take nb++(al.drop na++bl.drop nb)):=GA _ ((List.reverse_perm _).trans h.perm);refine p.trans ?_;have e:al.take na++bl.take nb++(al.drop na++bl.drop nb)=al.take na++(bl.take nb++al.drop na++bl.drop nb):=by simp only [fZ]
 have e2:al++bl=al.take na++(al.drop na++bl.take nb++bl.drop nb):=by
  rw [fZ (al.drop na),qU,← fZ,qU]
 rw [e,e2];exact GA _ (BQ.append_right _)
theorem MH.rev(h:MH rk al bl out na nb):cF rk out.reverse:=List.pairwise_reverse.mpr h.wD
theorem MH.Uz(h:MH rk al bl out na nb)(sb:cF rk bl)(he:na=0):(al.take na++bl.take nb++out.reverse).Perm (al++bl)∧cF rk (al.take na++bl.take nb++out.reverse):=by
 refine⟨h.all,?_⟩;have hi:=h.high;have r:=h.rev;subst he;rw [Hr,FW]at hi ⊢;exact tR.mpr ⟨sb.sublist (LH _ _),r,fun x hx y hy=>hi y (List.mem_reverse.mp hy) x hx⟩
theorem MH.AW(h:MH rk al bl out na nb)(sa:cF rk al)(he:nb=0):(al.take na++bl.take nb++out.reverse).Perm (al++bl)∧cF rk (al.take na++bl.take nb++out.reverse):=by
 have q:=h.swap.Uz sa he;subst he;refine⟨h.all,?_⟩;rw [Hr,FW]at q;rw [Hr,oY];exact q.2
theorem MH.as2(h:MH rk al bl out na nb)(sa:cF rk al)(sb:cF rk bl)(hl:∀y∈bl.take nb,∀x∈al,rk y≤rk x):(bl.take nb++al.take na++out.reverse).Perm (al++bl)∧cF rk (bl.take nb++al.take na++out.reverse):=by
 refine⟨h.swap.all.trans BQ,tR.mpr ⟨tR.mpr ⟨sb.sublist (LH _ _),sa.sublist (LH _ _),fun x hx y hy=>hl x hx y (Ht hy)⟩,h.rev,fun x hx y hy=>?_⟩⟩;refine h.high y (List.mem_reverse.mp hy) x ?_
 rcases iU.mp hx with r | r
 ·exact jA _ r
 ·exact kR _ r
end
theorem Ej(out a b:Array Keyed)(na nb:Nat):(a.extract 0 na++b.extract 0 nb++out.reverse).toList=a.toList.take na++b.toList.take nb++out.toList.reverse:=by
 simp [SV]
theorem ahC(a:Array Keyed)(i k:Nat):((a.extract i (i+k)).reverse).toList=((a.toList.drop i).take k).reverse:=by
 simp [SV]
section
variable{M:Model}{A:Around}{E:Value→Shared→Prop}{s:Shared}{kd:SortKind}{P:Keyed→Prop}{rk:Keyed→Int}{a b:Array Keyed}
theorem SY(hL:gJ M A E s kd P rk){st:SortSt}(hk:kindOf st=kd){left:Bool}{key:Keyed}{arr:Array Keyed}{base n hint:Nat}(nY:P key)(hp:∀i,i<n→∃x,arr[base+i]? = some x∧P x)(hs:∀i j x y,i≤j→j<n→arr[base+i]? = some x→arr[base+j]? = some y→rk x≤rk y)(hb:hint<n){Q:Option Nat→SortSt→Prop}
  (h:∀k,k≤n→(∀j x,j<k→arr[base+j]? = some x→(if left then rk x<rk key else rk x≤rk key))→(∀j x,k≤j→j<n→arr[base+j]? = some x→(if left then rk key≤rk x else rk key<rk x))→Q (some k) st) :
  wpS M A E s (oF left key arr base n hint) Q st:=by
 refine Jy hL hk nY hp hb (fun i=>match arr[base+i]? with | some x=>if left then decide (rk x<rk key)else !decide (rk key<rk x) | none=>false) (fun i x hi hx=>by simp only [hx]) (fun i j hU hj hb=>?_) (fun k eS bG eU=>h k (by omega) (fun j x hj hx=>?_) (fun j x hj sX hx=>?_))
 ·obtain⟨x,x1,_⟩:=hp i (by omega);obtain⟨y,y1,_⟩:=hp j hj;simp only [x1,y1]at hb ⊢;have:=hs i j x y hU hj x1 y1;cases left with
  | true=>simp only [dP,xN]at hb ⊢;omega
  | false=>simp only [iD,eF,SU,FA]at hb ⊢;omega
 ·have q:=bG j hj;simp only [hx]at q;cases left with
  | true=>simpa using q
  | false=>simp only [iD,eF,SU,FA]at q ⊢;omega
 ·have q:=eU j hj sX;simp only [hx]at q;cases left with
  | true=>simp only [dP,FA]at q ⊢;omega
  | false=>simp only [iD,eF,Bool.not_eq_false',xN]at q ⊢;exact q
end
theorem amW(a b:Array Keyed):ID a b=(do
 rule "list.sort.merge-hi"
 let total:=a.size+b.size
 let done (out:Array Keyed) (na nb:Nat):=a.extract 0 na++b.extract 0 nb++out.reverse
 let QG (out:Array Keyed) (na nb:Nat):=b.extract 0 nb++a.extract 0 na++out.reverse
 let mut na:=a.size - 1
 let mut nb:=b.size
 let mut out:Array Keyed:=#[← elem' a na]
 if na == 0 then return done out na nb
 if nb == 1 then return QG out na nb
 let mut minGallop:=gallopOf (← get)
 for _ in [0:total] do
  let mut pX:=0
  let mut pV:=0
  for _ in [0:total] do
   let some Gs ← lt' (← elem' b (nb - 1)) (← elem' a (na - 1)) | return done out na nb
   if Gs then
    na:=na - 1;out:=out.push (← elem' a na);pX:=pX+1;pV:=0
    if na == 0 then return done out na nb
    if pX≥minGallop then break
   else
    nb:=nb - 1;out:=out.push (← elem' b nb);pV:=pV+1;pX:=0
    if nb == 1 then return QG out na nb
    if pV≥minGallop then break
  rule "list.sort.gallop"
  minGallop:=minGallop+1
  for _ in [0:total] do
   if minGallop>1 then minGallop:=minGallop - 1
   wH minGallop
   let some at_ ← oF false (← elem' b (nb - 1)) a 0 na (na - 1) | return done out na nb
   let k:=na - at_
   pX:=k
   if k>0 then
    out:=out++(a.extract at_ na).reverse;na:=at_
    if na == 0 then return done out na nb
   nb:=nb - 1;out:=out.push (← elem' b nb)
   if nb == 1 then return QG out na nb
   let some at_ ← oF true (← elem' a (na - 1)) b 0 nb (nb - 1) | return done out na nb
   let k:=nb - at_
   pV:=k
   if k>0 then
    out:=out++(b.extract at_ nb).reverse;nb:=at_
    if nb == 1 then return QG out na nb
    if nb == 0 then return done out na nb
   na:=na - 1;out:=out.push (← elem' a na)
   if na == 0 then return done out na nb
   if pX<7&&pV<7 then break
  minGallop:=minGallop+1
  wH minGallop
 unsupported "internal:list.sort.merge-bound"):=rfl
abbrev SF:=Option (Array Keyed)×Nat×Nat×Array Keyed×Nat×Nat
abbrev vO:=Option (Array Keyed)×Nat×Nat×Array Keyed×Nat×Nat×Nat
def Bi(a b:Array Keyed)(mg:Nat)(lO lN:Nat)(kW:Array Keyed):StateT SortSt Sem SF :=
 forIn [0:a.size+b.size] ((none,lO,lN,kW,0,0):SF) fun _ c=>do
  let y ← elem' b (c.2.2.1 - 1)
  let x ← elem' a (c.2.1 - 1)
  let r ← lt' y x
  match r with
  | some Gs =>
   if Gs=true then do
    let x ← elem' a (c.2.1 - 1)
    if(c.2.1 - 1 == 0)=true then pure (ForInStep.done (some (a.extract 0 (c.2.1 - 1)++b.extract 0 c.2.2.1++(c.2.2.2.1.push x).reverse),c.2.1 - 1,c.2.2.1,c.2.2.2.1.push x,c.2.2.2.2.1+1,0))
    else if c.2.2.2.2.1+1≥mg then pure (ForInStep.done (none,c.2.1 - 1,c.2.2.1,c.2.2.2.1.push x,c.2.2.2.2.1+1,0))
    else pure (ForInStep.yield (none,c.2.1 - 1,c.2.2.1,c.2.2.2.1.push x,c.2.2.2.2.1+1,0))
   else do
    let y ← elem' b (c.2.2.1 - 1)
    if(c.2.2.1 - 1 == 1)=true then pure (ForInStep.done (some (b.extract 0 (c.2.2.1 - 1)++a.extract 0 c.2.1++(c.2.2.2.1.push y).reverse),c.2.1,c.2.2.1 - 1,c.2.2.2.1.push y,0,c.2.2.2.2.2+1))
    else if c.2.2.2.2.2+1≥mg then pure (ForInStep.done (none,c.2.1,c.2.2.1 - 1,c.2.2.2.1.push y,0,c.2.2.2.2.2+1))
    else pure (ForInStep.yield (none,c.2.1,c.2.2.1 - 1,c.2.2.2.1.push y,0,c.2.2.2.2.2+1))
  | _=>pure (ForInStep.done (some (a.extract 0 c.2.1++b.extract 0 c.2.2.1++c.2.2.2.1.reverse),c.2.1,c.2.2.1,c.2.2.2.1,c.2.2.2.2.1,c.2.2.2.2.2))
def PN(a b:Array Keyed)(na nb:Nat)(out:Array Keyed)(mg ac bc:Nat):StateT SortSt Sem (ForInStep vO):=do
 let x ← elem' a (na - 1)
 if(na - 1 == 0)=true then pure (ForInStep.done (some (a.extract 0 (na - 1)++b.extract 0 nb++(out.push x).reverse),na - 1,nb,out.push x,mg,ac,bc))
 else if(decide (ac<7)&&decide (bc<7))=true then pure (ForInStep.done (none,na - 1,nb,out.push x,mg,ac,bc))
 else pure (ForInStep.yield (none,na - 1,nb,out.push x,mg,ac,bc))
def Bj(a b:Array Keyed)(na nb:Nat)(out:Array Keyed)(mg ac bc:Nat):StateT SortSt Sem (ForInStep vO):=do
 let x ← elem' a (na - 1)
 let r ← oF true x b 0 nb (nb - 1)
 match r with
 | some k =>
  if nb - k>0 then
   if(k == 1)=true then pure (ForInStep.done (some (b.extract 0 k++a.extract 0 na++(out++(b.extract k nb).reverse).reverse),na,k,out++(b.extract k nb).reverse,mg,ac,nb - k))
   else if(k == 0)=true then pure (ForInStep.done (some (a.extract 0 na++b.extract 0 k++(out++(b.extract k nb).reverse).reverse),na,k,out++(b.extract k nb).reverse,mg,ac,nb - k))
   else PN a b na k (out++(b.extract k nb).reverse) mg ac (nb - k)
  else PN a b na nb out mg ac (nb - k)
 | _=>pure (ForInStep.done (some (a.extract 0 na++b.extract 0 nb++out.reverse),na,nb,out,mg,ac,bc))
def PQ(a b:Array Keyed)(na nb:Nat)(out:Array Keyed)(mg ac bc:Nat):StateT SortSt Sem (ForInStep vO):=do
 let y ← elem' b (nb - 1)
 if(nb - 1 == 1)=true then pure (ForInStep.done (some (b.extract 0 (nb - 1)++a.extract 0 na++(out.push y).reverse),na,nb - 1,out.push y,mg,ac,bc))
 else Bj a b na (nb - 1) (out.push y) mg ac bc
def uW(a b:Array Keyed)(na nb:Nat)(out:Array Keyed)(mg ac bc:Nat):StateT SortSt Sem (ForInStep vO):=do
 wH mg
 let y ← elem' b (nb - 1)
 let r ← oF false y a 0 na (na - 1)
 match r with
 | some k =>
  if na - k>0 then
   if(k == 0)=true then pure (ForInStep.done (some (a.extract 0 k++b.extract 0 nb++(out++(a.extract k na).reverse).reverse),k,nb,out++(a.extract k na).reverse,mg,na - k,bc))
   else PQ a b k nb (out++(a.extract k na).reverse) mg (na - k) bc
  else PQ a b na nb out mg (na - k) bc
 | _=>pure (ForInStep.done (some (a.extract 0 na++b.extract 0 nb++out.reverse),na,nb,out,mg,ac,bc))
def Bh(a b:Array Keyed)(lO lN:Nat)(kW:Array Keyed)(zK BF BD:Nat):StateT SortSt Sem vO :=
 forIn [0:a.size+b.size] ((none,lO,lN,kW,zK,BF,BD):vO) fun _ c =>
  if c.2.2.2.2.1>1 then uW a b c.2.1 c.2.2.1 c.2.2.2.1 (c.2.2.2.2.1 - 1) c.2.2.2.2.2.1 c.2.2.2.2.2.2 else uW a b c.2.1 c.2.2.1 c.2.2.2.1 c.2.2.2.2.1 c.2.2.2.2.2.1 c.2.2.2.2.2.2
structure xU(P:Keyed→Prop)(rk:Keyed→Int)(a b:Array Keyed):Prop where
 pa:∀x∈a.toList,P x
 pb:∀x∈b.toList,P x
 sa:cF rk a.toList
 sb:cF rk b.toList
 bot:∀y∈b.toList.take 1,∀x∈a.toList,rk y≤rk x
section
variable{M:Model}{A:Around}{E:Value→Shared→Prop}{s:Shared}{kd:SortKind}{P:Keyed→Prop}{rk:Keyed→Int}{a b:Array Keyed}
theorem UO{l:List Keyed}{i:Nat}{z:Keyed}(h:z∈l.take i):∃j,j<i∧l[j]? = some z:=by
 obtain⟨j,hj⟩:=List.getElem?_of_mem h;rw [FY]at hj;split at hj
 ·exact⟨j,‹_›,hj⟩
 ·cases hj
theorem NM{l:List Keyed}(h:cF rk l){i:Nat}{x:Keyed}(hi:0<i)(hx:l[i - 1]? = some x):∀y∈l.take i,rk y≤rk x:=fun y hy=>by
 obtain⟨j,hj,e⟩:=UO hy;exact DG h (by omega) e hx
theorem MH.OE{out:Array Keyed}{na nb:Nat}(h:MH rk a.toList b.toList out.toList na nb)(hn:0<na){x:Keyed}(hx:a.toList[na - 1]? = some x)(sa:cF rk a.toList)(hb:∀y∈b.toList.take nb,rk y≤rk x):MH rk a.toList b.toList (out.push x).toList (na - 1) nb:=by
 rw [CL];exact MH.DO (na:=na - 1) (by rw [show na - 1+1=na by omega];exact h) hx sa hb
theorem MH.Ou{out:Array Keyed}{na nb:Nat}(h:MH rk a.toList b.toList out.toList na nb)(hn:0<nb){x:Keyed}(hx:b.toList[nb - 1]? = some x)(sb:cF rk b.toList)(hb:∀y∈a.toList.take na,rk y≤rk x):MH rk a.toList b.toList (out.push x).toList na (nb - 1):=(h.swap.OE hn hx sb hb).swap
theorem MH.Ni{out:Array Keyed}{na nb k:Nat}(h:MH rk a.toList b.toList out.toList na nb)(sa:cF rk a.toList)(hk:k≤na)(hb:∀j x,k≤j→j<na→a.toList[j]? = some x→∀y∈b.toList.take nb,rk y≤rk x):MH rk a.toList b.toList (out++(a.extract k na).reverse).toList k nb:=by
 obtain⟨d,rfl⟩:∃d,na=k+d:=⟨na - k,by omega⟩;rw [Zd,ahC];exact MH.DJ sa d k h hb
theorem MH.ahD{out:Array Keyed}{na nb k:Nat}(h:MH rk a.toList b.toList out.toList na nb)(sb:cF rk b.toList)(hk:k≤nb)(hb:∀j x,k≤j→j<nb→b.toList[j]? = some x→∀y∈a.toList.take na,rk y≤rk x):MH rk a.toList b.toList (out++(b.extract k nb).reverse).toList na k:=(h.swap.Ni sb hk hb).swap
theorem MH.QB{out:Array Keyed}{na nb:Nat}(h:MH rk a.toList b.toList out.toList na nb)(sb:cF rk b.toList)(he:na=0):iM rk a b (a.extract 0 na++b.extract 0 nb++out.reverse):=by
 unfold iM;rw [Ej];exact h.Uz sb he
theorem MH.asF{out:Array Keyed}{na nb:Nat}(h:MH rk a.toList b.toList out.toList na nb)(sa:cF rk a.toList)(he:nb=0):iM rk a b (a.extract 0 na++b.extract 0 nb++out.reverse):=by
 unfold iM;rw [Ej];exact h.AW sa he
theorem MH.QA{out:Array Keyed}{na nb:Nat}(h:MH rk a.toList b.toList out.toList na nb)(T:xU P rk a b)(he:nb=1):iM rk a b (b.extract 0 nb++a.extract 0 na++out.reverse):=by
 unfold iM;rw [Ej];exact h.as2 T.sa T.sb (by rw [he];exact T.bot)
theorem Zy(hL:gJ M A E s kd P rk)(T:xU P rk a b){st:SortSt}(hk:kindOf st=kd){mg:Nat}{kW:Array Keyed}{lO lN:Nat}(h0:MH rk a.toList b.toList kW.toList lO lN)(h1:0<lO)(h2:1<lN){Q:SF→SortSt→Prop}
  (hr:∀m c,iM rk a b m→Q (some m,c) st)
  (hn:∀out na nb c,MH rk a.toList b.toList out.toList na nb→0<na→1<nb→na+nb≤lO+lN→Q (none,na,nb,out,c) st):wpS M A E s (Bi a b mg lO lN kW) Q st:=by
 unfold Bi;refine nO (I:=fun _ (c:SF) aG=>aG=st∧c.1=none∧MH rk a.toList b.toList c.2.2.2.1.toList c.2.1 c.2.2.1∧0<c.2.1∧1<c.2.2.1∧c.2.1+c.2.2.1≤lO+lN) ?step ?fin ⟨rfl,rfl,h0,h1,h2,oX _⟩
 case fin =>
  rintro⟨r,na,nb,out,c⟩ aG ⟨rfl,e0,a1,a2,a3,a4⟩;dsimp only at *;subst e0;exact hn out na nb c a1 a2 a3 a4
 case step =>
  rintro i ⟨r,na,nb,out,ac,bc⟩ aG _ lV ⟨rfl,e0,a1,a2,a3,a4⟩;dsimp only at *;subst e0;have la:=a1.la;have lb:=a1.lb;rw [eY]at la lb;obtain⟨y,y1,y2,y3⟩:=lX (show nb - 1<b.size by omega);obtain⟨x,x1,x2,x3⟩:=lX (show na - 1<a.size by omega);refine aV (jQ y1 (aV (jQ x1 (aV (hL y x (T.pb y y3) (T.pa x x3) aG _ hk ?_)))));dsimp only
  by_cases bG:rk y<rk x
  ·rw [tJ bG,if_pos rfl];refine aV (jQ x1 ?_);have m1:=a1.OE a2 x2 T.sa fun z hz=>by have:=NM T.sb (by omega) y2 z hz;omega
   refine fF (fun he=>?_) (fun he=>?_)
   ·exact bQ (hr _ _ (m1.QB T.sb (by simpa using he)))
   ·have he:¬na - 1=0:=by simpa using he
    refine fF (fun hg=>?_) (fun hg=>?_)
    ·exact bQ (hn _ _ _ _ m1 (by omega) a3 (by omega))
    ·exact wpS_pure ⟨rfl,rfl,m1,by dsimp only;omega,a3,by dsimp only;omega⟩
  ·rw [lW bG,if_neg (by simp)];refine aV (jQ y1 ?_);have m1:=a1.Ou (by omega) y2 T.sb fun z hz=>by have:=NM T.sa (by omega) x2 z hz;omega
   refine fF (fun he=>?_) (fun he=>?_)
   ·exact bQ (hr _ _ (m1.QA T (by simpa using he)))
   ·have he:¬nb - 1=1:=by simpa using he
    refine fF (fun hg=>?_) (fun hg=>?_)
    ·exact bQ (hn _ _ _ _ m1 a2 (by omega) (by omega))
    ·exact wpS_pure ⟨rfl,rfl,m1,a2,by dsimp only;omega,by dsimp only;omega⟩
def LQ(rk:Keyed→Int)(a b:Array Keyed)(hi:Nat)(st:SortSt)(r:ForInStep vO)(aG:SortSt):Prop:=dE st aG∧(match r with
 | .done c=>(∃m,c.1=some m∧iM rk a b m)∨(c.1=none∧MH rk a.toList b.toList c.2.2.2.1.toList c.2.1 c.2.2.1∧0<c.2.1∧1<c.2.2.1∧c.2.1+c.2.2.1≤hi)
 | .yield c=>c.1=none∧MH rk a.toList b.toList c.2.2.2.1.toList c.2.1 c.2.2.1∧0<c.2.1∧1<c.2.2.1∧c.2.1+c.2.2.1≤hi)
theorem Jw(T:xU P rk a b){st:SortSt}{out:Array Keyed}{na nb mg ac bc hi:Nat}(h:MH rk a.toList b.toList out.toList na nb)(h1:0<na)(h2:1<nb)(hx:∀x,a.toList[na - 1]? = some x→∀z∈b.toList.take nb,rk z≤rk x)(fR:na+nb≤hi+1) :
  wpS M A E s (PN a b na nb out mg ac bc) (LQ rk a b hi st) st:=by
 have la:=h.la;rw [eY]at la;obtain⟨x,x1,x2,_⟩:=lX (show na - 1<a.size by omega);unfold PN;refine aV (jQ x1 ?_);have m1:=h.OE h1 x2 T.sa (hx x x2);refine fF (fun he=>?_) (fun he=>?_)
 ·exact bQ ⟨dE.refl _,.inl ⟨_,rfl,m1.QB T.sb (by simpa using he)⟩⟩
 ·have he:¬na - 1=0:=by simpa using he
  refine fF (fun hg=>?_) (fun hg=>?_)
  ·exact wpS_pure ⟨dE.refl _,.inr ⟨rfl,m1,by dsimp only;omega,h2,by dsimp only;omega⟩⟩
  ·exact wpS_pure ⟨dE.refl _,rfl,m1,by dsimp only;omega,h2,by dsimp only;omega⟩
theorem Jz(hL:gJ M A E s kd P rk){st:SortSt}(hk:kindOf st=kd){left:Bool}{key:Keyed}{arr:Array Keyed}(nY:P key)(hp:∀x∈arr.toList,P x)(hs:cF rk arr.toList){n:Nat}(h0:0<n)(hn:n≤arr.size){Q:Option Nat→SortSt→Prop}
  (h:∀k,k≤n→(∀j x,j<k→arr.toList[j]? = some x→(if left then rk x<rk key else rk x≤rk key))→(∀j x,k≤j→j<n→arr.toList[j]? = some x→(if left then rk key≤rk x else rk key<rk x))→Q (some k) st) :
  wpS M A E s (oF left key arr 0 n (n - 1)) Q st:=by
 refine SY hL hk nY (fun i hi=>?_) (fun i j x y hU hj hx hy=>?_) (by omega) (fun k eS h1 h2=>h k eS (fun j x hj hx=>h1 j x hj ?_) (fun j x hj sX hx=>h2 j x hj sX ?_))
 ·obtain⟨x,x1,_,x3⟩:=lX (show 0+i<arr.size by omega);exact⟨x,x1,hp x x3⟩
 ·rw [← mC]at hx hy;exact DG hs (show 0+i≤0+j by omega) hx hy
 ·rw [LB,← mC];exact hx
 ·rw [LB,← mC];exact hx
theorem Zz(hL:gJ M A E s kd P rk)(T:xU P rk a b){st:SortSt}(hk:kindOf st=kd){out:Array Keyed}{na nb mg ac bc hi:Nat}(h:MH rk a.toList b.toList out.toList na nb)(h1:0<na)(h2:1<nb)(fR:na+nb≤hi+1) :
  wpS M A E s (Bj a b na nb out mg ac bc) (LQ rk a b hi st) st:=by
 have la:=h.la;have lb:=h.lb;rw [eY]at la lb;obtain⟨x,x1,x2,x3⟩:=lX (show na - 1<a.size by omega);unfold Bj;refine aV (jQ x1 (aV (Jz hL hk (T.pa x x3) T.pb T.sb (by omega) lb fun k eS bG eU=>?_)));dsimp only;simp only [dP]at bG eU;have m1:=h.ahD T.sb eS fun j y hj sX hy z hz=>by
  have:=eU j y hj sX hy;have:=NM T.sa h1 x2 z hz;omega
 have last:∀y,a.toList[na - 1]? = some y→∀z∈b.toList.take k,rk z≤rk y:=fun y hy z hz=>by
  rw [x2]at hy;cases hy;obtain⟨j,hj,ej⟩:=UO hz;have:=bG j z hj ej;omega
 refine fF (fun mL=>?_) (fun mL=>?_)
 ·refine fF (fun he=>?_) (fun he=>?_)
  ·exact bQ ⟨dE.refl _,.inl ⟨_,rfl,m1.QA T (by simpa using he)⟩⟩
  ·have he:¬k=1:=by simpa using he
   refine fF (fun mM=>?_) (fun mM=>?_)
   ·exact bQ ⟨dE.refl _,.inl ⟨_,rfl,m1.asF T.sa (by simpa using mM)⟩⟩
   ·have mM:¬k=0:=by simpa using mM
    exact Jw T m1 h1 (by omega) last (by omega)
 ·have k0:k=nb:=by omega
  subst k0;exact Jw T h h1 h2 last fR
theorem Jx(hL:gJ M A E s kd P rk)(T:xU P rk a b){st:SortSt}(hk:kindOf st=kd){out:Array Keyed}{na nb mg ac bc hi:Nat}(h:MH rk a.toList b.toList out.toList na nb)(h1:0<na)(h2:1<nb)(hy:∀y,b.toList[nb - 1]? = some y→∀z∈a.toList.take na,rk z≤rk y)(fR:na+nb≤hi+2) :
  wpS M A E s (PQ a b na nb out mg ac bc) (LQ rk a b hi st) st:=by
 have lb:=h.lb;rw [eY]at lb;obtain⟨y,y1,y2,_⟩:=lX (show nb - 1<b.size by omega);unfold PQ;refine aV (jQ y1 ?_);have m1:=h.Ou (by omega) y2 T.sb (hy y y2);refine fF (fun he=>?_) (fun he=>?_)
 ·exact bQ ⟨dE.refl _,.inl ⟨_,rfl,m1.QA T (by simpa using he)⟩⟩
 ·have he:¬nb - 1=1:=by simpa using he
  exact Zz hL T hk m1 h1 (by omega) (by omega)
theorem aaA(hL:gJ M A E s kd P rk)(T:xU P rk a b){st:SortSt}(hk:kindOf st=kd){out:Array Keyed}{na nb mg ac bc hi:Nat}(h:MH rk a.toList b.toList out.toList na nb)(h1:0<na)(h2:1<nb)(fR:na+nb≤hi+2) :
  wpS M A E s (uW a b na nb out mg ac bc) (LQ rk a b hi st) st:=by
 have la:=h.la;have lb:=h.lb;rw [eY]at la lb;obtain⟨y,y1,y2,y3⟩:=lX (show nb - 1<b.size by omega);unfold uW;refine aV (MF fun kP g1=>?_);have eS:kindOf kP=kd:=g1.kind.trans hk;refine aV (jQ y1 (aV (Jz hL eS (T.pb y y3) T.pa T.sa h1 la fun k Be bG eU=>?_)));dsimp only;simp only [iD,eF]at bG eU;have m1:=h.Ni T.sa Be fun j x hj sX hx z hz=>by
  have:=eU j x hj sX hx;have:=NM T.sb (by omega) y2 z hz;omega
 have HU:∀z,b.toList[nb - 1]? = some z→∀x∈a.toList.take k,rk x≤rk z:=fun z hz x hx=>by
  rw [y2]at hz;cases hz;obtain⟨j,hj,ej⟩:=UO hx;exact bG j x hj ej
 refine fF (fun mL=>?_) (fun mL=>?_)
 ·refine fF (fun he=>?_) (fun he=>?_)
  ·exact bQ ⟨g1,.inl ⟨_,rfl,m1.QB T.sb (by simpa using he)⟩⟩
  ·have he:¬k=0:=by simpa using he
   exact mD (Jx hL T eS m1 (by omega) h2 HU (by omega)) fun r gZ q=>⟨g1.trans q.1,q.2⟩
 ·have k0:k=na:=by omega
  subst k0;exact mD (Jx hL T eS h h1 h2 HU fR) fun r gZ q=>⟨g1.trans q.1,q.2⟩
theorem Zx(hL:gJ M A E s kd P rk)(T:xU P rk a b){st:SortSt}(hk:kindOf st=kd){kW:Array Keyed}{lO lN zK BF BD:Nat}(h0:MH rk a.toList b.toList kW.toList lO lN)(h1:0<lO)(h2:1<lN){Q:vO→SortSt→Prop}
  (hr:∀m c aG,dE st aG→iM rk a b m→Q (some m,c) aG)
  (hn:∀out na nb c aG,dE st aG→MH rk a.toList b.toList out.toList na nb→0<na→1<nb→na+nb+2≤lO+lN→Q (none,na,nb,out,c) aG):wpS M A E s (Bh a b lO lN kW zK BF BD) Q st:=by
 unfold Bh;have la:=h0.la;have lb:=h0.lb;rw [eY]at la lb;refine nO (I:=fun i (c:vO) aG=>dE st aG∧c.1=none∧MH rk a.toList b.toList c.2.2.2.1.toList c.2.1 c.2.2.1∧0<c.2.1∧1<c.2.2.1∧(i=0→c.2.1=lO∧c.2.2.1=lN)∧(0<i→c.2.1+c.2.2.1+2≤lO+lN)) ?step ?fin ⟨dE.refl _,rfl,h0,h1,h2,fun _=>⟨rfl,rfl⟩,fun h=>absurd h (by decide)⟩
 case fin =>
  rintro⟨r,na,nb,out,c⟩ aG ⟨g,e0,a1,a2,a3,a4,a5⟩;dsimp only at *;subst e0;exact hn out na nb c aG g a1 a2 a3 (a5 (by omega))
 case step =>
  rintro i ⟨r,na,nb,out,mg,ac,bc⟩ aG _ lV ⟨g,e0,a1,a2,a3,a4,a5⟩;dsimp only at *;subst e0;have fR:na+nb≤lO+lN:=by
   by_cases hi:i=0
   ·have:=a4 hi;omega
   ·have:=a5 (by omega);omega
  have Cz:∀mg,wpS M A E s (uW a b na nb out mg ac bc) (LQ rk a b (lO+lN - 2) aG) aG:=fun mg=>aaA hL T (g.kind.trans hk) a1 a2 a3 (by omega);split
  all_goals
   refine mD (Cz _) fun r iR q=>?_;obtain⟨g2,q⟩:=q
   match r,q with
   | .done (some m,c),.inl ⟨m',e,gm⟩=>dsimp only at e;cases e;exact hr _ _ _ (g.trans g2) gm
   | .done (none,na',nb',XW,c),.inr ⟨_,m,x1,x2,x3⟩=>exact hn XW na' nb' c iR (g.trans g2) m x1 x2 (by dsimp only at x3;omega)
   | .yield c,q=>exact⟨g.trans g2,q.1,q.2.1,q.2.2.1,q.2.2.2.1,fun h=>by omega,fun _=>by have:=q.2.2.2.2;omega⟩
theorem Zq(hL:gJ M A E s kd P rk)(T:xU P rk a b)(ha:0<a.size)(hb:0<b.size)(apA:∀x,a.toList[a.size - 1]? = some x→∀y∈b.toList,rk y≤rk x){st:SortSt}(hk:kindOf st=kd):wpS M A E s (ID a b) (fun m aG=>dE st aG∧iM rk a b m) st:=by
 rw [amW];refine aV (yK (sA ⟨rfl,?_⟩));obtain⟨x,x1,x2,x3⟩:=lX (show a.size - 1<a.size by omega);refine aV (jQ x1 ?_);have m1:MH rk a.toList b.toList (#[x]:Array Keyed).toList (a.size - 1) b.size:=by
  have m0:MH rk a.toList b.toList (#[]:Array Keyed).toList a.size b.size:=⟨by simp,by simp,by simp,by simp,by simp⟩;exact m0.OE ha x2 T.sa (by rw [RU (by simp)];exact apA x x2)
 refine fF (fun he=>?_) (fun he=>?_)
 ·exact bQ ⟨dE.refl _,m1.QB T.sb (by simpa using he)⟩
 have he:¬a.size - 1=0:=by simpa using he
 refine fF (fun hf=>?_) (fun hf=>?_)
 ·exact bQ ⟨dE.refl _,m1.QA T (by simpa using hf)⟩
 have hf:¬b.size=1:=by simpa using hf
 refine aV (rZ ?_);refine aV (mD (nO
  (I:=fun i (c:Option (Array Keyed)×Nat×Nat×Array Keyed×Nat) aG=>dE st aG∧c.1=none∧MH rk a.toList b.toList c.2.2.2.1.toList c.2.1 c.2.2.1∧0<c.2.1∧1<c.2.2.1∧i+c.2.1+c.2.2.1≤a.size+b.size)
  (Q:=fun(c:Option (Array Keyed)×Nat×Nat×Array Keyed×Nat) aG=>dE st aG∧∃m,c.1=some m∧iM rk a b m) ?step ?fin ⟨dE.refl _,rfl,m1,by dsimp only;omega,by dsimp only;omega,by dsimp only;omega⟩) ?post)
 case fin =>
  rintro⟨r,na,nb,out,c⟩ aG ⟨g,e0,a1,a2,a3,a4⟩;dsimp only at *;omega
 case post =>
  rintro⟨r,na,nb,out,c⟩ aG ⟨g,m,e,gm⟩;dsimp only at e;subst e;exact bQ ⟨g,gm⟩
 case step =>
  rintro i ⟨r,na,nb,out,mg⟩ aG _ lV ⟨g,e0,a1,a2,a3,a4⟩;dsimp only at e0 a1 a2 a3 a4;subst e0;refine aV (show wpS M A E s (Bi a b mg na nb out) _ _ from Zy hL T (g.kind.trans hk) a1 a2 a3 (fun m c gm=>?_) (fun out na1 nb1 c n1 n2 n3 n4=>?_))
  ·exact bQ ⟨g,m,rfl,gm⟩
  ·refine aV (yK (sA ⟨rfl,?_⟩));refine aV (show wpS M A E s (Bh a b na1 nb1 out (mg+1) c.1 c.2) _ _ from Zx hL T (g.kind.trans hk) n1 n2 n3 (fun m c kP g1 gm=>?_) (fun out na2 nb2 c kP g1 o1 o2 o3 o4=>?_))
   ·exact bQ ⟨g.trans g1,m,rfl,gm⟩
   ·refine aV (MF fun gZ g2=>?_);exact wpS_pure ⟨(g.trans g1).trans g2,rfl,o1,o2,o3,by dsimp only;omega⟩
end
def Kr(rk:Keyed→Int)(xs:Array Keyed)(i:Nat):Int:=match xs[i]? with
 | some p=>rk p
 | none=>0
theorem LL{rk:Keyed→Int}{xs ys:Array Keyed}{i j:Nat}(h:xs[i]? = ys[j]?):Kr rk xs i=Kr rk ys j:=by unfold Kr;rw [h]
def Up(rk:Keyed→Int)(xs:Array Keyed)(lo n:Nat):Prop:=∀i j,i≤j→j<n→Kr rk xs (lo+i)≤Kr rk xs (lo+j)
def Dn(rk:Keyed→Int)(xs:Array Keyed)(lo n:Nat):Prop:=∀i j,i≤j→j<n→Kr rk xs (lo+j)≤Kr rk xs (lo+i)
theorem awY{rk:Keyed→Int}{xs:Array Keyed}{src d:Nat}(hs:src<xs.size)(hd:d≤src)(k:Nat) :
  Kr rk (bubble xs src d) k=if k=src - d then Kr rk xs src else if src - d<k∧k≤src then Kr rk xs (k - 1)else Kr rk xs k:=by
 have e:=getElem?_bubble hs d hd k
 by_cases h1:k=src - d
 ·rw [if_pos h1]at e ⊢;exact LL e
 ·rw [if_neg h1]at e ⊢
  by_cases h2:src - d<k∧k≤src
  ·rw [if_pos h2]at e ⊢;exact LL e
  ·rw [if_neg h2]at e ⊢;exact LL e
theorem Ij{rk:Keyed→Int}{xs:Array Keyed}{i j:Nat}(hj:j≤xs.size)(k:Nat) :
  Kr rk (mirror xs i j ((j - i)/2)) k=if i≤k∧k<j then Kr rk xs (i+j - 1 - k)else Kr rk xs k:=by
 have e:=getElem?_mirror_all (i:=i) hj k
 by_cases h1:i≤k∧k<j
 ·rw [if_pos h1]at e ⊢;exact LL e
 ·rw [if_neg h1]at e ⊢;exact LL e
theorem LK{rk:Keyed→Int}{xs:Array Keyed}{i j:Nat}(hj:j≤xs.size)(heq:∀k,i≤k→k<j→Kr rk xs k=Kr rk xs (j - 1))(k:Nat) :
  Kr rk (mirror xs i j ((j - i)/2)) k=Kr rk xs k:=by
 rw [Ij hj];split
 ·rw [heq _ (by omega) (by omega),heq k (by omega) (by omega)]
 ·rfl
structure Bs(kd:SortKind)(x0:Array Keyed)(lo:Nat)(p0:Array (Nat×Nat×Nat))(st:SortSt):Prop where
 kind:kindOf st=kd
 failed:failedOf st=none
 pend:pendingOf st=p0
 perm:(arrOf st).Perm x0
 pre:∀k,k<lo→(arrOf st)[k]? = x0[k]?
section
variable{M:Model}{A:Around}{E:Value→Shared→Prop}{s:Shared}{kd:SortKind}{P:Keyed→Prop}{rk:Keyed→Int}{x0:Array Keyed}{lo:Nat}{p0:Array (Nat×Nat×Nat)}
theorem Bs.size{st:SortSt}(h:Bs kd x0 lo p0 st):(arrOf st).size=x0.size:=h.perm.size_eq
theorem Bs.mirror{st:SortSt}(h:Bs kd x0 lo p0 st){i j:Nat}(hi:lo≤i)(hj:j≤x0.size):Bs kd x0 lo p0 (setArr st (mirror (arrOf st) i j ((j - i)/2))) :=
 ⟨h.kind,h.failed,h.pend,(mirror_perm _ _ _ _).trans h.perm,fun k hk=>by
  rw [← h.pre k hk];show(PyProof.Rows.mirror (arrOf st) i j ((j - i)/2))[k]? = _;rw [getElem?_mirror_all (by rw [h.size];exact hj),if_neg (by omega)]⟩
theorem Bs.bubble{st:SortSt}(h:Bs kd x0 lo p0 st){src d:Nat}(hs:src<x0.size)(hd:lo+d≤src):Bs kd x0 lo p0 (setArr st (bubble (arrOf st) src d)) :=
 ⟨h.kind,h.failed,h.pend,(bubble_perm _ _ _).trans h.perm,fun k hk=>by
  rw [← h.pre k hk];show(PyProof.Rows.bubble (arrOf st) src d)[k]? = _;rw [getElem?_bubble (by rw [h.size];exact hs) d (by omega),if_neg (by omega),if_neg (by omega)]⟩
theorem GI(hL:gJ M A E s kd P rk)(hP:∀x∈x0.toList,P x){st:SortSt}(hB:Bs kd x0 lo p0 st){i j:Nat}{Q:Option Bool→SortSt→Prop}(hi:i<x0.size)(hj:j<x0.size)
  (h:Q (some (decide (Kr rk (arrOf st) i<Kr rk (arrOf st) j))) st):wpS M A E s (ltAt' i j) Q st:=by
 obtain⟨x,x1,_,x3⟩:=lX (show i<(arrOf st).size by rw [hB.size];exact hi);obtain⟨y,y1,_,y3⟩:=lX (show j<(arrOf st).size by rw [hB.size];exact hj);have pm:=(MB.mp hB.perm).mem_iff (a:=x);have pm2:=(MB.mp hB.perm).mem_iff (a:=y);rw [ltAt'_eq];refine aV (rZ ?_);show wpS _ _ _ _ (do let x ← elem' (arrOf st) i;let y ← elem' (arrOf st) j;lt' x y) Q st;refine aV (jQ x1 (aV (jQ y1 ?_)));refine hL x y (hP x (pm.mp x3)) (hP y (pm2.mp y3)) st Q hB.kind ?_;have e1:Kr rk (arrOf st) i=rk x:=by unfold Kr;rw [x1]
 have e2:Kr rk (arrOf st) j=rk y:=by unfold Kr;rw [y1]
 rw [e1,e2]at h;exact h
theorem MG{st:SortSt}{i j:Nat}{Q:Unit→SortSt→Prop}(h:Q () (setArr st (mirror (arrOf st) i j ((j - i)/2)))):wpS M A E s (reverseSlice' i j) Q st:=by
 rw [reverseSlice'_eq];exact CN h
theorem aaC(hL:gJ M A E s kd P rk)(hP:∀x∈x0.toList,P x){st:SortSt}{n ok:Nat}{Q:Bool→SortSt→Prop}(hn:lo+n≤x0.size)(aK:ok≤n)(hB:Bs kd x0 lo p0 st)(hs:Up rk (arrOf st) lo ok)
  (h:∀aG,Bs kd x0 lo p0 aG→Up rk (arrOf aG) lo n→Q true aG):wpS M A E s (binarySort' lo n ok) Q st:=by
 rw [binarySort'_eq];refine aV (mD (nO (I:=fun k c aG=>c=(none,())∧Bs kd x0 lo p0 aG∧Up rk (arrOf aG) lo (min k n))
  (Q:=fun c aG=>c=(none,())∧Bs kd x0 lo p0 aG∧Up rk (arrOf aG) lo n) ?step ?fin ?init) ?post)
 case post =>
  rintro c aG ⟨rfl,iY,cX⟩;exact bQ (h aG iY cX)
 case init =>
  refine⟨rfl,hB,fun i j hU hj=>?_⟩
  by_cases h1:ok=0
  ·have:i=j:=by omega
   subst this;exact qZ _
  ·exact hs i j hU (by omega)
 case fin =>
  rintro c aG ⟨hc,iY,cX⟩;refine⟨hc,iY,?_⟩;rwa [show min (max (max ok 1) n) n=n by omega]at cX
 case step =>
  rintro k c aG hak hkn ⟨rfl,iY,cX⟩;rw [show min k n=k by omega]at cX;have hk:lo+k<x0.size:=by omega
  refine aV (mD (nO (I:=fun x c iR=>iR=aG∧∃l r,c=(none,l,r)∧l≤r∧r≤k∧r - l≤k - x ∧
    (∀i,i<l→Kr rk (arrOf aG) (lo+i)≤Kr rk (arrOf aG) (lo+k))∧(∀i,r≤i→i<k→Kr rk (arrOf aG) (lo+k)<Kr rk (arrOf aG) (lo+i)))
   (Q:=fun c iR=>iR=aG∧∃l r,c=(none,l,r)∧l≤k ∧
    (∀i,i<l→Kr rk (arrOf aG) (lo+i)≤Kr rk (arrOf aG) (lo+k))∧(∀i,l≤i→i<k→Kr rk (arrOf aG) (lo+k)<Kr rk (arrOf aG) (lo+i))) ?istep ?ifin ?iinit) ?ipost)
  case iinit=>exact⟨rfl,0,k,rfl,by omega,by omega,by omega,fun i hi=>by omega,fun i h1 h2=>by omega⟩
  case ifin =>
   rintro c iR ⟨rfl,l,r,rfl,hlr,Av,hm,fR,EK⟩;have:l=r:=by omega
   subst this;exact⟨rfl,l,l,rfl,Av,fR,EK⟩
  case istep =>
   rintro x c iR _ hxk ⟨rfl,l,r,rfl,hlr,Av,hm,fR,EK⟩;dsimp only
   by_cases eU:l≥r
   ·rw [if_pos eU];have:l=r:=by omega
    subst this;exact bQ ⟨rfl,l,l,rfl,Av,fR,EK⟩
   ·rw [if_neg eU];refine aV (GI hL hP iY hk (by omega) ?_)
    by_cases pM:Kr rk (arrOf iR) (lo+k)<Kr rk (arrOf iR) (lo+(l+r)/2)
    ·simp only [pM,KH,dP];refine bQ ⟨rfl,l,(l+r)/2,rfl,by omega,by omega,by omega,fR,fun i h1 h2=>?_⟩;exact Int.lt_of_lt_of_le pM (cX _ _ h1 h2)
    ·simp only [pM,QL,iD,eF];refine bQ ⟨rfl,(l+r)/2+1,r,rfl,by omega,by omega,by omega,fun i h1=>?_,EK⟩;exact Int.le_trans (cX i ((l+r)/2) (by omega) (by omega)) (Int.not_lt.mp pM)
  case ipost =>
   rintro c iR ⟨rfl,l,r,rfl,hlk,fR,EK⟩;show wpS _ _ _ _ (do moveDown' (lo+k) (lo+l);pure (ForInStep.yield (none,()))) _ _;rw [moveDown'_eq];refine aV (CN (bQ ⟨rfl,iY.bubble hk (by omega),?_⟩));rw [show min (k+1) n=k+1 by omega];have nX:lo+k<(arrOf iR).size:=by rw [iY.size];exact hk
   intro i j hU hj;show Kr rk (bubble (arrOf iR) (lo+k) (lo+k - (lo+l))) (lo+i)≤Kr rk (bubble (arrOf iR) (lo+k) (lo+k - (lo+l))) (lo+j);have bb:∀i,Kr rk (bubble (arrOf iR) (lo+k) (lo+k - (lo+l))) (lo+i)=if i=l then Kr rk (arrOf iR) (lo+k)else if l<i∧i≤k then Kr rk (arrOf iR) (lo+(i - 1))else Kr rk (arrOf iR) (lo+i):=fun i=>by
    rw [awY nX (by omega)]
    by_cases h1:i=l
    ·rw [if_pos h1,if_pos (by omega)]
    ·rw [if_neg h1,if_neg (by omega)]
     by_cases h2:l<i∧i≤k
     ·rw [if_pos h2,if_pos (by omega),show lo+i - 1=lo+(i - 1)by omega]
     ·rw [if_neg h2,if_neg (by omega)]
   rw [bb,bb]
   repeat' split
   all_goals first
    | (exfalso;omega)
    | exact qZ _
    | exact fR _ (by omega)
    | exact Ir (EK _ (by omega) (by omega))
    | exact cX _ _ (by omega) (by omega)
end
def RL(lo a nrem:Nat):StateT SortSt Sem AscSt :=
 forIn [a:nrem] ((none,a):AscSt) fun _ c=>do
  let x ← ltAt' (lo+c.2) (lo+c.2 - 1)
  match x with
  | some uE=>if uE=true then pure (ForInStep.done (none,c.2))else pure (ForInStep.yield (none,c.2+1))
  | _=>pure (ForInStep.done (some none,c.2))
def NG(lo n0 nrem:Nat):StateT SortSt Sem (Option Nat):=do
 let mut n:=n0
 reverseSlice' lo (lo+n)
 for _ in [n:nrem] do
  let some uE ← ltAt' (lo+n) (lo+n - 1) | return none
  if uE then break
  n:=n+1
 return some n
def El(lo n nrem:Nat):StateT SortSt Sem DescSt :=
 forIn [n:nrem] ((none,n,0):DescSt) fun _ c=>do
  let x ← ltAt' (lo+c.2.1) (lo+c.2.1 - 1)
  match x with
  | some uE =>
   if uE=true then
    if c.2.2>0 then do
     reverseSlice' (lo+c.2.1 - (c.2.2+1)) (lo+c.2.1)
     pure (ForInStep.yield (none,c.2.1+1,0))
    else pure (ForInStep.yield (none,c.2.1+1,0))
   else do
    let x ← ltAt' (lo+c.2.1 - 1) (lo+c.2.1)
    match x with
    | some YZ =>
     if YZ=true then pure (ForInStep.done (none,c.2.1,c.2.2))
     else pure (ForInStep.yield (none,c.2.1+1,c.2.2+1))
    | _=>pure (ForInStep.done (some none,c.2.1,c.2.2))
  | _=>pure (ForInStep.done (some none,c.2.1,c.2.2))
def QJ(lo n0 nrem:Nat):StateT SortSt Sem (Option Nat):=do
 let mut n:=n0
 rule "list.sort.descending-run"
 n:=n+1
 let mut kH:=0
 for _ in [n:nrem] do
  let some uE ← ltAt' (lo+n) (lo+n - 1) | return none
  if uE then
   if kH>0 then reverseSlice' (lo+n - (kH+1)) (lo+n)
   kH:=0
  else
   let some YZ ← ltAt' (lo+n - 1) (lo+n) | return none
   if YZ then break
   kH:=kH+1
  n:=n+1
 if kH>0 then reverseSlice' (lo+n - (kH+1)) (lo+n)
 reverseSlice' lo (lo+n)
 for _ in [n:nrem] do
  let some uE ← ltAt' (lo+n) (lo+n - 1) | return none
  if uE then break
  n:=n+1
 return some n
section
variable{M:Model}{A:Around}{E:Value→Shared→Prop}{s:Shared}{kd:SortKind}{P:Keyed→Prop}{rk:Keyed→Int}{x0:Array Keyed}{lo:Nat}{p0:Array (Nat×Nat×Nat)}
theorem Kd(hL:gJ M A E s kd P rk)(hP:∀x∈x0.toList,P x){st:SortSt}{a nrem:Nat}{Q:AscSt→SortSt→Prop}(hn:lo+nrem≤x0.size)(ha:1≤a)(han:a≤nrem)(hB:Bs kd x0 lo p0 st)(hs:Up rk (arrOf st) lo a)
  (h:∀n,a≤n→n≤nrem→Up rk (arrOf st) lo n→(n=nrem∨Kr rk (arrOf st) (lo+n)<Kr rk (arrOf st) (lo+n - 1))→Q (none,n) st) :
  wpS M A E s (RL lo a nrem) Q st:=by
 unfold RL;refine nO (I:=fun x c aG=>aG=st∧c=(none,x)∧Up rk (arrOf st) lo x) ?step ?fin ⟨rfl,rfl,hs⟩
 case fin =>
  rintro c aG ⟨rfl,rfl,cX⟩;rw [show max a nrem=nrem by omega]at cX ⊢;exact h nrem han cE cX (.inl rfl)
 case step =>
  rintro x c aG Br hxn ⟨rfl,rfl,cX⟩;dsimp only;refine aV (GI hL hP hB (by omega) (by omega) ?_)
  by_cases pM:Kr rk (arrOf aG) (lo+x)<Kr rk (arrOf aG) (lo+x - 1)
  ·simp only [pM,KH,dP];exact bQ (h x Br (by omega) cX (.inr pM))
  ·simp only [pM,QL,iD,eF];refine bQ ⟨rfl,rfl,fun i j hU hj=>?_⟩
   by_cases JC:j<x
   ·exact cX i j hU JC
   ·have AD:j=x:=by omega
    subst AD
    by_cases jH:i=j
    ·subst jH;exact qZ _
    ·have q:=cX i (j - 1) (by omega) (by omega);rw [show lo+(j - 1)=lo+j - 1 by omega]at q;exact Int.le_trans q (Int.not_lt.mp pM)
theorem Jr(hL:gJ M A E s kd P rk)(hP:∀x∈x0.toList,P x){st:SortSt}{n nrem:Nat}{Q:Option Nat→SortSt→Prop}(hn:lo+nrem≤x0.size)(h1:1≤n)(sV:n≤nrem)(hB:Bs kd x0 lo p0 st)
  (hs:Dn rk (arrOf st) lo n) (h:∀m aG,Bs kd x0 lo p0 aG→1≤m→m≤nrem→Up rk (arrOf aG) lo m→Q (some m) aG) :
  wpS M A E s (NG lo n nrem) Q st:=by
 unfold NG;have hsz:lo+n≤(arrOf st).size:=by rw [hB.size];omega
 refine aV (MG ?_);have iY:=hB.mirror (i:=lo) (j:=lo+n) cE (by omega);refine aV (show wpS M A E s (RL lo n nrem) _ _ from Kd hL hP hn h1 sV iY ?_ fun m hm1 EH rO _=>bQ (h m _ iY (by omega) EH rO));intro i j hU hj;show Kr rk (mirror (arrOf st) lo (lo+n) ((lo+n - lo)/2)) (lo+i)≤Kr rk (mirror (arrOf st) lo (lo+n) ((lo+n - lo)/2)) (lo+j);rw [Ij hsz,Ij hsz,if_pos (by omega),if_pos (by omega)];have q:=hs (n - 1 - j) (n - 1 - i) (by omega) (by omega);rw [show lo+(n - 1 - j)=lo+(lo+n) - 1 - (lo+j)by omega,show lo+(n - 1 - i)=lo+(lo+n) - 1 - (lo+i)by omega]at q;exact q
theorem aaB(hL:gJ M A E s kd P rk)(hP:∀x∈x0.toList,P x){st:SortSt}{n nrem:Nat}{Q:DescSt→SortSt→Prop}(hn:lo+nrem≤x0.size)(h1:1≤n)(sV:n≤nrem)(hB:Bs kd x0 lo p0 st)
  (hs:Dn rk (arrOf st) lo n)
  (h:∀m kH aG,Bs kd x0 lo p0 aG→n≤m→m≤nrem→Dn rk (arrOf aG) lo m→kH+1≤m→(∀i,lo+m - (kH+1)≤i→i<lo+m→Kr rk (arrOf aG) i=Kr rk (arrOf aG) (lo+m - 1))→Q (none,m,kH) aG) :
  wpS M A E s (El lo n nrem) Q st:=by
 unfold El;refine nO (I:=fun x c aG=>∃kH,c=(none,x,kH)∧Bs kd x0 lo p0 aG∧Dn rk (arrOf aG) lo x∧kH+1≤x ∧
   (∀i,lo+x - (kH+1)≤i→i<lo+x→Kr rk (arrOf aG) i=Kr rk (arrOf aG) (lo+x - 1))) ?step ?fin ⟨0,rfl,hB,hs,by omega,fun i h1 h2=>by congr 1;omega⟩
 case fin =>
  rintro c aG ⟨kH,rfl,iY,cX,hq,he⟩;rw [show max n nrem=nrem by omega]at cX hq he ⊢;exact h nrem kH aG iY sV cE cX hq he
 case step =>
  rintro x c aG Br hxn ⟨kH,rfl,iY,cX,hq,he⟩;dsimp only;have hsz:lo+x≤(arrOf aG).size:=by rw [iY.size];omega
  refine aV (GI hL hP iY (by omega) (by omega) ?_)
  by_cases pM:Kr rk (arrOf aG) (lo+x)<Kr rk (arrOf aG) (lo+x - 1)
  ·simp only [pM,KH,dP];have Me:∀xs:Array Keyed,(∀k,Kr rk xs k=Kr rk (arrOf aG) k)→Dn rk xs lo (x+1):=by
    intro xs hk i j hU hj;rw [hk,hk]
    by_cases JC:j<x
    ·exact cX i j hU JC
    ·have AD:j=x:=by omega
     subst AD
     by_cases jH:i=j
     ·subst jH;exact qZ _
     ·have q:=cX i (j - 1) (by omega) (by omega);rw [show lo+(j - 1)=lo+j - 1 by omega]at q;exact Int.le_trans (Ir pM) q
   refine fF (fun Az=>?_) (fun Az=>?_)
   ·exact aV (MG (bQ ⟨0,rfl,iY.mirror (by omega) (by omega),Me _ (LK hsz he),by omega,fun i h1 h2=>by congr 1;omega⟩))
   ·exact bQ ⟨0,rfl,iY,Me _ (fun _=>rfl),by omega,fun i h1 h2=>by congr 1;omega⟩
  ·simp only [pM,QL,iD,eF];refine aV (GI hL hP iY (by omega) (by omega) ?_)
   by_cases Sj:Kr rk (arrOf aG) (lo+x - 1)<Kr rk (arrOf aG) (lo+x)
   ·simp only [Sj,KH,dP];exact bQ (h x kH aG iY Br (by omega) cX hq he)
   ·simp only [Sj,QL,iD,eF];have Sr:Kr rk (arrOf aG) (lo+x)=Kr rk (arrOf aG) (lo+x - 1):=by omega
    refine bQ ⟨kH+1,rfl,iY,fun i j hU hj=>?_,by omega,fun i h1 h2=>?_⟩
    ·by_cases JC:j<x
     ·exact cX i j hU JC
     ·have AD:j=x:=by omega
      subst AD
      by_cases jH:i=j
      ·subst jH;exact qZ _
      ·have q:=cX i (j - 1) (by omega) (by omega);rw [show lo+(j - 1)=lo+j - 1 by omega]at q;rw [Sr];exact q
    ·rw [show lo+(x+1) - 1=lo+x by omega]
     by_cases hix:i=lo+x
     ·subst hix;rfl
     ·rw [Sr];exact he i (by omega) (by omega)
theorem Kc(hL:gJ M A E s kd P rk)(hP:∀x∈x0.toList,P x){st:SortSt}{n nrem:Nat}{Q:Option Nat→SortSt→Prop}(hn:lo+nrem≤x0.size)(sV:n+1≤nrem)(hB:Bs kd x0 lo p0 st)
  (hs:Dn rk (arrOf st) lo (n+1)) (h:∀m aG,Bs kd x0 lo p0 aG→1≤m→m≤nrem→Up rk (arrOf aG) lo m→Q (some m) aG) :
  wpS M A E s (QJ lo n nrem) Q st:=by
 unfold QJ;refine aV (yK (sA ⟨rfl,?_⟩));refine aV (show wpS M A E s (El lo (n+1) nrem) _ _ from aaB hL hP hn (by omega) sV hB hs fun m kH aG iY hm1 EH cX hq he=>?_);have hsz:lo+m≤(arrOf aG).size:=by rw [iY.size];omega
 refine fF (fun Az=>?_) (fun Az=>?_)
 ·refine wpS_bind (MG (show wpS M A E s (NG lo m nrem) _ _ from Jr hL hP hn (by omega) EH (iY.mirror (by dsimp only;omega) (by dsimp only;omega)) ?_ h));intro i j hU hj;show Kr rk (mirror (arrOf aG) _ _ _) (lo+j)≤Kr rk (mirror (arrOf aG) _ _ _) (lo+i);rw [LK hsz he,LK hsz he];exact cX i j hU hj
 ·exact(show wpS M A E s (NG lo m nrem) _ _ from Jr hL hP hn (by omega) EH iY cX h)
theorem Zo(hL:gJ M A E s kd P rk)(hP:∀x∈x0.toList,P x){st:SortSt}{nrem:Nat}{Q:Option Nat→SortSt→Prop}(hn:lo+nrem≤x0.size)(h1:1≤nrem)(hB:Bs kd x0 lo p0 st)
  (h:∀m aG,Bs kd x0 lo p0 aG→1≤m→m≤nrem→Up rk (arrOf aG) lo m→Q (some m) aG) :
  wpS M A E s (countRun' lo nrem) Q st:=by
 rw [countRun'_eq];refine aV (show wpS M A E s (RL lo 1 nrem) _ _ from Kd hL hP hn (oX 1) h1 hB (fun i j hU hj=>by
  have:i=j:=by omega
  subst this;exact qZ _) fun n Bb sW PF Ax=>?_)
 refine fF (fun sV=>?_) (fun sV=>?_)
 ·exact bQ (h n st hB Bb sW PF)
 ·have sV:¬n=nrem:=by simpa using sV
  have bG:=Ax.resolve_left sV;refine fF (fun EL=>?_) (fun EL=>?_)
  ·have EL:n>1:=EL;refine wpS_bind (GI hL hP hB (by omega) (by dsimp only;omega) ?_);dsimp only
   by_cases Ry:Kr rk (arrOf st) lo<Kr rk (arrOf st) (lo+n - 1)
   ·refine fF (fun _=>bQ (h n st hB Bb sW PF)) (fun q=>absurd (tJ Ry) q)
   ·refine fF (fun q=>absurd (of_decide_eq_true q) Ry) (fun _=>?_);have hsz:lo+n≤(arrOf st).size:=by rw [hB.size];omega
    have qN:∀k,lo≤k→k<lo+n→Kr rk (arrOf st) k=Kr rk (arrOf st) (lo+n - 1):=by
     intro k mL hk;have a1:=PF 0 (k - lo) (by omega) (by omega);have a2:=PF (k - lo) (n - 1) (by omega) (by omega);rw [show lo+(k - lo)=k by omega]at a1 a2;rw [show lo+(n - 1)=lo+n - 1 by omega]at a2;rw [Nat.add_zero]at a1;omega
    refine aV (MG (show wpS M A E s (QJ lo n nrem) _ _ from Kc hL hP hn (by omega) (hB.mirror cE (by omega)) ?_ h));intro i j hU hj;show Kr rk (mirror (arrOf st) _ _ _) (lo+j)≤Kr rk (mirror (arrOf st) _ _ _) (lo+i);rw [LK hsz qN,LK hsz qN]
    by_cases sX:j<n
    ·rw [qN (lo+i) (by omega) (by omega),qN (lo+j) (by omega) (by omega)];exact qZ _
    ·have AD:j=n:=by omega
     subst AD
     by_cases jH:i=j
     ·subst jH;exact qZ _
     ·rw [qN (lo+i) (by omega) (by omega)];exact Ir bG
  ·have apW:n=1:=by dsimp only at EL;omega
   subst apW;refine(show wpS M A E s (QJ lo 1 nrem) _ _ from Kc hL hP hn (by omega) hB ?_ h);intro i j hU hj
   by_cases jH:i=j
   ·subst jH;exact qZ _
   ·have uX:i=0:=by omega
    have hj1:j=1:=by omega
    subst uX;subst hj1;exact Ir bG
end
theorem amX(i:Nat):mergeAt' i=(do
 let s ← get
 let (some (sa,na,power),some (sb,nb,_)):=((pendingOf s)[i]?,(pendingOf s)[i+1]?) | unsupported "internal:list.sort.pending"
 set (setPending s (((pendingOf s).setIfInBounds i (sa,na+nb,power)).eraseIdxIfInBounds (i+1)))
 let some k ← oF false (← elem' (arrOf s) sb) (arrOf s) sa na 0 | return false
 let (sa,na):=(sa+k,na - k)
 if na == 0 then return true
 let some nb ← oF true (← elem' (arrOf s) (sa+na - 1)) (arrOf s) sb nb (nb - 1) | return false
 if nb == 0 then return true
 let x:=(arrOf s).extract sa sb
 let y:=(arrOf s).extract sb (sb+nb)
 let merged ← if na≤nb then IB x y else ID x y
 modify fun s=>setArr s (merged.toList.zipIdx.foldl (fun a (p,j)=>a.setIfInBounds (sa+j) p) (arrOf s))
 return (failedOf (← get)).isNone):=rfl
theorem Wr{p:Nat}:∀(l:List Keyed) (k:Nat) (arr:Array Keyed),p+k+l.length≤arr.size→∀i,((l.zipIdx k).foldl (fun a (x,j)=>a.setIfInBounds (p+j) x) arr)[i]? = if p+k≤i∧i<p+k+l.length then l[i - (p+k)]? else arr[i]?
 | [],k,arr,h,i=>by
  rw [if_neg (by simp only [yC];omega)];rfl
 | x::l,k,arr,h,i=>by
  rw [eA]at h;have ih:=Wr (p:=p) l (k+1) (arr.setIfInBounds (p+k) x) (by rw [Array.size_setIfInBounds];omega) i;rw [List.zipIdx_cons,Hx];refine ih.trans ?_;rw [eA]
  by_cases h1:p+(k+1)≤i∧i<p+(k+1)+l.length
  ·rw [if_pos h1,if_pos (by omega),show i - (p+k)=i - (p+(k+1))+1 by omega,List.getElem?_cons_succ]
  ·rw [if_neg h1]
   by_cases h2:i=p+k
   ·subst h2;rw [if_pos (by omega),Nat.sub_self,List.getElem?_cons_zero,Array.getElem?_setIfInBounds_self_of_lt (by omega)]
   ·rw [if_neg (by omega),Array.getElem?_setIfInBounds_ne (by omega)]
theorem avR{p:Nat}{l pre mid post:List Keyed}{arr:Array Keyed}(h:arr.toList=pre++mid++post)(hp:pre.length=p)(hl:l.length=mid.length):(l.zipIdx.foldl (fun a (x,j)=>a.setIfInBounds (p+j) x) arr).toList=pre++l++post:=by
 have hs:arr.size=pre.length+mid.length+post.length:=by rw [← eY,h];simp [Nat.add_assoc]
 refine BU fun i=>?_;rw [mC,Wr l 0 arr (by omega) i,← mC,h]
 by_cases h1:p+0≤i∧i<p+0+l.length
 ·rw [if_pos h1,fZ,nK (by omega),eK (by omega),hp];rfl
 ·rw [if_neg h1]
  by_cases h2:i<p
  ·rw [fZ,fZ,eK (by omega),eK (by omega)]
  ·rw [nK (by simp only [fX];omega),nK (by simp only [fX];omega),fX,fX,hl]
theorem Zn{σ:Type}{M:Model}{A:Around}{E:Value→Shared→Prop}{s:Shared}{x:σ}{Q:PUnit→σ→Prop}{st:σ}(h:Q ⟨⟩ x):wpS M A E s (set x:StateT σ Sem PUnit) Q st:=by
 unfold wpS;rw [StateT.run_set];exact wpAny_pure ⟨rfl,h⟩
section
variable{M:Model}{A:Around}{E:Value→Shared→Prop}{s:Shared}{kd:SortKind}{P:Keyed→Prop}{rk:Keyed→Int}
theorem Qa{pre mid post:List Keyed}{arr:Array Keyed}(h:arr.toList=pre++(mid++post)){j:Nat}(hj:j<mid.length):arr[pre.length+j]? = mid[j]?:=by
 rw [← mC,h,nK (by omega),eK (by omega)];congr 1;omega
theorem Qb{pre mid post:List Keyed}{arr:Array Keyed}(h:arr.toList=pre++mid++post){i j:Nat}(hi:i=pre.length)(hj:j=pre.length+mid.length):(arr.extract i j).toList=mid:=by
 subst hi hj;rw [SV,List.extract_eq_take_drop,h,fZ,List.drop_left];rw [show pre.length+mid.length - pre.length=mid.length by omega,List.take_left]
theorem NL{l1 l2:List Keyed}(h1:cF rk l1)(h2:cF rk l2)(h:∀x∈l1,∀y∈l2,rk x≤rk y):cF rk (l1++l2):=tR.mpr ⟨h1,h2,h⟩
theorem Mm{l1 l2:List Keyed}(h:cF rk (l1++l2)):cF rk l1∧cF rk l2∧∀x∈l1,∀y∈l2,rk x≤rk y:=tR.mp h
theorem Zs(hL:gJ M A E s kd P rk){a b:Array Keyed}(pa:∀x∈a.toList,P x)(pb:∀x∈b.toList,P x)(sa:cF rk a.toList)(sb:cF rk b.toList)(ha:0<a.size)(hb:0<b.size)(top:∀x,a.toList[a.size - 1]? = some x→∀y∈b.toList,rk y≤rk x)(bot:∀y,b.toList[0]? = some y→∀x∈a.toList,rk y≤rk x){c:Prop} [Decidable c]{st:SortSt}(hk:kindOf st=kd) :
  wpS M A E s (if c then IB a b else ID a b) (fun m aG=>dE st aG∧iM rk a b m) st:=by
 obtain⟨x,x1,x2,x3⟩:=lX (show a.size - 1<a.size by omega);obtain⟨y,y1,y2,y3⟩:=lX hb;refine fF (fun _=>Zp hL ⟨pa,pb,sa,sb,fun z hz=>?_⟩ ha hb bot hk) (fun _=>Zq hL ⟨pa,pb,sa,sb,fun z hz=>?_⟩ ha hb top hk)
 ·rw [QI x2,List.drop_of_length_le (by simp;omega)]at hz;simp only [jP]at hz;subst hz;exact top z x2
 ·rw [Ls y2,Hr,FW]at hz;simp only [jP]at hz;subst hz;exact bot z y2
theorem Zr(hL:gJ M A E s kd P rk){st:SortSt}(hk:kindOf st=kd)(hf:failedOf st=none){i pw q:Nat}{pre RA RB post:List Keyed}(h:(arrOf st).toList=pre++(RA++(RB++post)))(hP:∀x∈(arrOf st).toList,P x)
  (p1:(pendingOf st)[i]? = some (pre.length,RA.length,pw)) (p2:(pendingOf st)[i+1]? = some (pre.length+RA.length,RB.length,q)) (hA:cF rk RA) (hB:cF rk RB) (a0:0<RA.length) (b0:0<RB.length) {Q:Bool→SortSt→Prop}
  (hq:∀aG C,kindOf aG=kd→failedOf aG=none→pendingOf aG=((pendingOf st).setIfInBounds i (pre.length,RA.length+RB.length,pw)).eraseIdxIfInBounds (i+1)→(arrOf aG).toList=pre++(C++post)→C.Perm (RA++RB)→cF rk C→Q true aG) :
  wpS M A E s (mergeAt' i) Q st:=by
 rw [amX];refine aV (rZ ?_);rw [p1,p2];refine aV (Zn ?_);generalize hp:((pendingOf st).setIfInBounds i (pre.length,RA.length+RB.length,pw)).eraseIdxIfInBounds (i+1)=pend at hq ⊢;have gA:∀j,j<RA.length→(arrOf st)[pre.length+j]? = RA[j]?:=fun j hj=>Qa h hj;have h':(arrOf st).toList=(pre++RA)++(RB++post):=by rw [h,fZ]
 have gB:∀j,j<RB.length→(arrOf st)[pre.length+RA.length+j]? = RB[j]?:=fun j hj=>by
  have:=Qa h' hj;rwa [fX]at this
 have PA:∀x∈RA,P x:=fun x hx=>hP x (by rw [h];simp [hx]);have PB:∀x∈RB,P x:=fun x hx=>hP x (by rw [h];simp [hx]);obtain⟨y,hy⟩:∃y,RB[0]? = some y:=⟨RB[0],mP RB 0 b0⟩;have hyB:=kQ hy;refine aV (jQ (by rw [← hy];exact gB 0 b0) ?_);have wZ:kindOf (setPending st pend)=kd:=hk;refine aV (SY hL wZ (PB y hyB) (fun j hj=>?_) (fun j1 j2 x1 x2 Bf hj e1 e2=>?_) a0 (fun k eS bG eU=>?_))
 ·exact⟨RA[j],by rw [gA j hj];exact mP RA j hj,PA _ (RY _)⟩
 ·rw [gA _ (by omega)]at e1 e2;exact DG hA Bf e1 e2
 simp only [iD,eF]at bG eU;obtain⟨A1,A2,rfl,lA1⟩:∃A1 A2,RA=A1++A2∧A1.length=k:=⟨RA.take k,RA.drop k,(qU k RA).symm,by rw [tT];omega⟩;have lA:(A1++A2).length=A1.length+A2.length:=fX;obtain⟨Nw,Nv,ah1⟩:=Mm hA;have Qh:∀x∈A1,rk x≤rk y:=fun x hx=>by
  obtain⟨j,hj,e⟩:=vK hx;exact bG j x (by omega) (by rw [gA j (by omega),eK hj,mP A1 j hj,e])
 have am8:∀x∈A2,rk y≤rk x:=fun x hx=>by
  obtain⟨j,hj,e⟩:=vK hx;have:=eU (k+j) x (by omega) (by omega) (by rw [gA _ (by omega),nK (by omega),show k+j - A1.length=j by omega,mP A2 j hj,e]);omega
 have Qg:∀x∈RB,rk y≤rk x:=fun x hx=>DH hB hy x (by simpa using hx);refine fF (fun he=>?_) (fun he=>?_)
 ·have he:(A1++A2).length - k=0:=by simpa using he
  have eA2:A2=[]:=Hz (by omega);subst eA2;rw [oY]at *;exact bQ (hq _ (A1++RB) hk hf rfl (by rw [fZ];exact h) (yE _) (NL Nw hB fun x hx z hz=>by have:=Qh x hx;have:=Qg z hz;omega))
 have he:¬(A1++A2).length - k=0:=by simpa using he
 obtain⟨x,hx⟩:∃x,A2[A2.length - 1]? = some x:=⟨A2[A2.length - 1],mP A2 _ (by omega)⟩;have hxA:=kQ hx;have ex:(arrOf st)[pre.length+k+((A1++A2).length - k) - 1]? = some x:=by
  rw [show pre.length+k+((A1++A2).length - k) - 1=pre.length+((A1++A2).length - 1)by omega,gA _ (by omega),nK (by omega),show(A1++A2).length - 1 - A1.length=A2.length - 1 by omega];exact hx
 refine aV (jQ ex ?_);refine aV (SY hL wZ (PA x (jA _ hxA)) (fun j hj=>?_) (fun j1 j2 x1 x2 Bf hj e1 e2=>?_) (by omega) (fun k2 fS Sh Sn=>?_))
 ·exact⟨RB[j],by rw [gB j hj];exact mP RB j hj,PB _ (RY _)⟩
 ·rw [gB _ (by omega)]at e1 e2;exact DG hB Bf e1 e2
 simp only [dP]at Sh Sn;obtain⟨B1,B2,rfl,lB1⟩:∃B1 B2,RB=B1++B2∧B1.length=k2:=⟨RB.take k2,RB.drop k2,(qU k2 RB).symm,by rw [tT];omega⟩;have lB:(B1++B2).length=B1.length+B2.length:=fX;obtain⟨sB1,sB2,ahZ⟩:=Mm hB;have hi1:∀z∈B1,rk z≤rk x:=fun z hz=>by
  obtain⟨j,hj,e⟩:=vK hz;have:=Sh j z (by omega) (by rw [gB j (by omega),eK hj,mP B1 j hj,e]);omega
 have uW:∀z∈B2,rk x≤rk z:=fun z hz=>by
  obtain⟨j,hj,e⟩:=vK hz;exact Sn (k2+j) z (by omega) (by omega) (by rw [gB _ (by omega),nK (by omega),show k2+j - B1.length=j by omega,mP B2 j hj,e])
 have Lq:∀z∈A2,rk z≤rk x:=fun z hz=>by
  obtain⟨j,hj,e⟩:=vK hz;exact DG Nv (show j≤A2.length - 1 by omega) (by rw [mP A2 j hj,e]) hx
 have Jp:∀z∈A1,∀v∈B1++B2,rk z≤rk v:=fun z hz v hv=>by have:=Qh z hz;have:=Qg v hv;omega
 refine fF (fun mM=>?_) (fun mM=>?_)
 ·have mM:k2=0:=by simpa using mM
  have eB1:B1=[]:=Hz (by omega);subst eB1;rw [FW]at *;refine bQ (hq _ (A1++A2++B2) hk hf rfl (by rw [h,fZ (A1++A2)]) (yE _) (NL hA hB fun z hz v hv=>?_))
  rcases iU.mp hz with r | r
  ·exact Jp z r v hv
  ·have:=Lq z r;have:=uW v hv;omega
 have mM:¬k2=0:=by simpa using mM
 have ea:((arrOf st).extract (pre.length+k) (pre.length+(A1++A2).length)).toList=A2:=Qb (pre:=pre++A1) (post:=B1++B2++post) (by rw [h];simp only [fZ]) (by simp only [fX];omega) (by simp only [fX];omega);have eb:((arrOf st).extract (pre.length+(A1++A2).length) (pre.length+(A1++A2).length+k2)).toList=B1:=Qb (pre:=pre++(A1++A2)) (post:=B2++post) (by rw [h];simp only [fZ]) (by simp only [fX]) (by simp only [fX];omega);have sza:((arrOf st).extract (pre.length+k) (pre.length+(A1++A2).length)).size=A2.length:=by rw [← eY,ea]
 have szb:((arrOf st).extract (pre.length+(A1++A2).length) (pre.length+(A1++A2).length+k2)).size=B1.length:=by rw [← eY,eb]
 have both:∀(c:Prop) [Decidable c],wpS M A E s (if c then IB ((arrOf st).extract (pre.length+k) (pre.length+(A1++A2).length)) ((arrOf st).extract (pre.length+(A1++A2).length) (pre.length+(A1++A2).length+k2))else ID ((arrOf st).extract (pre.length+k) (pre.length+(A1++A2).length)) ((arrOf st).extract (pre.length+(A1++A2).length) (pre.length+(A1++A2).length+k2))) (fun m aG=>dE (setPending st pend) aG∧iM rk ((arrOf st).extract (pre.length+k) (pre.length+(A1++A2).length)) ((arrOf st).extract (pre.length+(A1++A2).length) (pre.length+(A1++A2).length+k2)) m) (setPending st pend):=fun c _=>by
  refine Zs hL (by rw [ea];exact fun z hz=>PA z (jA _ hz)) (by rw [eb];exact fun z hz=>PB z (kR _ hz)) (by rw [ea];exact Nv) (by rw [eb];exact sB1) (by omega) (by omega) (fun z hz=>?_) (fun z hz=>?_) wZ
  ·rw [ea,sza,hx]at hz;cases hz;rw [eb];exact hi1
  ·rw [eb]at hz;rw [eK (by omega)]at hy;rw [hy]at hz;cases hz;rw [ea];exact am8
 have bT:=both True;have bF:=both False;rw [if_pos trivial]at bT;rw [if_neg id]at bF;refine fF (fun _=>aV (mD bT fun m kP gm=>?_)) (fun _=>aV (mD bF fun m kP gm=>?_))
 all_goals
  obtain⟨g,gp,gs⟩:=gm;rw [ea,eb]at gp;refine aV (CN (aV (rZ (bQ ?_))));have e1:failedOf kP=none:=g.failed.trans hf;have ef:(failedOf (setArr kP (m.toList.zipIdx.foldl (fun a (x,j)=>a.setIfInBounds (pre.length+k+j) x) (arrOf kP)))).isNone=true:=by
   show(failedOf kP).isNone=true;rw [e1];rfl
  have fin:Q true (setArr kP (m.toList.zipIdx.foldl (fun a (x,j)=>a.setIfInBounds (pre.length+k+j) x) (arrOf kP))):=by
   refine hq _ (A1++m.toList++B2) (g.kind.trans hk) e1 g.pend ?_ ?_ ?_
   ·show(m.toList.zipIdx.foldl (fun a (x,j)=>a.setIfInBounds (pre.length+k+j) x) (arrOf kP)).toList=_;rw [show arrOf kP=arrOf st from g.arr];rw [avR (pre:=pre++A1) (mid:=A2++B1) (post:=B2++post) (by rw [h];simp only [fZ]) (by rw [fX];omega) gp.length_eq];simp only [fZ]
   ·have e2:A1++A2++(B1++B2)=A1++(A2++B1)++B2:=by simp only [fZ]
    rw [e2];exact(GA A1 gp).append_right B2
   ·refine NL (NL Nw gs fun z hz v hv=>?_) sB2 fun z hz v hv=>?_
    ·rcases iU.mp (gp.mem_iff.mp hv)with r | r
     ·exact ah1 z hz v r
     ·exact Jp z hz v (kR _ r)
    ·rcases iU.mp hz with r | r
     ·exact Jp z r v (jA _ hv)
     ·rcases iU.mp (gp.mem_iff.mp r)with r | r
      ·have:=Lq z r;have:=uW v hv;omega
      ·exact ahZ z r v hv
  rw [← ef]at fin;exact fin
end
def starts:Nat→List (List Keyed)→List (Nat×Nat)
 | _,[]=>[]
 | o,R::Rs=>(o,R.length)::starts (o+R.length) Rs
theorem NK:∀(o:Nat) (R1 R2:List (List Keyed)),starts o (R1++R2)=starts o R1++starts (o+R1.flatten.length) R2
 | o,[],R2=>by simp [starts]
 | o,R::R1,R2=>by
  rw [tU,starts,starts,NK,Yl,fX,tU,Nat.add_assoc]
theorem GV:∀(o:Nat) (Rs:List (List Keyed)),(starts o Rs).length=Rs.length
 | _,[]=>rfl
 | o,R::Rs=>by rw [starts,eA,eA,GV]
abbrev sl(p:Nat×Nat×Nat):Nat×Nat:=(p.1,p.2.1)
def rD(rk:Keyed→Int)(pend:Array (Nat×Nat×Nat))(l rest:List Keyed):Prop :=
 ∃Rs:List (List Keyed),l=Rs.flatten++rest∧pend.toList.map sl=starts 0 Rs∧∀R∈Rs,0<R.length∧cF rk R
section
variable{rk:Keyed→Int}{pend:Array (Nat×Nat×Nat)}{l rest:List Keyed}
theorem rD.push{R:List Keyed}(h:rD rk pend l (R++rest))(h0:0<R.length)(hs:cF rk R){lo q:Nat}(fR:lo+R.length+rest.length=l.length):rD rk (pend.push (lo,R.length,q)) l rest:=by
 obtain⟨Rs,e,m,hR⟩:=h;refine⟨Rs++[R],by rw [e];simp,?_,fun S hS=>?_⟩
 ·rw [CL,yA,m,NK];have:lo=0+Rs.flatten.length:=by
   rw [e]at fR;simp only [fX]at fR;omega
  rw [this];rfl
 ·rcases iU.mp hS with q | q
  ·exact hR S q
  ·simp only [jP]at q;subst q;exact⟨h0,hs⟩
theorem rD.last{pw i:Nat}(h:rD rk pend l rest):rD rk (pend.modify i fun x=>match x with | (st,len,_)=>(st,len,pw)) l rest:=by
 obtain⟨Rs,e,m,hR⟩:=h;refine⟨Rs,e,?_,hR⟩;rw [← m];refine BU fun j=>?_;rw [lF,lF,mC,mC,Array.getElem?_modify];split
 ·cases pend[j]? <;> rfl
 ·rfl
theorem rD.size(h:rD rk pend l rest):pend.size+rest.length≤l.length:=by
 obtain⟨Rs,rfl,m,hR⟩:=h;have e:pend.size=Rs.length:=by
  have:=congrArg List.length m;rwa [fW,eY,GV]at this
 rw [fX,e];have:∀Rs:List (List Keyed),(∀R∈Rs,0<R.length∧cF rk R)→Rs.length≤Rs.flatten.length:=by
  intro Rs
  induction Rs with
  | nil=>intro _;simp
  | cons R Rs ih =>
   intro h;have h1:=ih fun S hS=>h S (iB _ hS);have h2:=(h R (by simp)).1;rw [eA,Yl,fX];omega
 have:=this Rs hR;omega
theorem rD.done(h:rD rk pend l [])(h1:pend.size≤1):cF rk l:=by
 obtain⟨Rs,rfl,m,hR⟩:=h;have e:pend.size=Rs.length:=by
  have:=congrArg List.length m;rwa [fW,eY,GV]at this
 rw [oY]
 match Rs,hR with
 | [],_=>simp
 | [R],hR=>simpa using(hR R (by simp)).2
 | _::_::_,_=>simp only [eA]at e;omega
theorem Lh{β:Type}{l:List β}{i:Nat}(h:i+1<l.length):∃l1 x y l2,l=l1++x::y::l2∧l1.length=i :=
 ⟨l.take i,l[i],l[i+1],l.drop (i+2),by rw [← BV,← BV,qU],by rw [tT];omega⟩
variable{M:Model}{A:Around}{E:Value→Shared→Prop}{s:Shared}{kd:SortKind}{P:Keyed→Prop}
structure Go(rk:Keyed→Int)(kd:SortKind)(x0:Array Keyed)(rest:List Keyed)(st:SortSt):Prop where
 kind:kindOf st=kd
 failed:failedOf st=none
 perm:(arrOf st).Perm x0
 QN:rD rk (pendingOf st) (arrOf st).toList rest
theorem Jt(hL:gJ M A E s kd P rk){x0:Array Keyed}(hP:∀x∈x0.toList,P x){st:SortSt}(h:Go rk kd x0 rest st){i:Nat}(hi:i+1<(pendingOf st).size){Q:Bool→SortSt→Prop}
  (hq:∀aG,Go rk kd x0 rest aG→(pendingOf aG).size+1=(pendingOf st).size→Q true aG):wpS M A E s (mergeAt' i) Q st:=by
 obtain⟨hk,hf,hp,Rs,e,m,hR⟩:=h;have el:(pendingOf st).size=Rs.length:=by
  have:=congrArg List.length m;rwa [fW,eY,GV]at this
 obtain⟨R1,RA,RB,R2,rfl,l1⟩:=Lh (show i+1<Rs.length by omega);obtain⟨q1,x,y,q2,ep,lq⟩:=Lh (show i+1<(pendingOf st).toList.length by rw [eY];omega);rw [ep,yA,NK,LB]at m;have m':=List.append_inj m (by rw [fW,GV];omega);obtain⟨m1,m2⟩:=m';simp only [fE,starts,vL]at m2;obtain⟨mx,my,m3⟩:=m2;obtain⟨x1,x2,x3⟩:=x;obtain⟨y1,y2,y3⟩:=y;simp only [RO]at mx my;obtain⟨rfl,rfl⟩:=mx;obtain⟨rfl,rfl⟩:=my;have px:(pendingOf st)[i]? = some (R1.flatten.length,RA.length,x3):=by
  rw [← mC,ep,nK (by omega),show i - q1.length=0 by omega];rfl
 have py:(pendingOf st)[i+1]? = some (R1.flatten.length+RA.length,RB.length,y3):=by
  rw [← mC,ep,nK (by omega),show i+1 - q1.length=1 by omega];rfl
 have hA:=hR RA (by simp);have hB:=hR RB (by simp);refine Zr hL hk hf (pre:=R1.flatten) (RA:=RA) (RB:=RB) (post:=R2.flatten++rest) (by rw [e];simp) (fun z hz=>hP z ((MB.mp hp).mem_iff.mp hz)) px py hA.2 hB.2 hA.1 hB.1 fun aG C k' f' p' a' c1 c2=>?_;have lC:C.length=RA.length+RB.length:=by rw [c1.length_eq,fX]
 have AV:(pendingOf aG).toList=q1++(R1.flatten.length,RA.length+RB.length,x3)::q2:=by
  rw [p',Array.toList_eraseIdxIfInBounds,Array.toList_setIfInBounds,ep,← lq];simp [List.eraseIdx_append_of_length_le]
 refine hq aG ⟨k',f',?_,R1++C::R2,?_,?_,fun R hR'=>?_⟩ ?_
 ·refine Array.Perm.trans ?_ hp;rw [MB,a',e];simp only [List.flatten_append,Yl,fZ];refine GA _ ?_;rw [← fZ RA RB];exact c1.append_right _
 ·rw [a'];simp
 ·rw [AV,yA,NK,m1,fE,m3,starts,lC,LB,Nat.add_assoc]
 ·rcases iU.mp hR' with r | r
  ·exact hR R (kR _ r)
  ·rcases dZ.mp r with r | r
   ·subst r;exact⟨by omega,c2⟩
   ·exact hR R (by simp [r])
 ·rw [← eY,AV,← eY,ep];simp;omega
end
section
variable{M:Model}{A:Around}{E:Value→Shared→Prop}{s:Shared}{kd:SortKind}{P:Keyed→Prop}{rk:Keyed→Int}
theorem Up.agK{xs:Array Keyed}{lo n:Nat}(h:Up rk xs lo n)(hn:lo+n≤xs.size):cF rk ((xs.toList.drop lo).take n):=by
 refine List.pairwise_iff_getElem.mpr fun i j hi hj hU=>?_;rw [tT,LI,eY]at hi hj;have q:=h i j (by omega) (by omega);have g:∀k (hk:lo+k<xs.size),Kr rk xs (lo+k)=rk xs[lo+k]:=fun k hk=>by unfold Kr;rw [getElem?_pos xs (lo+k) hk]
 rw [g i (by omega),g j (by omega)]at q;rw [List.getElem_take,List.getElem_take,Hw,Hw];exact q
theorem Go.made{x0:Array Keyed}{rest:List Keyed}{st gZ:SortSt}(h:Go rk kd x0 rest st){lo n:Nat}(fR:lo+rest.length=(arrOf st).size)(hB:Bs kd (arrOf st) lo (pendingOf st) gZ)(hn:lo+n≤(arrOf st).size)(hu:Up rk (arrOf gZ) lo n) :
  ∃R sJ,Go rk kd x0 (R++sJ) gZ∧R.length=n∧cF rk R∧lo+n+sJ.length=(arrOf st).size:=by
 obtain⟨hk,hf,hp,Rs,e,m,hR⟩:=h;have sz:=hB.size;have lf:Rs.flatten.length=lo:=by
  have:=congrArg List.length e;rw [eY,fX]at this;omega
 have e2:(arrOf gZ).toList.take lo=Rs.flatten:=by
  refine BU fun i=>?_
  by_cases hi:i<lo
  ·rw [List.getElem?_take_of_lt hi,mC,hB.pre i hi,← mC,e,eK (by omega)]
  ·rw [BS (by rw [tT];omega),BS (by omega)]
 refine⟨((arrOf gZ).toList.drop lo).take n,((arrOf gZ).toList.drop lo).drop n,⟨hB.kind,hB.failed,hB.perm.trans hp,Rs,?_,by rw [hB.pend];exact m,hR⟩,?_,hu.agK (by omega),?_⟩
 ·rw [qU,← e2,qU]
 ·rw [tT,LI,eY];omega
 ·rw [LI,LI,eY];omega
theorem Go.Ng{x0:Array Keyed}{rest HG:List Keyed}{st:SortSt}(h:Go rk kd x0 rest st){p:Array (Nat×Nat×Nat)}(hc:rD rk p (arrOf st).toList HG):Go rk kd x0 HG (setPending st p):=⟨h.kind,h.failed,h.perm,hc⟩
theorem Go.bs{x0:Array Keyed}{rest:List Keyed}{st:SortSt}(h:Go rk kd x0 rest st)(lo:Nat):Bs kd (arrOf st) lo (pendingOf st) st:=⟨h.kind,h.failed,rfl,.refl _,fun _ _=>rfl⟩
theorem Js(hL:gJ M A E s kd P rk){x0:Array Keyed}(hP:∀x∈x0.toList,P x){st:SortSt}(hk:kindOf st=kd)(hf:failedOf st=none)(ha:arrOf st=x0)(hp:pendingOf st = #[]){Q:Unit→SortSt→Prop}
  (h:∀aG,(arrOf aG).Perm x0→failedOf aG=none→cF rk (arrOf aG).toList→Q () aG):wpS M A E s sortRuns' Q st:=by
 have g0:Go rk kd x0 x0.toList st:=⟨hk,hf,by rw [ha],[],by rw [ha];rfl,by rw [hp];rfl,by simp⟩;rw [sortRuns'_eq];refine aV (rZ ?_);dsimp only;rw [ha];generalize minRun' x0.size x0.size 0=IA;refine aV (mD (nO
  (I:=fun i c aG=>∃lo rest,c=(none,lo)∧i≤lo∧lo+rest.length=x0.size∧Go rk kd x0 rest aG)
  (Q:=fun c aG=>c.1=none∧Go rk kd x0 [] aG) ?step ?fin ⟨0,x0.toList,rfl,oX _,by simp,g0⟩) ?post)
 case fin =>
  rintro c aG ⟨lo,rest,rfl,h1,h2,g⟩;have:rest=[]:=Hz (by omega);subst this;exact⟨rfl,g⟩
 case step =>
  rintro i c aG _ hi ⟨lo,rest,rfl,h1,h2,g⟩;have hsz:(arrOf aG).size=x0.size:=g.perm.size_eq;refine fF (fun eU=>?_) (fun eU=>?_)
  ·have eU:lo≥x0.size:=eU;have:rest=[]:=Hz (by omega);subst this;exact bQ ⟨rfl,g⟩
  have eU:¬lo≥x0.size:=eU;have xC:∀x∈(arrOf aG).toList,P x:=fun x hx=>hP x ((MB.mp g.perm).mem_iff.mp hx);refine aV (Zo hL xC (lo:=lo) (nrem:=x0.size - lo) (by omega) (by omega) (g.bs lo) fun n gZ hB Bb sW hu=>?_);refine fF (fun bG=>?a) (fun bG=>?b)
  case' a =>
   have bG:n<IA:=bG;refine aV (yK (sA ⟨rfl,?_⟩));refine aV (aaC hL xC (lo:=lo) (n:=min (x0.size - lo) IA) (by omega) (by omega) hB hu fun mZ hB3 Ro=>?_);refine fF (fun q=>absurd q (by decide)) (fun _=>?_);have hn3:1≤min (x0.size - lo) IA:=by omega
   have hn4:min (x0.size - lo) IA≤x0.size - lo:=by omega
   dsimp only;generalize min (x0.size - lo) IA=n2 at hn3 hn4 Ro ⊢;obtain⟨R,sJ,g2,lR,sR,wY⟩:=g.made (by omega) hB3 (by omega) Ro
  case' b =>
   dsimp only;obtain⟨R,sJ,g2,lR,sR,wY⟩:=g.made (by omega) hB (by omega) hu
  all_goals
   refine aV (rZ ?_);generalize lR':R.length=rl at lR;subst lR;have fin:∀mZ,Go rk kd x0 (R++sJ) mZ→Go rk kd x0 sJ (setPending mZ ((pendingOf mZ).push (lo,rl,0))):=fun mZ g3=>g3.Ng (by
    rw [← lR'];exact g3.QN.push (by omega) sR (by have:=g3.perm.size_eq;have e:=eY (xs:=arrOf mZ);omega))
   have last:∀mZ,Go rk kd x0 (R++sJ) mZ→∃YR HG,((none,lo+rl):Option Unit×Nat)=(none,YR)∧i+1≤YR∧YR+HG.length=x0.size∧Go rk kd x0 HG (setPending mZ ((pendingOf mZ).push (lo,rl,0))):=fun mZ g3=>⟨lo+rl,sJ,rfl,by omega,by omega,fin mZ g3⟩
   split
   ·rename_i s1 n1 q1 _;generalize power' x0.size (2*s1+n1) (2*s1+n1+n1+rl) x0.size=pw;refine aV (mD (nO (I:=fun _ c aG=>c=(none,())∧Go rk kd x0 (R++sJ) aG) (Q:=fun c aG=>c=(none,())∧Go rk kd x0 (R++sJ) aG) ?istep (fun _ _ hh=>hh) ⟨rfl,g2⟩) ?ipost)
    case istep =>
     rintro j c VF _ _ ⟨rfl,g4⟩;refine aV (rZ ?_)
     by_cases hs:(pendingOf VF).size>1
     ·rw [if_pos hs,mP _ _ (by omega)];refine fF (fun _=>bQ ⟨rfl,g4⟩) (fun _=>?_);refine aV (Jt hL hP g4 (by omega) fun sE g5 _=>?_);exact fF (fun q=>absurd q (by decide)) (fun _=>bQ ⟨rfl,g5⟩)
     ·rw [if_neg hs];exact bQ ⟨rfl,g4⟩
    case ipost =>
     rintro c VF ⟨rfl,g4⟩;have g5:=g4.Ng (g4.QN.last (pw:=pw) (i:=(pendingOf VF).size - 1));refine aV (CN (aV (CN (bQ ?_))));exact last _ g5
   ·exact aV (CN (bQ (last _ g2)))
 case post =>
  rintro⟨r,lo⟩ aG ⟨e,g⟩;dsimp only at e;subst e;have hsz:(arrOf aG).size=x0.size:=g.perm.size_eq;have hc:=g.QN.size;have e:=eY (xs:=arrOf aG);rw [yC]at hc;refine aV (mD (nO (I:=fun t c iR=>c=(none,())∧Go rk kd x0 [] iR∧(pendingOf iR).size+t≤x0.size+1) (Q:=fun c iR=>c=(none,())∧Go rk kd x0 [] iR∧(pendingOf iR).size≤1) ?s2 ?f2 ⟨rfl,g,by omega⟩) ?p2)
  case f2 =>
   rintro c gZ ⟨e,g2,h2⟩;exact⟨e,g2,by omega⟩
  case p2 =>
   rintro c gZ ⟨rfl,g2,h2⟩;exact bQ (h gZ g2.perm g2.failed (g2.QN.done h2))
  case s2 =>
   rintro t c gZ _ _ ⟨rfl,g2,h2⟩;refine aV (rZ (fF (fun h1=>bQ ⟨rfl,g2,h1⟩) (fun h1=>?_)));refine aV (Jt hL hP g2 ?_ fun mZ g3 h3=>?_)
   ·generalize Option.any _ _=cc;cases cc <;> simp only [iD,dP,eF] <;> omega
   ·exact fF (fun q=>absurd q (by decide)) (fun _=>bQ ⟨rfl,g3,by omega⟩)
end
section
variable{prog:Program}{w:World}{A:Around}{E:Value→Shared→Prop}{s:Shared}
theorem am5:gJ (model prog w) A E s oneType' (fun p=>∃n t,p.1 = .int n t) (fun p=>numOf p.1):=by
 rintro⟨x,x2⟩ ⟨y,y2⟩ ⟨n,t,hx⟩ ⟨m,u,hy⟩ st Q hk h;dsimp only at hx hy;subst hx hy;rw [lt'_eq];refine aV (rZ ?_);rw [hk,keyLt'_oneType];refine aV (yK (yN (oneLt_int ⟨rfl,?_⟩)));exact bQ h
theorem agJ{xs:Array Keyed}{n:Nat}(h:cF (fun p=>numOf p.1) xs.toList)(hn:n≤xs.size):SortedTo xs n:=fun i j hU hj=>by
 rw [K_eq (show i<xs.size by omega),K_eq (show j<xs.size by omega)]
 by_cases e:i=j
 ·subst e;exact qZ _
 ·have:=List.pairwise_iff_getElem.mp h i j (by rw [eY];omega) (by rw [eY];omega) (by omega);simpa using this
theorem Ql{a:Addr}{vs:List Value}{ns:List Int}{n:Nat}{P:PySem.Fin→Shared→Prop}(ho:s.heap.get? a=some (seqObj "list" vs.toArray n))
  (hI:IntsAre vs ns) (hl:vs.length≤sizeLine)
  (h:∀(out:Array Value) (mI:List Int),IntsAre out.toList mI→mI.Perm ns→mI.Pairwise (· ≤ ·)→P (.done (.ret .none)) { s with heap:=sortedHeap s.heap a vs out }) :
  wpAny (model prog w) A (Builtin.«list.sort» ⟨[.ref a],[]⟩) P E s:=by
 rw [list_sort_plain];have ha:a<s.heap.objs.size:=cR ho;refine aE (listItems_at ho rfl ?_);refine aE (IH ho rfl ?_ (by rw [fL];exact hl) rL);obtain⟨e1,rS⟩:∃e1,(s.heap.update a (Obj.mapSeq fun _=>#[])).get? a=some (seqObj "list" #[] e1):=⟨_,get?_update_seq ho (fun _=>#[])⟩;refine aE (HA rS rfl ?_);refine aE (wpAny_newTuple ?_ (by show vs.length≤_;exact hl));refine aE (MJ ?_ rL);refine pE ?_;have uT:(((s.heap.update a (Obj.mapSeq fun _=>#[])).push (seqObj "tuple" vs.toArray 0)).push (seqObj "list" #[] 0)).get? a=some (seqObj "list" #[] e1):=by
  rw [CB _ _ _ (by rw [size_push',BZ];exact dH (vI ha)),CB _ _ _ (by rw [BZ];exact dH ha)];exact rS
 show wpAny (model prog w) A _ P E { s with heap:=((s.heap.update a (Obj.mapSeq fun _=>#[])).push (seqObj "tuple" vs.toArray 0)).push (seqObj "list" #[] 0) };dsimp only;have hsz:vs.toArray.size=vs.length:=by simp
 have fin:∀aG:SortSt,(arrOf aG).Perm (pairsOf vs)→SortedTo (arrOf aG) (pairsOf vs).size →
   P (.done (.ret .none)) { s with heap:=sortedHeap s.heap a vs ((arrOf aG).map (·.2)) }:=by
  intro aG hp hs;obtain⟨mI,h1,h2,h3⟩:=sorted_out hI hp hs;exact h _ mI h1 h2 h3
 by_cases h2:vs.toArray.size<2
 ·rw [if_pos h2,if_pos h2];refine aE (aQ ?_);rw [StateT.run_pure];refine aE (aQ ?_);dsimp only;refine aE (HA uT rfl ?_);refine aE (IH uT rfl ?_ rL (by rw [Array.size_map];show(pairsOf vs).size≤_;rw [pairsOf_size];omega));simp only [Fc,iD,eF];refine aQ (fin (SortSt.mk' general' (vs.toArray.zip vs.toArray) #[] 7 none) (Array.Perm.refl _) ?_);intro i j hU hj;have:i=j:=by rw [pairsOf_size]at hj;omega
  subst this;exact qZ _
 ·rw [if_neg h2,if_neg h2];obtain⟨v₁,v₂,rest,rfl⟩:∃v₁ v₂ rest,vs=v₁::v₂::rest:=by
   match vs,hsz,h2 with
   | [],_,h2=>simp at h2
   | [_],_,h2=>simp at h2
   | v₁::v₂::rest,_,_=>exact⟨v₁,v₂,rest,rfl⟩
  rw [keyKind_ints hI];refine aE (aQ ?_);refine aE (qE (Js am5 (x0:=pairsOf (v₁::v₂::rest)) (st:=SortSt.mk' oneType' ((v₁::v₂::rest).toArray.zip (v₁::v₂::rest).toArray) #[] 7 none)
   (Q:=fun _ aG=>(arrOf aG).Perm (pairsOf (v₁::v₂::rest))∧failedOf aG=none∧SortedTo (arrOf aG) (pairsOf (v₁::v₂::rest)).size)
   hI.intKeys rfl rfl rfl rfl fun aG a1 a2 a3=>⟨a1,a2,agJ a3 (by rw [a1.size_eq];exact oX _)⟩) ?_ fun _ _ e=>e)
  rintro⟨⟨⟩,aG⟩ s' ⟨rfl,hp,hf,hs⟩;dsimp only;refine aE (HA uT rfl ?_);refine aE (IH uT rfl ?_ rL (by refine kN (Nat.le_of_eq ((Array.size_map ..).trans (hp.size_eq.trans (pairsOf_size _)))) ?_;omega));rw [hf];simp only [Fc,iD,eF];exact aQ (fin aG hp hs)
theorem agO{l:Addr}{vs:List Value}{ns:List Int}{Q:Value→Shared→Prop}(hl:s.heap.IsList l vs.toArray)(hI:IntsAre vs ns)(hz:vs.length≤sizeLine)
  (h:∀(out:Array Value) (mI:List Int),IntsAre out.toList mI→mI.Perm ns→mI.Pairwise (· ≤ ·)→Q (.ref (s.heap.objs.size+1)) { s with heap:=sortedAll s.heap vs out }) :
  wpAny (model prog w) A (call (.builtin "sorted") [.ref l]) Q E s:=by
 refine Yx kind_sorted plain_sorted entry_sorted (args_sorted1 _) ?_;unfold Builtin.«sorted»;refine aE (m:=checkCount "sorted" 1 1 _) (aQ ?_);refine aE (collect_list hl ?_ hz);refine aE (MJ ?_ (by show vs.length≤_;exact hz));have hsz:((s.heap.push (seqObj "list" #[] 0)).update s.heap.objs.size (Obj.mapSeq (· ++ vs.toArray))).objs.size=s.heap.objs.size+1:=by
  rw [BZ,size_push']
 have rR:(((s.heap.push (seqObj "list" #[] 0)).update s.heap.objs.size (Obj.mapSeq (· ++ vs.toArray))).push (seqObj "list" vs.toArray 0)).get? (s.heap.objs.size+1)=some (seqObj "list" vs.toArray 0):=by
  rw [← hsz];exact gM _ rfl
 show wpAny _ _ _ _ _ { s with heap:=((s.heap.push (seqObj "list" #[] 0)).update s.heap.objs.size (Obj.mapSeq (· ++ vs.toArray))).push (seqObj "list" vs.toArray 0) };rw [hsz];refine aE (pE (qF slot_list_sort ⟨_,rR,rfl⟩ entry_list_sort (Ql rR hI hz fun out mI a1 a2 a3=>⟨_,rfl,?_⟩) (args_list_sort _)));exact aQ ⟨_,rfl,h out mI a1 a2 a3⟩
end
end PyProof.Rows
namespace V2
open PySem PySem.Spec PyProof.Rows L2
def sortI(ns:List Int):List Int:=ns.mergeSort fun a b=>decide (a≤b)
theorem sortI_perm(ns:List Int):(sortI ns).Perm ns:=List.mergeSort_perm ns _
theorem VJ(ns:List Int):(sortI ns).Pairwise (· ≤ ·):=by
 have h:=List.pairwise_mergeSort (le:=fun a b:Int=>decide (a≤b)) (fun a b c h1 h2=>by simp at h1 h2 ⊢;omega) (fun a b=>by simp;omega) ns;exact h.imp fun h=>of_decide_eq_true h
theorem VH{ns ms:List Int}(p:ms.Perm ns)(h:ms.Pairwise (· ≤ ·)):ms=sortI ns :=
 List.Perm.eq_of_pairwise (le:=(· ≤ ·)) (fun a b _ _ h1 h2=>Int.le_antisymm h1 h2) h (VJ ns) (p.trans (sortI_perm ns).symm)
theorem yX(ns:List Int):(sortI ns).length=ns.length:=(sortI_perm ns).length_eq
section
variable{X:Cx}{W:WX}
theorem Kv:∀{us:List Value} {ns:List Int},IntsAre us ns→Vals (ns.map V.int) us
 | _,_,.nil => .nil
 | _,_,.cons n t h => .cons ⟨t,rfl⟩ (Kv h)
theorem avB:qC X (.builtin "sorted") (fun xs H Q=>∃(a:Addr) (ns:List Int),xs=[.ref a]∧fK X.K H a (ns.map V.int)∧ns.length<4000∧∀l,H l=none→Q (.ref l) (upd H l (.lst ((sortI ns).map V.int)))):=by
 intro pins s σ H xs us Q I r h;obtain⟨a,ns,rfl,hq,JU,q⟩:=h;obtain⟨u,rfl,ru⟩:=vals1 r;cases ru;obtain⟨aN,rv,pl,hz⟩:=I.list hq;have hI:IntsAre aN ns:=intsAre_of rv;have hl:aN.length=ns.length:=by rw [← rv.length,fW]
 refine agO pl.isList hI (by rw [qK];omega) fun out mI a1 a2 a3=>?_;obtain⟨e,he⟩:=sortedAll_at s.heap aN out;have hn:=VH a2 a3;subst hn;refine⟨.ref (s.heap.objs.size+1),_,I.laid (t':=s.toks) (o := .lst ((sortI ns).map V.int)) (fun b o q=>sortedAll_old q) (xV _) ?_,rfl,q _ (I.aK.fresh (xV _))⟩;exact⟨by rw [fW,yX,qK];omega,out.toList,e,Kv a1,he⟩
@[simp] def De(c:Bool)(as:List A):Mo A:=fun Ω=>match as with
 | [a]=>(match (cU Ω a).bind intsOf with
  | some ns=>if ns.length<4000 then uO c ((sortI ns).map A.int) Ω else none
  | none=>none)
 | _=>none
theorem avJ(c:Bool):vQ X W (.builtin "sorted") (De c):=by
 refine⟨_,avB,?_⟩;intro G ι Ω H σ xs as Q w d h;unfold De at h;split at h
 ·rename_i a;split at h
  ·rename_i ns e;split at h
   ·rename_i JU;obtain⟨x,rfl,d1⟩:=xM d;rw [BL]at e;obtain⟨ds,e1,e2⟩:=e;obtain⟨p,ys,rfl,h2,h3⟩:=rM w d1 e1;rw [IM e2 h3]at h2;exact⟨p,ns,rfl,h2,JU,fun l hl=>zJ w hl (QK _) h⟩
   ·exact False.elim h
  ·exact False.elim h
 ·exact False.elim h
end
end V2
namespace M
open PySem V2
@[simp] abbrev aT:=V2.dG 0
@[simp] abbrev bL:=V2.dG 1
@[simp] abbrev cC:=V2.dG 2
@[simp] abbrev gD:=V2.dG 3
@[simp] abbrev pF:=V2.dG 4
@[simp] abbrev qG:=V2.dG 5
@[simp] abbrev mE:=V2.dG 6
@[simp] abbrev nP:=V2.dG 7
@[simp] abbrev sD:=V2.dG 8
@[simp] abbrev Kj:=V2.dG 9
@[simp] abbrev axG:=V2.dG 10
@[simp] abbrev CS:=V2.dG 11
@[simp] abbrev axF:=V2.dG 12
@[simp] abbrev axE:=V2.dG 13
@[simp] abbrev axD:=V2.dG 14
@[simp] abbrev axC:=V2.dG 15
@[simp] abbrev axB:=V2.dG 16
@[simp] abbrev axA:=V2.dG 17
@[simp] abbrev aw9:=V2.dG 18
@[simp] abbrev aw8:=V2.dG 19
@[simp] abbrev eB:=V2.cI 0
@[simp] abbrev bR:=V2.cI 1
@[simp] abbrev gO:=V2.cI 2
@[simp] abbrev GK:=V2.cI 3
@[simp] abbrev TN:=V2.cI 4
@[simp] abbrev ML:=V2.cI 5
@[simp] abbrev MK:=V2.cI 6
@[simp] abbrev TM:=V2.cI 7
@[simp] abbrev CT:=V2.cI 8
@[simp] abbrev wC9:=V2.cI 9
@[simp] abbrev CU:=V2.cI 10
@[simp] abbrev axH:=V2.cI 11
@[simp] abbrev eN:=V2.Ds false
@[simp] abbrev aL{α:Type}(a:α)(Ω:V2.aI):Option (V2.Rs α×V2.aI):=some (.ok a,Ω)
@[simp] abbrev dU(ρ:V2.Ev)(Ω:V2.aI):Option (V2.Out×V2.Ev×V2.aI):=some (.nx,ρ,Ω)
@[simp] abbrev aA(i:Int):Option V2.A:=some (.int i)
@[simp] abbrev aC(i:Nat):Option V2.A:=some (.aD i)
@[simp] abbrev iN(i:List V2.A):Option V2.A:=some (.lst i)
noncomputable section
def Wx:MS :=
 (aZ (bS (aF (gH) (aF (fT) (aF eN aT bR) (aF eN (cI 48271) (aF (fT) (cI 118) bL))) (cI 2147483629)) (gN 2))
  (cH (aF (gH) (aF eN (aF eN (aF (fT) (aF (nF) cC (cI 977)) (cI 16807)) (aF (fT) cC (aF eN (aF (fT) bL bL) TM))) bL) (cI 2147483587))))
def yG:List A→Mo A:=dN 3 Wx
def Fq:MS :=
 (aZ (bS eB (gN 2))
  (aZ (fG (bM (aF xG bL (aS iG (aH aT a0))))
   (bS (aF (gH) (aF kI aT bL) (cI 2147483647)) (gN 2))
   jE)
  (cH (aS (bW 2 yG) (aH cC (aH (aF eN bL (cI 101)) a0))))))
def tW:List A→Mo A:=dN 3 Fq
end
end M
namespace V2
open PySem PySem.Spec PyProof.Rows L2
def mW(aB:List (Key×A))(k:Key):Option A:=(aB.find? fun kv=>decide (kv.1=k)).map (·.2)
def pH(aB:List (Key×A))(k:Key)(a:A):List (Key×A) :=
 if aB.any fun kv=>decide (kv.1=k)then aB.map (fun kv=>if kv.1=k then(kv.1,a)else kv)else aB++[(k,a)]
def wR:A→Option Key
 | .int i=>some (.inl i)
 | .str x=>some (.inr x)
 | _=>none
section
variable{K:Frag}{G:Hp}{ι:List Addr}
theorem Qy{v:V}{a:A}{k:Key}(d:Den K G ι v a)(h:wR a=some k):v=kV k:=by
 cases a with
 | int i=>simp only [wR,jO]at h;subst h;simp only [Den]at d;exact d
 | str i=>simp only [wR,jO]at h;subst h;simp only [Den]at d;exact d
 | _=>simp [wR]at h
theorem Kx{k:Key}:∀{ws:List (Key×V)} {aB:List (Key×A)},ws.map (·.1)=aB.map (·.1)→aO K G ι (ws.map (·.2)) (aB.map (·.2))→(∀a,mW aB k=some a→∃v,lH ws k=some v∧Den K G ι v a)∧(mW aB k=none→lH ws k=none)
 | [],[],_,_=>⟨fun a h=>(by cases h),fun _=>rfl⟩
 | [],_::_,h,_=>by simp at h
 | _::_,[],h,_=>by simp at h
 | p::ws,q::aB,h,d=>by
  simp only [fE,vL]at h;obtain⟨x,r,e,d1,d2⟩:=d.lJ;simp only [fE,vL]at e;obtain⟨e1,e2⟩:=e;obtain⟨i1,i2⟩:=Kx (k:=k) h.2 (e2 ▸ d2)
  by_cases hk:q.1=k
  ·have hp:p.1=k:=h.1.trans hk;refine⟨fun a ha=>?_,fun hn=>?_⟩
   ·simp only [mW,FZ,hk,KH,LA,jO]at ha;exact⟨p.2,by simp [lH,hp],by rw [← ha,e1];exact d1⟩
   ·simp [mW,hk]at hn
  ·have hp:¬p.1=k:=fun z=>hk (h.1.symm.trans z);have ev:lH (p::ws) k=lH ws k:=by simp [lH,hp]
   have ea:mW (q::aB) k=mW aB k:=by simp [mW,hk]
   rw [ev,ea];exact⟨i1,i2⟩
theorem Wy{k:Key}{ws:List (Key×V)}{aB:List (Key×A)}(h:ws.map (·.1)=aB.map (·.1)):(ws.any fun kv=>decide (kv.1=k))=(aB.any fun kv=>decide (kv.1=k)):=by
 have e1:(ws.any fun kv=>decide (kv.1=k))=(ws.map (·.1)).any fun x=>decide (x=k):=by rw [List.any_map];rfl
 have e2:(aB.any fun kv=>decide (kv.1=k))=(aB.map (·.1)).any fun x=>decide (x=k):=by rw [List.any_map];rfl
 rw [e1,e2,h]
theorem ai4{k:Key}{v:V}{a:A}{ws:List (Key×V)}{aB:List (Key×A)}(h:ws.map (·.1)=aB.map (·.1)):(putK ws k v).map (·.1)=(pH aB k a).map (·.1):=by
 unfold putK pH;rw [Wy h];split
 ·rw [tS,tS];have e1:ws.map ((·.1) ∘ fun kv:Key×V=>if kv.1=k then(kv.1,v)else kv)=ws.map (·.1):=RX fun x _=>by simp only [Function.comp];split <;> rfl
  have e2:aB.map ((·.1) ∘ fun kv:Key×A=>if kv.1=k then(kv.1,a)else kv)=aB.map (·.1):=RX fun x _=>by simp only [Function.comp];split <;> rfl
  rw [e1,e2,h]
 ·rw [yA,yA,h];rfl
theorem Oj{k:Key}{v:V}{a:A}(dv:Den K G ι v a):∀{ws:List (Key×V)} {aB:List (Key×A)},ws.map (·.1)=aB.map (·.1)→aO K G ι (ws.map (·.2)) (aB.map (·.2))→aO K G ι ((ws.map fun kv=>if kv.1=k then(kv.1,v)else kv).map (·.2)) ((aB.map fun kv=>if kv.1=k then(kv.1,a)else kv).map (·.2))
 | [],[],_,_ => .nil
 | [],_::_,h,_=>by simp at h
 | _::_,[],h,_=>by simp at h
 | p::ws,q::aB,h,d=>by
  simp only [fE,vL]at h;obtain⟨x,r,e,d1,d2⟩:=d.lJ;simp only [fE,vL]at e;obtain⟨e1,e2⟩:=e;have ih:=Oj (k:=k) dv h.2 (e2 ▸ d2);simp only [fE];refine .cons ?_ ih;rw [h.1];split
  ·exact dv
  ·rw [e1];exact d1
theorem ai5{k:Key}{v:V}{a:A}{ws:List (Key×V)}{aB:List (Key×A)}(h:ws.map (·.1)=aB.map (·.1))(d:aO K G ι (ws.map (·.2)) (aB.map (·.2)))(dv:Den K G ι v a):aO K G ι ((putK ws k v).map (·.2)) ((pH aB k a).map (·.2)):=by
 unfold putK pH;rw [Wy h];split
 ·exact Oj dv h d
 ·rw [yA,yA];exact d.append (.cons dv .nil)
def pT(Ω:aI):A→Option (Nat×List (Key×A))
 | .aD k=>match Ω[k]? with
  | some (.bD aB)=>some (k,aB)
  | _=>none
 | _=>none
theorem KJ{H:Hp}{Ω:aI}{v:V}{a:A}{k:Nat}{aB:List (Key×A)}(w:Wd K G ι Ω H)(d:Den K G ι v a)(h:pT Ω a=some (k,aB)):∃p ws,v = .ref p∧ι[k]? = some p∧G p=none∧H p=some (.dK ws)∧ws.map (·.1)=aB.map (·.1)∧aO K G ι (ws.map (·.2)) (aB.map (·.2)):=by
 cases a with
 | aD j =>
  simp only [pT]at h;split at h
  ·rename_i es e;cases h;simp only [Den]at d;obtain⟨p,rfl,hk⟩:=d;obtain⟨g,ws,h3,h4,h5⟩:=w.aD k _ p e hk;exact⟨p,ws,rfl,hk,g,h3,h4,h5⟩
  ·cases h
 | _=>simp [pT]at h
theorem Eu{Ω:aI}{k:Nat}{aB:List (Key×A)}(h:Ω[k]? = some (.bD aB)):pT Ω (.aD k)=some (k,aB):=by simp [pT,h]
end
section
variable{X:Cx}{W:WX}{o i e:Expr}{pos:Pos}{fo fi fe:Ev→Mo A}
@[simp] def Ld:Ev→Mo A:=fun _ Ω=>some (.ok (.aD Ω.length),Ω++[.bD []])
theorem aa0:VE X W (.Dict [] [] pos) Ld:=by
 refine⟨_,akT,fun G ι Ω H σ ρ Q w r h=>?_⟩;intro p hp;refine h _ _ G (ι++[p]) (Ext.cell p) (w.cell hp ⟨w.qO hp,[],fA,rfl,.nil⟩) ?_;simp only [Den];exact⟨p,rfl,by rw [← w.len];simp⟩
@[simp] def Dq(o i z:A):Mo A:=fun Ω=>match pT Ω o,wR i with
 | some (_,aB),some k=>some (.ok ((mW aB k).getD z),Ω)
 | _,_=>none
def isD(Ω:aI)(a:A):Prop:=∃k aB,pT Ω a=some (k,aB)
open Classical in
@[simp] noncomputable def GQ(fo fi fe:Ev→Mo A):Ev→Mo A:=fun ρ=>mb (fo ρ) fun o Ω=>if isD Ω o then mb (fi ρ) (fun i=>mb (fe ρ) fun z=>Dq o i z) Ω else none
theorem aa1{apos:Pos}(hu:X.A.units+1<cLine)(ho:VE X W o fo)(hi:VE X W i fi)(he:VE X W e fe)(m:M2 X o "get" apos i e pos):VE X W (.Call (.Attribute o "get" apos) [i,e] [] pos) (GQ fo fi fe):=by
 obtain⟨t,p1,s1⟩:=ho;obtain⟨u,p2,s2⟩:=hi;obtain⟨u',p3,s3⟩:=he;refine⟨_,akU hu p1 p2 p3 m,fun G ι Ω H σ ρ Q w r h=>?_⟩;refine s1 G ι Ω H σ ρ _ w r (bH.mb h fun x Ω1 v H1 G1 ι1 x1 w1 d1 h1=>?_);split at h1
 ·rename_i hd;obtain⟨k0,ayP,e0⟩:=hd;obtain⟨p,ws,rfl,hk,g,q1,q2,q3⟩:=KJ w1 d1 e0;refine⟨p,rfl,.inl ⟨ws,.inl q1⟩,?_⟩;refine s2 G1 ι1 Ω1 H1 σ ρ _ w1 (r.ext x1) (bH.mb h1 fun y Ω2 u H2 G2 ι2 x2 w2 d2 h2=>?_);refine s3 G2 ι2 Ω2 H2 σ ρ _ w2 ((r.ext x1).ext x2) (bH.mb h2 fun z Ω3 u3 H3 G3 ι3 x3 w3 d3 h3=>?_);unfold Dq at h3;split at h3
  ·rename_i k1 aB k e1 e2;obtain⟨p',iQ,rQ,wZ,g',r1,r2,r3⟩:=KJ w3 (d1.ext (x2.trans x3)) e1;cases rQ;rw [Qy (d2.ext x3) e2];refine⟨lH iQ k,MA.k r1,?_⟩;obtain⟨i1,i2⟩:=Kx (k:=k) r2 r3;cases ev:mW aB k with
   | none =>
    rw [ev]at h3;rw [i2 ev];exact h3 _ H3 G3 ι3 (Ext.refl _ _) w3 d3
   | some a =>
    rw [ev]at h3;obtain⟨v',v1,v2⟩:=i1 a ev;rw [v1];exact h3 _ H3 G3 ι3 (Ext.refl _ _) w3 v2
  ·exact False.elim h3
 ·exact False.elim h1
@[simp] def VN(o i v:A)(Ω:aI):Option aI:=match pT Ω o,wR i with
 | some (k,aB),some key=>if aB.length<sizeLine then some (Ω.set k (.bD (pH aB key v)))else none
 | _,_=>none
@[simp] def NY(fe fo fi:Ev→Mo A):MS:=fun ρ=>sM (fe ρ) ρ fun a=>sM (fo ρ) ρ fun o=>sM (fi ρ) ρ fun i Ω=>match VN o i a Ω with
 | some Ω'=>some (.nx,ρ,Ω')
 | none=>none
theorem aaO{pos':Pos}(hu:X.A.units+1<cLine)(ho:VE X W o fo)(hi:VE X W i fi)(he:VE X W e fe)(hs:swapsWith e (some (.Subscript o i pos')) pos.line X.env=pure false:=by rfl):VS X W (.Assign [.Subscript o i pos'] e pos) (NY fe fo fi):=by
 obtain⟨t,p1,s1⟩:=ho;obtain⟨u,p2,s2⟩:=hi;obtain⟨u',p3,s3⟩:=he;refine⟨_,ajO hu p1 p2 p3 hs,fun G ι Ω H σ ρ D w r h=>?_⟩;refine s3 G ι Ω H σ ρ _ w r (cV.sM h r fun z Ω1 v H1 G1 ι1 x1 w1 d1 h1=>?_);refine s1 G1 ι1 Ω1 H1 σ ρ _ w1 (r.ext x1) (cV.sM h1 (r.ext x1) fun x Ω2 vo H2 G2 ι2 x2 w2 d2 h2=>?_);refine s2 G2 ι2 Ω2 H2 σ ρ _ w2 ((r.ext x1).ext x2) (cV.sM h2 ((r.ext x1).ext x2) fun y Ω3 vi H3 G3 ι3 x3 w3 d3 h3=>?_);unfold VN at h3;split at h3
 ·rename_i Ω' e';split at e'
  ·rename_i k aB key e1 e2;split at e'
   ·rename_i hl;cases e';obtain⟨p,ws,rfl,hk,g,q1,q2,q3⟩:=KJ w3 (d2.ext x3) e1;rw [Qy d3 e2];have IP:ws.length=aB.length:=by have:=congrArg List.length q2;simpa using this
    refine⟨p,_,rfl,LZ.k q1 (by rw [IP];exact hl),?_⟩;exact pJ (w3.put (c := .bD (pH aB key z)) hk g ⟨g,_,fA,ai4 q2,ai5 q2 q3 (d1.ext (x2.trans x3))⟩) (((r.ext x1).ext x2).ext x3) h3
   ·cases e'
  ·cases e'
 ·exact False.elim h3
end
structure az6(K:Frag)(rs ns:List Str):Prop where
 xc:∀n∈ns,∀D,nsIn K mainGlobals n=some (some (.ref D))→XC K D
 sub:∀n∈rs,∀m∈ns,∀D C,nsIn K mainGlobals n=some (some (.ref D))→nsIn K mainGlobals m=some (some (.ref C))→subIn K (.ref D) (.ref C)=some (n == m||m == ("RankError" : Str))
 ve:∀n∈rs,∀D,nsIn K mainGlobals n=some (some (.ref D))→subIn K (.ref D) (.type "ValueError")=some true
 rn:∀n∈rs,n∈ns
end V2
namespace L2
open PySem PySem.Spec PyProof.Rows
theorem cY.Lf{k:Nat}{A:Around}(r:cY k A):A.units+1<cLine:=by have:=r.units;omega
end L2
namespace KS
open PySem PySem.W PyProof.Rows
def cP:List Int→List Int→Bool
 | [],[]=>false
 | [],_::_=>true
 | _::_,[]=>false
 | a::as,b::bs=>if a=b then cP as bs else decide (a<b)
theorem YS:∀a,cP a a=false
 | []=>rfl
 | a::as=>by simp [cP,YS as]
theorem IJ:∀{a b c:List Int},cP a b=true→cP b c=true→cP a c=true
 | [],[],_,h,_=>by simp [cP]at h
 | [],_::_,[],_,h=>by simp [cP]at h
 | [],_::_,_::_,_,_=>rfl
 | _::_,[],_,h,_=>by simp [cP]at h
 | _::_,_::_,[],_,h=>by simp [cP]at h
 | a::as,b::bs,c::cs,h1,h2=>by
  simp only [cP]at h1 h2 ⊢
  by_cases e1:a=b
  ·subst e1
   by_cases e2:a=c
   ·subst e2;simp only [dP]at h1 h2 ⊢;exact IJ h1 h2
   ·simp only [dP,e2,eF]at h1 h2 ⊢;exact h2
  ·by_cases e2:b=c
   ·subst e2;simp only [e1,eF]at h1 ⊢;exact h1
   ·simp only [e1,e2,eF,xN]at h1 h2;have e3:¬a=c:=by omega
    simp only [e3,eF,xN];omega
theorem OP:∀{a b:List Int},cP a b=false→cP b a=false→a=b
 | [],[],_,_=>rfl
 | [],_::_,h,_=>by simp [cP]at h
 | _::_,[],_,h=>by simp [cP]at h
 | a::as,b::bs,h1,h2=>by
  simp only [cP]at h1 h2
  by_cases e:a=b
  ·subst e;simp only [dP]at h1 h2;rw [OP h1 h2]
  ·have e':¬b=a:=fun z=>e z.symm;simp only [e,e',eF,FA]at h1 h2;omega
def OC(ts:List (List Int))(t:List Int):Int:=((ts.filter fun x=>cP x t).length:Int)
theorem Ec{α:Type}{p q:α→Bool}(h:∀x,p x=true→q x=true):∀l:List α,(l.filter p).length≤(l.filter q).length
 | []=>oX _
 | x::l=>by
  have ih:=Ec h l
  by_cases hp:p x=true
  ·simp [hp,h x hp,ih]
  ·by_cases hq:q x=true
   ·simp [hp,hq];omega
   ·simp [hp,hq,ih]
theorem Um{α:Type}{p q:α→Bool}(h:∀x,p x=true→q x=true):∀(l:List α) (y:α),y∈l→p y=false→q y=true→(l.filter p).length<(l.filter q).length
 | [],_,hy,_,_=>by cases hy
 | x::l,y,hy,hp,hq=>by
  have le:=Ec h l
  rcases dZ.mp hy with e | e
  ·subst e;simp [hp,hq];omega
  ·have ih:=Um h l y e hp hq
   by_cases hx:p x=true
   ·simp [hx,h x hx,ih]
   ·by_cases Rj:q x=true
    ·simp [hx,Rj];omega
    ·simp [hx,Rj,ih]
theorem Oa{ts:List (List Int)}{a b:List Int}(ha:a∈ts):OC ts a<OC ts b↔cP a b=true:=by
 unfold OC;constructor
 ·intro h
  by_cases c:cP a b=true
  ·exact c
  ·exfalso;have c':cP a b=false:=by simpa using c
   have:(ts.filter fun x=>cP x b).length≤(ts.filter fun x=>cP x a).length:=Ec (fun x hx=>by
    by_cases d:cP b a=true
    ·exact IJ hx d
    ·have e:=OP c' (by simpa using d);rw [e];exact hx) ts
   omega
 ·intro h;have:=Um (p:=fun x=>cP x a) (q:=fun x=>cP x b) (fun x hx=>IJ hx h) ts a ha (YS a) h;omega
section
variable{prog:Program}{w:World}{A:Around}{E:Value→Shared→Prop}{s:Shared}
theorem Qm{Q:Bool→Shared→Prop}:∀{xs ys:List Value} {ns ms:List Int} (i:Nat) (fin:Bool),IntsAre xs ns→IntsAre ys ms→fin=decide (ns.length<ms.length)→Q (cP ns ms) s→KatLex prog w A true fin Q (xs.zip ys) i s
 | [],[],_,_,i,fin,.nil,.nil,hf,h=>by subst hf;exact kat_nil (by simpa [cP]using h)
 | [],_::_,_,_,i,fin,.nil,.cons m u k,hf,h=>by subst hf;exact kat_nil (by simpa [cP]using h)
 | _::_,[],_,_,i,fin,.cons n t h1,.nil,hf,h=>by subst hf;exact kat_nil (by simpa [cP]using h)
 | _::_,_::_,_,_,i,fin,.cons n t h1,.cons m u h2,hf,h=>by
  rw [List.zip_cons_cons];refine kat_cons (wpAny_eqBool_int ?_)
  by_cases e:n=m
  ·subst e;rw [show(n == n)=true by simp];exact kat_yes (Qm (i+1) fin h1 h2 (by rw [hf];simp) (by simpa [cP]using h))
  ·rw [show(n == m)=false by simpa using e];refine kat_no ?_;have h':Q (decide (n<m)) s:=by simpa [cP,e]using h
   by_cases hi:i=0
   ·subst hi;exact oneLt_int h'
   ·rw [show(true&&i == 0)=false by simpa using hi];exact kat_one _ _ (lt_int h')
end
def TupAt(h:Heap)(v:Value)(ns:List Int):Prop:=∃a o xs n,v = .ref a∧h.get? a=some o∧o.cls = .type "tuple"∧o.data = .seq xs n∧IntsAre xs.toList ns
def jM(h:Heap):List Value→List (List Int)→Prop
 | [],[]=>True
 | v::vs,t::ts=>TupAt h v t∧jM h vs ts
 | _,_=>False
theorem jM.len{h:Heap}:∀{vs:List Value} {ts:List (List Int)},jM h vs ts→vs.length=ts.length
 | [],[],_=>rfl
 | _::_,_::_,t=>by simp [jM.len t.2]
 | [],_::_,t=>t.elim
 | _::_,[],t=>t.elim
theorem jM.get{h:Heap}:∀{vs:List Value} {ts:List (List Int)},jM h vs ts→∀i,i<ts.length→TupAt h (vs.getD i .none) (ts.getD i [])
 | [],[],_,i,hi=>by simp at hi
 | _::_,_::_,t,0,_=>t.1
 | _::_,_::_,t,i+1,hi=>by simpa using jM.get t.2 i (by simpa using hi)
 | [],_::_,t,_,_=>t.elim
 | _::_,[],t,_,_=>t.elim
theorem jM.keeps{h h':Heap}(k:∀b o,h.get? b=some o→o.cls = .type "tuple"→h'.get? b=some o):∀{vs:List Value} {ts:List (List Int)},jM h vs ts→jM h' vs ts
 | [],[],_=>trivial
 | _::_,_::_,⟨⟨a,o,xs,n,h1,h2,h3,h4⟩,t⟩=>⟨⟨a,o,xs,n,h1,k _ _ h2 h3,h3,h4⟩,jM.keeps k t⟩
 | [],_::_,t=>t.elim
 | _::_,[],t=>t.elim
theorem jM.Ra{h:Heap}:∀{vs:List Value} {ts:List (List Int)},jM h vs ts→(∀t∈ts,t≠[])→∃fs ns,KatTups h vs fs∧IntsAre fs ns∧fs.length=vs.length
 | [],[],_,_=>⟨[],[],.nil,.nil,rfl⟩
 | _::_,t::ts,⟨⟨a,o,xs,n,h1,h2,h3,h4,h5⟩,r⟩,dY=>by
  obtain⟨fs,ns,k1,k2,k3⟩:=jM.Ra r fun t ht=>dY t (iB _ ht);subst h1;have hn:=dY t sP;obtain⟨l⟩:=xs;cases h5 with
  | nil=>exact absurd rfl hn
  | cons m u hh =>
   exact⟨.int m u::fs,m::ns,.cons h2 h3 h4 rfl k1,.cons m u k2,by simp [k3]⟩
 | [],_::_,t,_=>t.elim
 | _::_,[],t,_=>t.elim
section
variable{prog:Program}{w:World}{A:Around}{E:Value→Shared→Prop}{s:Shared}
theorem anU{vs:List Value}{ts:List (List Int)}(T:jM s.heap vs ts)(dY:∀t∈ts,t≠[])(h2:2≤vs.length){Q:SortKind→Shared→Prop}(h:Q (tuples' true) s):wpAny (model prog w) A (keyKind' vs.toArray) Q E s:=by
 obtain⟨fs,ns,k1,k2,k3⟩:=T.Ra dY;refine kat_kind (T := .type "int") k1 (by omega) (fun v hv=>?_) (by decide) ?_
 ·obtain⟨n,t,rfl⟩:=k2.all v hv;exact Looks.of_pure rfl
 ·have e:(Value.type "int" != Value.type "tuple")=true:=by decide
  rw [e];exact h
def FK(ts:List (List Int))(p:List Nat):Prop:=p.Perm (List.range ts.length)∧p.Pairwise fun i j=>cP (ts.getD j []) (ts.getD i [])=false
theorem getD_mem{ts:List (List Int)}{i:Nat}(h:i<ts.length):ts.getD i []∈ts:=by
 rw [Yk,gK h];exact RY h
end
theorem Qf{α β:Type}{f:α→β}:∀{r:List α} {l:List β},l.Perm (r.map f)→∃r':List α,r'.Perm r∧l=r'.map f
 | [],l,h=>⟨[],.refl _,by simpa using h⟩
 | a::r,l,h=>by
  have hm:f a∈l:=h.mem_iff.mpr (by simp);obtain⟨l1,l2,rfl⟩:=List.append_of_mem hm;have h2:(l1++l2).Perm (r.map f):=by
   have:(f a::(l1++l2)).Perm (f a::r.map f):=List.perm_middle.symm.trans h;exact this.cons_inv
  obtain⟨r',p,e⟩:=Qf h2;obtain⟨r1,r2,rfl,e1,e2⟩:=List.map_eq_append_iff.mp e.symm;exact⟨r1++a::r2,List.perm_middle.trans (p.cons a),by simp [e1,e2]⟩
def UH(h:Heap)(v:Value):List Int:=match v with
 | .ref a=>(match h.get? a with
  | some o=>(match o.data with
   | .seq xs _=>xs.toList.map numOf
   | _=>[])
  | none=>[])
 | _=>[]
theorem TupAt.val{h:Heap}{v:Value}{t:List Int}(T:TupAt h v t):UH h v=t:=by
 obtain⟨a,o,xs,n,rfl,h2,h3,h4,h5⟩:=T;unfold UH;simp only [h2,h4];exact h5.nums
section
variable{prog:Program}{w:World}{A:Around}{E:Value→Shared→Prop}{s:Shared}
def tupP(h:Heap)(ts:List (List Int))(p:Keyed):Prop:=p.1=p.2∧∃t∈ts,TupAt h p.1 t
def DE(h:Heap)(ts:List (List Int))(p:Keyed):Int:=OC ts (UH h p.1)
theorem am4{vs:List Value}{ts:List (List Int)}(_:jM s.heap vs ts):gJ (model prog w) A E s (tuples' true) (tupP s.heap ts) (DE s.heap ts):=by
 rintro⟨x,x2⟩ ⟨y,y2⟩ ⟨_,t,ht,Tx⟩ ⟨_,u,hu,Ty⟩ st Q hk h;have e:decide (DE s.heap ts (x,x2)<DE s.heap ts (y,y2))=cP t u:=by
  unfold DE;rw [Tx.val,Ty.val];have q:=Oa (ts:=ts) (b:=u) ht
  by_cases c:cP t u=true
  ·rw [c];exact tJ (q.mpr c)
  ·have c':cP t u=false:=by simpa using c
   rw [c'];exact lW fun z=>c (q.mp z)
 rw [e]at h;obtain⟨a,o,xs,n,e1,h2,h3,h4,h5⟩:=Tx;obtain⟨b,o',ys,n',xK,oE,h3',xD,Ts⟩:=Ty;dsimp only at e1 xK;subst e1 xK;rw [lt'_eq];refine aV (rZ ?_);rw [hk];have l1:=h5.length;have l2:=Ts.length;refine aV (yK (yN (kat_lt h2 h4 oE xD (Qm 0 _ h5 Ts ?_ ⟨rfl,?_⟩))))
 ·rw [← eY,← eY,l1,l2]
 ·exact bQ h
theorem jM.mem{h:Heap}:∀{vs:List Value} {ts:List (List Int)},jM h vs ts→∀v∈vs,∃t∈ts,TupAt h v t
 | [],[],_,v,hv=>by cases hv
 | _::_,t::ts,T,v,hv=>by
  rcases dZ.mp hv with e | e
  ·subst e;exact⟨t,List.mem_cons_self ..,T.1⟩
  ·obtain⟨u,hu,q⟩:=T.2.mem v e;exact⟨u,iB _ hu,q⟩
 | [],_::_,t,_,_=>t.elim
 | _::_,[],t,_,_=>t.elim
theorem abL{h:Heap}{vs:List Value}{ts:List (List Int)}(T:jM h vs ts):∀x∈(pairsOf vs).toList,tupP h ts x:=fun x hx=>by
 rw [pairsOf_toList]at hx;obtain⟨e,m⟩:=mem_zip_self hx;exact⟨e,T.mem _ m⟩
theorem asN{α:Type}(l:List α)(d:α):(List.range l.length).map (fun i=>l.getD i d)=l:=by
 apply List.ext_getElem
 ·simp
 ·intro i h1 h2;simp [h2]
theorem abK{h:Heap}{vs:List Value}{ts:List (List Int)}(T:jM h vs ts){arr:Array Keyed}(hp:arr.Perm (pairsOf vs))(hs:cF (DE h ts) arr.toList):∃p,FK ts p∧arr.map (·.2)=List.toArray (p.map fun i=>vs.getD i Value.none):=by
 have hl:arr.toList.Perm (vs.zip vs):=by rw [← pairsOf_toList];exact MB.mp hp
 have hz:vs.zip vs=(List.range vs.length).map fun i=>(vs.getD i Value.none,vs.getD i Value.none):=by
  have:vs.zip vs=vs.map fun v=>(v,v):=by
   clear T hp hs hl
   induction vs with
   | nil=>rfl
   | cons v vs ih=>rw [List.zip_cons_cons,ih];rfl
  rw [this]
  conv=>lhs;rw [← asN vs Value.none]
  rw [tS];rfl
 rw [hz]at hl;obtain⟨p,p1,p2⟩:=Qf hl;refine⟨p,⟨by rw [← T.len];exact p1,?_⟩,?_⟩
 ·rw [p2]at hs;have cX:=List.pairwise_map.mp hs;refine List.Pairwise.imp_of_mem (fun{i j} hi hj q=>?_) cX;have li:i<ts.length:=by have:=p1.mem_iff.mp hi;rw [← T.len];simpa using this
  have lj:j<ts.length:=by have:=p1.mem_iff.mp hj;rw [← T.len];simpa using this
  unfold DE at q;rw [(T.get i li).val,(T.get j lj).val]at q;have r:=Oa (ts:=ts) (b:=ts.getD i []) (getD_mem lj)
  by_cases c:cP (ts.getD j []) (ts.getD i [])=true
  ·have:=r.mpr c;omega
  ·simpa using c
 ·apply Array.toList_inj.mp;rw [Array.toList_map,p2,tS];rfl
theorem anE{a:Addr}{vs:List Value}{ts:List (List Int)}{n:Nat}{P:PySem.Fin→Shared→Prop}(ho:s.heap.get? a=some (seqObj "list" vs.toArray n))(T:jM s.heap vs ts)(dY:∀t∈ts,t≠[])(hz:vs.length≤sizeLine)
  (h:∀p:List Nat,FK ts p→P (.done (.ret .none)) { s with heap:=sortedHeap s.heap a vs (List.toArray (p.map fun i=>vs.getD i Value.none)) }) :
  wpAny (model prog w) A (Builtin.«list.sort» ⟨[.ref a],[]⟩) P E s:=by
 rw [list_sort_plain];have hlen:=T.len;have ha:a<s.heap.objs.size:=cR ho;refine aE (listItems_at ho rfl ?_);refine aE (IH ho rfl ?_ (by rw [fL];exact hz) rL);obtain⟨e1,rS⟩:∃e1,(s.heap.update a (Obj.mapSeq fun _=>(#[]:Array Value))).get? a=some (seqObj "list" #[] e1):=⟨_,get?_update_seq ho (fun _=>#[])⟩;refine aE (HA rS rfl ?_);refine aE (wpAny_newTuple ?_ (by show vs.length≤_;exact hz));refine aE (MJ ?_ rL);refine pE ?_;have old:∀b o,s.heap.get? b=some o→o.cls = .type "tuple"→(((s.heap.update a (Obj.mapSeq fun _=>(#[]:Array Value))).push (seqObj "tuple" vs.toArray 0)).push (seqObj "list" #[] 0)).get? b=some o:=fun b o hb hc=>by
  have hba:b≠a:=fun z=>by subst z;rw [ho]at hb;cases hb;have hc:Value.type "list" = Value.type "tuple":=hc;exact absurd hc (by decide)
  have bG:b<s.heap.objs.size:=cR hb;rw [CB _ _ _ (by rw [size_push',BZ];exact dH (vI bG)),CB _ _ _ (by rw [BZ];exact dH bG),Heap.get?_update_ne _ _ _ _ hba];exact hb
 have uT:(((s.heap.update a (Obj.mapSeq fun _=>(#[]:Array Value))).push (seqObj "tuple" vs.toArray 0)).push (seqObj "list" #[] 0)).get? a=some (seqObj "list" #[] e1):=by
  rw [CB _ _ _ (by rw [size_push',BZ];exact dH (vI ha)),CB _ _ _ (by rw [BZ];exact dH ha)];exact rS
 show wpAny (model prog w) A _ P E { s with heap:=((s.heap.update a (Obj.mapSeq fun _=>(#[]:Array Value))).push (seqObj "tuple" vs.toArray 0)).push (seqObj "list" #[] 0) };dsimp only
 by_cases h2:vs.toArray.size<2
 ·have oE:vs.length<2:=by simpa using h2
  rw [if_pos h2,if_pos h2];refine aE (aQ ?_);rw [StateT.run_pure];refine aE (aQ ?_);dsimp only;have eo:(arrOf (SortSt.mk' general' (vs.toArray.zip vs.toArray) #[] 7 none)).map (·.2)=List.toArray ((List.range vs.length).map fun i=>vs.getD i Value.none):=by
   show(vs.toArray.zip vs.toArray).map (·.2)=_
   match vs,oE with
   | [],_=>simp
   | [v],_=>simp [List.range_succ]
  rw [eo];refine aE (HA uT rfl ?_);refine aE (IH uT rfl ?_ rL (by rw [fL,fW,Hu];omega));simp only [Fc,iD,eF];refine aQ (h (List.range vs.length) ⟨by rw [hlen],?_⟩)
  match vs,oE with
  | [],_=>exact .nil
  | [v],_=>exact List.pairwise_singleton _ _
 ·have oE:2≤vs.length:=by simpa using h2
  rw [if_neg h2,if_neg h2];have T':=T.keeps old;refine aE (anU T' dY oE ?_);refine aE (qE (Js (am4 T') (x0:=pairsOf vs) (st:=SortSt.mk' (tuples' true) (vs.toArray.zip vs.toArray) #[] 7 none)
   (Q:=fun _ aG=>failedOf aG=none∧∃p,FK ts p∧(arrOf aG).map (·.2)=List.toArray (p.map fun i=>vs.getD i Value.none))
   (abL T') rfl rfl rfl rfl fun aG a1 a2 a3=>⟨a2,abK T' a1 a3⟩) ?_ fun _ _ e=>e)
  rintro⟨⟨⟩,aG⟩ s' ⟨rfl,hf,p,sg,apL⟩;dsimp only;rw [apL];refine aE (HA uT rfl ?_);refine aE (IH uT rfl ?_ rL (by rw [fL,fW,sg.1.length_eq,Hu];omega));rw [hf];simp only [Fc,iD,eF];exact aQ (h _ sg)
theorem agN{l:Addr}{vs:List Value}{ts:List (List Int)}{Q:Value→Shared→Prop}(hl:s.heap.IsList l vs.toArray)(T:jM s.heap vs ts)(dY:∀t∈ts,t≠[])(hz:vs.length≤sizeLine)
  (h:∀p:List Nat,FK ts p→Q (.ref (s.heap.objs.size+1)) { s with heap:=sortedAll s.heap vs (List.toArray (p.map fun i=>vs.getD i Value.none)) }) :
  wpAny (model prog w) A (call (.builtin "sorted") [.ref l]) Q E s:=by
 refine Yx kind_sorted plain_sorted entry_sorted (args_sorted1 _) ?_;unfold Builtin.«sorted»;refine aE (m:=checkCount "sorted" 1 1 _) (aQ ?_);refine aE (collect_list hl ?_ hz);refine aE (MJ ?_ (by show vs.length≤_;exact hz));have hsz:((s.heap.push (seqObj "list" #[] 0)).update s.heap.objs.size (Obj.mapSeq (· ++ vs.toArray))).objs.size=s.heap.objs.size+1:=by
  rw [BZ,size_push']
 have rR:(((s.heap.push (seqObj "list" #[] 0)).update s.heap.objs.size (Obj.mapSeq (· ++ vs.toArray))).push (seqObj "list" vs.toArray 0)).get? (s.heap.objs.size+1)=some (seqObj "list" vs.toArray 0):=by
  rw [← hsz];exact gM _ rfl
 have keep:∀b o,s.heap.get? b=some o→(((s.heap.push (seqObj "list" #[] 0)).update s.heap.objs.size (Obj.mapSeq (· ++ vs.toArray))).push (seqObj "list" vs.toArray 0)).get? b=some o:=fun b o q=>by
  have bG:b<s.heap.objs.size:=cR q;rw [CB _ _ _ (by rw [hsz];exact dH (vI bG)),Heap.get?_update_ne _ _ _ _ (dH bG),CB _ _ _ (dH bG)];exact q
 show wpAny _ _ _ _ _ { s with heap:=((s.heap.push (seqObj "list" #[] 0)).update s.heap.objs.size (Obj.mapSeq (· ++ vs.toArray))).push (seqObj "list" vs.toArray 0) };rw [hsz];refine aE (pE (qF slot_list_sort ⟨_,rR,rfl⟩ entry_list_sort (anE rR (T.keeps fun b o q _=>keep b o q) dY hz fun p hp=>⟨_,rfl,?_⟩) (args_list_sort _)));exact aQ ⟨_,rfl,h p hp⟩
end
end KS
namespace V2
open PySem PySem.Spec PyProof.Rows L2 KS
def oQ(ts:List (List Int)):List (List Int):=ts.mergeSort fun a b=>!cP b a
theorem anG{a b c:List Int}(h1:cP b a=false)(h2:cP c b=false):cP c a=false:=by
 by_cases z:cP c a=true
 ·by_cases y:cP a b=true
  ·rw [IJ z y]at h2;cases h2
  ·have e:=OP (by simpa using y) h1;subst e;rw [z]at h2;cases h2
 ·simpa using z
theorem anH(a b:List Int):cP b a=false∨cP a b=false:=by
 by_cases z:cP b a=true
 ·right
  by_cases y:cP a b=true
  ·have:=IJ z y;rw [YS]at this;cases this
  ·simpa using y
 ·left;simpa using z
theorem NO(ts:List (List Int)):(oQ ts).Perm ts:=List.mergeSort_perm ts _
theorem Mq(ts:List (List Int)):(oQ ts).Pairwise fun a b=>cP b a=false:=by
 have h:=List.pairwise_mergeSort (le:=fun a b:List Int=>!cP b a) (fun a b c h1 h2=>by
  simp only [SU]at h1 h2 ⊢;exact anG h1 h2) (fun a b=>by
  rcases anH a b with z | z <;> simp [z]) ts
 exact h.imp fun h=>by simpa using h
theorem Mp{ts us:List (List Int)}(p:us.Perm ts)(h:us.Pairwise fun a b=>cP b a=false):us=oQ ts :=
 List.Perm.eq_of_pairwise (le:=fun a b=>cP b a=false) (fun a b _ _ h1 h2=>OP h2 h1) h (Mq ts) (p.trans (NO ts).symm)
theorem agQ(ts:List (List Int)):(oQ ts).length=ts.length:=(NO ts).length_eq
theorem range_getD{α:Type}(l:List α)(d:α):(List.range l.length).map (fun i=>l.getD i d)=l:=by
 apply List.ext_getElem
 ·simp
 ·intro i h1 h2;simp [h2]
theorem agM{ts:List (List Int)}{p:List Nat}(h:FK ts p):p.map (fun i=>ts.getD i [])=oQ ts:=by
 refine Mp ?_ ?_
 ·have:=h.1.map fun i=>ts.getD i [];rwa [range_getD]at this
 ·exact List.pairwise_map.mpr h.2
def BH(H:Hp):List V→List (List Int)→Prop
 | [],[]=>True
 | y::ys,t::ts=>(∃b,y = .ref b∧H b=some (.tup (t.map V.int)))∧BH H ys ts
 | _,_=>False
section
variable{X:Cx}{W:WX}
theorem Lj{pins:List (Addr×Obj)}{σ:L2.St}{H:Hp}{s:Shared}(I:Inv X pins σ H s):∀{ys:List V} {us:List Value} {ts:List (List Int)},Vals ys us→BH H ys ts→jM s.heap us ts
 | [],[],[],.nil,_=>trivial
 | _::_,_::_,t::ts,.cons r rs,⟨⟨b,e,hb⟩,T⟩=>by
  subst e;cases r;obtain⟨_,aN,vi,⟨o,ho,jI,n,hdt⟩⟩:=I.aK b _ hb;exact⟨⟨b,o,_,n,rfl,ho,jI,hdt,by simpa using intsAre_of vi⟩,Lj I rs T⟩
 | _::_,_::_,[],_,T=>T.elim
 | [],[],_::_,_,T=>T.elim
theorem Kw:∀{ys:List V} {us:List Value},Vals ys us→∀i,i<ys.length→RelV (ys.getD i .bB) (us.getD i .none)
 | _::_,_::_,.cons r rs,0,_=>r
 | _::_,_::_,.cons r rs,i+1,h=>by simpa using Kw rs i (by simpa using h)
theorem Ku{ys:List V}{us:List Value}(r:Vals ys us):∀{p:List Nat},(∀i∈p,i<ys.length)→Vals (p.map fun i=>ys.getD i .bB) (p.map fun i=>us.getD i .none)
 | [],_ => .nil
 | i::p,h => .cons (Kw r i (h i sP)) (Ku r fun j hj=>h j (iB _ hj))
theorem BH.len{H:Hp}:∀{ys:List V} {ts:List (List Int)},BH H ys ts→ys.length=ts.length
 | [],[],_=>rfl
 | _::_,_::_,t=>by simp [BH.len t.2]
 | [],_::_,t=>t.elim
 | _::_,[],t=>t.elim
theorem au9:qC X (.builtin "sorted") (fun xs H Q=>∃(a:Addr) (ys:List V) (ts:List (List Int)),xs=[.ref a]∧fK X.K H a ys∧BH H ys ts∧(∀t∈ts,t≠[])∧ys.length<4000∧∀p,FK ts p→∀l,H l=none→Q (.ref l) (upd H l (.lst (p.map fun i=>ys.getD i .bB)))):=by
 intro pins s σ H xs us Q I r h;obtain⟨a,ys,ts,rfl,hq,T,dY,JU,q⟩:=h;obtain⟨u,rfl,ru⟩:=vals1 r;cases ru;obtain⟨aN,rv,pl,hz⟩:=I.list hq;have hl:aN.length=ys.length:=by rw [← rv.length]
 refine agN pl.isList (Lj I rv T) dY (by rw [qK];omega) fun p hp=>?_;have lV:∀i∈p,i<ys.length:=fun i hi=>by
  have:=hp.1.mem_iff.mp hi;rw [T.len];simpa using this
 have gF:p.length=ys.length:=by rw [hp.1.length_eq,Hu,T.len]
 obtain⟨e,he⟩:=sortedAll_at s.heap aN (List.toArray (p.map fun i=>aN.getD i Value.none));refine⟨.ref (s.heap.objs.size+1),_,I.laid (t':=s.toks) (o := .lst (p.map fun i=>ys.getD i .bB)) (fun b o q=>sortedAll_old q) (xV _) ?_,rfl,q p hp _ (I.aK.fresh (xV _))⟩;exact⟨by rw [fW,gF,qK];omega,p.map (fun i=>aN.getD i Value.none),e,Ku rv lV,he⟩
def tI(t:List Int):A := .tup (t.map A.int)
def NA:A→Option (List Int)
 | .tup ds=>(intsOf ds).bind fun ns=>if ns=[]then none else some ns
 | _=>none
def vY:List A→Option (List (List Int))
 | []=>some []
 | a::r=>(NA a).bind fun t=>(vY r).map fun ts=>t::ts
theorem Rg:∀{ds:List A} {ns:List Int},intsOf ds=some ns→ds=ns.map A.int
 | [],ns,h=>by simp only [intsOf,jO]at h;subst h;rfl
 | a::ds,ns,h=>by
  cases a with
  | int i =>
   simp only [intsOf,BK]at h;obtain⟨ms,h1,rfl⟩:=h;simp [Rg h1]
  | _=>simp [intsOf]at h
theorem Lk:∀{ds:List A} {ts:List (List Int)},vY ds=some ts→ds=ts.map tI∧∀t∈ts,t≠[]
 | [],ts,h=>by simp only [vY,jO]at h;subst h;simp
 | a::ds,ts,h=>by
  simp only [vY,BL,BK]at h;obtain⟨t,h1,us,h2,rfl⟩:=h;obtain⟨e,hn⟩:=Lk h2;cases a with
  | tup xs =>
   simp only [NA,BL]at h1;obtain⟨ns,h3,h4⟩:=h1;split at h4
   ·cases h4
   ·rename_i dY;cases h4;refine⟨by simp [tI,Rg h3,← e],fun t ht=>?_⟩
    rcases dZ.mp ht with z | z
    ·rw [z];exact dY
    ·exact hn t z
  | _=>cases h1
theorem atX{K:Frag}{G:Hp}{ι:List Addr}{xs:List V}{ns:List Int}(d:aO K G ι xs (ns.map A.int)):xs=ns.map V.int:=IM (EC ns) d
theorem Ll{K:Frag}{G H:Hp}{ι:List Addr}(sub:kM G H):∀{ts:List (List Int)} {ys:List V},aO K G ι ys (ts.map tI)→BH H ys ts
 | [],ys,d=>by rw [BR,qP]at d;subst d;trivial
 | t::ts,ys,d=>by
  obtain⟨x,r,rfl,d1,d2⟩:=d.lJ;simp only [tI,Den]at d1;obtain⟨b,xs,rfl,hG,dl⟩:=d1;rw [atX dl]at hG;exact⟨⟨b,rfl,sub _ _ hG⟩,Ll sub d2⟩
theorem Ve{K:Frag}{G:Hp}{ι:List Addr}:∀{ts:List (List Int)} {ys:List V},aO K G ι ys (ts.map tI)→∀i,i<ts.length→Den K G ι (ys.getD i .bB) (tI (ts.getD i []))
 | t::ts,ys,d,i,h=>by
  obtain⟨x,r,rfl,d1,d2⟩:=d.lJ;cases i with
  | zero=>exact d1
  | succ i=>simpa using Ve d2 i (by simpa using h)
theorem Vd{K:Frag}{G:Hp}{ι:List Addr}{ts:List (List Int)}{ys:List V}(d:aO K G ι ys (ts.map tI)):∀{p:List Nat},(∀i∈p,i<ts.length)→aO K G ι (p.map fun i=>ys.getD i .bB) ((p.map fun i=>ts.getD i []).map tI)
 | [],_=>by rw [BR,BR,BR,qP]
 | i::p,h => .cons (Ve d i (h i sP)) (Vd d fun j hj=>h j (iB _ hj))
@[simp] def ER(c:Bool)(as:List A):Mo A:=fun Ω=>match as with
 | [a]=>(match (cU Ω a).bind vY with
  | some ts=>if ts.length<4000 then uO c ((oQ ts).map tI) Ω else none
  | none=>none)
 | _=>none
theorem Wb(c:Bool):vQ X W (.builtin "sorted") (ER c):=by
 refine⟨_,au9,?_⟩;intro G ι Ω H σ xs as Q w d h;unfold ER at h;split at h
 ·rename_i a;split at h
  ·rename_i ts e;split at h
   ·rename_i JU;obtain⟨x,rfl,d1⟩:=xM d;rw [BL]at e;obtain⟨ds,e1,e2⟩:=e;obtain⟨p,ys,rfl,h2,h3⟩:=rM w d1 e1;obtain⟨e3,dY⟩:=Lk e2;rw [e3]at h3;have hlen:ys.length=ts.length:=by rw [h3.length];simp
    refine⟨p,ys,ts,rfl,h2,Ll w.sub h3,dY,by omega,fun q hq l hl=>?_⟩;have dp:=Vd h3 (p:=q) fun i hi=>by have:=hq.1.mem_iff.mp hi;simpa using this
    rw [agM hq]at dp;exact zJ w hl dp h
   ·exact False.elim h
  ·exact False.elim h
 ·exact False.elim h
end
end V2
namespace M
open PySem V2
noncomputable def Ws:MS :=
 (cH (DB (aS sZ (aH aT (aH (cT "int") a0))) (Lb (aS sZ (aH aT (aH (cT "bool") a0))))))
noncomputable def vP:List A→Mo A:=dN 1 Ws
end M
namespace V2
open PySem PySem.Spec PyProof.Rows L2
def putD{α:Type}(f:Str)(v:α):List (Str×α)→List (Str×α)
 | []=>[(f,v)]
 | (g,x)::r=>if g=f then(g,v)::r else(g,x)::putD f v r
@[simp] def Fd.cell:Fd→Option Cell
 | .lst ds=>some (.lst ds)
 | .bD aB=>some (.bD aB)
 | .val _=>none
theorem DW{α:Type}{f:Str}:∀{l:List (Str×α)} {x:α},l.lookup f=some x→∃i,l[i]? = some (f,x)∧∀y,putD f y l=l.set i (f,y)
 | [],_,h=>by simp at h
 | (g,z)::r,x,h=>by
  by_cases e:g=f
  ·subst e;simp [List.lookup]at h;subst h;exact⟨0,rfl,fun y=>by simp [putD]⟩
  ·have hb:(f == g)=false:=tL.mpr (cA e);simp only [List.lookup,hb]at h;obtain⟨i,h1,h2⟩:=DW h;exact⟨i+1,by simpa using h1,fun y=>by simp [putD,e,h2 y]⟩
theorem HI{α:Type}{f g:Str}{v:α}:∀{l:List (Str×α)},(putD f v l).lookup g=if g=f then some v else l.lookup g
 | []=>by
  by_cases e:g=f
  ·subst e;simp [putD]
  ·have hb:(g == f)=false:=tL.mpr e;simp [putD,List.lookup,hb,e]
 | (k,x)::r=>by
  have ih:=HI (f:=f) (g:=g) (v:=v) (l:=r)
  by_cases h:k=f
  ·subst h
   by_cases e:g=k
   ·subst e;simp [putD]
   ·have hb:(g == k)=false:=tL.mpr e;simp [putD,List.lookup,hb,e]
  ·by_cases e:g=k
   ·subst e;simp [putD,h]
   ·have hb:(g == k)=false:=tL.mpr e;simp only [putD,if_neg h,List.lookup,hb];exact ih
theorem zF{α:Type}{f:Str}{v w:α}:∀{l:List (Str×α)},putD f w (putD f v l)=putD f w l
 | []=>by simp [putD]
 | (k,x)::r=>by
  by_cases h:k=f
  ·simp [putD,h]
  ·simp [putD,h,zF (l:=r)]
theorem Oq{α:Type}{f:Str}{v:α}:∀{l:List (Str×α)},l.lookup f=some v→putD f v l=l
 | [],h=>by simp at h
 | (k,x)::r,h=>by
  by_cases e:k=f
  ·subst e;simp [List.lookup]at h;subst h;simp [putD]
  ·have hb:(f == k)=false:=tL.mpr (cA e);simp only [List.lookup,hb]at h;simp [putD,e,Oq h]
section
variable{K:Frag}{G H:Hp}{ι:List Addr}{Ω:aI}
theorem tH:∀{ws:List (Str×V)} {fs:List (Str×Fd)},iP K G ι H ws fs↔ws.length=fs.length∧∀(i:Nat) (h:Str) (v:V) (g:Str) (fd:Fd),ws[i]? = some (h,v)→fs[i]? = some (g,fd)→h=g∧iC K G ι H v fd
 | [],[]=>⟨fun _=>⟨rfl,fun i h v g fd q=>by simp at q⟩,fun _=>trivial⟩
 | [],_::_=>⟨fun h=>h.elim,fun h=>by simp at h⟩
 | _::_,[]=>⟨fun h=>h.elim,fun h=>by simp at h⟩
 | (f,v)::ws,(g,d)::fs=>by
  constructor
  ·rintro⟨h1,h2,h3⟩;obtain⟨q1,q2⟩:=tH.mp h3;refine⟨by simp [q1],fun i h v' g' fd a b=>?_⟩;cases i with
   | zero=>simp at a b;obtain⟨rfl,rfl⟩:=a;obtain⟨rfl,rfl⟩:=b;exact⟨h1,h2⟩
   | succ i=>exact q2 i h v' g' fd (by simpa using a) (by simpa using b)
  ·rintro⟨q1,q2⟩;obtain⟨h1,h2⟩:=q2 0 f v g d rfl rfl;exact⟨h1,h2,tH.mpr ⟨by simpa using q1,fun i h v' g' fd a b=>q2 (i+1) h v' g' fd (by simpa using a) (by simpa using b)⟩⟩
theorem iP.look{ws:List (Str×V)}{fs:List (Str×Fd)}{f:Str}{fd:Fd}(h:iP K G ι H ws fs)(l:fs.lookup f=some fd):∃v,ws.lookup f=some v∧iC K G ι H v fd:=by
 induction fs generalizing ws with
 | nil=>simp at l
 | cons p fs ih =>
  obtain⟨g,d⟩:=p;cases ws with
  | nil=>exact h.elim
  | cons q ws =>
   obtain⟨g',v⟩:=q;obtain⟨e,h2,h3⟩:=h;subst e
   by_cases hb:(f == g')=true
   ·simp only [List.lookup,hb]at l ⊢;cases l;exact⟨v,rfl,h2⟩
   ·have hb:(f == g')=false:=by simpa using hb
    simp only [List.lookup,hb]at l ⊢;exact ih h3 l
theorem iP.al3{ws:List (Str×V)}{fs:List (Str×Fd)}{f:Str}(h:iP K G ι H ws fs)(l:fs.lookup f=none):ws.lookup f=none:=by
 induction fs generalizing ws with
 | nil =>
  cases ws with
  | nil=>rfl
  | cons q ws=>exact h.elim
 | cons p fs ih =>
  obtain⟨g,d⟩:=p;cases ws with
  | nil=>exact h.elim
  | cons q ws =>
   obtain⟨g',v⟩:=q;obtain⟨e,h2,h3⟩:=h;subst e
   by_cases hb:(f == g')=true
   ·simp only [List.lookup,hb]at l;cases l
   ·have hb:(f == g')=false:=by simpa using hb
    simp only [List.lookup,hb]at l ⊢;exact ih h3 l
theorem iP.put{ws:List (Str×V)}{fs:List (Str×Fd)}{f:Str}{fd:Fd}{v:V}(h:iP K G ι H ws fs)(d:iC K G ι H v fd):iP K G ι H (iO f v ws) (putD f fd fs):=by
 induction fs generalizing ws with
 | nil =>
  cases ws with
  | nil=>exact⟨rfl,d,trivial⟩
  | cons q ws=>exact h.elim
 | cons p fs ih =>
  obtain⟨g,x⟩:=p;cases ws with
  | nil=>exact h.elim
  | cons q ws =>
   obtain⟨g',v'⟩:=q;obtain⟨e,h2,h3⟩:=h;subst e
   by_cases hg:g'=f
   ·simp only [iO,putD,if_pos hg];exact⟨rfl,d,h3⟩
   ·simp only [iO,putD,if_neg hg];exact⟨rfl,h2,ih h3⟩
theorem iP.len{ws:List (Str×V)}{fs:List (Str×Fd)}(h:iP K G ι H ws fs):ws.length=fs.length:=(tH.mp h).1
theorem iC.ak6{v:V}{fd:Fd}{c:Cell}(h:iC K G ι H v fd)(hc:fd.cell=some c):∃b,v = .ref b∧b∉ι∧(∃o,H b=some o)∧nM K G ι H b c:=by
 cases fd with
 | val a=>cases hc
 | lst ds=>cases hc;obtain⟨b,xs,h1,h2,h3,h4,h5⟩:=h;exact⟨b,h1,h3,⟨_,h4⟩,h2,xs,h4,h5⟩
 | bD aB=>cases hc;obtain⟨b,ws,h1,h2,h3,h4,h5,h6⟩:=h;exact⟨b,h1,h3,⟨_,h4⟩,h2,ws,h4,h5,h6⟩
theorem iC.HQ{b:Addr}{fd:Fd}{c:Cell}(hc:fd.cell=some c)(hb:b∉ι)(h:nM K G ι H b c):iC K G ι H (.ref b) fd:=by
 cases fd with
 | val a=>cases hc
 | lst ds=>cases hc;obtain⟨h1,xs,h2,h3⟩:=h;exact⟨b,xs,rfl,h1,hb,h2,h3⟩
 | bD aB=>cases hc;obtain⟨h1,ws,h2,h3,h4⟩:=h;exact⟨b,ws,rfl,h1,hb,h2,h3,h4⟩
theorem Fd.au3{fd:Fd}{c:Cell}(hc:fd.cell=some c):fd.own=true:=by cases fd <;> first | rfl | cases hc
theorem Fd.au4{fd:Fd}{c:Cell}(hc:fd.cell=some c):c.noOwn=true:=by cases fd <;> cases hc <;> rfl
theorem iC.lend{b:Addr}{v:V}{fd:Fd}(h:iC K G ι H v fd)(hb:fd.own=true→v ≠ .ref b):iC K G (ι++[b]) H v fd:=by
 cases fd with
 | val a=>exact Den.ext (Ext.cell b) h
 | lst ds =>
  obtain⟨b',xs,h1,h2,h3,h4,h5⟩:=h;exact⟨b',xs,h1,h2,by simp;exact⟨h3,fun e=>hb rfl (by rw [h1,e])⟩,h4,h5.ext (Ext.cell b)⟩
 | bD aB =>
  obtain⟨b',ws,h1,h2,h3,h4,h5,h6⟩:=h;exact⟨b',ws,h1,h2,by simp;exact⟨h3,fun e=>hb rfl (by rw [h1,e])⟩,h4,h5,h6.ext (Ext.cell b)⟩
theorem Wd.unfold{s:Nat}{cls f:Str}{fs:List (Str×Fd)}{fd:Fd}{c:Cell}(w:Wd K G ι Ω H)(hs:Ω[s]? = some (.ins cls fs))(hf:fs.lookup f=some fd)(hc:fd.cell=some c) :
  ∃b,Wd K G (ι++[b]) (Ω.set s (.ins cls (putD f (.val (.aD Ω.length)) fs))++[c]) H:=by
 obtain⟨a,ha⟩:=w.addr hs;obtain⟨g,C,dx,ws,h0,h1,h2⟩:=w.aD s _ a hs ha;obtain⟨i0,e1,e2⟩:=DW hf;obtain⟨q1,q2⟩:=tH.mp h2;have uX:i0<fs.length:=(bO.mp e1).1;obtain⟨⟨k0,v0⟩,e3⟩:∃p,ws[i0]? = some p:=⟨ws[i0]'(by omega),gK _⟩;obtain⟨rfl,o0⟩:=q2 i0 k0 v0 f fd e3 e1;obtain⟨b,rfl,hb,⟨o,ho⟩,hC⟩:=o0.ak6 hc;have Pk:hZ H ι Ω s i0 b:=⟨a,cls,fs,C,dx,ws,_,_,fd,ha,hs,h1,e1,Fd.au3 hc,e3⟩;have oS:s<Ω.length:=(bO.mp hs).1;have hι:∀k,k<Ω.length→(ι++[b])[k]? = ι[k]?:=fun k hk=>eK (by rw [w.len];exact hk);have hΩ:∀k,k<Ω.length→(Ω.set s (.ins cls (putD k0 (.val (.aD Ω.length)) fs))++[c])[k]? = (Ω.set s (.ins cls (putD k0 (.val (.aD Ω.length)) fs)))[k]?:=fun k hk=>eK (by simpa using hk);refine⟨b,w.sub,?_,by simp [w.len],fun x hx=>?_,fun k c' a' z1 z2=>?_,fun b' k i k' i' z1 z2=>?_⟩
 ·rw [Hs];exact⟨w.inj,by simp,fun x hx y hy=>by simp at hy;subst hy;exact fun e=>hb (e ▸ hx)⟩
 ·rcases iU.mp hx with h | h
  ·exact w.live x h
  ·simp at h;subst h;exact⟨o,ho⟩
 ·by_cases hk:k<Ω.length
  ·rw [hι k hk]at z2;rw [hΩ k hk]at z1
   by_cases nX:k=s
   ·subst nX;rw [gX oS]at z1;cases z1;rw [ha]at z2;cases z2;refine⟨g,C,dx,ws,h0,h1,tH.mpr ⟨by rw [e2];simpa using q1,fun j h v g' fd' y1 y2=>?_⟩⟩;rw [e2]at y2
    by_cases hj:j=i0
    ·subst hj;rw [gX uX]at y2;cases y2;rw [e3]at y1;cases y1;refine⟨rfl,?_⟩;simp only [iC,Den];exact⟨b,rfl,by rw [← w.len];simp⟩
    ·rw [fY (cA hj)]at y2;obtain⟨r1,r2⟩:=q2 j h v g' fd' y1 y2;refine⟨r1,r2.lend fun ow ev=>hj ?_⟩;subst ev;exact(w.sep b _ j _ i0 ⟨a,cls,fs,C,dx,ws,_,_,fd',ha,hs,h1,y2,ow,y1⟩ Pk).2
   ·rw [fY (cA nX)]at z1;have q:=w.aD k c' a' z1 z2;cases c' with
    | lst ds=>obtain⟨y1,xs,y2,y3⟩:=q;exact⟨y1,xs,y2,y3.ext (Ext.cell b)⟩
    | bD aB=>obtain⟨y1,iQ,y2,y3,y4⟩:=q;exact⟨y1,iQ,y2,y3,y4.ext (Ext.cell b)⟩
    | ins oJ mQ =>
     obtain⟨y0,C',pR,iQ,y1,y2,y3⟩:=q;obtain⟨p1,p2⟩:=tH.mp y3;refine⟨y0,C',pR,iQ,y1,y2,tH.mpr ⟨p1,fun j h v g' fd' y4 y5=>?_⟩⟩;obtain⟨r1,r2⟩:=p2 j h v g' fd' y4 y5;refine⟨r1,r2.lend fun ow ev=>nX ?_⟩;subst ev;exact(w.sep b k j s i0 ⟨a',oJ,mQ,C',pR,iQ,_,_,fd',z2,z1,y2,y5,ow,y4⟩ Pk).1
    | tab x pos qual=>exact q
    | dead=>trivial
  ·have fS:k=Ω.length:=by
    have:=(bO.mp z1).1;simp at this;omega
   subst fS;rw [← w.len]at z2;simp at z2;subst z2;simp at z1;subst z1;cases fd with
   | val x=>cases hc
   | lst ds=>cases hc;obtain⟨y1,xs,y2,y3⟩:=hC;exact⟨y1,xs,y2,y3.ext (Ext.cell b)⟩
   | bD aB=>cases hc;obtain⟨y1,iQ,y2,y3,y4⟩:=hC;exact⟨y1,iQ,y2,y3,y4.ext (Ext.cell b)⟩
 ·have back:∀{k i},hZ H (ι++[b]) (Ω.set s (.ins cls (putD k0 (.val (.aD Ω.length)) fs))++[c]) k i b'→hZ H ι Ω k i b':=fun{k i} h=>by
   have h0':=h;obtain⟨a',oJ,mQ,C',pR,iQ,g',h',fd',y1,y2,y3,y4,y5,y6⟩:=h
   by_cases hk:k<Ω.length
   ·rw [hι k hk]at y1;rw [hΩ k hk]at y2
    by_cases nX:k=s
    ·subst nX;rw [gX oS]at y2;cases y2;rw [ha]at y1;cases y1;rw [h1]at y3;cases y3;rw [e2]at y4
     by_cases hj:i=i0
     ·subst hj;rw [gX uX]at y4;cases y4;cases y5
     ·rw [fY (cA hj)]at y4;exact⟨a,_,fs,C,dx,ws,g',h',fd',ha,hs,h1,y4,y5,y6⟩
    ·rw [fY (cA nX)]at y2;exact⟨a',oJ,mQ,C',pR,iQ,g',h',fd',y1,y2,y3,y4,y5,y6⟩
   ·have fS:k=Ω.length:=by
     have:=(bO.mp y2).1;simp at this;omega
    subst fS;exact(h0'.no (by simp) (Fd.au4 hc)).elim
  exact w.sep b' k i k' i' (back z1) (back z2)
theorem nL.get{n:Nat}:∀{fs:List (Str×Fd)} {i:Nat} {p:Str×Fd},nL n fs→fs[i]? = some p→oN n p.2
 | [],_,_,_,h=>by simp at h
 | _::_,0,_,c,h=>by simp at h;subst h;exact c.1
 | _::fs,i+1,_,c,h=>nL.get (fs:=fs) c.2 (by simpa using h)
theorem Wd.fold{s:Nat}{cls f:Str}{fs:List (Str×Fd)}{fd:Fd}{c:Cell}{Ωa:aI}(w:Wd K G ι (Ωa++[c]) H)(hs:Ωa[s]? = some (.ins cls fs))(hf:fs.lookup f=some (.val (.aD Ωa.length)))(hc:fd.cell=some c)
  (hk:∀k c',k≠s→Ωa[k]? = some c'→CJ Ωa.length c') (hfs:nL Ωa.length (putD f fd fs)):Wd K G (ι.take Ωa.length) (Ωa.set s (.ins cls (putD f fd fs))) H:=by
 have oS:s<Ωa.length:=(bO.mp hs).1;have hlen:ι.length=Ωa.length+1:=by rw [w.len];simp
 have hΩ:∀k,k<Ωa.length→(Ωa++[c])[k]? = Ωa[k]?:=fun k hk=>eK hk;have hι:∀k,k<Ωa.length→(ι.take Ωa.length)[k]? = ι[k]?:=fun k hk=>by rw [FY,if_pos hk]
 obtain⟨b,hb⟩:∃b,ι[Ωa.length]? = some b:=⟨ι[Ωa.length]'(by omega),gK _⟩;have eι:ι=ι.take Ωa.length++[b]:=by
  have:=List.take_append_getElem (l:=ι) (i:=Ωa.length) (by omega);rw [gK (show Ωa.length<ι.length by omega)]at hb;cases hb;rw [List.take_append_getElem,RU (by omega)]
 have hbn:b∉ι.take Ωa.length:=fun z=>by
  have nd:=w.inj;rw [eι,Hs]at nd;exact nd.2.2 b z b (by simp) rfl
 have sub:∀x,x∉ι→x∉ι.take Ωa.length:=fun x hx z=>hx (Ht z);have ha:∃a,ι[s]? = some a:=w.addr (show(Ωa++[c])[s]? = some (.ins cls fs)by rw [hΩ s oS];exact hs);obtain⟨a,ha⟩:=ha;obtain⟨g,C,dx,ws,h0,h1,h2⟩:=w.aD s _ a (by rw [hΩ s oS];exact hs) ha;obtain⟨i0,e1,e2⟩:=DW hf;obtain⟨q1,q2⟩:=tH.mp h2;have uX:i0<fs.length:=(bO.mp e1).1;have hcb:=w.aD Ωa.length c b (by simp) hb;refine⟨w.sub,w.inj.sublist (LH ..),by simp [hlen],fun x hx=>w.live x (Ht hx),fun k c' a' z1 z2=>?_,fun b' k i k' i' z1 z2=>?_⟩
 ·have EJ:k<Ωa.length:=by simpa using(bO.mp z1).1
  rw [hι k EJ]at z2
  by_cases nX:k=s
  ·subst nX;rw [gX oS]at z1;cases z1;rw [ha]at z2;cases z2;refine⟨g,C,dx,ws,h0,h1,tH.mpr ⟨by rw [e2];simpa using q1,fun j h v g' fd' y1 y2=>?_⟩⟩;have Vx:oN Ωa.length fd':=hfs.get y2;rw [e2]at y2
   by_cases hj:j=i0
   ·subst hj;rw [gX uX]at y2;cases y2;obtain⟨r1,r2⟩:=q2 j h v _ _ y1 e1;refine⟨r1,?_⟩;simp only [iC,Den]at r2;obtain⟨b2,rfl,pN⟩:=r2;rw [hb]at pN;cases pN;exact iC.HQ hc hbn (hcb.cut hι sub (by cases fd <;> cases hc <;> exact Vx))
   ·rw [fY (cA hj)]at y2;obtain⟨r1,r2⟩:=q2 j h v g' fd' y1 y2;exact⟨r1,r2.cut hι sub Vx⟩
  ·rw [fY (cA nX)]at z1;exact(w.aD k c' a' (by rw [hΩ k EJ];exact z1) z2).cut hι sub (hk k c' nX z1)
 ·
  have back:∀{k i},hZ H (ι.take Ωa.length) (Ωa.set s (.ins cls (putD f fd fs))) k i b'→(hZ H ι (Ωa++[c]) k i b'∧b'∉ι)∨(k=s∧i=i0∧b'=b):=fun{k i} h=>by
   obtain⟨a',oJ,mQ,C',pR,iQ,g',h',fd',y1,y2,y3,y4,y5,y6⟩:=h;have EJ:k<Ωa.length:=by simpa using(bO.mp y2).1
   rw [hι k EJ]at y1;have out:∀{oJ mQ iQ C' pR fd' g' h'},(Ωa++[c])[k]? = some (.ins oJ mQ)→H a'=some (.ins C' pR iQ)→mQ[i]? = some (g',fd')→fd'.own=true→iQ[i]? = some (h',V.ref b')→b'∉ι:=fun{_ _ _ _ _ fdx _ _} x1 x2 x3 x4 x5=>by
    obtain⟨_,_,_,ws2,_,p1,p2⟩:=w.aD k _ a' x1 y1;rw [x2]at p1;cases p1;obtain⟨_,r⟩:=(tH.mp p2).2 i _ _ _ _ x5 x3;cases fdx with
    | val x=>cases x4
    | lst ds=>obtain⟨b3,_,t1,_,t2,_⟩:=r;cases t1;exact t2
    | bD aB=>obtain⟨b3,_,t1,_,t2,_⟩:=r;cases t1;exact t2
   by_cases nX:k=s
   ·subst nX;rw [gX oS]at y2;cases y2;rw [ha]at y1;cases y1;rw [h1]at y3;cases y3;rw [e2]at y4
    by_cases hj:i=i0
    ·subst hj
     right
     rw [gX uX]at y4;cases y4;obtain⟨r1,r2⟩:=q2 i _ _ _ _ y6 e1;simp only [iC,Den]at r2;obtain⟨b2,eb,pN⟩:=r2;rw [hb]at pN;cases pN;cases eb;exact⟨rfl,rfl,rfl⟩
    ·rw [fY (cA hj)]at y4;have cX:(Ωa++[c])[k]? = some (.ins cls fs):=by rw [hΩ k EJ];exact hs
     exact .inl ⟨⟨a,_,fs,C,dx,ws,g',h',fd',ha,cX,h1,y4,y5,y6⟩,out cX h1 y4 y5 y6⟩
   ·rw [fY (cA nX)]at y2;have cX:(Ωa++[c])[k]? = some (.ins oJ mQ):=by rw [hΩ k EJ];exact y2
    exact .inl ⟨⟨a',oJ,mQ,C',pR,iQ,g',h',fd',y1,cX,y3,y4,y5,y6⟩,out cX y3 y4 y5 y6⟩
  have Sy:b∈ι:=kQ hb
  rcases back z1 with⟨x1,x2⟩ | ⟨x1,x2,x3⟩ <;> rcases back z2 with⟨y1,y2⟩ | ⟨y1,y2,y3⟩
  ·exact w.sep b' k i k' i' x1 y1
  ·subst y3;exact absurd Sy x2
  ·subst x3;exact absurd Sy y2
  ·exact⟨x1.trans y1.symm,x2.trans y2.symm⟩
end
def KY(s:Nat)(f:Str)(Ω Ω1:aI):Prop:=∃cls fs fd c,Ω[s]? = some (.ins cls fs)∧fs.lookup f=some fd∧fd.cell=some c∧Ω1=Ω.set s (.ins cls (putD f (.val (.aD Ω.length)) fs))++[c]
def Folds(s:Nat)(f:Str)(n:Nat)(Ω2 Ω':aI):Prop:=∃Ωa c cls fs fd,Ω2=Ωa++[c]∧Ωa.length=n∧Ωa[s]? = some (.ins cls fs)∧fs.lookup f=some (.val (.aD n))∧fd.cell=some c ∧
 (∀k c',k≠s→Ωa[k]? = some c'→CJ n c')∧nL n (putD f fd fs)∧Ω'=Ωa.set s (.ins cls (putD f fd fs))
structure yJ(Ω:aI)(ρ:Ev):Prop where
 aD:∀(k:Nat) (c:Cell),Ω[k]? = some c→CJ Ω.length c
 env:∀(i:Nat) (d:A),ρ[i]? = some (some d)→Cl Ω.length d
section
variable{K:Frag}{G H:Hp}{ι:List Addr}{Ω Ω1 Ω2 Ω':aI}{σ:L2.St}{ρ:Ev}{W:WX}{s:Nat}{f:Str}
theorem Wd.qR(w:Wd K G ι Ω H)(r:fQ K G ι σ ρ):yJ Ω ρ where
 aD:=fun k c h=>by
  obtain⟨a,ha⟩:=w.addr h;have:=(w.aD k c a h ha).cl;rwa [w.len]at this
 env:=fun i d h=>by
  obtain⟨v,_,q⟩:=r.2 i d h;have:=q.cl;rwa [w.len]at this
theorem Wd.UC(w:Wd K G ι Ω H)(h:KY s f Ω Ω1):∃b,Wd K G (ι++[b]) Ω1 H:=by
 obtain⟨cls,fs,fd,c,h1,h2,h3,rfl⟩:=h;exact w.unfold h1 h2 h3
theorem Ut{G':Hp}{ι':List Addr}{b:Addr}{n:Nat}(hl:ι.length=n)(e:Ext G (ι++[b]) G' ι'):Ext G ι G' (ι'.take n):=⟨e.same,fun k x h=>by
 have hk:=(bO.mp h).1;rw [FY,if_pos (by omega)];exact e.pre k x (by rw [eK hk];exact h)⟩
theorem Wd.Ui{n:Nat}(w:Wd K G ι Ω2 H)(h:Folds s f n Ω2 Ω'):Wd K G (ι.take n) Ω' H:=by
 obtain⟨Ωa,c,cls,fs,fd,rfl,rfl,h3,h4,h5,h6,h7,rfl⟩:=h;exact w.fold h3 h4 h5 h6 h7
theorem Lu{ι':List Addr}{n:Nat}:∀k,k<n→(ι'.take n)[k]? = ι'[k]?:=fun k hk=>by rw [FY,if_pos hk]
theorem ajS{α β:Type}{rel:Rl α β}{cl:Nat→α→Prop}(PU:∀(G:Hp) (ι ι':List Addr) (n:Nat) (v:β) (a:α),(∀k,k<n→ι[k]? = ι'[k]?)→rel G ι' v a→cl n a→rel G ι v a)
  {b:Addr} {Q:β→Hp→Prop} {a:α} (w:Wd K G ι Ω H) (hF:Folds s f Ω.length Ω2 Ω') (ha:cl Ω.length a) (h:bH K rel W G ι σ Q (some (.ok a,Ω'))):bH K rel W G (ι++[b]) σ Q (some (.ok a,Ω2)):=by
 intro v H' G' ι' e w' d;exact h v H' G' (ι'.take Ω.length) (Ut w.len e) (w'.Ui hF) (PU _ _ _ _ _ _ Lu d ha)
theorem Ux{σ':L2.St}{ρ':Ev}{G':Hp}{ι':List Addr}{n:Nat}(r:fQ K G' ι' σ' ρ')(hc:∀(i:Nat) (d:A),ρ'[i]? = some (some d)→Cl n d):fQ K G' (ι'.take n) σ' ρ' :=
 ⟨r.1,fun i d h=>let ⟨v,h1,h2⟩:=r.2 i d h; ⟨v,h1,h2.cut Lu (hc i d h)⟩⟩
theorem Ox{b:Addr}{D:Ends}{ρ':Ev}(w:Wd K G ι Ω H)(hF:Folds s f Ω.length Ω2 Ω')(hc:∀(i:Nat) (d:A),ρ'[i]? = some (some d)→Cl Ω.length d)(h:cV K W G ι D (some (.nx,ρ',Ω'))):cV K W G (ι++[b]) D (some (.nx,ρ',Ω2)):=by
 intro σ' H' G' ι' e w' r';exact h σ' H' G' (ι'.take Ω.length) (Ut w.len e) (w'.Ui hF) (Ux r' hc)
end
section
variable{X:Cx}{W:WX}{e:Expr}{tg:Expr}{st:Stmt}{g d:Ev→Mo A}{gb db:Ev→Mo Bool}{gs ds:MS}{gt dt:A→MS}
theorem TV(h:VE X W e g)(hd:∀ρ Ω r,yJ Ω ρ→d ρ Ω=some r→∃s f Ω1 a Ω2,KY s f Ω Ω1∧g ρ Ω1=some (.ok a,Ω2)∧Folds s f Ω.length Ω2 r.2∧Cl Ω.length a∧r.1 = .ok a):VE X W e d:=by
 obtain⟨t,p,sm⟩:=h;refine⟨t,p,fun G ι Ω H σ ρ Q w r h=>?_⟩;cases e:d ρ Ω with
 | none=>rw [e]at h;exact h.elim
 | some q =>
  obtain⟨s,f,Ω1,a,Ω2,h1,h2,h3,h4,h5⟩:=hd ρ Ω q (w.qR r) e;obtain⟨b,wb⟩:=w.UC h1;obtain⟨q1,q2⟩:=q;simp only at h3 h5;subst h5;rw [e]at h;refine sm G (ι++[b]) Ω1 H σ ρ Q wb (r.ext (Ext.cell b)) ?_;rw [h2];exact ajS (rel:=Den X.K) (cl:=Cl) (fun _ _ _ _ _ _ h1 h2 h3=>h2.cut h1 h3) w h3 h4 h
theorem aaM(h:VS X W st gs)(hd:∀ρ Ω r,yJ Ω ρ→ds ρ Ω=some r→∃s f Ω1 Ω2,KY s f Ω Ω1∧gs ρ Ω1=some (.nx,r.2.1,Ω2)∧Folds s f Ω.length Ω2 r.2.2∧(∀(i:Nat) (d:A),r.2.1[i]? = some (some d)→Cl Ω.length d)∧r.1 = .nx):VS X W st ds:=by
 obtain⟨t,p,sm⟩:=h;refine⟨t,p,fun G ι Ω H σ ρ D w r h=>?_⟩;cases e:ds ρ Ω with
 | none=>rw [e]at h;exact h.elim
 | some q =>
  obtain⟨s,f,Ω1,Ω2,h1,h2,h3,h4,h5⟩:=hd ρ Ω q (w.qR r) e;obtain⟨b,wb⟩:=w.UC h1;obtain⟨q1,q2,q3⟩:=q;simp only at h2 h3 h4 h5;subst h5;rw [e]at h;refine sm G (ι++[b]) Ω1 H σ ρ D wb (r.ext (Ext.cell b)) ?_;rw [h2];exact Ox w h3 h4 h
theorem aaU(h:VG X W tg gt)(hd:∀a ρ Ω r,yJ Ω ρ→Cl Ω.length a→dt a ρ Ω=some r→∃s f Ω1 Ω2,KY s f Ω Ω1∧gt a ρ Ω1=some (.nx,r.2.1,Ω2)∧Folds s f Ω.length Ω2 r.2.2∧(∀(i:Nat) (d:A),r.2.1[i]? = some (some d)→Cl Ω.length d)∧r.1 = .nx):VG X W tg dt:=by
 obtain⟨t,p,sm⟩:=h;refine⟨t,p,fun G ι Ω H σ ρ v a D w r dv h=>?_⟩;cases e:dt a ρ Ω with
 | none=>rw [e]at h;exact h.elim
 | some q =>
  obtain⟨s,f,Ω1,Ω2,h1,h2,h3,h4,h5⟩:=hd a ρ Ω q (w.qR r) (by have:=dv.cl;rwa [w.len]at this) e;obtain⟨b,wb⟩:=w.UC h1;obtain⟨q1,q2,q3⟩:=q;simp only at h2 h3 h4 h5;subst h5;rw [e]at h;refine sm G (ι++[b]) Ω1 H σ ρ v a D wb (r.ext (Ext.cell b)) (dv.ext (Ext.cell b)) ?_;rw [h2];exact Ox w h3 h4 h
end
def cJ(K:Frag)(cs:List Str)(f:Str):Prop:=∀cls∈cs,∃C,nsIn K mainGlobals cls=some (some (.ref C))∧lZ K C∧BP K C f
@[simp] def Dm(cs:List Str)(f:Str)(a:A):Mo A:=fun Ω=>match a with
 | .aD s=>match Ω[s]? with
  | some (.ins cls fs)=>if cls∈cs then match fs.lookup f with
   | some (.val b)=>some (.ok b,Ω)
   | _=>none else none
  | _=>none
 | _=>none
@[simp] def gY(cs:List Str)(f:Str)(fe:Ev→Mo A):Ev→Mo A:=fun ρ=>mb (fe ρ) (Dm cs f)
@[simp] def nT(cs:List Str)(f:Str)(fo fv:Ev→Mo A):MS:=fun ρ=>sM (fv ρ) ρ fun b=>sM (fo ρ) ρ fun a Ω=>match a with
 | .aD s=>match Ω[s]? with
  | some (.ins cls fs)=>if cls∈cs∧fs.length<1000 then some (.nx,ρ,Ω.set s (.ins cls (putD f (.val b) fs)))else none
  | _=>none
 | _=>none
section
variable{K:Frag}{G H:Hp}{ι:List Addr}{Ω:aI}
theorem Wd.ins(w:Wd K G ι Ω H){s:Nat}{cls:Str}{fs:List (Str×Fd)}{v:V}(h:Ω[s]? = some (.ins cls fs))(d:Den K G ι v (.aD s)):∃a C dx,∃ws:List (Str×V),v = .ref a∧ι[s]? = some a∧G a=none∧nsIn K mainGlobals cls=some (some (.ref C))∧H a=some (.ins C dx ws)∧iP K G ι H ws fs:=by
 simp only [Den]at d;obtain⟨a,rfl,ha⟩:=d;obtain⟨g,C,dx,ws,h1,h2,h3⟩:=w.aD s _ a h ha;exact⟨a,C,dx,ws,rfl,ha,g,h1,h2,h3⟩
theorem Oo{f:Str}{v:V}{b:A}:∀{ws:List (Str×V)} {fs:List (Str×Fd)} {i:Nat} {g h:Str} {fd:Fd} {x:V},iP K G ι H ws fs→(putD f (.val b) fs)[i]? = some (g,fd)→fd.own=true→(iO f v ws)[i]? = some (h,x)→fs[i]? = some (g,fd)∧ws[i]? = some (h,x)
 | [],[],i,g,h,fd,x,_,y,o,_=>by
  cases i with
  | zero=>simp [putD]at y;obtain⟨_,rfl⟩:=y;cases o
  | succ i=>simp [putD]at y
 | [],_::_,_,_,_,_,_,q,_,_,_=>q.elim
 | _::_,[],_,_,_,_,_,q,_,_,_=>q.elim
 | (k,u)::ws,(k',d)::fs,i,g,h,fd,x,q,y,o,z=>by
  obtain⟨rfl,q2,q3⟩:=q
  by_cases e:k=f
  ·simp only [putD,iO,if_pos e]at y z;cases i with
   | zero=>simp at y;obtain⟨_,rfl⟩:=y;cases o
   | succ i=>exact⟨by simpa using y,by simpa using z⟩
  ·simp only [putD,iO,if_neg e]at y z;cases i with
   | zero=>exact⟨by simpa using y,by simpa using z⟩
   | succ i =>
    have:=Oo (f:=f) (v:=v) (b:=b) (i:=i) q3 (by simpa using y) o (by simpa using z);exact⟨by simpa using this.1,by simpa using this.2⟩
theorem Wd.ahA(w:Wd K G ι Ω H){s:Nat}{cls f:Str}{fs:List (Str×Fd)}{a C dx:Addr}{ws:List (Str×V)}{v:V}{b:A}(h:Ω[s]? = some (.ins cls fs))(ha:ι[s]? = some a)(hg:G a=none)(h0:nsIn K mainGlobals cls=some (some (.ref C)))
  (h1:H a=some (.ins C dx ws)) (h2:iP K G ι H ws fs) (d:Den K G ι v b):Wd K G ι (Ω.set s (.ins cls (putD f (.val b) fs))) (upd H a (.ins C dx (iO f v ws))):=by
 have oS:s<Ω.length:=(bO.mp h).1;have ho:∀b o,b∉ι→G b=none→H b=some o→b∉ι∧G b=none∧upd H a (.ins C dx (iO f v ws)) b=some o:=fun b o x y z=>by
  have nb:b≠a:=fun e=>by subst e;exact x (DU ha)
  exact⟨x,y,by rw [bA nb];exact z⟩
 have oE:iP K G ι (upd H a (.ins C dx (iO f v ws))) ws fs:=h2.map fun _ _ q=>q.mono (Ext.refl _ _) ho;refine⟨fun b u q=>?_,w.inj,by simp [w.len],fun b hb=>?_,fun j c' b z1 z2=>?_,fun b2 j i j' i' z1 z2=>?_⟩
 ·have e:b≠a:=fun e=>by subst e;rw [hg]at q;cases q
  rw [bA e];exact w.sub _ _ q
 ·by_cases e:b=a
  ·subst e;exact⟨_,fA⟩
  ·rw [bA e];exact w.live b hb
 ·by_cases hj:j=s
  ·subst hj;rw [gX oS]at z1;cases z1;rw [ha]at z2;cases z2;exact⟨hg,C,dx,_,h0,fA,oE.put d⟩
  ·rw [fY (cA hj)]at z1;have dY:b≠a:=fun e=>by subst e;exact hj (wL w.inj z2 ha)
   exact(w.aD j c' b z1 z2).mono (Ext.refl _ _) rfl (bA dY) ho
 ·have back:∀{j i},hZ (upd H a (.ins C dx (iO f v ws))) ι (Ω.set s (.ins cls (putD f (.val b) fs))) j i b2→hZ H ι Ω j i b2:=fun{j i} q=>by
   obtain⟨a',oJ,mQ,C',pR,iQ,g',h',fd',y1,y2,y3,y4,y5,y6⟩:=q
   by_cases hj:j=s
   ·subst hj;rw [gX oS]at y2;cases y2;rw [ha]at y1;cases y1;rw [fA]at y3;cases y3;have pi:=Oo h2 y4 y5 y6;exact⟨a,cls,fs,C,dx,ws,g',h',fd',ha,h,h1,pi.1,y5,pi.2⟩
   ·rw [fY (cA hj)]at y2;have dY:a'≠a:=fun e=>by subst e;exact hj (wL w.inj y1 ha)
    rw [bA dY]at y3;exact⟨a',oJ,mQ,C',pR,iQ,g',h',fd',y1,y2,y3,y4,y5,y6⟩
  exact w.sep b2 j i j' i' (back z1) (back z2)
end
section
variable{X:Cx}{W:WX}{e o value:Expr}{f:Str}{cs:List Str}{pos pos':Pos}{fe fo fv:Ev→Mo A}
theorem jS(h:VE X W e fe)(hc:cJ X.K cs f)(hb:attributeBase e f X.env (eval e X.env)=eval e X.env:=by rfl):VE X W (.Attribute e f pos) (gY cs f fe):=by
 obtain⟨t,p,s⟩:=h;refine⟨_,akS p hb,fun G ι Ω H σ ρ Q w r h=>?_⟩;refine s G ι Ω H σ ρ _ w r (bH.mb h fun a Ω1 v H1 G1 ι1 x1 w1 d1 h1=>?_);unfold Dm at h1;cases a with
 | aD k =>
  simp only at h1;cases e2:Ω1[k]? with
  | none=>rw [e2]at h1;exact h1.elim
  | some c =>
   rw [e2]at h1;cases c with
   | ins cls fs =>
    simp only at h1
    by_cases jI:cls∈cs
    ·rw [if_pos jI]at h1;cases e3:fs.lookup f with
     | none=>rw [e3]at h1;exact h1.elim
     | some fd =>
      rw [e3]at h1;cases fd with
      | val b =>
       obtain⟨a,C,dx,ws,rfl,ha,hg,h0,hH,hF⟩:=w1.ins e2 d1;obtain⟨C',q0,q1,q2⟩:=hc cls jI;rw [h0]at q0;cases q0;obtain⟨u,l,du⟩:=hF.look e3;exact⟨a,C,dx,ws,u,rfl,hH,q1,q2,l,h1 u H1 G1 ι1 (Ext.refl _ _) w1 du⟩
      | _=>exact h1.elim
    ·rw [if_neg jI]at h1;exact h1.elim
   | _=>exact h1.elim
 | _=>exact h1.elim
theorem rG(ho:VE X W o fo)(hv:VE X W value fv)(hc:cJ X.K cs f)(hs:swapsWith value (some (.Attribute o f pos')) pos.line X.env=pure false:=by rfl):VS X W (.Assign [.Attribute o f pos'] value pos) (nT cs f fo fv):=by
 obtain⟨t,p,s⟩:=ho;obtain⟨u,q,z⟩:=hv;refine⟨_,ajM p q hs,fun G ι Ω H σ ρ D w r h=>?_⟩;refine z G ι Ω H σ ρ _ w r (cV.sM h r fun b Ω1 y H1 G1 ι1 x1 w1 d1 h1=>?_);refine s G1 ι1 Ω1 H1 σ ρ _ w1 (r.ext x1) (cV.sM h1 (r.ext x1) fun a Ω2 v H2 G2 ι2 x2 w2 d2 h2=>?_);cases a with
 | aD k =>
  simp only at h2;cases e2:Ω2[k]? with
  | none=>rw [e2]at h2;exact h2.elim
  | some c =>
   rw [e2]at h2;cases c with
   | ins cls fs =>
    simp only at h2
    by_cases jI:cls∈cs∧fs.length<1000
    ·rw [if_pos jI]at h2;obtain⟨a,C,dx,ws,rfl,ha,hg,h0,hH,hF⟩:=w2.ins e2 d2;obtain⟨C',q0,q1,q2⟩:=hc cls jI.1;rw [h0]at q0;cases q0;refine⟨a,C,dx,ws,rfl,hH,q1,q2,by rw [hF.len];exact jI.2,?_⟩;exact pJ (w2.ahA e2 ha hg h0 hH hF (d1.ext x2)) ((r.ext x1).ext x2) h2
    ·rw [if_neg jI]at h2;exact h2.elim
   | _=>exact h2.elim
 | _=>exact h2.elim
end
end V2
namespace L2
open PySem PySem.Spec PyProof.Rows
section
variable{X:Cx}{W:WX}{k:Nat}{f C:Addr}{fd:FuncData}{ps:List Str}{sp:Sp}{dvs:List V}{ds:List Value}{x m:Str}{p pos apos:Pos}{e o:Expr}{es:List Expr}{ta:TE}{t:TA}
theorem XA{pins:List (Addr×Obj)}{σ:St}{H:Hp}{s:Shared}{Q:VK}{us:List Value}{vs:List V}(T:pZ X W)(F:iV X.prog X.w X.K X.mg X.base (nN X.prog X.w) k f fd ps sp)(hr:cY k X.A)(hb:Binds X.K fd ps ds)(hd:Vals dvs ds)
  (I:Inv X pins σ H s) (r:Vals vs us) (h:sp (vs++dvs) H Q fun cls dx H'=>W σ cls dx H'):wpAny (model X.prog X.w) X.A (call (.ref f) us) (EP X pins σ Q) X.xe s:=by
 have r2:Vals (vs++dvs) (us++ds):=r.append hd;have hl:(us++ds).length=ps.length:=by rw [← r2.length];exact F.len _ _ _ _ h
 refine wpAny_call (xP (F.run X.A X.stack s H ⟨us,[]⟩ (us++ds) (vs++dvs) Q _ hr I.Eg (hb s us I.gS hl) r2 h) fun r s' hq=>?_);cases r with
 | error ev =>
  obtain⟨a,cls,dx,H',rfl,os,bare,un,aK,ex,q'⟩:=hq;have I2:=(I.KL os un aK bare (fun b z=>absurd z (by simp))).Oz;exact T.to _ _ ⟨σ,H',a,cls,dx,rfl,I2,(ex.first I T.ex).any,q'⟩
 | ok fl =>
  cases fl with
  | ret u=>exact I.after hq
  | next=>exact False.elim hq
  | brk=>exact False.elim hq
  | cont=>exact False.elim hq
def UQ(X:Cx)(W:WX)(m:Str)(ta:TE)(t:TA):TE:=fun σ H Q=>ta σ H fun x H1=>∃a C dx fs k f fd ps ds dvs sp,x = .ref a∧H1 a=some (.ins C dx fs)∧fs.lookup m=none∧lZ X.K C∧Meth X.K C m f ∧
 iV X.prog X.w X.K X.mg X.base (nN X.prog X.w) k f fd ps sp∧cY k X.A∧Binds X.K fd ps ds∧Vals dvs ds∧t σ H1 fun vs H2=>sp (.ref a::vs++dvs) H2 Q fun cls dx H'=>W σ cls dx H'
theorem akL{pl:Sem Bool}(T:pZ X W)(he:PE X o ta)(ha:PA X (e::es) t)
  (iT:starEach (e::es) X.env=(false,eval e X.env)::starEach es X.env:=by rfl) (gF:(backTo pos (starEach es X.env)).any (·.1)=false:=by rfl)
  (ht:eval (.Call (.Attribute o m apos) (e::es) [] pos) X.env=(do
   let ov ← eval o X.env
   standAt apos.atName
   let (f,first) ← holding [ov] (getMethod ov m pl)
   callWith pos f first (backTo pos (starEach (e::es) X.env)) (backToKw pos (keywordEach [] X.env))):=by rfl) :
  PE X (.Call (.Attribute o m apos) (e::es) [] pos) (UQ X W m ta t):=by
 intro pins s σ H Q I h;refine methodCall_KW (pl:=pl) (aY (he pins s σ H _ I h) fun u s1 ⟨x,H1,I1,rx,a,C,dx,fs,k,f,fd,ps,ds,dvs,sp,ex,ea,l,c,hm,F,hr,hb,hd,q⟩=>?_) ht;subst ex;obtain rfl:u=Value.ref a:=rx;refine Tt I1 ea c hm l ?_;refine callWith_K (first:=[.ref a]) (h₀:=X.base) I.ok.mod.zR hm.kp (aY (ha pos pins s1 σ H1 _ I1 q) fun us s2 ⟨vs,H2,I2,r,q2⟩=>⟨I2.gS,?_⟩) iT gF;exact XA (us := .ref a::us) (vs := .ref a::vs) T F hr hb hd I2 (.cons rfl r) q2
theorem akK{pl:Sem Bool}(T:pZ X W)(he:PE X o ta)
  (ht:eval (.Call (.Attribute o m apos) [] [] pos) X.env=(do
   let ov ← eval o X.env
   standAt apos.atName
   let (f,first) ← holding [ov] (getMethod ov m pl)
   callWith pos f first (backTo pos (starEach [] X.env)) (backToKw pos (keywordEach [] X.env))):=by rfl) :
  PE X (.Call (.Attribute o m apos) [] [] pos) (UQ X W m ta Ly):=by
 intro pins s σ H Q I h;refine methodCall_KW (pl:=pl) (aY (he pins s σ H _ I h) fun u s1 ⟨x,H1,I1,rx,a,C,dx,fs,k,f,fd,ps,ds,dvs,sp,ex,ea,l,c,hm,F,hr,hb,hd,q⟩=>?_) ht;subst ex;obtain rfl:u=Value.ref a:=rx;refine Tt I1 ea c hm l ?_;exact PySem.W.callWith_K0 (first:=[.ref a]) I1.gS hm.kp (XA (us:=[.ref a]) (vs:=[.ref a]) T F hr hb hd I1 (.cons rfl .nil) q)
structure Jn(K:Frag)(R:Addr)(m:Str)(f:Addr):Prop where
 reads:readsIn K R (.type "type")=true
 find:findCls K (.ref R) (.type "type") m=some (.val (.ref f))
 ga:specialIn K (.ref R) "__getattribute__" = some (some (.builtin "type.__getattribute__"))
 kp:keepIn K (.ref f)=true
theorem ak1{pl:Sem Bool}{R:Addr}{rk:Str}{np:Pos}(T:pZ X W)(B:Jn X.K R m f)(hmR:X.mg rk=some (.ref R))(hg:Gl X rk)(F:iV X.prog X.w X.K X.mg X.base (nN X.prog X.w) k f fd ps sp)(hr:cY k X.A)(hb:Binds X.K fd ps [])(ha:PA X (e::es) t)
  (mN:(rk == ("__debug__" : Str))=false:=by decide) (iT:starEach (e::es) X.env=(false,eval e X.env)::starEach es X.env:=by rfl) (gF:(backTo pos (starEach es X.env)).any (·.1)=false:=by rfl)
  (ht:eval (.Call (.Attribute (.Name rk np) m apos) (e::es) [] pos) X.env=(do
   let ov ← eval (.Name rk np) X.env
   standAt apos.atName
   let (f,first) ← holding [ov] (getMethod ov m pl)
   callWith pos f first (backTo pos (starEach (e::es) X.env)) (backToKw pos (keywordEach [] X.env))):=by rfl) :
  PE X (.Call (.Attribute (.Name rk np) m apos) (e::es) [] pos) (Ma sp W t):=by
 intro pins s σ H Q I h;refine methodCall_KW (pl:=pl) (OQ I hg hmR ?_ mN) ht;refine PySem.W.method_cls I.gS B.ga (PySem.W.cls_value I.gS B.reads B.find (Td (v := .ref f) rfl) ?_);have I0:=I.tok (s.toks+1);refine callWith_K (first:=[]) (h₀:=X.base) I.ok.mod.zR B.kp (aY (ha pos pins _ σ H _ I0 h) fun us s2 ⟨vs,H2,I2,r,q2⟩=>⟨I2.gS,?_⟩) iT gF;have q3:sp (vs++[]) H2 Q fun cls dx H'=>W σ cls dx H':=by rw [oY];exact q2
 exact XA (us:=us) (vs:=vs) (dvs:=[]) T F hr hb .nil I2 r q3
end
end L2
namespace V2
open PySem PySem.Spec PyProof.Rows L2
@[simp] def dW(n:Nat)(das:List A)(F:List A→Mo A):List A→Mo A:=fun as=>if as.length+das.length=n then F (as++das)else stuck
structure cL(P:Program)(w:World)(K:Frag)(mg:Str→Option Value)(base:Heap)(cls m:Str)(k:Nat)(n:Nat)(das:List A)(F:List A→Mo A):Prop where
 ex:∃C f fd ps ds dvs,nsIn K mainGlobals cls=some (some (.ref C))∧lZ K C∧Meth K C m f∧ps.length=n∧iV P w K mg base (nN P w) k f fd ps (sF K ps.length F)∧Binds K fd ps ds∧Vals dvs ds∧∀G ι,aO K G ι dvs das
@[simp] def Dj(m:Str)(tab:List (Str×(List A→Mo A)))(fs:Mo (List A))(a:A):Mo A:=fun Ω=>match a with
 | .aD s=>match Ω[s]? with
  | some (.ins cls Dv)=>match tab.lookup cls,Dv.lookup m with
   | some F,none=>mb fs (fun as=>F (.aD s::as)) Ω
   | _,_=>none
  | _=>none
 | _=>none
@[simp] def eM(m:Str)(tab:List (Str×(List A→Mo A)))(fo:Ev→Mo A)(fs:Ev→Mo (List A)):Ev→Mo A:=fun ρ=>mb (fo ρ) (Dj m tab (fs ρ))
def cW(X:Cx)(m:Str)(tab:List (Str×(List A→Mo A))):Prop:=∀cls F,tab.lookup cls=some F→∃k n das F0,F=dW n das F0∧cY k X.A∧cL X.prog X.w X.K X.mg X.base cls m k n das F0
section
variable{X:Cx}{W:WX}{m:Str}{tab:List (Str×(List A→Mo A))}{o e:Expr}{es:List Expr}{fo:Ev→Mo A}{fs:Ev→Mo (List A)}{pos apos:Pos}
theorem cW.nil:cW X m []:=fun cls F h=>by simp at h
theorem cW.cons{cls:Str}{k n:Nat}{das:List A}{F:List A→Mo A}(h:cL X.prog X.w X.K X.mg X.base cls m k n das F)(hr:cY k X.A)(t:cW X m tab):cW X m ((cls,dW n das F)::tab):=fun c F' q=>by
 by_cases e:c=cls
 ·subst e;simp [List.lookup]at q;exact⟨k,n,das,F,q.symm,hr,h⟩
 ·have hb:(c == cls)=false:=tL.mpr e;simp only [List.lookup,hb]at q;exact t c F' q
theorem Nb{ta:TE}{t:TA}(IQ:cW X m tab)(s1:hW X.K (Den X.K) W ta fo)(s2:hW X.K (aO X.K) W t fs):hW X.K (Den X.K) W (UQ X W m ta t) (eM m tab fo fs):=by
 intro G ι Ω H σ ρ Q w r h;refine s1 G ι Ω H σ ρ _ w r (bH.mb h fun a Ω1 v H1 G1 ι1 x1 w1 d1 h1=>?_);unfold Dj at h1;cases a with
 | aD s =>
  simp only at h1;cases e2:Ω1[s]? with
  | none=>rw [e2]at h1;exact h1.elim
  | some c =>
   rw [e2]at h1;cases c with
   | ins cls Dv =>
    simp only at h1;cases e3:tab.lookup cls with
    | none=>rw [e3]at h1;exact h1.elim
    | some F =>
     rw [e3]at h1;cases e4:Dv.lookup m with
     | some _=>rw [e4]at h1;exact h1.elim
     | none =>
      rw [e4]at h1;obtain⟨k,n,das,F0,rfl,hr,MV⟩:=IQ cls F e3;obtain⟨C,f,fd,ps,ds,dvs,hC,jI,PK,hn,FO,hb,hv,hda⟩:=MV.ex;obtain⟨a,C',dx,ws,rfl,ha,hg,h0,hH,hF⟩:=w1.ins e2 d1;rw [hC]at h0;cases h0;refine⟨a,C,dx,ws,k,f,fd,ps,ds,dvs,_,rfl,hH,hF.al3 e4,jI,PK,FO,hr,hb,hv,?_⟩;refine s2 G1 ι1 Ω1 H1 σ ρ _ w1 (r.ext x1) (bH.mb h1 fun as Ω2 vs H2 G2 ι2 x2 w2 d2 h2=>?_);unfold dW at h2;split at h2
      ·rename_i hl;have dd:aO X.K G2 ι2 (.ref a::vs++dvs) (.aD s::as++das):=(aO.cons (by simp only [Den]at d1 ⊢;obtain⟨a2,e5,e6⟩:=d1;exact⟨a2,e5,x2.pre _ _ e6⟩) d2).append (hda _ _);refine⟨?_,G2,ι2,Ω2,.aD s::as++das,w2,dd,Ey h2 (Ext.refl _ _)⟩;have:=dd.length;rw [this,hn];simp only [fX,eA]at hl ⊢;omega
      ·exact h2.elim
   | _=>exact h1.elim
 | _=>exact h1.elim
theorem yR{pl:Sem Bool}(T:pZ X W)(IQ:cW X m tab)(ho:VE X W o fo)(ha:VA X W (e::es) fs)
  (iT:starEach (e::es) X.env=(false,eval e X.env)::starEach es X.env:=by rfl) (gF:(backTo pos (starEach es X.env)).any (·.1)=false:=by rfl)
  (ht:eval (.Call (.Attribute o m apos) (e::es) [] pos) X.env=(do
   let ov ← eval o X.env
   standAt apos.atName
   let (f,first) ← holding [ov] (getMethod ov m pl)
   callWith pos f first (backTo pos (starEach (e::es) X.env)) (backToKw pos (keywordEach [] X.env))):=by rfl) :
  VE X W (.Call (.Attribute o m apos) (e::es) [] pos) (eM m tab fo fs):=by
 obtain⟨ta,p1,s1⟩:=ho;obtain⟨t,p2,s2⟩:=ha;exact⟨_,akL T p1 p2 iT gF ht,Nb IQ s1 s2⟩
theorem qI{pl:Sem Bool}(T:pZ X W)(IQ:cW X m tab)(ho:VE X W o fo)
  (ht:eval (.Call (.Attribute o m apos) [] [] pos) X.env=(do
   let ov ← eval o X.env
   standAt apos.atName
   let (f,first) ← holding [ov] (getMethod ov m pl)
   callWith pos f first (backTo pos (starEach [] X.env)) (backToKw pos (keywordEach [] X.env))):=by rfl) :
  VE X W (.Call (.Attribute o m apos) [] [] pos) (eM m tab fo a0):=by
 obtain⟨ta,p1,s1⟩:=ho;refine⟨_,akK T p1 ht,Nb IQ s1 ?_⟩;intro G ι Ω H σ ρ Q w r h;exact h [] H G ι (Ext.refl _ _) w .nil
structure xW(P:Program)(w:World)(K:Frag)(mg:Str→Option Value)(base:Heap)(cls:Str)(k:Nat)(n:Nat)(F:List A→Mo A):Prop where
 ex:∃C f fd ps,nsIn K mainGlobals cls=some (some (.ref C))∧mg cls=some (.ref C)∧Mk K C f∧ps.length=n∧iV P w K mg base (nN P w) k f fd ps (sF K ps.length F)∧Binds K fd ps []
@[simp] def JV(cls:Str)(n:Nat)(F:List A→Mo A)(as:List A):Mo A:=fun Ω=>if as.length+1=n then match F (.aD Ω.length::as) (Ω++[.ins cls []])with
 | some (.ok .bB,Ω2)=>some (.ok (.aD Ω.length),Ω2)
 | _=>none else none
theorem aaX{cls:Str}{k n:Nat}{F:List A→Mo A}{p:Pos}(M:xW X.prog X.w X.K X.mg X.base cls k n F)(hr:cY (k+1) X.A)(hg:Gl X cls)(ha:VA X W (e::es) fs)
  (mN:(cls == ("__debug__" : Str))=false:=by decide) (he:starEach (e::es) X.env=(false,eval e X.env)::starEach es X.env:=by rfl) (gF:(backTo pos (starEach es X.env)).any (·.1)=false:=by rfl) :
  VE X W (.Call (.Name cls p) (e::es) [] pos) (aS (JV cls n F) fs):=by
 obtain⟨C,f,fd,ps,hC,hm,mk,hn,FO,hb⟩:=M.ex;obtain⟨t,p1,s1⟩:=ha;refine⟨_,akM mk (Ex FO) hr hg hm hb .nil ak4 p1 mN he gF,fun G ι Ω H σ ρ Q w r h=>?_⟩;refine s1 G ι Ω H σ ρ _ w r (bH.mb h fun as Ω1 vs H1 G1 ι1 x1 w1 d1 h1=>?_);unfold JV at h1
 by_cases hl:as.length+1=n
 ·rw [if_pos hl]at h1;intro x dx hx Sv dY;have wA:=w1.grow (H':=upd H1 dx (.own x)) (kM.new Sv);have rN:upd H1 dx (.own x) x=none:=by rw [bA (cA dY)];exact hx
  have wB:Wd X.K G1 (ι1++[x]) (Ω1++[.ins cls []]) (upd (upd H1 dx (.own x)) x (.ins C dx [])):=wA.cell rN ⟨w1.qO hx,C,dx,[],hC,fA,trivial⟩;have pR:aO X.K G1 (ι1++[x]) (.ref x::(vs++[])) (.aD Ω1.length::as) := .cons (by simp only [Den];exact⟨x,rfl,by rw [← w1.len];simp⟩) (by rw [oY];exact d1.ext (Ext.cell x));refine⟨by rw [pR.length,hn];simpa using hl,G1,ι1++[x],_,_,wB,pR,?_⟩
  revert h1
  generalize F (.aD Ω1.length::as) (Ω1++[.ins cls []])=q;intro h1
  match q,h1 with
  | some (.ok .bB,Ω2),h1 =>
   intro v H' G' ι' e' w' d';simp only [Den]at d';subst d';refine⟨rfl,h1 (.ref x) H' G' ι' ⟨e'.same,fun k a q=>e'.pre k a (by rw [eK (bO.mp q).1];exact q)⟩ w' ?_⟩;simp only [Den];exact⟨x,rfl,e'.pre _ _ (by rw [← w1.len];simp)⟩
 ·rw [if_neg hl]at h1;exact h1.elim
structure tV(P:Program)(w:World)(K:Frag)(mg:Str→Option Value)(base:Heap)(rk m:Str)(k:Nat)(n:Nat)(F:List A→Mo A):Prop where
 ex:∃R f fd ps,mg rk=some (.ref R)∧Jn K R m f∧ps.length=n∧iV P w K mg base (nN P w) k f fd ps (sF K ps.length F)∧Binds K fd ps []
theorem aa3{pl:Sem Bool}{rk:Str}{k n:Nat}{F:List A→Mo A}{np:Pos}(T:pZ X W)(B:tV X.prog X.w X.K X.mg X.base rk m k n F)(hg:Gl X rk)(hr:cY k X.A)(ha:VA X W (e::es) fs)
  (mN:(rk == ("__debug__" : Str))=false:=by decide) (iT:starEach (e::es) X.env=(false,eval e X.env)::starEach es X.env:=by rfl) (gF:(backTo pos (starEach es X.env)).any (·.1)=false:=by rfl)
  (ht:eval (.Call (.Attribute (.Name rk np) m apos) (e::es) [] pos) X.env=(do
   let ov ← eval (.Name rk np) X.env
   standAt apos.atName
   let (f,first) ← holding [ov] (getMethod ov m pl)
   callWith pos f first (backTo pos (starEach (e::es) X.env)) (backToKw pos (keywordEach [] X.env))):=by rfl) :
  VE X W (.Call (.Attribute (.Name rk np) m apos) (e::es) [] pos) (aS (bW n F) fs):=by
 obtain⟨R,f,fd,ps,hm,BM,hn,FO,hb⟩:=B.ex;obtain⟨t,p1,s1⟩:=ha;refine⟨_,ak1 T BM hm hg FO hr hb p1 mN iT gF ht,fun G ι Ω H σ ρ Q w r h=>?_⟩;refine s1 G ι Ω H σ ρ _ w r (bH.mb h fun as Ω1 vs H1 G1 ι1 x1 w1 d1 h1=>?_);unfold bW at h1;split at h1
 ·rename_i hl;exact⟨by rw [d1.length,hn];exact hl,G1,ι1,Ω1,as,w1,d1,Ey h1 (Ext.refl _ _)⟩
 ·exact False.elim h1
end
def lM(cs:List Str)(i:Nat)(f:Str)(ρ:Ev)(Ω:aI):Option (Nat×Str×List (Str×Fd)×Fd):=match (ρ[i]?).join with
 | some (.aD s)=>match Ω[s]? with
  | some (.ins cls fs)=>if cls∈cs then(fs.lookup f).map fun fd=>(s,cls,fs,fd)else none
  | _=>none
 | _=>none
abbrev dX(Ω:aI)(s:Nat)(cls f:Str)(fs:List (Str×Fd))(c:Cell):aI:=Ω.set s (.ins cls (putD f (.val (.aD Ω.length)) fs))++[c]
section
variable{cs:List Str}{i:Nat}{f:Str}{ρ:Ev}{Ω:aI}{s:Nat}{cls:Str}{fs:List (Str×Fd)}{fd fd':Fd}{c c':Cell}
theorem HK(h:lM cs i f ρ Ω=some (s,cls,fs,fd)):ρ[i]? = some (some (.aD s))∧Ω[s]? = some (.ins cls fs)∧cls∈cs∧fs.lookup f=some fd:=by
 unfold lM at h;cases e1:(ρ[i]?).join with
 | none=>rw [e1]at h;cases h
 | some d =>
  rw [e1]at h;cases d with
  | aD k =>
   simp only at h;cases e2:Ω[k]? with
   | none=>rw [e2]at h;cases h
   | some c =>
    rw [e2]at h;cases c with
    | ins oJ mQ =>
     simp only at h
     by_cases hc:oJ∈cs
     ·rw [if_pos hc]at h;cases e3:mQ.lookup f with
      | none=>rw [e3]at h;cases h
      | some x =>
       rw [e3]at h;cases h;exact⟨join_some e1,e2,hc,e3⟩
     ·rw [if_neg hc]at h;cases h
    | _=>cases h
  | _=>cases h
theorem MX(h:lM cs i f ρ Ω=some (s,cls,fs,fd))(hc:fd.cell=some c):KY s f Ω (dX Ω s cls f fs c):=by
 obtain⟨h1,h2,h3,h4⟩:=HK h;exact⟨cls,fs,fd,c,h2,h4,hc,rfl⟩
theorem QP{n:Nat}{f:Str}{fd:Fd}:∀{fs:List (Str×Fd)},nL n fs→oN n fd→nL n (putD f fd fs)
 | [],_,h=>⟨h,trivial⟩
 | (g,x)::r,c,h=>by
  by_cases e:g=f
  ·simp only [putD,if_pos e];exact⟨h,c.2⟩
  ·simp only [putD,if_neg e];exact⟨c.1,QP c.2 h⟩
theorem Dy(cl:yJ Ω ρ)(h:lM cs i f ρ Ω=some (s,cls,fs,fd))(hc:fd'.cell=some c')(hn:oN Ω.length fd'):Folds s f Ω.length (dX Ω s cls f fs c') (Ω.set s (.ins cls (putD f fd' fs))):=by
 obtain⟨h1,h2,h3,h4⟩:=HK h;have hs:s<Ω.length:=(bO.mp h2).1;refine⟨Ω.set s (.ins cls (putD f (.val (.aD Ω.length)) fs)),c',cls,putD f (.val (.aD Ω.length)) fs,fd',rfl,by simp,gX hs,?_,hc,fun k x hk hx=>?_,?_,?_⟩
 ·rw [HI,if_pos rfl]
 ·rw [fY (cA hk)]at hx;exact cl.aD k x hx
 ·rw [zF];have:=cl.aD s _ h2;exact QP this hn
 ·rw [zF,mT]
theorem Uh(cl:yJ Ω ρ)(h:lM cs i f ρ Ω=some (s,cls,fs,fd))(hc:fd.cell=some c):Folds s f Ω.length (dX Ω s cls f fs c) Ω:=by
 obtain⟨h1,h2,h3,h4⟩:=HK h;obtain⟨j,e1,_⟩:=DW h4;have hn:oN Ω.length fd:=(cl.aD s _ h2:nL _ fs).get e1;have:=Dy cl h hc hn;rw [Oq h4]at this;have e:Ω.set s (.ins cls fs)=Ω:=by
  apply BU;intro j
  by_cases hj:s=j
  ·subst hj;rw [gX (bO.mp h2).1,h2]
  ·rw [fY hj]
 rwa [e]at this
theorem zO(h:lM cs i f ρ Ω=some (s,cls,fs,fd)):(dX Ω s cls f fs c)[Ω.length]? = some c:=by
 rw [nK (by simp)];simp
theorem DY(h:lM cs i f ρ Ω=some (s,cls,fs,fd)):gY cs f (dG i) ρ (dX Ω s cls f fs c)=some (.ok (.aD Ω.length),dX Ω s cls f fs c):=by
 obtain⟨h1,h2,h3,h4⟩:=HK h;have hs:s<Ω.length:=(bO.mp h2).1;have e:(dX Ω s cls f fs c)[s]? = some (.ins cls (putD f (.val (.aD Ω.length)) fs)):=by
  rw [eK (by simpa using hs),gX hs]
 have l:(putD f (Fd.val (.aD Ω.length)) fs).lookup f=some (.val (.aD Ω.length)):=by rw [HI,if_pos rfl]
 have vB:(ρ[i]?).join=some (.aD s):=by rw [h1];rfl
 simp only [gY,dG,need,mb,vB,LA,Dm,e,if_pos h3,l]
theorem Qn(c2:Cell):(dX Ω s cls f fs c).set Ω.length c2=dX Ω s cls f fs c2:=by
 unfold dX;rw [List.set_append_right _ _ (by simp)];simp
theorem zM{α β:Type}{m:Mo α}{k:α→Mo β}{Ω Ω1:aI}{a:α}(h:m Ω=some (.ok a,Ω1)):mb m k Ω=k a Ω1:=by simp [mb,h]
theorem Nt{α:Type}{m:Mo α}{k:α→aI→OS}{ρ:Ev}{Ω Ω1:aI}{a:α}(h:m Ω=some (.ok a,Ω1)):sM m ρ k Ω=k a Ω1:=by simp [sM,h]
end
def KZ(fe:Ev→Mo A):Prop:=∀ρ Ω Ω' r,fe ρ Ω=some r→∃a,r=(.ok a,Ω)∧fe ρ Ω'=some (.ok a,Ω')∧(yJ Ω ρ→Cl Ω.length a)
theorem zG(j:Nat):KZ (dG j):=fun ρ Ω Ω' r h=>by
 simp only [dG,need]at h ⊢;cases e:(ρ[j]?).join with
 | none=>rw [e]at h;cases h
 | some a=>rw [e]at h;cases h;exact⟨a,rfl,rfl,fun c=>c.env j a (join_some e)⟩
theorem ai8(n:Int):KZ (cI n):=fun ρ Ω Ω' r h=>by
 cases h;exact⟨_,rfl,rfl,fun _=>by simp only [Cl]⟩
@[simp] def MU(cs:List Str)(i:Nat)(f:Str):Ev→Mo A:=fun ρ Ω=>match lM cs i f ρ Ω with
 | some (_,_,_,.lst ds)=>some (.ok (.int ds.length),Ω)
 | _=>none
@[simp] def mY(cs:List Str)(i:Nat)(f:Str)(fi:Ev→Mo A):Ev→Mo A:=fun ρ Ω=>match lM cs i f ρ Ω with
 | some (_,_,_,.lst ds)=>match fi ρ Ω with
  | some (.ok (.int n),_)=>match gU ds n with
   | some d=>some (.ok d,Ω)
   | none=>none
  | _=>none
 | _=>none
@[simp] def xH(cs:List Str)(i:Nat)(f:Str)(fi:Ev→Mo A):A→MS:=fun a ρ Ω=>match lM cs i f ρ Ω with
 | some (s,cls,fs,.lst ds)=>match fi ρ Ω with
  | some (.ok (.int n),_)=>match nV ds.length n with
   | some j=>some (.nx,ρ,Ω.set s (.ins cls (putD f (.lst (ds.set j a)) fs)))
   | none=>none
  | _=>none
 | _=>none
@[simp] def GP(cs:List Str)(i:Nat)(f:Str)(fe:Ev→Mo A):Ev→Mo A:=fun ρ Ω=>match lM cs i f ρ Ω with
 | some (s,cls,fs,.lst ds)=>match fe ρ Ω with
  | some (.ok a,_)=>if ds.length<sizeLine then some (.ok .bB,Ω.set s (.ins cls (putD f (.lst (ds++[a])) fs)))else none
  | _=>none
 | _=>none
theorem Vv{n:Nat}:∀{ds:List A} {i:Nat} {d:A},gC n ds→ds[i]? = some d→Cl n d
 | [],_,_,_,h=>by simp at h
 | _::_,0,_,c,h=>by simp at h;subst h;exact c.1
 | _::ds,i+1,_,c,h=>Vv (ds:=ds) c.2 (by simpa using h)
theorem Vu{n:Nat}{a:A}(ha:Cl n a):∀{ds:List A} (j:Nat),gC n ds→gC n (ds.set j a)
 | [],_,_=>trivial
 | _::_,0,c=>⟨ha,c.2⟩
 | _::ds,j+1,c=>⟨c.1,Vu ha j c.2⟩
theorem Vw{n:Nat}:∀{ds es:List A},gC n ds→gC n es→gC n (ds++es)
 | [],_,_,h=>h
 | _::_,_,c,h=>⟨c.1,Vw c.2 h⟩
theorem XU{cs:List Str}{i:Nat}{f:Str}{ρ:Ev}{Ω:aI}{s:Nat}{cls:Str}{fs:List (Str×Fd)}{fd:Fd}(cl:yJ Ω ρ)(h:lM cs i f ρ Ω=some (s,cls,fs,fd)):oN Ω.length fd:=by
 obtain⟨h1,h2,h3,h4⟩:=HK h;obtain⟨j,e1,_⟩:=DW h4;exact(cl.aD s _ h2:nL _ fs).get e1
section
variable{X:Cx}{W:WX}{e e1 o tg:Expr}{f:Str}{cs:List Str}{i:Nat}{pos pos' apos asZ:Pos}{fe fi:Ev→Mo A}
theorem Kt(h:VE X W e (aS iG (aH (gY cs f (dG i)) a0))):VE X W e (MU cs i f):=by
 refine TV h fun ρ Ω r cl hd=>?_;unfold MU at hd;split at hd
 ·rename_i s cls fs ds eo;cases hd;refine⟨s,f,_,.int ds.length,_,MX eo rfl,?_,Uh cl eo rfl,by simp only [Cl],rfl⟩;have q:=DY (c := .lst ds) eo;have l:cU (dX Ω s cls f fs (.lst ds)) (.aD Ω.length)=some ds:=jV (zO eo);have l2:gE (dX Ω s cls f fs (.lst ds)) (.aD Ω.length)=some ds:=l;show mb (mb (gY cs f (dG i) ρ) fun x=>mb (a0 ρ) fun xs=>ret (x::xs)) iG _=_;rw [zM (a:=[A.aD Ω.length]) (Ω1:=dX Ω s cls f fs (.lst ds)) (by rw [zM q];rfl)];simp [iG,l,l2]
 ·cases hd
theorem MQ(h:VE X W e (aF kI (gY cs f (dG i)) fi))(hp:KZ fi):VE X W e (mY cs i f fi):=by
 refine TV h fun ρ Ω r cl hd=>?_;unfold mY at hd;split at hd
 ·rename_i s cls fs ds eo;split at hd
  ·rename_i n Ω' e2;split at hd
   ·rename_i d e3;cases hd;obtain⟨a,q1,q2,_⟩:=hp ρ Ω (dX Ω s cls f fs (.lst ds)) _ e2;cases q1;have hc:Cl Ω.length d:=by
     unfold gU at e3;cases e4:nV ds.length n with
     | none=>rw [e4]at e3;cases e3
     | some k=>rw [e4]at e3;exact Vv (XU cl eo:gC _ ds) e3
    refine⟨s,f,_,d,_,MX eo rfl,?_,Uh cl eo rfl,hc,rfl⟩;have q:=DY (c := .lst ds) eo;have l:gE (dX Ω s cls f fs (.lst ds)) (.aD Ω.length)=some ds:=jV (zO eo);simp only [aF];rw [zM q,zM q2];simp [kI,l,e3]
   ·cases hd
  ·cases hd
 ·cases hd
theorem TR(h:VG X W tg (Dd (gY cs f (dG i)) fi))(hp:KZ fi):VG X W tg (xH cs i f fi):=by
 refine aaU h fun a ρ Ω r cl ca hd=>?_;unfold xH at hd;split at hd
 ·rename_i s cls fs ds eo;split at hd
  ·rename_i n Ω' e2;split at hd
   ·rename_i j e3;cases hd;obtain⟨b,q1,q2,_⟩:=hp ρ Ω (dX Ω s cls f fs (.lst ds)) _ e2;cases q1;refine⟨s,f,_,dX Ω s cls f fs (.lst (ds.set j a)),MX eo rfl,?_,Dy cl eo rfl (Vu ca j (XU cl eo)),fun k d hk=>cl.env k d hk,rfl⟩;have q:=DY (c := .lst ds) eo;have l:(dX Ω s cls f fs (.lst ds))[Ω.length]? = some (.lst ds):=zO eo;simp only [Dd];rw [Nt q,Nt q2];simp only [setCell,l,e3,Qn]
   ·cases hd
  ·cases hd
 ·cases hd
theorem aaZ(h:VE X W e (pG tE (gY cs f (dG i)) (aH fe a0)))(hp:KZ fe):VE X W e (GP cs i f fe):=by
 refine TV h fun ρ Ω r cl hd=>?_;unfold GP at hd;split at hd
 ·rename_i s cls fs ds eo;split at hd
  ·rename_i a Ω' e2;split at hd
   ·rename_i hl;cases hd;obtain⟨b,q1,q2,q3⟩:=hp ρ Ω (dX Ω s cls f fs (.lst ds)) _ e2;cases q1;refine⟨s,f,_,.bB,dX Ω s cls f fs (.lst (ds++[a])),MX eo rfl,?_,Dy cl eo rfl (Vw (XU cl eo) ⟨q3 cl,trivial⟩),by simp only [Cl],rfl⟩;have q:=DY (c := .lst ds) eo;have l:rU (dX Ω s cls f fs (.lst ds)) (.aD Ω.length)=some (Ω.length,ds):=QQ (zO eo);have il:zU (dX Ω s cls f fs (.lst ds)) (.aD Ω.length):=OX (jV (zO eo));simp only [pG];rw [zM q,if_pos il];rw [zM (a:=[a]) (Ω1:=dX Ω s cls f fs (.lst ds)) (by
     show mb (fe ρ) (fun x=>mb (a0 ρ) fun xs=>ret (x::xs)) _=_;rw [zM q2];rfl)]
    simp only [tE,l,if_pos hl,Qn]
   ·cases hd
  ·cases hd
 ·cases hd
end
def DX(Ω:aI):A→Option (List A)
 | .lst ds=>some ds
 | .aD k=>match Ω[k]? with
  | some (.lst ds)=>some ds
  | _=>none
 | _=>none
theorem anD{K:Frag}{G H:Hp}{ι:List Addr}{Ω:aI}{v:V}{a:A}{ds:List A}(w:Wd K G ι Ω H)(d:Den K G ι v a)(h:DX Ω a=some ds):∃p xs,v = .ref p∧H p=some (.lst xs)∧aO K G ι xs ds:=by
 cases a with
 | lst es =>
  simp only [DX,jO]at h;subst h;simp only [Den]at d;obtain⟨p,xs,rfl,h2,h3⟩:=d;exact⟨p,xs,rfl,w.sub _ _ h2,h3⟩
 | aD j =>
  simp only [DX]at h;split at h
  ·rename_i es e;cases h;simp only [Den]at d;obtain⟨p,rfl,hk⟩:=d;obtain⟨g,xs,h3,h4⟩:=w.aD j _ p e hk;exact⟨p,xs,rfl,h3,h4⟩
  ·cases h
 | _=>simp [DX]at h
@[simp] def Dp(o:A)(as:List A):Mo A:=fun Ω=>match rU Ω o,as with
 | some (k,ds),[y]=>match DX Ω y with
  | some es=>if ds.length+es.length≤sizeLine then some (.ok .bB,Ω.set k (.lst (ds++es)))else none
  | none=>none
 | _,_=>none
theorem am3{X:Cx}{W:WX}:Hf X.K W Of Dp:=by
 intro G ι Ω H σ x xs a as Q w d1 d2 h;unfold Dp at h;split at h
 ·rename_i k ds y e;split at h
  ·rename_i es e2;split at h
   ·rename_i hl;obtain⟨p,zs,rfl,hk,g,h3,h4⟩:=Vz w d1 e;obtain⟨u,rfl,du⟩:=xM d2;obtain⟨p2,ys,rfl,h5,h6⟩:=anD w du e2;refine⟨p,p2,zs,ys,rfl,rfl,h3,h5,by rw [h4.length,h6.length];exact hl,?_⟩;exact h _ _ G ι (Ext.refl _ _) (w.put (c := .lst (ds++es)) hk g ⟨g,_,fA,h4.append h6⟩) (by simp only [Den])
   ·exact False.elim h
  ·exact False.elim h
 ·exact False.elim h
def BW(i:Nat)(f:Str)(g:MS)(ρ:Ev)(Ω:aI)(r:Out×Ev×aI):Prop :=
 ∃s cls fs fd c Ωa fd' c',ρ[i]? = some (some (.aD s))∧Ω[s]? = some (.ins cls fs)∧fs.lookup f=some fd∧fd.cell=some c∧g ρ (dX Ω s cls f fs c)=some (.nx,r.2.1,Ωa++[c'])∧Ωa.length=Ω.length ∧
  Ωa[s]? = some (.ins cls (putD f (.val (.aD Ω.length)) fs))∧fd'.cell=some c'∧(∀(k:Nat) (x:Cell),k≠s→Ωa[k]? = some x→Ω[k]? = some x∨CJ Ω.length x)∧(fd'=fd∨oN Ω.length fd') ∧
  (∀(j:Nat) (d:A),r.2.1[j]? = some (some d)→ρ[j]? = some (some d)∨Cl Ω.length d)∧r.1 = .nx∧r.2.2=Ωa.set s (.ins cls (putD f fd' fs))
open Classical in
noncomputable def sH(i:Nat)(f:Str)(g:MS):MS:=fun ρ Ω=>if h:∃r,BW i f g ρ Ω r then some (Classical.choose h)else none
theorem au5{a b:Fd}{c:Cell}(h1:a.cell=some c)(h2:b.cell=some c):a=b:=by
 cases a with
 | val x=>cases h1
 | lst ds=>cases b with
  | lst es=>cases h1;cases h2;rfl
  | val _=>cases h2
  | bD _=>cases h1;cases h2
 | bD aB=>cases b with
  | bD es=>cases h1;cases h2;rfl
  | val _=>cases h2
  | lst _=>cases h1;cases h2
theorem BW.uniq{i:Nat}{f:Str}{g:MS}{ρ:Ev}{Ω:aI}{r r':Out×Ev×aI}(h:BW i f g ρ Ω r)(h':BW i f g ρ Ω r'):r=r':=by
 obtain⟨s,cls,fs,fd,c,Ωa,Uq,c1,a1,a2,a3,a4,a5,a6,a7,a8,a9,Xf,Xe,Gv,Gu⟩:=h;obtain⟨s',oJ,mQ,fd',c',Ωb,fd2,c2,b1,b2,b3,b4,b5,b6,b7,b8,b9,b10,b11,b12,b13⟩:=h';rw [a1]at b1;cases b1;rw [a2]at b2;cases b2;rw [a3]at b3;cases b3;rw [a4]at b4;cases b4;rw [a5]at b5;obtain⟨r1,r2,r3⟩:=r;obtain⟨p1,p2,p3⟩:=r';simp only [jO,RO,true_and]at *;obtain⟨e1,e2⟩:=b5;obtain⟨rfl,e3⟩:=List.append_inj' e2 rfl;simp only [vL,and_true]at e3;subst e3;have:=au5 a8 b8;subst this;subst Gv b12;exact⟨rfl,e1,by rw [Gu,b13]⟩
theorem Nu{i:Nat}{f:Str}{g:MS}{ρ:Ev}{Ω:aI}{r:Out×Ev×aI}(h:BW i f g ρ Ω r):sH i f g ρ Ω=some r:=by
 have ex:∃r,BW i f g ρ Ω r:=⟨r,h⟩;unfold sH;rw [dif_pos ex];exact congrArg some (BW.uniq (Jm ex) h)
section
variable{X:Cx}{W:WX}{st:Stmt}{f:Str}{cs:List Str}{i:Nat}{pos ayF apos asZ ax6:Pos}{gs:MS}{x:Str}
theorem Kn(h:VS X W st gs):VS X W st (sH i f gs):=by
 refine aaM h fun ρ Ω r cl hd=>?_;unfold sH at hd;split at hd
 ·rename_i ex;cases hd;generalize hr:Classical.choose ex=r;have mK:=Jm ex;rw [hr]at mK;obtain⟨s,cls,fs,fd,c,Ωa,Uq,c1,a1,a2,a3,a4,a5,a6,a7,a8,a9,Xf,Xe,Gv,Gu⟩:=mK;obtain⟨ix,e1,_⟩:=DW a3;have hfd:oN Ω.length fd:=(cl.aD s _ a2:nL _ fs).get e1;refine⟨s,f,_,Ωa++[c1],⟨cls,fs,fd,c,a2,a3,a4,rfl⟩,a5,⟨Ωa,c1,cls,_,Uq,rfl,a6,a7,by rw [HI,if_pos rfl],a8,fun k x hk hx=>?_,?_,by rw [zF];exact Gu⟩,fun j d hj=>?_,Gv⟩
  ·rcases a9 k x hk hx with z | z
   ·exact cl.aD k x z
   ·exact z
  ·rw [zF];exact QP (cl.aD s _ a2:nL _ fs) (by rcases Xf with z | z;exact z ▸ hfd;exact z)
  ·rcases Xe j d hj with z | z
   ·exact cl.env j d z
   ·exact z
 ·cases hd
end
def HR(cs:List Str)(i:Nat)(ρ:Ev)(Ω:aI):Option (Nat×Str×List (Str×Fd)):=match (ρ[i]?).join with
 | some (.aD s)=>match Ω[s]? with
  | some (.ins cls fs)=>if cls∈cs then some (s,cls,fs)else none
  | _=>none
 | _=>none
theorem alW{cs:List Str}{i:Nat}{ρ:Ev}{Ω:aI}{s:Nat}{cls:Str}{fs:List (Str×Fd)}(h:HR cs i ρ Ω=some (s,cls,fs)):ρ[i]? = some (some (.aD s))∧Ω[s]? = some (.ins cls fs)∧cls∈cs:=by
 unfold HR at h;cases e1:(ρ[i]?).join with
 | none=>rw [e1]at h;cases h
 | some d =>
  rw [e1]at h;cases d with
  | aD k =>
   simp only at h;cases e2:Ω[k]? with
   | none=>rw [e2]at h;cases h
   | some c =>
    rw [e2]at h;cases c with
    | ins oJ mQ =>
     simp only at h
     by_cases hc:oJ∈cs
     ·rw [if_pos hc]at h;cases h;exact⟨join_some e1,e2,hc⟩
     ·rw [if_neg hc]at h;cases h
    | _=>cases h
  | _=>cases h
@[simp] def Fd.HQ:Cell→Option Fd
 | .lst ds=>some (.lst ds)
 | .bD aB=>some (.bD aB)
 | _=>none
theorem Fd.alU{c:Cell}{fd:Fd}(h:Fd.HQ c=some fd):fd.cell=some c:=by
 cases c <;> cases h <;> rfl
open Classical in
@[simp] noncomputable def DL(cs:List Str)(i:Nat)(f:Str)(fv:Ev→Mo A):MS:=fun ρ Ω=>match HR cs i ρ Ω with
 | some (s,cls,fs)=>match fv ρ Ω with
  | some (.ok (.aD n),Ω1)=>match Ω1[Ω.length]? with
   | some c=>match Fd.HQ c with
    | some fd=>if n=Ω.length∧Ω1=Ω++[c]∧fs.length<1000∧oN Ω.length fd then some (.nx,ρ,Ω.set s (.ins cls (putD f fd fs)))else none
    | none=>none
   | none=>none
  | _=>none
 | none=>none
section
variable{X:Cx}{W:WX}{st:Stmt}{f:Str}{cs:List Str}{i:Nat}{fv:Ev→Mo A}
theorem Ko(h:VS X W st (nT cs f (dG i) fv)):VS X W st (DL cs i f fv):=by
 obtain⟨t,p,sm⟩:=h;refine⟨t,p,fun G ι Ω H σ ρ D w r h=>?_⟩;have cl:=w.qR r;unfold DL at h;split at h
 ·rename_i s cls fs eo;split at h
  ·rename_i n Ω1 e1;split at h
   ·rename_i c e2;split at h
    ·rename_i fd e3;split at h
     ·rename_i hc;obtain⟨rfl,rfl,hl,jI⟩:=hc;obtain⟨h1,h2,h3⟩:=alW eo;have oS:s<Ω.length:=(bO.mp h2).1;have EN:=Fd.alU e3;refine sm G ι Ω H σ ρ D w r ?_;have vB:(ρ[i]?).join=some (.aD s):=by rw [h1];rfl
      have oE:(Ω++[c])[s]? = some (.ins cls fs):=by rw [eK oS];exact h2
      have e:nT cs f (dG i) fv ρ Ω=some (.nx,ρ,Ω.set s (.ins cls (putD f (.val (.aD Ω.length)) fs))++[c]):=by
       simp only [nT,sM,e1,dG,need,vB,LA,oE,if_pos (And.intro h3 hl)];rw [List.set_append_left _ _ oS]
      rw [e];intro σ' H' G' ι' ex w' r';have wf:=w'.fold (s:=s) (f:=f) (fd:=fd) (cls:=cls) (fs:=putD f (.val (.aD Ω.length)) fs) (gX oS) (by rw [HI,if_pos rfl];simp) EN (fun k x hk hx=>by
       rw [fY (cA hk)]at hx;have:=cl.aD k x hx;simpa using this) (by
       rw [zF];have:=QP (f:=f) (cl.aD s _ h2:nL _ fs) jI;simpa using this)
      rw [zF,mT,yB]at wf;refine h σ' H' G' (ι'.take Ω.length) ⟨ex.same,fun k x q=>?_⟩ wf (Ux r' fun j d hj=>cl.env j d hj);have hk:=(bO.mp q).1;rw [FY,if_pos (by rw [← w.len];exact hk)];exact ex.pre k x q
     ·exact h.elim
    ·exact h.elim
   ·exact h.elim
  ·exact h.elim
 ·exact h.elim
end
theorem AZ{K:Frag}{f:Str}:cJ K [] f:=fun cls h=>by simp at h
theorem BA{K:Frag}{f cls:Str}{cs:List Str}{C:Addr}(h1:nsIn K mainGlobals cls=some (some (.ref C)))(h2:lZ K C)(h3:findIn K (.ref C) f=some none)(t:cJ K cs f):cJ K (cls::cs) f:=fun c h=>by
 rcases dZ.mp h with e | e
 ·subst e;exact⟨C,h1,h2,h3⟩
 ·exact t c e
section
variable{P:Program}{w:World}{K:Frag}{mg:Str→Option Value}{base:Heap}
theorem Ea{x qual:Str}{st:Stmt}{N ps:List Str}{k:Nat}{b:MS}{f:Addr}{fd:FuncData}(F:rA K x qual st f fd)(S:dF N ps (aX st))
  (oA:∀(f:Addr) (bC:Value) (A:Around) (outer:List Env) (s:Shared) (H:Hp) (E:XK),cY k (A.deeper (envOfC qual (aX st) s.heap.objs.size f bC)) →
   lD (qQ P w K mg base N qual (aX st) f bC A outer s H E) (fun _=>E) (hV st) b):iV P w K mg base (nN P w) (k+1) f fd ps (sF K ps.length (dN N.length b)):=by
 obtain⟨oc,od,kV,doc,pm,an,bC,ct,jT,rfl,lk,mO⟩:=F.ex;refine Dz lk mO S (fun vs H Q E h=>h.1) fun A outer s H vs Q E hr mK=>?_;obtain⟨t,p,q⟩:=oA f bC A outer s H E hr;exact⟨t,YU p,Fb q mK⟩
structure oK(K:Frag)(mg:Str→Option Value)(cls m qual:Str)(st:Stmt):Prop where
 ex:∃C f fd,nsIn K mainGlobals cls=some (some (.ref C))∧mg cls=some (.ref C)∧lZ K C∧Meth K C m f∧rA K m qual st f fd
theorem cL.of{cls m qual:Str}{st:Stmt}{N ps:List Str}{k:Nat}{b:MS}(h:oK K mg cls m qual st)(S:dF N ps (aX st))
  (bind:∀(kV doc pm:Value) (an:Option Addr) (bC ct:Value) (us:List Value),us.length=ps.length→bindArgs (fnOf m qual (mR st) (hV st) (aX st) .none kV doc pm an bC ct) ⟨us,[]⟩=pure (ps.zip us))
  (oA:∀(f:Addr) (bC:Value) (A:Around) (outer:List Env) (s:Shared) (H:Hp) (E:XK),cY k (A.deeper (envOfC qual (aX st) s.heap.objs.size f bC)) →
   lD (qQ P w K mg base N qual (aX st) f bC A outer s H E) (fun _=>E) (hV st) b):cL P w K mg base cls m (k+1) ps.length [] (dN N.length b):=by
 obtain⟨C,f,fd,h1,_,h2,h3,F⟩:=h.ex;exact⟨C,f,fd,ps,[],[],h1,h2,h3,rfl,Ea F S oA,F.binds bind,.nil,fun _ _ => .nil⟩
structure SH(K:Frag)(mg:Str→Option Value)(cls qual:Str)(st:Stmt):Prop where
 ex:∃C f fd,nsIn K mainGlobals cls=some (some (.ref C))∧mg cls=some (.ref C)∧Mk K C f∧rA K "__init__" qual st f fd
theorem xW.of{cls qual:Str}{st:Stmt}{N ps:List Str}{k:Nat}{b:MS}(h:SH K mg cls qual st)(S:dF N ps (aX st))
  (bind:∀(kV doc pm:Value) (an:Option Addr) (bC ct:Value) (us:List Value),us.length=ps.length→bindArgs (fnOf "__init__" qual (mR st) (hV st) (aX st) .none kV doc pm an bC ct) ⟨us,[]⟩=pure (ps.zip us))
  (oA:∀(f:Addr) (bC:Value) (A:Around) (outer:List Env) (s:Shared) (H:Hp) (E:XK),cY k (A.deeper (envOfC qual (aX st) s.heap.objs.size f bC)) →
   lD (qQ P w K mg base N qual (aX st) f bC A outer s H E) (fun _=>E) (hV st) b):xW P w K mg base cls (k+1) ps.length (dN N.length b):=by
 obtain⟨C,f,fd,h1,h2,h3,F⟩:=h.ex;exact⟨C,f,fd,ps,h1,h2,h3,rfl,Ea F S oA,F.binds bind⟩
structure LS(K:Frag)(mg:Str→Option Value)(rk m qual:Str)(st:Stmt):Prop where
 ex:∃R f fd,mg rk=some (.ref R)∧Jn K R m f∧rA K m qual st f fd
theorem tV.of{rk m qual:Str}{st:Stmt}{N ps:List Str}{k:Nat}{b:MS}(h:LS K mg rk m qual st)(S:dF N ps (aX st))
  (bind:∀(kV doc pm:Value) (an:Option Addr) (bC ct:Value) (us:List Value),us.length=ps.length→bindArgs (fnOf m qual (mR st) (hV st) (aX st) .none kV doc pm an bC ct) ⟨us,[]⟩=pure (ps.zip us))
  (oA:∀(f:Addr) (bC:Value) (A:Around) (outer:List Env) (s:Shared) (H:Hp) (E:XK),cY k (A.deeper (envOfC qual (aX st) s.heap.objs.size f bC)) →
   lD (qQ P w K mg base N qual (aX st) f bC A outer s H E) (fun _=>E) (hV st) b):tV P w K mg base rk m (k+1) ps.length (dN N.length b):=by
 obtain⟨R,f,fd,h1,h2,F⟩:=h.ex;exact⟨R,f,fd,ps,h1,h2,rfl,Ea F S oA,F.binds bind⟩
end
theorem Inv.Li{X:Cx}{pins:List (Addr×Obj)}{σ:L2.St}{H:Hp}{s:Shared}{h':Heap}{t':Nat}{ch:List Addr}(I:Inv X pins σ H s)(k:∀b o,b∉ch→s.heap.get? b=some o→h'.get? b=some o)(hf:∀b∈ch,rB X pins H b):Inv X pins σ H { s with heap:=h',toks:=t' }:=by
 have ne:∀b u,H b=some u→b∉ch:=fun b u q z=>by rw [(hf b z).1]at q;cases q
 refine I.step (g':=s.gens) (d':=s.drawn) (ch:=ch) (fun b hb=>?_) (fun b o _ _ hc q _=>k b o hc q) (fun b o _ _ hc q _=>⟨o.slots,k b o hc q⟩) (fun _ _ _ _ n=>n)
  (fun b o hc q=>⟨o,k b o hc q⟩) (fun _ _ q=>q) (fun _ _ _ q=>q) (fun b ps q=>⟨#[],by rw [q];simp⟩) (fun m hm=>?_) (fun b u q=>?_) I.bare
 ·obtain⟨a0,a1,a2,a3,a4,a5⟩:=hf b hb;exact⟨a3,a1,a4,a5⟩
 ·obtain⟨o,es,ep,ho,r⟩:=hm;exact⟨o,es,ep,k _ o (fun z=>(hf _ z).2.1 rfl) ho,r⟩
 ·refine(I.aK b u q).oP (fun c v hc q'=>k c v ?_ q') (fun _ q=>q) fun _ _ q=>q
  rcases hc with z | z
  ·rw [z];exact ne b u q
  ·exact ne c _ z
open PySem PySem.Spec PyProof PyProof.Rows L2
section
variable{X:Cx}{W:WX}{e a b:Expr}{es:List Expr}{pos:Pos}{fa fb:Ev→Mo A}{te:TE}{tl th tk:TO}{lo hi stp:Option Expr}
def nB{α:Type}(xs:List α)(lo hi st:Option Int):List α :=
 (sliceRange (sliceBounds lo hi st xs.length).1 (sliceBounds lo hi st xs.length).2.1 (sliceBounds lo hi st xs.length).2.2).filterMap (xs[·]?)
theorem aa4{xs:List V}{us:List Value}(h:Vals xs us):∀ps:List Nat,Vals (ps.filterMap (xs[·]?)) (ps.filterMap (us[·]?)):=by
 intro ps
 induction ps with
 | nil=>exact .nil
 | cons p ps ih =>
  rw [yD,yD]
  rcases LC p xs.length with q | q
  ·obtain⟨u,e1,e2⟩:=h.get (gK q);rw [gK q,e1];exact .cons e2 ih
  ·rw [BS q,BS (by rw [← h.length];exact q)];exact ih
theorem Pb{xs:List V}{us:List Value}(h:Vals xs us)(lo hi st:Option Int):Vals (nB xs lo hi st) (slicePick us.toArray lo hi st).toList:=by
 have:=aa4 h (sliceRange (sliceBounds lo hi st xs.length).1 (sliceBounds lo hi st xs.length).2.1 (sliceBounds lo hi st xs.length).2.2);unfold nB slicePick;simpa [h.length]using this
theorem atV{K:Frag}{G:Hp}{ι:List Addr}{xs:List V}{ds:List A}(h:aO K G ι xs ds):∀ps:List Nat,aO K G ι (ps.filterMap (xs[·]?)) (ps.filterMap (ds[·]?)):=by
 intro ps
 induction ps with
 | nil=>exact .nil
 | cons p ps ih =>
  rw [yD,yD]
  rcases LC p ds.length with q | q
  ·obtain⟨u,e1,e2⟩:=h.get (gK q);rw [gK q,e1];exact .cons e2 ih
  ·rw [BS q,BS (by rw [h.length];exact q)];exact ih
theorem aj1{K:Frag}{G:Hp}{ι:List Addr}{xs:List V}{ds:List A}(h:aO K G ι xs ds)(lo hi st:Option Int):aO K G ι (nB xs lo hi st) (nB ds lo hi st):=by
 unfold nB;rw [h.length];exact atV h _
theorem aj4(us:List Value)(xs:List V)(h:Vals xs us)(lo hi st:Option Int):(nB xs lo hi st).length≤xs.length:=by
 have e:=(Pb h lo hi st).length;have s:=slicePick_size_le us.toArray lo hi st;have l:=h.length;simp only [eY,fL]at e s;omega
def ab7(K:Frag)(te:TE)(tl th tk:TO):TE:=fun σ H Q=>te σ H fun x H1=>tl σ H1 fun l H2=>th σ H2 fun u H3=>tk σ H3 fun k H4 =>
 ∃a xs,x = .ref a∧fK K H4 a xs∧k≠some 0∧∀p,H4 p=none→Q (.ref p) (upd H4 p (.lst (nB xs l u k)))
theorem akE{p2:Pos}{ks:Expr}(he:PE X e te)(hl:PO X lo tl)(hu:PO X hi th)(hk:PO X (some ks) tk):PE X (.Subscript e (.Slice lo hi (some ks) p2) pos) (ab7 X.K te tl th tk):=by
 intro pins s σ H Q I h;refine Subscript_ (aY (he pins s σ H _ I h) fun v s1 ⟨x,H1,I1,r1,q1⟩=>?_);refine wpAny_Slice (aY (hl pins s1 σ H1 _ I1 q1) fun vl s2 ⟨l,H2,I2,pl,q2⟩=>aY (hu pins s2 σ H2 _ I2 q2) fun vu s3 ⟨u,H3,I3,pu,q3⟩=>?_);refine aY (hk pins s3 σ H3 _ I3 q3) fun vk s4 ⟨k,H4,I4,pk,q4⟩=>?_;obtain⟨a,xs,rfl,hx,mL,q⟩:=q4;cases r1;have I5:Inv X pins σ H4 { s4 with heap:=s4.heap.push { cls := .type "slice",data := .fields #[vl,vu,vk] } }:=I4.kept (t':=s4.toks) fun b ob q=>cZ _ q;obtain⟨aN,r,ht,hz⟩:=I5.list hx;have hlen:=r.length;have hg:wpAny (model X.prog X.w) X.A (getItem (.ref a) (.ref s4.heap.objs.size)) (EP X pins σ Q) X.xe { s4 with heap:=s4.heap.push { cls := .type "slice",data := .fields #[vl,vu,vk] } }:=by
  refine wpAny_getItem_list_slice ht.isList (Heap.IsSliceOf.new ..) pl pu pk mL ?_ (by rw [fL];omega);refine⟨.ref _,_,I5.laid (t':=s4.toks) (o := .lst (nB xs l u k)) (fun b ob q=>cZ _ q) cE ?_,rfl,q _ (I5.aK.fresh cE)⟩;refine⟨kN (aj4 aN xs r l u k) hz,_,0,Pb r l u k,?_⟩;rw [Array.toArray_toList];exact gM _ rfl
 show wpAny (model X.prog X.w) X.A (subscriptTail e (.Slice lo hi (some ks) p2) (.ref a) (.ref s4.heap.objs.size)) (EP X pins σ Q) X.xe { s4 with heap:=s4.heap.push { cls := .type "slice",data := .fields #[vl,vu,vk] } };exact tail_any (ops:=[.ref a,.ref s4.heap.objs.size]) ht.isList.typeIs slot_list_getitem.lookup hg (by with_unfolding_all rfl)
@[simp] def Ua(c:Bool)(a:A)(lo hi st:Option Int):Mo A:=fun Ω=>match cU Ω a with
 | some ds=>if st=some 0 then none else uO c (nB ds lo hi st) Ω
 | none=>none
@[simp] def UB(c:Bool)(f:Ev→Mo A)(l h k:Ev→Mo (Option Int)):Ev→Mo A:=fun ρ=>mb (f ρ) fun a=>mb (l ρ) fun lo=>mb (h ρ) fun hi=>mb (k ρ) fun st=>Ua c a lo hi st
theorem Ks(c:Bool){ks:Expr}{fl fh fk:Ev→Mo (Option Int)}{p2:Pos}(he:VE X W e fa)(hl:VO X W lo fl)(hh:VO X W hi fh)(hk:VO X W (some ks) fk):VE X W (.Subscript e (.Slice lo hi (some ks) p2) pos) (UB c fa fl fh fk):=by
 obtain⟨t,p1,s1⟩:=he;obtain⟨u,p2,s2⟩:=hl;obtain⟨u',p3,s3⟩:=hh;obtain⟨u2,p4,s4⟩:=hk;refine⟨_,akE p1 p2 p3 p4,fun G ι Ω H σ ρ Q w r h=>?_⟩;refine s1 G ι Ω H σ ρ _ w r (bH.mb h fun x Ω1 v H1 G1 ι1 x1 w1 d1 h1=>?_);refine s2 G1 ι1 Ω1 H1 σ ρ _ w1 (r.ext x1) (bH.mb h1 fun o Ω2 o' H2 G2 ι2 x2 w2 d2 h2=>?_);cases(show o'=o from d2);refine s3 G2 ι2 Ω2 H2 σ ρ _ w2 ((r.ext x1).ext x2) (bH.mb h2 fun k Ω3 k' H3 G3 ι3 x3 w3 d3 h3=>?_);cases(show k'=k from d3);refine s4 G3 ι3 Ω3 H3 σ ρ _ w3 (((r.ext x1).ext x2).ext x3) (bH.mb h3 fun j Ω4 j' H4 G4 ι4 x4 w4 d4 h4=>?_);cases(show j'=j from d4);have d:=d1.ext ((x2.trans x3).trans x4);unfold Ua at h4;split at h4
 ·rename_i ds e;split at h4
  ·exact False.elim h4
  ·rename_i hj;obtain⟨p,xs,rfl,q2,q3⟩:=rM w4 d e;exact⟨p,xs,rfl,q2,hj,fun l hl=>zJ w4 hl (aj1 q3 o k j) h4⟩
 ·exact False.elim h4
end
end V2
namespace L2
open PySem PySem.Spec PyProof.Rows
section
variable{X:Cx}
theorem ajH{elt tg iter:Expr}{ifs:List Expr}{scope:Scope}{pos GX pos':Pos}{ls:List Str}{js:List Nat}{wi:TI}{g:TG}{tc:TT}{te:TE}{k:Nat}{x:Str}(hN:X.N.Nodup)(jH:X.N[k]? = some x)(rN:Loc X.env.scope x)(hc:X.calm=true)(L:yF X scope ls js)(hi:PI X tg iter wi)
  (hb:∀cl C s H fp,PG (eQ X scope ls js cl C s H fp) tg g∧FQ (eQ X scope ls js cl C s H fp) ifs tc∧PE (eQ X scope ls js cl C s H fp) elt te)
  (Ar:swapsWith (.ListComp elt [⟨tg,iter,ifs,0⟩] scope pos) (some (.Name x pos')) GX.line X.env=pure true)
  (hs:∀x,foldedSetIterable iter X.env x=pure x) (hf:X.fn x=true∨X.env.scope.names.lookup x=some .local):PS X (.Assign [.Name x pos'] (.ListComp elt [⟨tg,iter,ifs,0⟩] scope pos) GX) (NI (UR ls js wi g tc te) (Dh k)):=by
 intro pins s σ H D I h;obtain⟨cl,jI,eS,fS⟩:=Vr (scope:=scope) (env:=X.env) fun y hy hf=>I.ok.has y.1 (L.free y hy hf);rw [exec_Assign_Name_used _ _ _ _ Ar];refine aE (wpAny_standAt (aE ?_));show wpAny _ X.A (do let _ ← comprehension (.ListComp elt [⟨tg,iter,ifs,0⟩] scope pos) scope X.env _ (newList []) false (eval iter X.env) (some (assign (.Name x pos') X.env))) _ _ s;refine aE (qE (wpAny_comprehension_free (use:=some (assign (.Name x pos') X.env)) (Q:=fun _ s'=>SP X pins D .next s') rfl hs jI L.kind L.names (aY (hi pins s σ H _ I h) fun v s1 h1=>aY h1 fun OV s2 h2=>?_)) (fun _ s' hq=>aQ (aQ hq)) fun _ _ e=>e);obtain⟨it,fp,tn,J,H1,e,I2,T,gZ,f2,h2⟩:=h2;subst e;refine mV (wpAny_newFunctionEnv L.cell (by intro y hy;simp at hy) (fun h₁ zY zX=>?_) L.kind);dsimp only at zY zX ⊢;generalize AM:s2.heap.push { cls := .type "list",dict:=none,data := .seq ([]:List Value).toArray }=G2 at zY zX ⊢;have PZ:G2.objs.size=s2.heap.objs.size+1:=by rw [← AM,CA]
 have JT:H1 s2.heap.objs.size=none:=I2.aK.fresh cE;have Cb:H1 G2.objs.size=none:=I2.aK.fresh (by omega);have Bz:s2.heap.objs.size≠G2.objs.size:=by omega
 have By:G2.get? s2.heap.objs.size=some { cls := .type "list",dict:=none,data := .seq ([]:List Value).toArray }:=by rw [← AM];exact gM _ rfl
 have zS:∀b o,s2.heap.get? b=some o→G2.get? b=some o:=fun b o e=>by rw [← AM];exact cZ _ e
 have I3:Inv X pins σ (upd H1 s2.heap.objs.size (.lst [])) { s2 with heap:=G2,toks:=s2.toks } :=
  I2.laid (t':=s2.toks) zS cE (show gW X.prog X.w _ G2 _ (.lst [])from⟨by simp,[],0,.nil,By⟩)
 have zT:∀b o,G2.get? b=some o→h₁.get? b=some o:=fun b o e=>(zX.2 b (dH (cR e))).trans (cZ _ e);have I4:Inv X pins σ (upd H1 s2.heap.objs.size (.lst [])) { s2 with heap:=h₁,toks:=s2.toks+0 }:=I3.kept (h':=h₁) (t':=s2.toks+0) zT;generalize hT:(H1,(⟨tg,iter,ifs,0⟩:Comprehension))=Al;clear hT Al;have AR:∀b∈fp,b<s2.heap.objs.size:=fun b hb=>by
  obtain⟨o,e,_⟩:=T.obj 0 _ gZ b hb;exact cR e
 have fpD:s2.heap.objs.size∉fp:=fun z=>Nat.lt_irrefl _ (AR _ z);have JY:∀b∈fp,b≠G2.objs.size:=fun b hb=>dH (by rw [PZ];exact vI (AR b hb));have XY:(eQ X scope ls js cl G2.objs.size { s2 with heap:=G2 } (upd H1 s2.heap.objs.size (.lst [])) fp).Ok:=by
  refine Qu L I3 eS fS cE I3.bs (kN I3.ok.pU I3.sz) I3.stack I3.NJ (fun b hb=>⟨JY b hb,(f2 b hb).2.2.2.2.1⟩) (fun b o e hb=>?_) (fun b hb z=>?_)
  ·rcases(f2 b hb).2.2.2.1 with q | q
   ·exact I2.ok.uM b o e q
   ·exact absurd (lE (cR (I2.ok.bs b o e).1) q) (Nat.lt_irrefl _)
  ·rcases dZ.mp (I3.wC b z)with q | q
   ·exact(f2 b hb).2.1 q
   ·exact(f2 b hb).2.2.1 q
 have IC:Inv (eQ X scope ls js cl G2.objs.size { s2 with heap:=G2 } (upd H1 s2.heap.objs.size (.lst [])) fp) [] (sQ ls js σ) (upd H1 s2.heap.objs.size (.lst [])) { s2 with heap:=h₁,toks:=s2.toks+0 }:=by
  refine⟨XY,rfl,I4.bare,Un.kept zT,⟨_,zY,fun i x v e1 e2 e3=>?_⟩,fun x c e=>I4.cell x c (eS x c e),?_,fun x c e=>I4.kK x c (eS x c e),fun p hp=>?_,I4.aK,?_⟩
  ·obtain⟨k,j,jH,hj,hσ⟩:=Qr e2;obtain⟨y,hy,zV⟩:=L.Ew j (kQ hj);have Ao:x=y:=by
    have xK:(ls++js.map (fun j=>X.N.getD j Str.empty))[i]? = some x:=e1;rw [jH,nK (Nat.le_add_right ..),Nat.add_sub_cancel_left,lF,hj]at xK;have Eh:X.N.getD j Str.empty=x:=mS xK;rw [← Eh,Yk,hy];rfl
   subst Ao;have JB:X.env.kindOf x=some .cell∨X.env.kindOf x=some .free:=by
    have hm:(x,NameKind.free)∈scope.names:=by
     have q:=HH (env:=X.env) L.cell (DV (env:=X.env) zV);exact q
    exact L.free _ hm rfl
   obtain⟨m,hn,hl⟩:=I4.loc;obtain⟨u,r,l⟩:=hl j x v hy hσ (JB.elim (fun z => .inr (.inl z)) fun z => .inr (.inr z));refine⟨u,r,.inr ⟨DV (env:=X.env) zV,?_⟩⟩
   rcases l with⟨kl,_⟩ | ⟨_,c,sY,z⟩
   ·rcases JB with q | q
    ·rw [q]at kl;cases kl
    ·rw [q]at kl;cases kl
   ·have hm:(x,NameKind.free)∈scope.names:=HH (env:=X.env) L.cell (DV (env:=X.env) zV);obtain⟨c',JQ⟩:=fS _ hm rfl;have:=eS _ _ JQ;rw [sY]at this;cases this;exact⟨c,JQ,z⟩
  ·show upd H1 s2.heap.objs.size (.lst []) G2.objs.size=none;rw [bA (cA Bz)];exact Cb
  ·have rQ:p∈X.pn:=by simpa [eQ]using hp
   obtain⟨e,n,ne,nf,d⟩:=I4.pin p (kR _ rQ);obtain⟨e3,_⟩:=I3.pin p (kR _ rQ);refine⟨e,n,?_,fun z=>?_,d⟩
   ·exact dH (cR e3)
   ·rcases dZ.mp (I3.wC p.1 z)with q | q
    ·exact ne q
    ·exact nf q
  ·simp [sQ,eQ]
 obtain⟨Bp,Bo,Bq⟩:=hb cl G2.objs.size { s2 with heap:=G2 } (upd H1 s2.heap.objs.size (.lst [])) fp;obtain⟨W,⟨m0,w0⟩,turn⟩:=h2 s2.heap.objs.size JT;have GW:tn 0 h₁:=T.keep _ _ _ gZ fun b hb o e=>zT b o (zS b o e);have cK:∀{H':Hp},(∀b∈fp,H' b=none)→∀b∈fp,rB (eQ X scope ls js cl G2.objs.size { s2 with heap:=G2 } (upd H1 s2.heap.objs.size (.lst [])) fp) [] H' b:=fun hn b hb=>by
  refine⟨hn b hb,JY b hb,fun z=>?_,.inl hb,fun x c e=>(f2 b hb).2.2.2.2.1 x c (eS x c e),fun p hp=>?_⟩
  ·rcases dZ.mp (I3.wC b z)with q | q
   ·exact(f2 b hb).2.1 q
   ·exact(f2 b hb).2.2.1 q
  ·have rQ:p∈X.pn:=by simpa [eQ]using hp
   exact(f2 b hb).2.2.2.2.2 p (kR _ rQ)
 have Dx:∀b∈fp,(upd H1 s2.heap.objs.size (.lst [])) b=none:=fun b hb=>by
  rw [bA (show b≠s2.heap.objs.size from dH (AR b hb))];exact(f2 b hb).1
 have loop:∀s4:Shared,s4 = { s2 with heap:=h₁,toks:=s2.toks+0 } →
   codeAny (model X.prog X.w) X.A (.compLoop (.ListComp elt [⟨tg,iter,ifs,0⟩] scope pos) 0 (.ref it) (.ref s2.heap.objs.size) (compEnvC scope cl G2.objs.size X.env))
    (compPost (model X.prog X.w) X.A X.xe (some (assign (.Name x pos') X.env)) (fun _ s'=>SP X pins D .next s') (.ref s2.heap.objs.size) G2.objs.size) s4:=by
  rintro s4 rfl;refine Vl (fun n s'=>∃i σ' H',Inv (eQ X scope ls js cl G2.objs.size { s2 with heap:=G2 } (upd H1 s2.heap.objs.size (.lst [])) fp) [] σ' H' s'∧tn i s'.heap∧(∀b∈fp,H' b=none)∧W i n σ' H') ?_ m0 ⟨0,_,_,IC,GW,Dx,w0⟩;rintro n s5 ⟨i,σ5,H5,I5,sE,AQ,w5⟩
  rcases turn i n σ5 H5 w5 with⟨stop,qn⟩ | ⟨go,N,hN,step⟩
  ·refine aY (T.done (eQ X scope ls js cl G2.objs.size { s2 with heap:=G2 } (upd H1 s2.heap.objs.size (.lst [])) fp) rfl rfl rfl hc i [] s5 σ5 H5 _ I5 (cK AQ) sE stop) fun r s6 ⟨hr,I6⟩=>?_;subst hr;obtain⟨m6,Ba,_⟩:=I6.loc;have AE:H5 G2.objs.size=none:=I6.free;have UD:Un (fU X.stack) fp (upd H1 s2.heap.objs.size (.lst [])) H5 G2 s6.heap:=I6.base;have uD:Un (fU X.stack) fp H1 (upd H1 s2.heap.objs.size (.lst [])) s2.heap G2:=Un.laid zS cE JT;have un:=uD.trans UD;have Ic:Inv X pins σ H5 s6:=I2.KL (s':=s6) (ch:=fp) I6.os un I6.aK I6.bare fun b hb=>⟨(f2 b hb).2.2.2.1,(f2 b hb).2.1,(f2 b hb).2.2.2.2.1,(f2 b hb).2.2.2.2.2⟩
   have AF:rB X pins H5 G2.objs.size:=I3.EU cE AE;have aqN:∀b∈[G2.objs.size],rB X pins H5 b:=fun b hb=>by rw [jP.mp hb];exact AF
   obtain⟨oC,esC,epC,eC,dC,kC,fC⟩:=id Ba;have Ip:=Ic.pinned (fp:=[G2.objs.size]) aqN fun b hb=>⟨oC,by rw [jP.mp hb];exact eC,fun v z=>by rw [dC]at z;cases z⟩
   refine aY (Pd (pos:=pos') hN jH rN hf _ s6 σ H5 (.ref s2.heap.objs.size) _ _ Ip rfl qn) fun _ s8 ⟨σ8,H8,I8,q8⟩=>?_;obtain⟨p8,n8,_⟩:=I8.pin (G2.objs.size,oC) (jA _ (jA _ (zL (List.mem_singleton_self _) eC)));refine⟨m6,⟨oC,esC,epC,p8,dC,kC,fC⟩,fun h' lU=>⟨σ8,H8,?_,q8⟩⟩;have ne1:∀b,b∉[G2.objs.size]→b≠G2.objs.size:=fun b hb z=>hb (by rw [z];exact List.mem_singleton_self _);have dB:Un (fU X.stack) [G2.objs.size] H8 H8 s8.heap h':=⟨fun b o e n a x=>(lU.2 b (ne1 b x)).trans e,fun b o e n a x=>⟨o.slots,(lU.2 b (ne1 b x)).trans e⟩,fun _ _ _ n _=>n,fun b o e x=>⟨o,(lU.2 b (ne1 b x)).trans e⟩,fun _ _ q=>q,fun _ _ _ q=>q,fun _ ps q=>⟨#[],by rw [q];simp⟩⟩;have IX:eW X.prog X.w H8 h':=fun b o e=>by
    refine(I8.aK b o e).oP (fun c u sY q=>(lU.2 c ?_).trans q) (fun _ q=>q) fun _ _ q=>q;have So:H8 G2.objs.size=none:=n8;rintro rfl
    rcases sY with z | z
    ·subst z;rw [So]at e;cases e
    ·rw [So]at z;cases z
   exact I8.DC.KL (s':={ s8 with heap:=h' }) (ch:=[G2.objs.size]) rfl dB IX I8.bare fun b hb=>by
    rw [jP.mp hb];exact⟨AF.2.2.2.1,AF.2.1,AF.2.2.2.2.1,AF.2.2.2.2.2⟩
  ·refine aY (T.item (eQ X scope ls js cl G2.objs.size { s2 with heap:=G2 } (upd H1 s2.heap.objs.size (.lst [])) fp) rfl rfl rfl hc i [] s5 σ5 H5 _ I5 (cK AQ) sE go) fun r s6 ⟨u,hr,h6⟩=>?_;subst hr;refine aY h6 fun _ s7 ⟨x,H7,I7,r7,y7,yW,Dw⟩=>?_;have Iw:=I7.pinned (cK Dw) (T.obj _ _ yW);refine aY (Bp _ s7 σ5 H7 x u _ Iw r7 (step x H7 y7)) fun _ s8 ⟨σ8,H8,I8,q8⟩=>?_;refine aY (Bo _ s8 σ8 H8 _ I8 q8) fun ok s9 ⟨H9,I9,q9⟩=>?_;have again:∀{σa:St} {Ha:Hp} {sa:Shared},Inv (eQ X scope ls js cl G2.objs.size { s2 with heap:=G2 } (upd H1 s2.heap.objs.size (.lst [])) fp) ([]++DP fp s7.heap) σa Ha sa→N σa Ha →
     ∃m,m<n∧∃i σ' H',Inv (eQ X scope ls js cl G2.objs.size { s2 with heap:=G2 } (upd H1 s2.heap.objs.size (.lst [])) fp) [] σ' H' sa∧tn i sa.heap∧(∀b∈fp,H' b=none)∧W i m σ' H':=fun{σa Ha sa} Ia na=>by
    obtain⟨m',hm,wa⟩:=hN σa Ha na;refine⟨m',hm,i+1,σa,Ha,Ia.DC,T.keep _ _ _ yW fun b hb o e=>(Ia.pin (b,o) (jA _ (jA _ (zL hb e)))).1,fun b hb=>?_,wa⟩;obtain⟨o,e,d⟩:=T.obj _ _ yW b hb;exact(Ia.pin (b,o) (jA _ (jA _ (zL hb e)))).2.1
   cases ok with
   | false=>exact again I9 q9
   | true =>
    refine aY (Bq _ s9 σ8 H9 _ I9 q9) fun y WZ ⟨z,H10,LP,XJ,ys,hD,bG,nn⟩=>?_;obtain⟨zz,aN,k,r,hl,e⟩:=LP.zN hD;refine call_meets F.slot_list_append ⟨_,e,rfl⟩ F.entry_list_append (Yu _ _) (PySem.list_append s2.heap.objs.size aN.toArray k y (by rw [fL];omega)) ⟨e,?_⟩;refine again (LP.OM (its':=aN++[y]) (t':=WZ.toks) hD e ?_ (r.append (.cons XJ .nil)) ?_) nn
    ·simp
    ·simp;omega
 exact codeAny_compStart_list (loop _ rfl) (T.self _ 0 _ _ _ GW (loop _ rfl))
end
end L2
namespace V2
open PySem PySem.Spec PyProof.Rows L2
theorem aaL{X:Cx}{W:WX}{elt tg iter:Expr}{ifs:List Expr}{scope:Scope}{pos GX pos':Pos}{fi:Ev→Mo Src}{g:A→MS}{c:Ev→Mo Bool}{e:Ev→Mo A}{i:Nat}{x:Str}(cf:Bool)(ls:List Str)(js:List Nat)(hN:X.N.Nodup)(jH:X.N[i]? = some x)(rN:Loc X.env.scope x)(hc:X.calm=true)(L:yF X scope ls js)(hi:VI X W tg iter fi)
  (hb:∀cl C s H fp,VG (eQ X scope ls js cl C s H fp) DT tg g∧FI (eQ X scope ls js cl C s H fp) DT ifs c∧VE (eQ X scope ls js cl C s H fp) DT elt e)
  (Ar:swapsWith (.ListComp elt [⟨tg,iter,ifs,0⟩] scope pos) (some (.Name x pos')) GX.line X.env=pure true:=by rfl)
  (hs:∀x,foldedSetIterable iter X.env x=pure x:=by intro _;rfl) (hf:X.fn x=true∨X.env.scope.names.lookup x=some .local:=by first | exact .inl rfl | exact .inr rfl | assumption) :
  VS X W (.Assign [.Name x pos'] (.ListComp elt [⟨tg,iter,ifs,0⟩] scope pos) GX) (bS (mX cf ls.length js fi g c e) (gN i)):=by
 obtain⟨t1,p1,s1⟩:=hi;exact⟨_,ajH hN jH rN hc L p1 (fun cl C s H fp=>⟨(hb cl C s H fp).1.xR,(hb cl C s H fp).2.1.xR,(hb cl C s H fp).2.2.xR⟩) Ar hs hf,VM (Nc _ s1 Nd NQ NQ) fun _ _ _ _ _ _ _ _ _ w r d h=>pJ w (r.set i d) h⟩
end V2
namespace L2
open PySem PySem.Spec PyProof.Rows
def aw4(h:Heap)(mg:Str→Option Value):Prop:=∃bm o,mg "__builtins__" = some (.ref bm)∧bm≠builtinsNs∧h.get? bm=some o∧o.cls = .type "module"∧o.dict=some builtinsNs∧o.data = .plain
structure aAC(h:Heap)(H:Hp)(f:Addr)(qual:Str)(params:Arguments)(body:Expr)(scope:Scope)(Wa:List (Str×Int)):Prop where
 ex:∃(cl:List (Str×Addr)) (pm ctv:Value) (c':Addr) (oc:Obj) (vs:Array Value) (t:Tok),
  H f=some (.cK (PySem.W.kla_obj "<lambda>" qual params body scope cl pm c' ctv) (.own 0))∧H c'=some (.cK oc (.own 0))∧oc.data = .fields vs∧vs[1]? = some (.str qual t) ∧
  (∀x y c,cl.lookup x=some c→cl.lookup y=some c→x=y)∧(∀y∈scope.names,y.2 = .free→∃c,cl.lookup y.1=some c) ∧
  (∀x c,cl.lookup x=some c→(∃v,h.IsCell c v)∧H c=none)∧∀p∈Wa,∃c t,cl.lookup p.1=some c∧h.IsCell c (some (.int p.2 t))
structure awX(scope:Scope)(y:Str)(cs:List Str):Prop where
 kind:scope.kind = .function
 co:scope.isCoroutine=false
 gen:scope.isGenerator=false
 ax8:∀x∈scope.names,x.2 ≠ .cell
 par:scope.names.lookup y=some .local
 Ew:∀x∈cs,scope.names.lookup x=some .free
end L2
namespace V2
open PySem PySem.Spec PyProof.Rows L2
structure az8(K:Frag)(mg:Str→Option Value)(base:Heap)(x:Str):Prop where
 zR:K.In base
 glob:base.Ns mainGlobals mg
 blt:aw4 base mg
 hd:∃c P,PySem.W.tabIn K x=some (c,P)∧PySem.W.codeHdIn K c P=true
structure aAH(X:Cx)(scope:Scope)(y:Str)(cs:List Str)(js:List Nat):Prop where
 S:awX scope y cs
 free:∀y∈scope.names,y.2 = .free→X.env.kindOf y.1=some .cell∨X.env.kindOf y.1=some .free
 Wa:js.map (fun j=>X.N[j]?)=cs.map some
 cell:∀x∈cs,X.env.scope.names.lookup x=some .cell
def Yr(sc:Scope)(N:List Str)(scope:Scope)(y:Str)(cs:List Str)(js:List Nat):Prop :=
 ((scope.kind == .function)=true∧scope.isCoroutine=false∧scope.isGenerator=false)∧(∀x∈scope.names,(x.2 == .cell)=false)∧(scope.names.lookup y == some .local)=true∧(∀x∈cs,(scope.names.lookup x == some .free)=true) ∧
 (∀y∈scope.names,(y.2 == .free)=true→(sc.names.lookup y.1 == some .cell)=true)∧js.map (fun j=>N[j]?)=cs.map some∧∀x∈cs,(sc.names.lookup x == some .cell)=true
instance (sc:Scope) (N:List Str) (scope:Scope) (y:Str) (cs:List Str) (js:List Nat):Decidable (Yr sc N scope y cs js):=by unfold Yr;infer_instance
@[elab_as_elim] theorem us0{P:List Value→Prop}(us:List Value)(h:us.length=0)(f:P []):P us:=by cases us with | nil=>exact f | cons _ _=>simp at h
@[elab_as_elim] theorem nS{P:List Value→Prop}(us:List Value)(h:us.length=1)(f:∀a,P [a]):P us:=by
 cases us with
 | nil=>simp at h
 | cons a r=>exact us0 r (by simpa using h) (f a)
@[elab_as_elim] theorem qJ{P:List Value→Prop}(us:List Value)(h:us.length=2)(f:∀a b,P [a,b]):P us:=by
 cases us with
 | nil=>simp at h
 | cons a r=>exact nS (P:=fun r=>P (a::r)) r (by simpa using h) (f a)
@[elab_as_elim] theorem yT{P:List Value→Prop}(us:List Value)(h:us.length=3)(f:∀a b c,P [a,b,c]):P us:=by
 cases us with
 | nil=>simp at h
 | cons a r=>exact qJ (P:=fun r=>P (a::r)) r (by simpa using h) (f a)
@[elab_as_elim] theorem us4{P:List Value→Prop}(us:List Value)(h:us.length=4)(f:∀a b c d,P [a,b,c,d]):P us:=by
 cases us with
 | nil=>simp at h
 | cons a r=>exact yT (P:=fun r=>P (a::r)) r (by simpa using h) (f a)
section
variable{X:Cx}{pins:List (Addr×Obj)}{σ:L2.St}{H:Hp}{s:Shared}
theorem Inv.JX(I:Inv X pins σ H s):∃m,s.heap.Ns X.env.locals m∧Fr X.base X.env.locals s.heap m :=
 let ⟨m,hn,_⟩:=I.loc
 ⟨m,hn,hn,I.bk,kN I.ok.pU I.ok.above⟩
end
end V2
namespace L2
open PySem PySem.Spec PyProof.Rows
open PySem PySem.Spec PyProof.Rows Builtin Builtin.ObjectAttr
section
variable{X:Cx}
def ab6(j:Nat):TE:=fun σ H Q=>∃i,σ[j]? = some (some (.int i))∧i.natAbs.log2<1920∧∀x,Q (.str x) H
end
def as8(K:Frag)(C fI:Addr):Bool:=match K.lookup C with
 | some ⟨.type "type",_,.cls cd,sl⟩=>(match cd.mro,sl.toList with
  | .ref C'::bm,[_,_,_,_,some (.builtin n),_]=>C' == C&&n == "ValueError.__new__" && !cd.hasDel&&cd.hasDict&&PySem.W.tailIn K Wc bm&&PySem.W.nsOkIn K cd.ns&&nsIn K cd.ns "__init__" == some (some (.ref fI))
  | _,_=>false)
 | _=>false
structure aAA(K:Frag)(C fI:Addr)(fld:Str):Prop where
 inK:as8 K C fI=true
 fn:PySem.W.typeIn K (.ref fI)=some (.type "function")
 axZ:findIn K (.ref C) "__setattr__" = some (some (.builtin "object.__setattr__"))
 nof:findIn K (.ref C) fld=some none
structure aAK(K:Frag)(R:Addr):Prop where
 reads:readsIn K R (.type "type")=true
 find:findCls K (.ref R) (.type "type") "__init__" = some (.val (.builtin "ValueError.__init__"))
 ga:specialIn K (.ref R) "__getattribute__" = some (some (.builtin "type.__getattribute__"))
section
variable{X:Cx}{pins:List (Addr×Obj)}{σ:St}{H:Hp}{s1:Shared}{C fI R e:Addr}{fld qual rk sf pa:Str}{st:Stmt}{fd:FuncData}{t:Tok}{i:Int}{h2:Heap}{k:Nat}{je:Expr}{np ap cp ep p1 p2 Gm p3 apos:Pos}
structure aAF(st:Stmt)(fld rk sf pa:Str):Prop where
 scope:dF [sf,pa] [sf,pa] (aX st)
 glob:(aX st).names.lookup rk=some .globalImplicit
 ayH:(aX st).names.lookup sf=some .local
 ayG:(aX st).names.lookup pa=some .local
 dbg:(rk == ("__debug__" : Str))=false∧(sf == ("__debug__" : Str))=false∧(pa == ("__debug__" : Str))=false∧(sf == ("__classdict__" : Str))=false∧(pa == ("__classdict__" : Str))=false
 text:∃(je:Expr) (np ap cp ep p1 p2 Gm p3 apos:Pos),hV st=[.Expr (.Call (.Attribute (.Name rk np) "__init__" ap) [.Name sf p1,je] [] cp) ep, .Assign [.Attribute (.Name sf p2) fld Gm] (.Name pa p3) apos] ∧
  (∀env,starEach [.Name sf p1,je] env=(false,eval (.Name sf p1) env)::starEach [je] env)∧(∀env,starEach [je] env=(false,eval je env)::starEach [] env) ∧
  (∀env:Env,∃pl,eval (.Call (.Attribute (.Name rk np) "__init__" ap) [.Name sf p1,je] [] cp) env=(do
   let ov ← eval (.Name rk np) env
   standAt ap.atName
   let (f,first) ← holding [ov] (getMethod ov "__init__" pl)
   callWith cp f first (backTo cp (starEach [.Name sf p1,je] env)) [])) ∧
  (∀env,swapsWith (.Call (.Attribute (.Name rk np) "__init__" ap) [.Name sf p1,je] [] cp) none ep.line env=pure false) ∧
  (∀env,swapsWith (.Name pa p3) (some (.Attribute (.Name sf p2) fld Gm)) apos.line env=pure false) ∧
  (∀Y:Cx,Y.N=[sf,pa]→Y.env.scope=aX st→PE Y je (ab6 1))
end
structure XAt(K:Frag)(D:Addr)(fld:Str):Prop where
 ga:findIn K (.ref D) "__getattribute__" = some (some (.builtin "BaseException.__getattribute__"))
 gx:findIn K (.ref D) "__getattr__" = some none
 no:findIn K (.ref D) fld=some none
 be:subIn K (.ref D) (.type "BaseException")=some true
 hd:(PySem.W.clsIn K D).any (·.hasDict)=true
end L2
namespace V2
open PySem PySem.Spec PyProof.Rows L2
def aw2(e:Exc)(d:Addr)(dx:Option Addr):Prop:=(e.fs=[]∧dx=none)∨(e.fs≠[]∧dx=some d)
structure Cau(K:Frag)(oe:Obj)(d:Addr)(e:Exc):Prop where
 dat:∃vs,oe.data = .fields vs
 cls:∃E,nsIn K mainGlobals e.cls=some (some (.ref E))∧oe.cls = .ref E
 dic:aw2 e d oe.dict
theorem aoH{P:Program}{w:World}{k:Key}{u:Value}(h:(kX P w).is k u=true):RelV (kV k) u:=by
 rcases sS (k:=k) (v:=u) h with⟨i,t,q1,q2⟩ | ⟨x,t,q1,q2⟩
 ·subst q1;exact⟨t,q2⟩
 ·subst q1;exact⟨t,q2⟩
section
variable{X:Cx}{W:WX}
theorem Pg{α β:Type}{F:α→β→Prop}:∀{l₁:List α} {l₂:List β},Paired F l₁ l₂→∀{j:Nat} {a:α},l₁[j]? = some a→∃b,l₂[j]? = some b∧F a b
 | _,_,.nil,j,a,h=>by simp at h
 | _,_,.cons r _,0,a,h=>by cases h;exact⟨_,rfl,r⟩
 | _,_,.cons _ rs,j+1,a,h=>by obtain⟨b,q,f⟩:=Pg rs (j:=j) (by simpa using h);exact⟨b,by simpa using q,f⟩
end
def kA:Key→A
 | .inl i => .int i
 | .inr s => .str s
theorem atW{K:Frag}{G:Hp}{ι:List Addr}(k:Key):Den K G ι (kV k) (kA k):=by cases k <;> simp only [kV,kA,Den]
def EB(kv:Key×A):A := .tup [kA kv.1,kv.2]
end V2
namespace L2
open PySem PySem.Spec PyProof.Rows
theorem atG:entryFor table "dict_itemiterator.__iter__" = some Builtin.«dict_keyiterator.__iter__» :=
 entryFor_alias (id' := "dict_keyiterator.__iter__") (by kernel_rfl) (by rfl) (by decide +kernel) (by kernel_rfl)
theorem aoD{prog:Program}{w:World}{A:Around}{E:Value→Shared→Prop}{s:Shared}{it d:Addr}{i n ep:Nat}{ok ov:Value}{Q:Value→Shared→Prop}(h:IsItemIter s.heap it d i n ep ok ov)(q:Q (.ref it) s):wpAny (model prog w) A (pyIter (.ref it)) Q E s:=by
 have ty:s.TypeIs (.ref it) "dict_itemiterator":=⟨_,h,rfl⟩;exact wpAny_pyIter_slot ty F.slot_dict_itemiterator_iter (qF F.slot_dict_itemiterator_iter ty atG (aQ ⟨_,rfl,_,_,ty,F.slot_dict_itemiterator_next.lookup,q⟩) (F.args_dict_itemiterator_iter_1 _))
end L2
namespace V2
open PySem PySem.Spec PyProof.Rows L2
def Iq(a:Addr)(o:Obj)(aB:List (Key×V)):It :=
 ⟨fun i H=>H a=some (.cK o (.dK aB))∧i<aB.length,fun i H x H'=>∃p kv,aB[i]? = some kv∧H p=none∧H'=upd H p (.tup [kV kv.1,kv.2])∧x = .ref p,fun i H=>H a=some (.cK o (.dK aB))∧aB.length≤i⟩
theorem Ue{X:Cx}{pins:List (Addr×Obj)}{σ:L2.St}{H:Hp}{s:Shared}{a:Addr}{o:Obj}{aB:List (Key×V)}{es:Array DictEntry}{ep:Nat}(I:Inv X pins σ H s)(h:H a=some (.cK o (.dK aB)))(hd:o.data = .dict es ep) :
  ∃vs,KV aB vs∧Heap.DictAt (kX X.prog X.w) s.heap a vs ep:=by
 obtain⟨h1,z,y,vs,rel,o',dQ,AV,q1,q2,q3,q4⟩:=I.aK a _ h;rw [h1]at q1;cases q1;rw [hd]at q3;cases q3;exact⟨vs,rel,o,es,h1,q2,hd,q4⟩
theorem abI{P:Program}{w:World}{K:Frag}{elts:List Expr}{x1:Nat}{tp:Pos}(a it:Addr)(o:Obj)(aB:List (Key×V))(es:Array DictEntry)(ep:Nat)(hd:o.data = .dict es ep) :
  Turn P w K (.Tuple elts x1 tp) (Iq a o aB) [it] it (fun i h=>∃ok ov,IsItemIter h it a i aB.length ep ok ov)where
 mem:=by simp
 obj:=fun i h st c hc=>by
  obtain⟨ok,ov,st⟩:=st;have e:c=it:=by simpa using hc
  subst e;exact⟨_,st,fun v z=>by cases z⟩
 keep:=fun i h h' st k=>by
  obtain⟨ok,ov,st⟩:=st;exact⟨ok,ov,k it (by simp) _ st⟩
 item:=by
  intro X hP hw hK hc i pins s σ H E I hf st hg;subst hP hw hK;obtain⟨ok,ov,st⟩:=st;obtain⟨hH,hi⟩:=hg;obtain⟨vs,rel,dat⟩:=Ue I hH hd;have hl:aB.length=vs.length:=rel.length;have Bd:aB[i]? = some aB[i]:=gK hi;generalize aB[i]=kv at Bd;obtain⟨zQ,g1,g2,g3⟩:=Pg rel Bd;have hsz:it<s.heap.objs.size:=cR st;rw [hl]at st;refine wpAny_pyNext_items_item (k:=zQ.1) (v:=zQ.2) st dat g1 fun key h1 hk a1 a2 a3 a4=>?_;refine⟨_,rfl,wpAny_letOwnedTupleGo_items (s:={ s with heap:=h1 }) a1 fun h2 e2 sb=>?_⟩;have IW:H s.heap.objs.size=none:=I.aK.fresh cE;have k2:∀c o,c∉[it]→s.heap.get? c=some o→h2.get? c=some o:=fun c o hc q=>by
   have hc:c≠it:=by simpa using hc
   exact sb.extBut c o hc (a4 c o hc q)
  have t2:h2.get? s.heap.objs.size=some { cls := .type "tuple",data := .seq #[key,zQ.2] }:=sb.extBut _ _ (RP hsz) a2;have I1:Inv X pins σ H { s with heap:=h2 }:=Inv.Li (t':=s.toks) I k2 hf;have rk:RelV (kV kv.1) key:=by rw [g2];exact aoH hk
  have aK:eW X.prog X.w (upd H s.heap.objs.size (.tup [kV kv.1,kv.2])) h2:=by
   refine fun b o q=>?_
   by_cases eb:b=s.heap.objs.size
   ·subst eb;rw [fA]at q;cases q;exact⟨by show 2≤sizeLine;decide,[key,zQ.2],.cons rk (.cons g3 .nil),⟨_,t2,rfl,_,rfl⟩⟩
   ·rw [bA eb]at q;exact(I1.aK b o q).oP (fun c v _ z=>z) (fun c z=>by rw [bA (jU z IW)];exact z) fun c xs z=>by rw [bA (jU z IW)];exact z
  have fp:rB X pins H s.heap.objs.size:=I.EU cE IW;have h0:X.s₀.heap.get? s.heap.objs.size=none:=by
   cases q:X.s₀.heap.get? s.heap.objs.size with
   | none=>rfl
   | some ob=>exact absurd (lE (cR q) I.sz) (Nat.lt_irrefl _)
  have I2:Inv X pins σ (upd H s.heap.objs.size (.tup [kV kv.1,kv.2])) { s with heap:=h2 }:=Inv.abO I1 IW h0 fp.2.1 fp.2.2.2.2.1 fp.2.2.2.2.2 aK;rw [← hl]at e2;refine⟨.ref s.heap.objs.size,_,I2,rfl,⟨_,kv,Bd,IW,rfl,rfl⟩,⟨_,_,e2⟩,fun c hc=>?_⟩;have PV:=(hf c hc).1;have e:c=it:=by simpa using hc
  subst e;rw [bA (dH hsz)];exact PV
 done:=by
  intro X hP hw hK hc i pins s σ H E I hf st hg;subst hP hw hK;obtain⟨ok,ov,st⟩:=st;obtain⟨hH,hi⟩:=hg;obtain⟨vs,rel,dat⟩:=Ue I hH hd;have hl:aB.length=vs.length:=rel.length;rw [hl]at st;refine wpAny_pyNext_items_end (I.ok.hd hc) st dat (by simp;omega) fun h' hk=>⟨rfl,Inv.Li (t':=s.toks) I (fun c o hc q=>hk c o (by simpa using hc) q) hf⟩
 self:=fun _ _ _ _ _ st h=>by
  obtain⟨ok,ov,st⟩:=st;exact aoD st h
theorem Inv.asX{X:Cx}{pins:List (Addr×Obj)}{σ:L2.St}{H:Hp}{s:Shared}{a:Addr}{aB:List (Key×V)}{o:Obj}(I:Inv X pins σ H s)(h:H a=some (.dK aB))(ho:s.heap.get? a=some o):Inv X pins σ (upd H a (.cK o (.dK aB))) s where
 ok:=I.ok
 os:=I.os
 bare:=I.bare
 base:={
  keep:=I.base.keep
  slot:=I.base.slot
  free:=fun b ob q n hx=>by
   have z:=I.base.free b ob q n hx;rw [bA (cA (jU h z))];exact z
  there:=I.base.there
  kS:=fun b xs q=>by have z:=I.base.kS b xs q;rw [bA (wM z h (by intro w;cases w))];exact z
  kJ:=fun b ob u q=>by have z:=I.base.kJ b ob u q;rw [bA (wM z h (by intro w;cases w))];exact z
  kT:=fun b ps q=>by obtain⟨more,z⟩:=I.base.kT b ps q;exact⟨more,by rw [bA (wM z h (by intro w;cases w))];exact z⟩ }
 loc:=I.loc
 cell:=I.cell
 free:=by rw [bA (cA (jU h I.free))];exact I.free
 kK:=fun x c q=>by rw [bA (cA (jU h (I.kK x c q)))];exact I.kK x c q
 pin:=fun q hq=>by
  obtain⟨x,y,c⟩:=I.pin q hq;exact⟨x,by rw [bA (cA (jU h y))];exact y,c⟩
 aK:=fun b u q=>by
  have st:∀c v,H c=some v→v ≠ .dK aB→upd H a (.cK o (.dK aB)) c=some v:=fun c v z hv=>by rw [bA (wM z h hv)];exact z
  by_cases eb:b=a
  ·subst eb;rw [fA]at q;cases q;exact⟨ho,(I.aK b _ h).oP (fun c v _ z=>z) (fun c z=>st c _ z (by intro w;cases w)) fun c xs z=>st c _ z (by intro w;cases w)⟩
  ·rw [bA eb]at q;exact(I.aK b u q).oP (fun c v _ z=>z) (fun c z=>st c _ z (by intro w;cases w)) fun c xs z=>st c _ z (by intro w;cases w)
 len:=I.len
section
variable{X:Cx}{W:WX}{pos:Pos}
theorem aj7{o:Expr}{td:TE}{elts:List Expr}{x1:Nat}{tp apos q2:Pos}(ho:PE X o td)(AI:attributeBase o "items" X.env (eval o X.env)=eval o X.env:=by rfl)(AA:(apos.endLine == q2.line)=true:=by rfl) :
  PI X (.Tuple elts x1 tp) (.Call (.Attribute o "items" apos) [] [] q2) (fun σ H R=>td σ H fun x H1=>∃a aB,x = .ref a∧H1 a=some (.dK aB)∧∀ob,R (Iq a ob aB) (upd H1 a (.cK ob (.dK aB)))):=by
 intro pins s σ H R I h;refine wpAny_Call_method0_late AI AA (aY (ho pins s σ H _ I h) fun v s1 ⟨x,H1,I1,r1,q1⟩=>?_);obtain⟨a,aB,rfl,hH,q⟩:=q1;cases r1;obtain⟨h1,h2,rO⟩:=Rf I1 (.inl ⟨aB,.inl hH⟩);obtain⟨z,_,vs,rel,dd⟩:=Vc I1.aK hH;refine⟨"dict", "dict.items",PySem.F.plainAttrs_dict,PySem.F.slot_dict_items,PySem.F.type_dict_items,h1,h2,Yy rfl (PySem.evalArgs_none ?_)⟩;refine call_meetsIn PySem.F.slot_dict_items dd.typeIs PySem.F.entry_dict_items (PySem.F.args_dict_items_1 _) (meets_dict_items (kX X.prog X.w) a rO) ⟨⟨vs,dd⟩,?_⟩;obtain⟨ob,es,ep,g1,g2,g3,g4⟩:=dd;have hl:aB.length=vs.length:=rel.length;have I2:Inv X pins σ H1 { s1 with heap:=s1.heap.push { cls := .type "dict_items",data := .fields #[.ref a] } }:=I1.kept (t':=s1.toks) fun b o e=>cZ _ e;have dat:Heap.DictAt (kX X.prog X.w) (s1.heap.push { cls := .type "dict_items",data := .fields #[.ref a] }) a vs ep:=⟨ob,es,cZ _ g1,g2,g3,g4⟩;refine wpAny_pyIter_items (s:={ s1 with heap:=s1.heap.push { cls := .type "dict_items",data := .fields #[.ref a] } }) ⟨_,gM _ rfl,rfl,rfl⟩ dat ?_;generalize nW:({ s1 with heap:=s1.heap.push { cls := .type "dict_items",data := .fields #[.ref a] } }:Shared)=s2 at I2 dat;have ga:s2.heap.get? a=some ob:=by rw [← nW];exact cZ _ g1
 have I3:=V2.Inv.asX I2 hH ga;have I4:Inv X pins σ (upd H1 a (.cK ob (.dK aB))) { s2 with heap:=s2.heap.push { cls := .type "dict_itemiterator",data := .fields #[.none,.bool false,.ref a,.int 0 0,.int vs.length 0,.int ep 0,.none,.none] } }:=I3.kept (t':=s2.toks) fun b o e=>cZ _ e;have hs3:s2.heap=s1.heap.push { cls := .type "dict_items",data := .fields #[.ref a] }:=by rw [← nW]
 refine⟨s2.heap.objs.size,[s2.heap.objs.size],_,_,_,rfl,I4,abI a _ ob aB es ep g3,⟨.none,.none,by rw [hl];exact gM _ rfl⟩,fun c hc=>?_,q ob⟩;have e:c=s2.heap.objs.size:=by simpa using hc
 subst e;exact I3.EU cE (I3.aK.fresh cE)
def OW(aB:List (Key×A)):Src:=⟨aB.map EB,fun _=>True⟩
theorem aoC{K:Frag}{G:Hp}{ι:List Addr}{p:Addr}{o:Obj}{ws:List (Key×V)}{aB:List (Key×A)}(hG:G p=some (.cK o (.dK ws)))(hk:ws.map (·.1)=aB.map (·.1))(d:aO K G ι (ws.map (·.2)) (aB.map (·.2))):GB K G ι (Iq p o ws) (OW aB):=by
 have hl:ws.length=aB.length:=by have:=congrArg List.length hk;simpa using this
 have ls:(OW aB).ds.length=aB.length:=by simp [OW]
 refine⟨fun G' ι' Ω' H' e w h i hi=>⟨w.sub _ _ (e.same _ _ hG),by rw [hl,← ls];exact hi⟩,fun G' ι' Ω' H' e w h i hi=>⟨w.sub _ _ (e.same _ _ hG),by rw [hl,← ls];exact hi⟩,fun G' ι' Ω' H' e w h i x H2 y hy hd=>?_⟩;obtain⟨q,kv,g1,g2,rfl,rfl⟩:=hd;have uQ:(aB.map EB)[i]? = some y:=hy;rw [lF]at uQ;cases ek:aB[i]? with
 | none=>rw [ek]at uQ;cases uQ
 | some zQ =>
  rw [ek]at uQ;cases uQ;have k1:kv.1=zQ.1:=by
   have:=congrArg (fun l=>l[i]?) hk;simp only [lF,g1,ek,LA,jO]at this;exact this
  obtain⟨z,z1,z2⟩:=d.get (i:=i) (d:=zQ.2) (by rw [lF,ek];rfl);rw [lF,g1]at z1;cases z1;refine⟨upd G' q (.tup [kV kv.1,kv.2]),Ext.new (w.qO g2) _,w.new g2 _,?_⟩;simp only [EB,Den];exact⟨q,[kV kv.1,kv.2],rfl,fA,.cons (by rw [k1];exact atW _) (.cons ((z2.ext e).ext (Ext.new (w.qO g2) _)) .nil)⟩
end
section
variable{P:Program}{w:World}{K:Frag}{mg:Str→Option Value}{base:Heap}
structure Ys(K:Frag)(x qual:Str)(st:Stmt)(f T:Addr)(fd:FuncData):Prop where
 ex:∃(oc:Value) (od:Option Addr) (kV doc pm:Value) (an:Option Addr) (bC ct:Value) (jT:Array (Option Value)),
  fd=fnOf x qual (mR st) (hV st) (aX st) (.ref T) kV doc pm an bC ct∧K.lookup f=some ⟨oc,od,.func fd,jT⟩∧codeIn K bC qual=true
structure SG(K:Frag)(mg:Str→Option Value)(cls m qual:Str)(st:Stmt)(dv:Array Value):Prop where
 ex:∃C f fd T o n,nsIn K mainGlobals cls=some (some (.ref C))∧mg cls=some (.ref C)∧lZ K C∧Meth K C m f∧Ys K m qual st f T fd∧K.lookup T=some o∧o.data = .seq dv n
theorem cL.ofD{cls m qual:Str}{st:Stmt}{N ps:List Str}{k:Nat}{b:MS}{dv:Array Value}{ds:List Value}{dvs:List V}{das:List A}(h:SG K mg cls m qual st dv)(hv:Vals dvs ds)(hd:∀G ι,aO K G ι dvs das)(S:dF N ps (aX st))
  (bind:∀(T:Addr) (kV doc pm:Value) (an:Option Addr) (bC ct:Value) (us:List Value),us.length+ds.length=ps.length→∃k,bindArgs (fnOf m qual (mR st) (hV st) (aX st) (.ref T) kV doc pm an bC ct) ⟨us,[]⟩=seqItems? (.ref T) >>= k∧k (some dv)=pure (ps.zip (us++ds)))
  (oA:∀(f:Addr) (bC:Value) (A:Around) (outer:List Env) (s:Shared) (H:Hp) (E:XK),cY k (A.deeper (envOfC qual (aX st) s.heap.objs.size f bC)) →
   lD (qQ P w K mg base N qual (aX st) f bC A outer s H E) (fun _=>E) (hV st) b):cL P w K mg base cls m (k+1) ps.length das (dN N.length b):=by
 obtain⟨C,f,fd,T,o,n,h1,_,h2,h3,F,hT,ho⟩:=h.ex;obtain⟨oc,od,kV,doc,pm,an,bC,ct,jT,rfl,lk,mO⟩:=F.ex;refine⟨C,f,_,ps,ds,dvs,h1,h2,h3,rfl,Dz lk mO S (fun vs H Q E h=>h.1) fun A outer s H vs Q E hr mK=>?_,fun s us hK hl=>?_,hv,hd⟩
 ·obtain⟨t,p,q⟩:=oA f bC A outer s H E hr;exact⟨t,YU p,Fb q mK⟩
 ·obtain⟨k',e1,e2⟩:=bind T kV doc pm an bC ct us (by rw [← fX];exact hl);exact BindsTo.of_defaults rfl (hK _ _ hT) ho e1 e2
end
section
variable{X:Cx}{W:WX}
theorem avI:qC X (.builtin "abs") (fun xs H Q=>∃i:Int,xs=[.int i]∧Q (.int (if i<0 then -i else i)) H):=by
 intro pins s σ H xs us Q I r h;obtain⟨i,rfl,q⟩:=h;cases r with
 | cons r1 r =>
  cases r;obtain⟨t1,rfl⟩:=r1;exact call_abs_int fun u tk=>⟨.int _,H,I.tok _,⟨u,rfl⟩,q⟩
@[simp] def Du(as:List A):Mo A:=match as with
 | [.int i]=>ret (.int (if i<0 then -i else i))
 | _=>stuck
theorem avL:vQ X W (.builtin "abs") Du:=by
 refine⟨_,avI,?_⟩;intro G ι Ω H σ xs as Q w d h;unfold Du at h;split at h
 ·rename_i i;obtain⟨x,rfl,d1⟩:=xM d;simp only [Den]at d1;subst d1;exact⟨i,rfl,kG w (by simp only [Den]) h⟩
 ·exact False.elim h
end
end V2
namespace L2
open PySem
theorem cY.m{j k:Nat}{A:Around}(r:cY k A)(h:j≤k:=by first | decide | omega):cY j A:=r.mono h
end L2
namespace V2
open PySem L2 PyProof.Rows
variable{P:Program}{w:World}{K:Frag}{mg:Str→Option Value}{base:Heap}
theorem auX{h:Heap}{x:Str}{v:Int}{t:Tok}(X:K.In h)(G:h.Ns mainGlobals mg)(a:nsIn K mainGlobals x=some (some (.int v t))):∃t,mg x=some (.int v t):=⟨_,mg_of X G a⟩
structure nJ(K:Frag)(X:Addr)(m q:Str)(st:Stmt):Prop where
 ex:∃f fd,Meth K X m f∧rA K m q st f fd
theorem pK{X f:Addr}{m q:Str}{st:Stmt}{oc:Value}{od an:Option Addr}{jT:Array (Option Value)}{kV doc pm bC ct:Value}(a:findIn K (.ref X) m=some (some (.ref f)))
  (l:K.lookup f=some ⟨oc,od,.func (fnOf m q (mR st) (hV st) (aX st) .none kV doc pm an bC ct),jT⟩) (c:codeIn K bC q=true) (k:keepIn K (.ref f)=true) (i:isFn K (.ref f)=true):nJ K X m q st:=⟨f,_,⟨a,i,k⟩,JW l c k⟩
theorem nJ.has{h:Heap}{cls m q:Str}{st:Stmt}{C:Addr}(M:nJ K C m q st)(X:K.In h)(G:h.Ns mainGlobals mg)(n:nsIn K mainGlobals cls=some (some (.ref C)))(L:lZ K C):oK K mg cls m q st :=
 let ⟨f,fd,a,b⟩:=M.ex; ⟨C,f,fd,n,mg_of X G n,L,a,b⟩
structure SE(K:Frag)(X:Addr)(q:Str)(st:Stmt):Prop where
 ex:∃f fd,Mk K X f∧rA K "__init__" q st f fd
theorem aoT{X f:Addr}{q:Str}{st:Stmt}{oc:Value}{od an:Option Addr}{jT:Array (Option Value)}{kV doc pm bC ct:Value}(a:findIn K (.ref X) "__init__" = some (some (.ref f)))
  (l:K.lookup f=some ⟨oc,od,.func (fnOf "__init__" q (mR st) (hV st) (aX st) .none kV doc pm an bC ct),jT⟩) (c:codeIn K bC q=true) (k:keepIn K (.ref f)=true) (i:isFn K (.ref f)=true)
  (mk:makesIn K X=true) (kc:keepIn K (.ref X)=true):SE K X q st:=⟨f,_,⟨mk,a,i,kc⟩,JW l c k⟩
theorem SE.has{h:Heap}{cls q:Str}{st:Stmt}{C:Addr}(M:SE K C q st)(X:K.In h)(G:h.Ns mainGlobals mg)(n:nsIn K mainGlobals cls=some (some (.ref C))):SH K mg cls q st :=
 let ⟨f,fd,a,b⟩:=M.ex; ⟨C,f,fd,n,mg_of X G n,a,b⟩
structure RR(K:Frag)(X:Addr)(m q:Str)(st:Stmt)(dv:Array Value):Prop where
 ex:∃f fd T o n,Meth K X m f∧Ys K m q st f T fd∧K.lookup T=some o∧o.data = .seq dv n
theorem amQ{X f T:Addr}{m q:Str}{st:Stmt}{oc tc:Value}{od an td:Option Addr}{jT ts:Array (Option Value)}{kV doc pm bC ct:Value}{n:Nat}{dv:Array Value}(a:findIn K (.ref X) m=some (some (.ref f)))
  (l:K.lookup f=some ⟨oc,od,.func (fnOf m q (mR st) (hV st) (aX st) (.ref T) kV doc pm an bC ct),jT⟩) (c:codeIn K bC q=true) (k:keepIn K (.ref f)=true) (i:isFn K (.ref f)=true)
  (t:K.lookup T=some ⟨tc,td,.seq dv n,ts⟩):RR K X m q st dv:=⟨f,_,T,_,n,⟨a,i,k⟩,⟨⟨_,_,_,_,_,_,_,_,_,rfl,l,c⟩⟩,t,rfl⟩
theorem RR.has{h:Heap}{cls m q:Str}{st:Stmt}{C:Addr}{dv:Array Value}(M:RR K C m q st dv)(X:K.In h)(G:h.Ns mainGlobals mg)(n:nsIn K mainGlobals cls=some (some (.ref C)))(L:lZ K C):SG K mg cls m q st dv :=
 let ⟨f,fd,T,o,k,a,b,c,d⟩:=M.ex; ⟨C,f,fd,T,o,k,n,mg_of X G n,L,a,b,c,d⟩
theorem fP{N P:List Str}{sc:Scope}(a:sc.kind = .function:=by rfl)(b:sc.isCoroutine=false:=by rfl)(c:sc.isGenerator=false:=by rfl)(d:N.Nodup:=by decide +kernel)(e:N.take P.length=P:=by rfl)(f:∀x∈P,sc.names.lookup x=some .local∨sc.names.lookup x=some .cell:=by decide +kernel)(g:∀y∈sc.names,y.2 ≠ .free:=by decide +kernel):dF N P sc:=⟨a,b,c,d,e,f,g⟩
theorem zP{X:Cx}{scope:Scope}{ls:List Str}{js:List Nat}(sc:Scope)(N:List Str)(zW:X.env.scope=sc:=by rfl)(hN:X.N=N:=by rfl)(ok:YW scope sc N js=true:=by decide +kernel):yF X scope ls js := .of sc N zW hN ok
end V2
namespace PySem
open PyProof.Rows
def tP(xs:Array Nat):Prop:=∀i j a b:Nat,i<j→xs[i]? = some a→xs[j]? = some b→a<b
theorem Fg(xs:Array Nat)(j:Nat)(hr:tP xs):∀(fuel lo hi:Nat),lo≤hi→hi≤xs.size→hi - lo≤fuel→(∀i a,i<lo→xs[i]? = some a→a<j)→(∀i a,hi≤i→xs[i]? = some a→j≤a) →
  lo≤SetTable.below.go xs j fuel lo hi∧SetTable.below.go xs j fuel lo hi≤xs.size∧(∀i a,i<SetTable.below.go xs j fuel lo hi→xs[i]? = some a→a<j)∧(∀i a,SetTable.below.go xs j fuel lo hi≤i→xs[i]? = some a→j≤a)
 | 0,lo,hi,h1,h2,h3,h4,h5=>by
  have:lo=hi:=by omega
  subst this;exact⟨oX _,h2,h4,h5⟩
 | fuel+1,lo,hi,h1,h2,h3,h4,h5=>by
  unfold SetTable.below.go
  by_cases bG:lo<hi
  ·rw [if_pos bG];have hm:(lo+hi)/2<xs.size:=by omega
   have hg:xs[(lo+hi)/2]? = some xs[(lo+hi)/2]:=mP xs _ hm;have hd:xs.getD ((lo+hi)/2) j=xs[(lo+hi)/2]:=by simp [Array.getD,hm]
   show lo≤(if xs.getD ((lo+hi)/2) j<j then SetTable.below.go xs j fuel ((lo+hi)/2+1) hi else SetTable.below.go xs j fuel lo ((lo+hi)/2))∧(if xs.getD ((lo+hi)/2) j<j then SetTable.below.go xs j fuel ((lo+hi)/2+1) hi else SetTable.below.go xs j fuel lo ((lo+hi)/2))≤xs.size∧(∀i a,i<(if xs.getD ((lo+hi)/2) j<j then SetTable.below.go xs j fuel ((lo+hi)/2+1) hi else SetTable.below.go xs j fuel lo ((lo+hi)/2))→xs[i]? = some a→a<j)∧(∀i a,(if xs.getD ((lo+hi)/2) j<j then SetTable.below.go xs j fuel ((lo+hi)/2+1) hi else SetTable.below.go xs j fuel lo ((lo+hi)/2))≤i→xs[i]? = some a→j≤a);rw [hd]
   by_cases hx:xs[(lo+hi)/2]<j
   ·rw [if_pos hx];obtain⟨a,b,c,d⟩:=Fg xs j hr fuel ((lo+hi)/2+1) hi (by omega) h2 (by omega) (fun i a jH ha=>by
     rcases LC i ((lo+hi)/2)with z | z
     ·have:=hr i ((lo+hi)/2) a _ z ha hg;omega
     ·have:i=(lo+hi)/2:=by omega
      subst this;rw [hg]at ha;cases ha;exact hx) h5
    exact⟨by omega,b,c,d⟩
   ·rw [if_neg hx];obtain⟨a,b,c,d⟩:=Fg xs j hr fuel lo ((lo+hi)/2) (by omega) (by omega) (by omega) h4 (fun i a jH ha=>by
     rcases LC ((lo+hi)/2) i with z | z
     ·have:=hr ((lo+hi)/2) i _ a z hg ha;omega
     ·have:i=(lo+hi)/2:=by omega
      subst this;rw [hg]at ha;cases ha;omega)
    exact⟨a,b,c,d⟩
  ·rw [if_neg bG];have:lo=hi:=by omega
   subst this;exact⟨oX _,h2,h4,h5⟩
theorem Ff{xs:Array Nat}(hr:tP xs)(j:Nat):SetTable.below xs j≤xs.size∧(∀i a,i<SetTable.below xs j→xs[i]? = some a→a<j)∧(∀i a,SetTable.below xs j≤i→xs[i]? = some a→j≤a):=by
 obtain⟨_,b,c,d⟩:=Fg xs j hr xs.size 0 xs.size rL cE (by omega) (fun i a h=>absurd h (Nat.not_lt_zero _)) (fun i a h ha=>by
  have:=(MC.mp ha).1;omega)
 exact⟨b,c,d⟩
theorem avP{xs:Array Nat}(hr:tP xs){i a:Nat}(h:xs[i]? = some a):SetTable.below xs (a+1)=i+1:=by
 obtain⟨b,c,d⟩:=Ff hr (a+1);have hi:=(MC.mp h).1
 rcases Nat.lt_trichotomy (SetTable.below xs (a+1)) (i+1)with z | z | z
 ·have:=d i a (by omega) h;omega
 ·exact z
 ·have hl:i+1<xs.size:=by omega
  have hg:xs[i+1]? = some xs[i+1]:=mP xs _ hl;have h1:=c (i+1) _ z hg;have h2:=hr i (i+1) a _ (by omega) h hg;omega
theorem avO{xs:Array Nat}(hr:tP xs):SetTable.below xs 0=0:=by
 obtain⟨b,c,d⟩:=Ff hr 0
 rcases Nat.eq_zero_or_pos (SetTable.below xs 0)with z | z
 ·exact z
 ·have hl:0<xs.size:=by omega
  have hg:xs[0]? = some xs[0]:=mP xs _ hl;have:=c 0 _ z hg;omega
theorem aoS{α:Type}(xs:Array α)(p:Nat)(x:α)(hp:p≤xs.size)(i:Nat):(SetTable.insertAt xs p x)[i]? = if i<p then xs[i]? else if i=p then some x else xs[i - 1]?:=by
 unfold SetTable.insertAt;have e1:(xs.extract 0 p).size=p:=by simp;omega
 have e2:((xs.extract 0 p).push x).size=p+1:=by rw [Array.size_push,e1]
 rw [Array.getElem?_append,e2]
 by_cases h1:i<p
 ·rw [if_pos (by omega),if_pos h1,Array.getElem?_push,e1,if_neg (by omega),Array.getElem?_extract];simp;intro h;omega
 ·rw [if_neg h1]
  by_cases h2:i=p
  ·rw [if_pos (by omega),if_pos h2,Array.getElem?_push,e1,if_pos h2]
  ·rw [if_neg (by omega),if_neg h2,Array.getElem?_extract]
   by_cases h3:i - (p+1)<xs.size - p
   ·rw [if_pos (by simpa using h3),show(p+(i - (p+1)))=i - 1 by omega]
   ·rw [if_neg (by simpa using h3),eq_comm,Ze];omega
theorem ah7{xs:Array Nat}(hr:tP xs)(j:Nat)(hn:xs[SetTable.below xs j]? ≠ some j):tP (SetTable.insertAt xs (SetTable.below xs j) j):=by
 obtain⟨b,c,d⟩:=Ff hr j;have d':∀i a,SetTable.below xs j≤i→xs[i]? = some a→j<a:=fun i a h1 h2=>by
  have h3:=d i a h1 h2
  rcases LC j a with z | z
  ·exact z
  ·exfalso;have:a=j:=by omega
   subst this
   rcases LC (SetTable.below xs a) i with y | y
   ·have hl:SetTable.below xs a<xs.size:=by have:=(MC.mp h2).1;omega
    have hg:xs[SetTable.below xs a]? = some xs[SetTable.below xs a]:=mP xs _ hl;have h4:=d _ _ cE hg;have h5:=hr _ i _ a y hg h2;omega
   ·have:i=SetTable.below xs a:=by omega
    subst this;exact hn h2
 intro i k x y hik hx hy;rw [aoS _ _ _ b]at hx hy
 by_cases h1:i<SetTable.below xs j
 ·rw [if_pos h1]at hx
  by_cases h2:k<SetTable.below xs j
  ·rw [if_pos h2]at hy;exact hr i k x y hik hx hy
  ·rw [if_neg h2]at hy
   by_cases h3:k=SetTable.below xs j
   ·rw [if_pos h3]at hy;cases hy;exact c i x h1 hx
   ·rw [if_neg h3]at hy;exact hr i (k - 1) x y (by omega) hx hy
 ·rw [if_neg h1]at hx;rw [if_neg (by omega),if_neg (by omega)]at hy
  by_cases h3:i=SetTable.below xs j
  ·rw [if_pos h3]at hx;cases hx;exact d' (k - 1) y (by omega) hy
  ·rw [if_neg h3]at hx;exact hr (i - 1) (k - 1) x y (by omega) hx hy
theorem ah6(n:Nat):tP (Array.range n):=by
 intro i j a b hU ha hb;have h1:=(MC.mp ha);have h2:=(MC.mp hb);obtain⟨p,q⟩:=h1;obtain⟨p',q'⟩:=h2;simp at q q';omega
theorem ah8{l:List Nat}(h:l.Pairwise (· < ·)):tP l.toArray:=by
 intro i j a b hU ha hb;simp only [List.getElem?_toArray]at ha hb;obtain⟨p,q⟩:=bO.mp ha;obtain⟨p',q'⟩:=bO.mp hb;have:=List.pairwise_iff_getElem.mp h i j p p' hU;rw [q,q']at this;exact this
theorem XN(t:SetTable)(ha:Nat→Int)(h:Int):∀(fuel:Nat) (p:SetTable.Probe) (j:Nat) (dm:Option Nat),SetTable.probe.go t ha h fuel p=some (.empty j dm)→t.slot j = .empty∧∀d,dm=some d→p.dummy=some d∨t.slot d = .dummy
 | 0,p,j,dm,e=>by cases e
 | fuel+1,p,j,dm,e=>by
  unfold SetTable.probe.go at e;cases hs:t.slot p.j with
  | empty =>
   rw [hs]at e;dsimp only at e;cases e;exact⟨hs,fun d hd => .inl hd⟩
  | dummy =>
   rw [hs]at e;dsimp only at e;obtain⟨a,b⟩:=XN t ha h fuel _ j dm e;refine⟨a,fun d hd=>?_⟩
   rcases b d hd with z | z
   ·have e2:(t.advance { p with dummy:=some p.j }).dummy=some p.j:=by
     unfold SetTable.advance;split <;> rfl
    rw [e2]at z;cases z;exact .inr hs
   ·exact .inr z
  | live i =>
   rw [hs]at e;dsimp only at e
   by_cases hh:(ha i == h)=true
   ·rw [if_pos hh]at e;cases e
   ·rw [if_neg hh]at e;obtain⟨a,b⟩:=XN t ha h fuel _ j dm e;refine⟨a,fun d hd=>?_⟩
    rcases b d hd with z | z
    ·have e2:(t.advance p).dummy=p.dummy:=by
      unfold SetTable.advance;split <;> rfl
     rw [e2]at z;exact .inl z
    ·exact .inr z
theorem Mv{t:SetTable}{j:Nat}(h:t.slot j = .empty∨t.slot j = .dummy):t.place[SetTable.below t.place j]? ≠ some j:=by
 intro z;unfold SetTable.slot at h;simp only [z,beq_self_eq_true,dP]at h
 rcases h with h | h <;> cases h
theorem asY{t:SetTable}{h:Int}{j:Nat}{b:Bool}(e:t.freeSlot h=some (j,b)):t.place[SetTable.below t.place j]? ≠ some j:=by
 unfold SetTable.freeSlot at e;split at e
 ·next j0 dm hp =>
  cases e;obtain⟨a,c⟩:=XN t _ h _ _ j0 dm hp;cases dm with
  | none=>exact Mv (.inl a)
  | some d =>
   rcases c d rfl with z | z
   ·cases z
   ·exact Mv (.inr z)
 ·cases e
structure nH(led:Bool)(t:SetTable):Prop where
 rise:tP t.place
 led:t.led=led
theorem abU(led:Bool):nH led (.fresh 0 0 led):=⟨fun i j a b _ h=>by simp [SetTable.fresh]at h,rfl⟩
theorem ND{led:Bool}{t:SetTable}(h:nH led t)(n:Nat):nH led (t.standIn n):=⟨ah6 n,h.led⟩
theorem abT{led:Bool}{t:SetTable}(h:nH led t)(es:Array (Int×Value))(hs:Int)(x:Value):nH led (layNew t es hs x).2.1:=by
 unfold layNew;split
 ·next slot wd e =>
  show nH led ((t.put slot).1.orStandIn _);have hp:nH led (t.put slot).1:=⟨ah7 h.rise slot (asY e),h.led⟩;unfold SetTable.orStandIn;split
  ·exact hp
  ·exact ND hp _
 ·exact ND h _
theorem abR{led:Bool}{t:SetTable}(h:nH led t)(es:Array (Int×Value))(w:Nat):nH led (relayAll t es w).2.1:=by
 unfold relayAll;split
 ·next t' order e =>
  show nH led (if(coversAll order es.size&&t'.fits (order.filterMap (es[·]?)).size)=true then(order.filterMap (es[·]?),t',false)else(es,t.standIn es.size,true)).2.1;split
  ·show nH led t';unfold SetTable.relaid SetTable.laid at e;cases hc:SetTable.layClean (SetTable.sizeAbove w - 1) (es.map (·.1))with
   | none=>rw [hc]at e;cases e
   | some ow =>
    rw [hc]at e;simp at e;obtain⟨e1,e2⟩:=e;subst e1;refine⟨ah8 ?_,h.led⟩;rw [List.map_filterMap];refine List.Pairwise.filterMap _ (R:=(· < ·)) (fun a b JR x hx y hy=>?_) List.pairwise_lt_range;simp at hx hy;obtain⟨_,_,rfl⟩:=hx;obtain⟨_,_,rfl⟩:=hy;exact JR
  ·exact ND h _
 ·exact ND h _
theorem abS{led:Bool}{t:SetTable}(h:nH led t)(b:Bool):nH led { t with plain:=b }:=⟨h.rise,h.led⟩
def mJ(w:World):Bool:=!w.params.followText "set-order"
def jN(prog:Program)(w:World)(h:Heap)(a:Addr)(es:Array (Int×Value)):Prop :=
 ∃o ep t,h.get? a=some o∧o.ExactSet∧o.data = .set es ep t∧ElemsOf (intKind prog w) es.toList∧es.size<scanBound∧t.fits es.size=true∧nH (mJ w) t
section
variable{prog:Program}{w:World}{A:Around}{E:Value→Shared→Prop}{s:Shared}
theorem jN.at{h h':Heap}{a:Addr}{es:Array (Int×Value)}(x:jN prog w h a es)(e:∀o,h.get? a=some o→h'.get? a=some o):jN prog w h' a es :=
 let ⟨o,ep,t,ho,r⟩:=x; ⟨o,ep,t,e _ ho,r⟩
theorem jN.typeIs{a:Addr}{es:Array (Int×Value)}(x:jN prog w s.heap a es):s.TypeIs (.ref a) "set":=let ⟨o,_,_,ho,hx,_⟩:=x; ⟨o,ho,hx.1⟩
theorem jN.lt{h:Heap}{a:Addr}{es:Array (Int×Value)}(x:jN prog w h a es):a<h.objs.size:=let ⟨_,_,_,ho,_⟩:=x;cR ho
theorem Xd{g:Bool→Sem Unit}(hg:∀(b:Bool) (s₁:Shared) (Q':Unit→Shared→Prop),Q' () s₁→wpAny (model prog w) A (g b) Q' E s₁)
  {a:Addr} {o:Obj} {es:Array (Int×Value)} {ep:Nat} {t:SetTable} (ho:s.heap.get? a=some o) (hex:o.ExactSet) (hd:o.data = .set es ep t)
  {iI:Array (Int×Value)} {t2:SetTable} (JL:ElemsOf (intKind prog w) iI.toList) (uY:iI.size<scanBound) (hf2:t2.fits iI.size=true) (hT:nH (mJ w) t2) {Kh:Bool} {R:Option Bool→Shared→Prop}
  (h:∀h' dQ,Heap.SameBut a s.heap h'→jN prog w h' a dQ→dQ.toList.Perm iI.toList→R (some true) { s with heap:=h' }) :
  wpAny (model prog w) A (do
    storeSet a iI t2
    if(!Kh&&t2.tooFull)=true then do
      g (relayAll t2 iI (SetTable.grown iI.size)).2.2
      storeSet a (relayAll t2 iI (SetTable.grown iI.size)).1 (relayAll t2 iI (SetTable.grown iI.size)).2.1
      pure (some true)
     else pure (some true)) R E s:=by
 have store:∀{h:Heap} {o:Obj} {es:Array (Int×Value)} {ep:Nat} {t:SetTable} (dQ:Array (Int×Value)) (t':SetTable),h.get? a=some o→o.data = .set es ep t→(h.update a (Obj.putSet dQ t')).get? a=some { o with data := .set dQ (ep+1) t' }:=fun{h o es ep t} dQ t' ho hd=>by
  have:=LR (Obj.putSet dQ t') ho (by rw [putSet_of dQ t' hd];rfl);rw [putSet_of dQ t' hd]at this;exact this
 refine aE (wpAny_storeSet_of ho hd ?_ (Eb uY));have rS:=store iI t2 ho hd;have Ru:=Heap.SameBut.update s.heap a (Obj.putSet iI t2);split
 ·have hp:=relayAll_perm t2 iI (SetTable.grown iI.size);have JJ:=relayAll_fits t2 iI (SetTable.grown iI.size);have Bu:=abR hT iI (SetTable.grown iI.size);generalize hRl:relayAll t2 iI (SetTable.grown iI.size)=Rl at hp JJ Bu ⊢;obtain⟨KG,t3,azK⟩:=Rl;dsimp only at hp JJ Bu ⊢;have aqS:ElemsOf (intKind prog w) KG.toList:=JL.perm hp;have hsz:KG.size=iI.size:=by rw [← eY,hp.length_eq,eY]
  have pN:KG.size<scanBound:=by rw [hsz];exact uY
  refine aE (hg _ _ _ ?_);refine aE (wpAny_storeSet_of rS rfl ?_ (Eb pN));have wX:=store KG t3 rS rfl;exact aQ (h _ KG (Ru.trans (Heap.SameBut.update _ a _)) ⟨_,_,t3,wX,hex,rfl,aqS,pN,JJ,Bu⟩ hp)
 ·exact aQ (h _ iI Ru ⟨_,_,t2,rS,hex,rfl,JL,uY,hf2,hT⟩ (yE _))
theorem av2{a:Addr}{es:Array (Int×Value)}{k:Int}{x:Value}{Q:Bool→Shared→Prop}(nY:(intKind prog w).is k x=true)(zW:x.scannable=true)(hS:jN prog w s.heap a es)(Au:es.size+1<scanBound)
  (h:∀b h' dQ,Heap.SameBut a s.heap h'→jN prog w h' a dQ→(((∃e∈es.toList,(intKind prog w).is k e.2=true)∧dQ=es)∨((∀e∈es.toList,(intKind prog w).is k e.2≠true)∧dQ.toList.Perm (es.toList++[((intKind prog w).hash k,x)])))→Q b { s with heap:=h' }) :
  wpAny (model prog w) A (setAddHashed a x ((intKind prog w).hash k)) Q E s:=by
 obtain⟨o,ep,t,ho,hex,hd,PR,hb,hf,hT⟩:=hS;unfold setAddHashed setAddHashedIn;refine pE (aE (yL ho hd hf ?_));dsimp only;rw [byScan_of zW hb PR];simp only [↓reduceIte];unfold setAddByScan;refine aE ?_;refine aE (sA ?_);refine aE (wpAny_setScan_of nY ho hd hf PR ?_);cases hr:List.findIdx? (fun e=>(intKind prog w).is k e.2) es.toList with
 | some j =>
  dsimp only;obtain⟨hj,hpj,_⟩:=List.findIdx?_eq_some_iff_getElem.mp hr;refine aQ (aQ ?_);have e:s = { s with heap:=s.heap }:=by cases s;rfl
  rw [e];exact h _ s.heap es (Heap.SameBut.refl a s.heap) ⟨o,ep,t,ho,hex,hd,PR,hb,hf,hT⟩ (.inl ⟨⟨es.toList[j],RY hj,hpj⟩,rfl⟩)
 | none =>
  dsimp only;have uU:∀e∈es.toList,(intKind prog w).is k e.2≠true:=fun e he hp=>by
   have:=List.findIdx?_eq_none_iff.mp hr e he;rw [hp]at this;exact Bool.noConfusion this
  have hgw:∀(b:Bool) {s₁:Shared} {Q':Unit→Shared→Prop},Q' () s₁→wpAny (model prog w) A (match b with | true=>rule "set.scan.the-table-gave-way" | false=>pure ()) Q' E s₁ :=
   fun b s₁ Q' hq=>by cases b <;> first | exact aQ hq | exact sA hq
  have EG:=layNew_perm t es ((intKind prog w).hash k) x;have JK:=layNew_fits t es ((intKind prog w).hash k) x;have JS:=abT hT es ((intKind prog w).hash k) x;generalize hL:layNew t es ((intKind prog w).hash k) x=L at EG JK JS ⊢;obtain⟨iI,t1,Kh,azL⟩:=L;dsimp only at EG JK JS ⊢;rw [CL]at EG;have JL:ElemsOf (intKind prog w) iI.toList:=(PR.push nY zW).perm EG;have Ta:iI.size<scanBound:=by rw [← eY,EG.length_eq,fX,eY];simpa using Au
  refine aE (hgw _ ?_);have Ss:∀b h' dQ,Heap.SameBut a s.heap h'→jN prog w h' a dQ→dQ.toList.Perm iI.toList→Q b { s with heap:=h' }:=fun b h' dQ lU kY hp=>h b h' dQ lU kY (.inr ⟨uU,hp.trans EG⟩);split
  ·refine aE ?_;rw [hashByValue_scannable 8 zW];refine aQ ?_;refine Xd ?_ ho hex hd JL Ta ?_ ?_ ?_
   ·intro b s₁ Q' hq;cases b <;> first | exact aQ hq | exact sA hq
   ·split
    ·exact JK
    ·exact SetTable.fits_plain_off JK
   ·split
    ·exact JS
    ·exact abS JS _
   ·intro h' dQ lU kY hp;dsimp only;exact wpAny_pure (Ss _ h' dQ lU kY hp)
  ·refine aE (aQ ?_);simp only [↓reduceIte];refine Xd ?_ ho hex hd JL Ta JK JS ?_
   ·intro b s₁ Q' hq;cases b <;> first | exact aQ hq | exact sA hq
   ·intro h' dQ lU kY hp;dsimp only;exact wpAny_pure (Ss _ h' dQ lU kY hp)
end
def Nums(es:Array (Int×Value))(ms:List Int):Prop:=IntsAre (es.toList.map (·.2)) ms
theorem al0{es dQ:Array (Int×Value)}{ms:List Int}(h:Nums es ms){l:List (Int×Value)}(hl:dQ.toList.Perm l){lP:List Int}(h2:IntsAre (l.map (·.2)) lP):∃uN,Nums dQ uN∧uN.Perm lP:=by
 have qN:∀v∈dQ.toList.map (·.2),∃n t,v = .int n t:=fun v hv=>by
  have:=(hl.map (·.2)).mem_iff.mp hv;exact IntsAre.all h2 v this
 refine⟨_,intsAre_map _ qN,?_⟩;have:=(hl.map (·.2)).map numOf;rw [IntsAre.nums h2]at this;exact this
theorem ints_snoc:∀{vs:List Value} {ns:List Int},IntsAre vs ns→∀(n:Int) (t:Tok),IntsAre (vs++[.int n t]) (ns++[n])
 | _,_,.nil,n,t => .cons n t .nil
 | _,_,.cons m u h,n,t => .cons m u (ints_snoc h n t)
open PyProof.Rows PySem.Spec
set_option maxRecDepth 100000
theorem Qc{prog:Program}{w:World}:∀{l:List (Int×Value)} {ms:List Int},IntsAre (l.map (·.2)) ms→∀k:Int,(∃e∈l,(intKind prog w).is k e.2=true)↔k∈ms
 | [],_,h,k=>by
  cases h;constructor
  ·rintro⟨e,he,_⟩;cases he
  ·intro z;cases z
 | (hs,v)::l,_,h,k=>by
  cases h with
  | cons n t h =>
   have ih:=Qc (prog:=prog) (w:=w) h k;constructor
   ·rintro⟨e,he,hp⟩
    rcases dZ.mp he with z | z
    ·subst z;have:=(intKind prog w).inj _ _ _ hp (intKind_is prog w n t);rw [this];exact List.mem_cons_self ..
    ·exact iB _ (ih.mp ⟨e,z,hp⟩)
   ·intro z
    rcases dZ.mp z with z | z
    ·subst z;exact⟨_,List.mem_cons_self ..,intKind_is prog w k t⟩
    ·obtain⟨e,he,hp⟩:=ih.mpr z;exact⟨e,iB _ he,hp⟩
section
variable{prog:Program}{w:World}{A:Around}{R:Result→Shared→Prop}{I:Addr}{fp wr:List Addr}{G:Array GenState→Array GenState→Prop}{n:Nat}{P:Nat→Value→Prop}{St:Nat→Shared→Prop}
theorem auZ(W:WalksS prog w A.in1 I fp wr G n P St)(S:Addr)(AK:S∉fp)
  (val:Nat→Int) (Ap:∀i v,P i v→∃t,v = .int (val i) t) (hb:n+1<scanBound) :
  ∀(k i:Nat) (s:Shared) (es:Array (Int×Value)) (ms:List Int),n - i=k→i≤n→St i s →
   jN prog w s.heap S es→Nums es ms→ms.Perm (firstMet val i) →
   (∀s' dQ lP,Moved (S::wr) G s s'→jN prog w s'.heap S dQ→Nums dQ lP→lP.Perm (firstMet val n)→R (.ok (.ret .none)) s') →
   codeAny (model prog w) A (.builtin "set.update.loop" ⟨[.ref S,.ref I],[]⟩) R s:=by
 have Tj:S∉wr:=fun h=>AK (W.sub _ h);have PD:∀b∈wr,b∈S::wr:=fun b hb=>iB _ hb;intro k
 induction k with
 | zero =>
  intro i s es ms hk hi iT hS hN hP hR;have lV:i=n:=by omega
  subst lV;refine KI av8 ?_;rw [SW Xw _];show wpAny _ A.in1 (pyNext (.ref I) >>= _) _ _ s;refine aE (W.done s _ _ iT fun s' hm=>?_);show wpAny _ A.in1 (ret Value.none) _ _ s';exact aQ (hR s' es ms (hm.mono PD) (hS.at fun o e=>hm.heap S _ Tj e) hN hP)
 | succ k ih =>
  intro i s es ms hk hi iT hS hN hP hR;have bG:i<n:=by omega
  refine KI av8 ?_;rw [SW Xw _];show wpAny _ A.in1 (pyNext (.ref I) >>= _) _ _ s;refine aE (W.item i s _ _ bG iT fun v s' hPv apF hm=>?_);obtain⟨t,rfl⟩:=Ap i v hPv;have kY:jN prog w s'.heap S es:=hS.at fun o e=>hm.heap S _ Tj e;show wpAny _ A.in1 (holding [Value.int (val i) t] (setAdd S (.int (val i) t)) >>= _) _ _ s';refine aE (pE ?_);unfold setAdd;refine pE ?_;refine aE ((intKind prog w).pyHash (k:=val i) (intKind_is _ _ _ _) ?_);have hsz:es.size=(firstMet val i).length:=by
   have h1:=IntsAre.length hN;rw [fW,eY]at h1;rw [h1];exact hP.length_eq
  have Au:es.size+1<scanBound:=by have:=firstMet_length_le val i;omega
  refine av2 (s:={ s' with toks:=s'.toks+1 }) (intKind_is _ _ _ _) rfl kY Au fun b h' dQ lU hS2 Ax=>?_;have Sq:∀uN,Nums dQ uN→uN.Perm (firstMet val (i+1))→_:=fun uN Bw AL =>
   aQ (M:=model prog w) (A:=A.in1) (s:={ s' with heap:=h',toks:=s'.toks+1 }) (a:=PySem.Fin.again (.builtin "set.update.loop" ⟨[.ref S,.ref I],[]⟩)) (Q:=fun fin s'=>match fin with | .done f=>R (.ok f) s' | .again c'=>c'.quiet=true∧codeAny (model prog w) A c' R s') (E:=fun e s'=>R (.error e) s')
    ⟨OG Xw _,ih (i+1) _ dQ uN (by omega) bG (W.frame _ s' _ _ apF (xV _) fun b hb o e=>by
     rw [lU.2 b (fun h:b=S=>AK (by rw [← h];exact hb))];exact e) hS2 Bw AL fun zD atA amS ap3 ar0 ar7 ar4=>by
     refine hR zD atA amS (Moved.trans W.gtrans ((hm.mono PD).then_heap (xV _) fun b o hb e=>?_) ap3) ar0 ar7 ar4;rw [lU.2 b (fun h:b=S=>hb (by rw [h];exact List.mem_cons_self))];exact e⟩
  have PK:=Qc (prog:=prog) (w:=w) hN (val i)
  rcases Ax with⟨lV,rfl⟩ | ⟨uU,hp⟩
  ·refine Sq ms hN ?_;have IZ:val i∈firstMet val i:=hP.mem_iff.mp (PK.mp lV);rw [firstMet_succ];unfold step_dedup;rw [if_pos (by rw [Ie];exact⟨_,IZ,by simp⟩)];exact hP
  ·have hnm:val i∉firstMet val i:=fun z=>by
    obtain⟨e,he,hpe⟩:=PK.mpr (hP.mem_iff.mpr z);exact uU e he hpe
   have h2:IntsAre ((es.toList++[((intKind prog w).hash (val i),Value.int (val i) t)]).map (·.2)) (ms++[val i]):=by
    rw [yA];exact ints_snoc hN (val i) t
   obtain⟨uN,Bw,AL⟩:=al0 hN hp h2;refine Sq uN Bw ?_;rw [firstMet_succ];unfold step_dedup;rw [if_neg (by rw [Ie];rintro⟨y,hy,e⟩;simp at e;subst e;exact hnm hy)];exact AL.trans (hP.append_right _)
end
section
variable{prog:Program}{w:World}{A:Around}{E:Value→Shared→Prop}{s:Shared}
theorem ag6(a:Value){Q₁:Value→Shared→Prop}
  (h:Q₁ (.ref s.heap.objs.size) { s with heap:=s.heap.push { cls := .type "set",dict:=none,data := .set #[] 0 (.fresh 0 0 (mJ w)) } }) :
  codeAny (model prog w) A (.call (.builtin "set.__new__") ⟨[.type "set",a],[]⟩) (wants Q₁ E) s:=by
 refine codeAny_of_tree ?_;show wpAny _ A.in1 (do checkBuiltinCall "set.__new__" ⟨[.type "set",a],[]⟩;again (.builtin "set.__new__" ⟨[.type "set",a],[]⟩)) _ _ s;refine aE (wpAny_of_eq (F.newCall_set_1 a) (aQ ⟨OG F.plain_set_new _,KI F.entry_set_new ?_⟩));rw [SW F.plain_set_new _];unfold Builtin.«set.__new__» Builtin.Frozenset.newClass;have PD:=sub_set_self;obtain⟨hp,g,d,tk,os⟩:=s;dsimp only
 wp_walk
 refine yO (aQ ?_);dsimp only;simp only [newObj];refine aE (wpAny_alloc (aQ ?_));exact aQ h
set_option maxHeartbeats 3200000 in
theorem avC{l:Addr}{items:Array Value}{ns:List Int}{Q:Value→Shared→Prop}
  (hh:A.handled=none) (hl:s.heap.IsList l items) (hi:PyProof.Rows.IntsAre items.toList ns) (hb:items.size+1<scanBound)
  (h:∀(h':Heap) (tk:Nat) es ms,jN prog w h' s.heap.objs.size es→Nums es ms→ms.Perm (firstMet (fun i=>ns.getD i 0) items.size) →
   (∀b o,b<s.heap.objs.size→s.heap.get? b=some o→h'.get? b=some o)→Q (.ref s.heap.objs.size) { s with heap:=h',toks:=tk }) :
  wpAny (model prog w) A (call (.type "set") [.ref l]) Q E s:=by
 obtain⟨c,tl,ay5⟩:=F.called_set.mro;have ay7:=F.called_set.made;have PD:=F.called_set.sub;refine wpAny_call (codeAny_of_tree ?_);show wpAny _ _ (callAny (.type "set") _) _ _ _;refine aQ ⟨Code.quiet_builtin _ (by decide +kernel),KI F.entry_type_call ?_⟩;rw [Around.under_plain (weight_type_call_type "set" [.ref l] []) rfl];have h1:=F.called_set.notType;have h2:=F.called_set.canCreate;have hct:=F.typeCall_set_1 (.ref l)
 repeat (any_goals (first | assumption | wp_step))
 refine xP (ag6 (.ref l) (E:=E) (Q₁:=fun obj s₁=>obj = .ref s.heap.objs.size∧s₁ = { s with heap:=s.heap.push { cls := .type "set",dict:=none,data := .set #[] 0 (.fresh 0 0 (mJ w)) } }) ⟨rfl,rfl⟩) fun r s₁ hr=>?_;cases r with
 | error e=>exact hr
 | ok fl =>
  cases fl with
  | ret obj =>
   obtain⟨rfl,rfl⟩:=hr;have hS:(s.heap.push { cls := .type "set",dict:=none,data := .set #[] 0 (.fresh 0 0 (mJ w)) }).get? s.heap.objs.size=some { cls := .type "set",dict:=none,data := .set #[] 0 (.fresh 0 0 (mJ w)) }:=gM _ rfl;have hT:Shared.TypeIs { s with heap:=s.heap.push { cls := .type "set",dict:=none,data := .set #[] 0 (.fresh 0 0 (mJ w)) } } (.ref s.heap.objs.size) "set":=⟨_,hS,rfl⟩;have hli:=F.called_set.init.lookup;have PX:=F.called_set.init.bind (.ref s.heap.objs.size)
   repeat (any_goals (first | assumption | wp_step))
   refine xP (codeAny_call_builtin (R:=wants (fun r s₂=>r = .none∧∃h' tk es ms,s₂ = { s with heap:=h',toks:=tk } ∧
     jN prog w h' s.heap.objs.size es∧Nums es ms∧ms.Perm (firstMet (fun i=>ns.getD i 0) items.size) ∧
     (∀b o,b<s.heap.objs.size→s.heap.get? b=some o→h'.get? b=some o)) E) F.called_set.init.plain F.entry_set_init (check_set_init_1 hT ?_)) fun r₂ s₂ As=>?_
   ·obtain⟨ol,PH,jI,nl,Sw⟩:=hl;obtain⟨ax5,alV,ax4,ak7⟩:=ol;simp only at jI Sw;subst jI;subst Sw;have apM:(s.heap.push { cls := .type "set",dict:=none,data := .set #[] 0 (.fresh 0 0 (mJ w)) }).get? l=some { cls := .type "list",dict:=alV,data := .seq items nl,slots:=ak7 }:=cZ _ PH;have ay0:=F.sub_list_set;have ay1:=F.sub_list_frozenset;have dY:(Value.type "list" == Value.type "dict")=false:=by decide
    have AB:(s.heap.push { cls := .type "set",dict:=none,data := .set #[] 0 (.fresh 0 0 (mJ w)) }).IsList l items:=⟨_,apM,rfl,nl,rfl⟩;unfold Builtin.«set.__init__» noKeywords Builtin.Frozenset.updateFrom;generalize hPI:pyIter=PI
    wp_walk
    subst hPI;refine wpAny_pyIter_list AB ?_;refine aE (wpAny_runValue ?_);have JA:l<s.heap.objs.size:=cR PH;have hh3:A.in1.in1.in1.handled=none:=by simp [hh]
    have apT:l≠(s.heap.push { cls := .type "set",dict:=none,data := .set #[] 0 (.fresh 0 0 (mJ w)) }).objs.size:=by
     rw [CA];exact dH (vI JA)
    have AK:s.heap.objs.size∉[(s.heap.push { cls := .type "set",dict:=none,data := .set #[] 0 (.fresh 0 0 (mJ w)) }).objs.size,l]:=by
     rw [CA];simp only [dZ,jP,RW,or_false,not_or];exact⟨dH (RQ _),RP JA⟩
    have Ap:∀(i:Nat) (v:Value),items[i]? = some v→∃t,v = .int ((fun i=>ns.getD i 0) i) t:=fun i v hv =>
     PyProof.Rows.IntsAre.int_at hi i v (by rw [mC];exact hv)
    refine auZ ((Walks.list hh3 _ l apT items).toS) s.heap.objs.size
     AK (fun i=>ns.getD i 0) Ap hb (items.size - 0) 0 _ #[] [] (by omega) rL
     ⟨⟨_,gM _ rfl,rfl,rfl⟩,(AB.push _)⟩ ?hS0 .nil (yE _) ?hR
    case hS0 =>
     have JI:((s.heap.push { cls := .type "set",dict:=none,data := .set #[] 0 (.fresh 0 0 (mJ w)) }).push { cls := .type "list_iterator",data := .fields #[.ref l,.int 0 0] }).get? s.heap.objs.size
       = some { cls := .type "set",dict:=none,data := .set #[] 0 (.fresh 0 0 (mJ w)) }:=cZ _ hS
     exact⟨_,0,_,JI,⟨rfl,rfl,rfl⟩,rfl,fun e he=>by simp at he,by decide,rfl,abU _⟩
    case hR =>
     intro s' dQ lP hm kY Bx xC;obtain⟨h',g',d',tk',XX⟩:=s';have eg:g'=s.gens:=hm.gens;have ed:d'=s.drawn:=hm.drawn;have eo:XX=s.os:=hm.os;subst eg;subst ed;subst eo;show wpAny _ _ _ _ _ _;refine aQ ?_;show wpAny _ _ (ret Value.none) _ _ _;refine aQ ⟨rfl,h',tk',dQ,lP,rfl,kY,Bx,xC,fun b o hb e=>?_⟩;have uY:b≠s.heap.objs.size:=dH hb;have pN:b≠(s.heap.push { cls := .type "set",dict:=none,data := .set #[] 0 (.fresh 0 0 (mJ w)) }).objs.size:=by
      rw [CA];exact dH (vI hb)
     exact hm.heap b o (by simp only [dZ,jP,RW,or_false,not_or];exact⟨uY,pN⟩) (cZ _ (cZ _ e))
   ·cases r₂ with
    | error e=>exact As
    | ok fl₂ =>
     cases fl₂ with
     | ret r =>
      obtain⟨rfl,h',tk,es,ms,rfl,kY,Bx,xC,wZ⟩:=As
      repeat (any_goals (first | assumption | wp_step))
      exact h _ _ es ms kY Bx xC wZ
     | _=>exact As.elim
  | _=>exact hr.elim
end
set_option maxRecDepth 100000
theorem nA:Slot "set_iterator" "__next__" "set_iterator.__next__" :=
 .of (owner := "set_iterator") (n := "__next__") (by rw [typeLookup_type,builtinLookup_eq_fast];kernel_rfl) (by decide +kernel) (by decide +kernel) (by decide +kernel)
  (by first | exact .inl (by decide +kernel) | exact .inr (by decide +kernel)) (by rw [isSubtype_type];kernel_rfl)
theorem Mu:Slot "set_iterator" "__iter__" "set_iterator.__iter__" :=
 .of (owner := "set_iterator") (n := "__iter__") (by rw [typeLookup_type,builtinLookup_eq_fast];kernel_rfl) (by decide +kernel) (by decide +kernel) (by decide +kernel)
  (by first | exact .inl (by decide +kernel) | exact .inr (by decide +kernel)) (by rw [isSubtype_type];kernel_rfl)
theorem EX:entryFor table "set_iterator.__next__" = some Builtin.«set_iterator.__next__»:=entryFor_of_tree (by kernel_rfl)
theorem atE:entryFor table "set_iterator.__iter__" = some Builtin.«dict_keyiterator.__iter__»:=entryFor_alias (id' := "dict_keyiterator.__iter__") (by kernel_rfl) rfl (by decide +kernel) (by kernel_rfl)
theorem atF:entryFor table "set.__iter__" = some Builtin.«frozenset.__iter__»:=entryFor_alias (id' := "frozenset.__iter__") (by kernel_rfl) rfl (by decide +kernel) (by kernel_rfl)
theorem Pj:Manifest.owners.lookup (String.ofList ['r','o','t','a','r','e','t','i','_','t','e','s'].reverse)=some Manifest.sig_set_iterator:=by kernel_rfl
theorem FH(a:Value):argsOk "set_iterator.__next__" ⟨[a],[]⟩:=by
 unfold argsOk;rw [signature?_of (id := "set_iterator.__next__") (n:=['_','_','t','x','e','n','_','_']) (o:=['r','o','t','a','r','e','t','i','_','t','e','s']) (by kernel_rfl) Pj];kernel_rfl
theorem avZ(a:Value):argsOk "set_iterator.__iter__" ⟨[a],[]⟩:=by
 unfold argsOk;rw [signature?_of (id := "set_iterator.__iter__") (n:=['_','_','r','e','t','i','_','_']) (o:=['r','o','t','a','r','e','t','i','_','t','e','s']) (by kernel_rfl) Pj];kernel_rfl
def jZ(h:Heap)(I a:Addr)(first:Value)(i n ep:Nat):Prop:=h.get? I=some { cls := .type "set_iterator",data := .fields #[first,.int i 0,.ref a,.int n 0,.int ep 0] }
def oW(w:World)(h:Heap)(a:Addr)(es:Array (Int×Value))(ep:Nat)(t:SetTable):Prop:=∃o,h.get? a=some o∧o.data = .set es ep t∧t.fits es.size=true∧nH (mJ w) t
theorem jZ.typeIs{s:Shared}{I a:Addr}{f:Value}{i n ep:Nat}(x:jZ s.heap I a f i n ep):s.TypeIs (.ref I) "set_iterator":=⟨_,x,rfl⟩
theorem jZ.at{h h':Heap}{I a:Addr}{f:Value}{i n ep:Nat}(x:jZ h I a f i n ep)(e:∀o,h.get? I=some o→h'.get? I=some o):jZ h' I a f i n ep:=e _ x
theorem oW.at{w:World}{h h':Heap}{a:Addr}{es:Array (Int×Value)}{ep:Nat}{t:SetTable}(x:oW w h a es ep t)(e:∀o,h.get? a=some o→h'.get? a=some o):oW w h' a es ep t:=let ⟨o,ho,r⟩:=x; ⟨o,e _ ho,r⟩
def wF(t:SetTable)(i:Nat):Nat:=if i=0 then 0 else t.place.getD (i - 1) 0+1
theorem Mw{t:SetTable}(h:tP t.place){i:Nat}(hi:i≤t.place.size):SetTable.below t.place (wF t i)=i:=by
 unfold wF
 by_cases h0:i=0
 ·rw [if_pos h0,avO h,h0]
 ·rw [if_neg h0];have hl:i - 1<t.place.size:=by omega
  have hg:t.place[i - 1]? = some (t.place.getD (i - 1) 0):=by simp [Array.getD,hl]
  rw [avP h hg];omega
section
variable{prog:Program}{w:World}{A:Around}{E:Value→Shared→Prop}{s:Shared}
theorem amA{I a:Addr}{es:Array (Int×Value)}{ep i:Nat}{t:SetTable}{x:Int×Value}{Q:Option Value→Shared→Prop}(hit:jZ s.heap I a (.int (wF t i) 0) i es.size ep)(hs:oW w s.heap a es ep t)
  (hb:w.params.followText "set-order" = false) (hd:(!t.plain&&decide (es.size>1))=false) (hx:es[i]? = some x)
  (hQ:∀h',jZ h' I a (.int (wF t (i+1)) 0) (i+1) es.size ep→Heap.SameBut I s.heap h'→Q (some x.2) { s with heap:=h' }):wpAny (model prog w) A (pyNext (.ref I)) Q E s:=by
 obtain⟨os,gG,gT,hf,hT⟩:=id hs;have Bm:=hf;simp only [SetTable.fits,mB,beq_iff_eq,xN]at Bm;have bG:i<es.size:=(MC.mp hx).1;have apI:i<t.place.size:=by omega
 have gF:t.place[i]? = some (t.place.getD i 0):=by simp [Array.getD,apI]
 have Bc:(!t.led && !es.isEmpty)=false:=by rw [hT.led];simp [mJ,hb]
 unfold pyNext;refine aE (yN (CQ (name:=Str.ofString "__next__") hit.typeIs nA
  (qF nA hit.typeIs EX ?_ (FH _))))
 unfold Builtin.«set_iterator.__next__»;refine aE (aQ ?_);refine aE (GJ hit rfl ?_);dsimp only;refine aE (CO gG gT hf ?_);rw [if_neg (by simp)];refine aE ?_;unfold setNext;refine aE (yL gG gT hf ?_);dsimp only;unfold setsByText;refine aE (aE (yO (aQ ?_)));refine sC (lW (show ¬(w.params.followText "set-order" = true)by rw [hb];simp)) ?_;refine sC (lW (show ¬((!t.plain&&decide (es.size>1))=true)by rw [hd];simp)) ?_;refine aE ?_;show wpAny (model prog w) A.in1 (if(!t.led && !es.isEmpty)=true then unsupported "set:maker-not-led" else pure ()) _ _ _;refine sC (by simp [Bc]) (aQ ?_);rw [BX,Mw hT.rise (by omega),hx,gF];refine aQ ?_;dsimp only;refine aE (vT hit (by simp) fun h1 e1 rK=>?_);refine aE (vT e1 (by simp) fun h2 e2 VX=>?_);refine aQ ⟨_,rfl,aQ (hQ h2 ?_ (rK.trans VX))⟩;unfold jZ;rw [e2];have:wF t (i+1)=t.place.getD i 0+1:=by unfold wF;simp
 rw [this];simp [rawInt]
theorem amB{I a:Addr}{es:Array (Int×Value)}{ep:Nat}{t:SetTable}{Q:Option Value→Shared→Prop}(hh:A.handled=none)(hit:jZ s.heap I a (.int (wF t es.size) 0) es.size es.size ep)(hs:oW w s.heap a es ep t)
  (hb:w.params.followText "set-order" = false) (hd:(!t.plain&&decide (es.size>1))=false)
  (hQ:∀h',Heap.ExtBut I s.heap h'→Q none { s with heap:=h' }):wpAny (model prog w) A (pyNext (.ref I)) Q E s:=by
 obtain⟨os,gG,gT,hf,hT⟩:=id hs;have Bm:=hf;simp only [SetTable.fits,mB,beq_iff_eq,xN]at Bm;have Bc:(!t.led && !es.isEmpty)=false:=by rw [hT.led];simp [mJ,hb]
 unfold pyNext;refine aE (yN (CQ (name:=Str.ofString "__next__") hit.typeIs nA
  (qF nA hit.typeIs EX ?_ (FH _))))
 unfold Builtin.«set_iterator.__next__»;refine aE (aQ ?_);refine aE (GJ hit rfl ?_);dsimp only;refine aE (CO gG gT hf ?_);rw [if_neg (by simp)];refine aE ?_;unfold setNext;refine aE (yL gG gT hf ?_);dsimp only;unfold setsByText;refine aE (aE (yO (aQ ?_)));refine sC (lW (show ¬(w.params.followText "set-order" = true)by rw [hb];simp)) ?_;refine sC (lW (show ¬((!t.plain&&decide (es.size>1))=true)by rw [hd];simp)) ?_;refine aE ?_;show wpAny (model prog w) A.in1 (if(!t.led && !es.isEmpty)=true then unsupported "set:maker-not-led" else pure ()) _ _ _;refine sC (by simp [Bc]) (aQ ?_);rw [BX,Mw hT.rise (by omega),Array.getElem?_eq_none cE];refine aQ ?_;dsimp only;refine aE (vT hit (by simp) fun h1 e1 rK=>?_);show wpAny _ _ (newExc (.type "StopIteration") [] >>= _) _ _ _;refine aE ?_;simp only [newExc,newTuple];refine aE (mV ?_ (by size_fits));refine aE (m:=firstArgMember _ _) (wpAny_of_eq (a:=Value.none) (by first | rfl | (simp only [firstArgMember];rfl)) ?_);refine mV ?_ (by size_fits);simp only [raiseNew];refine aE (wpAny_handled ?_);rw [show A.in1.handled=none from hh];refine aE (aQ (wpAny_throw ?_));refine aE (TJ (T := "StopIteration") (b:=true) ⟨_,gM _ rfl,rfl⟩ isSubtype_stop ?_);exact aQ (hQ _ ((rK.extBut.push _).push _))
end
set_option maxRecDepth 100000
theorem Ee{α:Type}:∀(l:List α) (i:Nat) (h:i<l.length),(l[i]::l.eraseIdx i).Perm l
 | [],i,h=>absurd h (Nat.not_lt_zero _)
 | x::l,0,h=>yE _
 | x::l,i+1,h=>by
  have ih:=Ee l i (by simpa using h);simp only [List.getElem_cons_succ,List.eraseIdx_cons_succ];exact(List.Perm.swap _ _ _).trans (ih.cons x)
theorem Pc{α:Type}(f:Nat→Nat):∀(fuel k:Nat) (left:List α) (out:Array α),left.length=fuel→(pickOrder.go f fuel k left out).toList.Perm (out.toList++left)
 | 0,k,left,out,h=>by
  have:left=[]:=Hv.mp h;subst this;unfold pickOrder.go;simp
 | fuel+1,k,left,out,h=>by
  have hi:f k%left.length<left.length:=Nat.mod_lt _ (by omega);unfold pickOrder.go;rw [gK hi];have ih:=Pc f fuel (k+1) (left.eraseIdx (f k%left.length)) (out.push left[f k%left.length]) (by rw [List.length_eraseIdx_of_lt hi];omega);refine ih.trans ?_;rw [CL,fZ];exact(Ee _ _ hi).append_left _
theorem XQ{α:Type}(f:Nat→Nat)(xs:Array α):(pickOrder f xs).toList.Perm xs.toList:=by
 have h:=Pc f xs.size 0 xs.toList #[] (by simp);simp only [FW]at h;exact h
section
variable{prog:Program}{w:World}{A:Around}{E:Value→Shared→Prop}{s:Shared}
theorem Ki{a:Addr}{es:Array (Int×Value)}{ep:Nat}{t:SetTable}{Q:Array (Int×Value)→Shared→Prop}(hs:oW w s.heap a es ep t)(hb:w.params.followText "set-order" = true)
  (h:Q (pickOrder (w.params.setOrder a ep) es) s):wpAny (model prog w) A (setWalk a) Q E s:=by
 obtain⟨os,gG,gT,hf,hT⟩:=id hs;unfold setWalk;refine aE (yL gG gT hf ?_);dsimp only;unfold setsByText;refine aE (aE (yO (aQ ?_)));refine TF (tJ (show w.params.followText "set-order" = true from hb)) ?_;exact aE (yO (aQ h))
theorem amC{I a:Addr}{es:Array (Int×Value)}{ep i:Nat}{t:SetTable}{x:Int×Value}{Q:Option Value→Shared→Prop}(hit:jZ s.heap I a (.int 0 0) i es.size ep)(hs:oW w s.heap a es ep t)
  (hb:w.params.followText "set-order" = true) (hx:(pickOrder (w.params.setOrder a ep) es)[i]? = some x)
  (hQ:∀h',jZ h' I a (.int 0 0) (i+1) es.size ep→Heap.SameBut I s.heap h'→Q (some x.2) { s with heap:=h' }):wpAny (model prog w) A (pyNext (.ref I)) Q E s:=by
 obtain⟨os,gG,gT,hf,hT⟩:=id hs;unfold pyNext;refine aE (yN (CQ (name:=Str.ofString "__next__") hit.typeIs nA
  (qF nA hit.typeIs EX ?_ (FH _))))
 unfold Builtin.«set_iterator.__next__»;refine aE (aQ ?_);refine aE (GJ hit rfl ?_);dsimp only;refine aE (CO gG gT hf ?_);rw [if_neg (by simp)];refine aE ?_;unfold setNext;refine aE (yL gG gT hf ?_);dsimp only;unfold setsByText;refine aE (aE (yO (aQ ?_)));refine TF (tJ (show w.params.followText "set-order" = true from hb)) ?_;refine sC (by simp) ?_;refine aE (Ki hs hb ?_);rw [BX,hx];refine aQ ?_;simp only [LA];refine aE (vT hit (by simp) fun h1 e1 rK=>?_);refine aE (vT e1 (by simp) fun h2 e2 VX=>?_);refine aQ ⟨_,rfl,aQ (hQ h2 ?_ (rK.trans VX))⟩;unfold jZ;rw [e2];simp [rawInt]
theorem amD{I a:Addr}{es:Array (Int×Value)}{ep:Nat}{t:SetTable}{Q:Option Value→Shared→Prop}(hh:A.handled=none)(hit:jZ s.heap I a (.int 0 0) es.size es.size ep)(hs:oW w s.heap a es ep t)
  (hb:w.params.followText "set-order" = true)
  (hQ:∀h',Heap.ExtBut I s.heap h'→Q none { s with heap:=h' }):wpAny (model prog w) A (pyNext (.ref I)) Q E s:=by
 obtain⟨os,gG,gT,hf,hT⟩:=id hs;have hx:(pickOrder (w.params.setOrder a ep) es)[es.size]? = none:=by
  rw [Ze];have:=(XQ (w.params.setOrder a ep) es).length_eq;simp only [eY]at this;omega
 unfold pyNext;refine aE (yN (CQ (name:=Str.ofString "__next__") hit.typeIs nA
  (qF nA hit.typeIs EX ?_ (FH _))))
 unfold Builtin.«set_iterator.__next__»;refine aE (aQ ?_);refine aE (GJ hit rfl ?_);dsimp only;refine aE (CO gG gT hf ?_);rw [if_neg (by simp)];refine aE ?_;unfold setNext;refine aE (yL gG gT hf ?_);dsimp only;unfold setsByText;refine aE (aE (yO (aQ ?_)));refine TF (tJ (show w.params.followText "set-order" = true from hb)) ?_;refine sC (by simp) ?_;refine aE (Ki hs hb ?_);rw [BX,hx];refine aQ ?_;simp only [Option.map_none];refine aE (vT hit (by simp) fun h1 e1 rK=>?_);show wpAny _ _ (newExc (.type "StopIteration") [] >>= _) _ _ _;refine aE ?_;simp only [newExc,newTuple];refine aE (mV ?_ (by size_fits));refine aE (m:=firstArgMember _ _) (wpAny_of_eq (a:=Value.none) (by first | rfl | (simp only [firstArgMember];rfl)) ?_);refine mV ?_ (by size_fits);simp only [raiseNew];refine aE (wpAny_handled ?_);rw [show A.in1.handled=none from hh];refine aE (aQ (wpAny_throw ?_));refine aE (TJ (T := "StopIteration") (b:=true) ⟨_,gM _ rfl,rfl⟩ isSubtype_stop ?_);exact aQ (hQ _ ((rK.extBut.push _).push _))
theorem aaE{src:Source}{n:Nat}{Q:Nat→Shared→Prop}(hn:n≠0)(h:∀i,i<n→Q i { s with drawn:=s.drawn.bump src }):wpAny (model prog w) A (choose src n) Q E s:=fun Γ p _=>by
 unfold choose;rw [Sem.wp_choose];exact⟨hn,h _ (Nat.mod_lt _ (by omega))⟩
theorem Ke{α:Type}:∀(n:Nat) (xs:List α) (s:Shared) {Q:List α→Shared→Prop},xs.length=n→(∀ys d,ys.Perm xs→Q ys { s with drawn:=d })→wpAny (model prog w) A (drawOrder n xs) Q E s
 | 0,xs,s,Q,hl,h=>by
  have:xs=[]:=Hv.mp hl;subst this;unfold drawOrder;have e:s = { s with drawn:=s.drawn }:=by cases s;rfl
  rw [e];exact aQ (h [] s.drawn (yE _))
 | n+1,[],s,Q,hl,h=>by simp at hl
 | n+1,x::xs,s,Q,hl,h=>by
  unfold drawOrder;refine aE (aaE (by simp) fun i hi=>?_);rw [gK hi];dsimp only;refine aE (Ke n ((x::xs).eraseIdx i) _ (by rw [List.length_eraseIdx_of_lt hi];omega) fun ys d hp=>?_);refine aQ (h ((x::xs)[i]::ys) d ?_);exact(hp.cons _).trans (Ee _ _ hi)
end
set_option maxRecDepth 100000
def GC(h:Heap)(T:Addr)(ps:List Nat):Prop:=h.get? T=some { cls := .type "tuple",data := .seq (ps.map fun i:Nat=>rawInt (i:Int)).toArray }
section
variable{prog:Program}{w:World}{A:Around}{E:Value→Shared→Prop}{s:Shared}
theorem al8{I a T:Addr}{es:Array (Int×Value)}{ep i j:Nat}{t:SetTable}{ps:List Nat}{x:Int×Value}{Q:Option Value→Shared→Prop}(hit:jZ s.heap I a (.ref T) i es.size ep)(hs:oW w s.heap a es ep t)(hT:GC s.heap T ps)
  (hj:ps[i]? = some j) (hx:es[j]? = some x)
  (hQ:∀h',jZ h' I a (.ref T) (i+1) es.size ep→Heap.SameBut I s.heap h'→Q (some x.2) { s with heap:=h' }):wpAny (model prog w) A (pyNext (.ref I)) Q E s:=by
 obtain⟨os,gG,gT,hf,_⟩:=id hs;unfold pyNext;refine aE (yN (CQ (name:=Str.ofString "__next__") hit.typeIs nA
  (qF nA hit.typeIs EX ?_ (FH _))))
 unfold Builtin.«set_iterator.__next__»;refine aE (aQ ?_);refine aE (GJ hit rfl ?_);dsimp only;refine aE (CO gG gT hf ?_);rw [if_neg (by simp)];refine aE (wpAny_seqItems hT rfl ?_);have hp:(ps.map fun i:Nat=>rawInt (i:Int)).toArray[i]? = some (rawInt (j:Int)):=by simp [hj]
 dsimp only;rw [BX,hp];show wpAny _ _ (setNextDrawn a (j:Int).toNat (ep:Int).toNat >>= _) _ _ _;refine aE ?_;unfold setNextDrawn;refine aE (yL gG gT hf ?_);dsimp only;refine sC (by simp) ?_;rw [BX,hx];refine aQ ?_;refine aE (vT hit (by simp) fun h1 e1 rK=>?_);refine aQ ⟨_,rfl,aQ (hQ h1 ?_ rK)⟩;unfold jZ;rw [e1];simp [rawInt]
theorem al9{I a T:Addr}{es:Array (Int×Value)}{ep:Nat}{t:SetTable}{ps:List Nat}{Q:Option Value→Shared→Prop}(hh:A.handled=none)(hit:jZ s.heap I a (.ref T) es.size es.size ep)(hs:oW w s.heap a es ep t)(hT:GC s.heap T ps)
  (hj:ps.length=es.size)
  (hQ:∀h',Heap.ExtBut I s.heap h'→Q none { s with heap:=h' }):wpAny (model prog w) A (pyNext (.ref I)) Q E s:=by
 obtain⟨os,gG,gT,hf,_⟩:=id hs;unfold pyNext;refine aE (yN (CQ (name:=Str.ofString "__next__") hit.typeIs nA
  (qF nA hit.typeIs EX ?_ (FH _))))
 unfold Builtin.«set_iterator.__next__»;refine aE (aQ ?_);refine aE (GJ hit rfl ?_);dsimp only;refine aE (CO gG gT hf ?_);rw [if_neg (by simp)];refine aE (wpAny_seqItems hT rfl ?_);have hp:(ps.map fun i:Nat=>rawInt (i:Int)).toArray[es.size]? = none:=by simp [← hj]
 dsimp only;rw [BX,hp];refine aE (vT hit (by simp) fun h0 e0 sb0=>?_);refine aE (vT e0 (by simp) fun h1 e1 rK=>?_);show wpAny _ _ (newExc (.type "StopIteration") [] >>= _) _ _ _;refine aE ?_;simp only [newExc,newTuple];refine aE (mV ?_ (by size_fits));refine aE (m:=firstArgMember _ _) (wpAny_of_eq (a:=Value.none) (by first | rfl | (simp only [firstArgMember];rfl)) ?_);refine mV ?_ (by size_fits);simp only [raiseNew];refine aE (wpAny_handled ?_);rw [show A.in1.handled=none from hh];refine aE (aQ (wpAny_throw ?_));refine aE (TJ (T := "StopIteration") (b:=true) ⟨_,gM _ rfl,rfl⟩ isSubtype_stop ?_);exact aQ (hQ _ (((sb0.trans rK).extBut.push _).push _))
theorem XM{I a:Addr}{f:Value}{i n ep:Nat}{Q:Value→Shared→Prop}(hit:jZ s.heap I a f i n ep)(h:Q (.ref I) s):wpAny (model prog w) A (pyIter (.ref I)) Q E s:=by
 refine wpAny_pyIter_slot hit.typeIs Mu (qF Mu hit.typeIs atE ?_ (avZ _));show wpAny _ _ (ret (.ref I)) _ _ s;exact aQ ⟨_,rfl, "set_iterator",_,hit.typeIs,nA.lookup,h⟩
theorem GC.at{h h':Heap}{T:Addr}{ps:List Nat}(x:GC h T ps)(e:∀o,h.get? T=some o→h'.get? T=some o):GC h' T ps:=e _ x
theorem aaI(hh:A.handled=none)(I a:Addr)(dY:a≠I)(es:Array (Int×Value))(ep:Nat)(t:SetTable)(hb:w.params.followText "set-order" = true) :
  Walks prog w A I [I,a] [I] es.size (fun i v=>((pickOrder (w.params.setOrder a ep) es).toList.map (·.2))[i]? = some v) (fun i h=>jZ h I a (.int 0 0) i es.size ep∧oW w h a es ep t)where
 sub:=fun b hb=>by simp at hb;simp [hb]
 frame:=fun _ _ _ st hk=>⟨st.1.at fun o e=>hk I (by simp) o e,st.2.at fun o e=>hk a (by simp) o e⟩
 item:=fun i s Q E hi st hQ=>by
  have hl:i<(pickOrder (w.params.setOrder a ep) es).size:=by
   have:=(XQ (w.params.setOrder a ep) es).length_eq;simp only [eY]at this;omega
  have hx:=Jo hl;refine amC st.1 st.2 hb hx fun h' JE cX=>?_;exact hQ _ h' s.toks (by simp [hl]) ⟨JE,st.2.at fun o e=>cX.extBut a o dY e⟩ fun b o hb e=>cX.extBut b o (fun h=>hb (by simp [h])) e
 done:=fun s Q E st hQ=>amD hh st.1 st.2 hb fun h' JM=>hQ h' s.toks fun b o hb e=>JM b o (fun h=>hb (by simp [h])) e
 self:=fun _ _ _ _ st hQ=>XM st.1 hQ
theorem aaH(hh:A.handled=none)(I a:Addr)(dY:a≠I)(es:Array (Int×Value))(ep:Nat)(t:SetTable)(hb:w.params.followText "set-order" = false)(hd:(!t.plain&&decide (es.size>1))=false) :
  Walks prog w A I [I,a] [I] es.size (fun i v=>(es.toList.map (·.2))[i]? = some v) (fun i h=>jZ h I a (.int (wF t i) 0) i es.size ep∧oW w h a es ep t)where
 sub:=fun b hb=>by simp at hb;simp [hb]
 frame:=fun _ _ _ st hk=>⟨st.1.at fun o e=>hk I (by simp) o e,st.2.at fun o e=>hk a (by simp) o e⟩
 item:=fun i s Q E hi st hQ=>by
  have hx:=Jo hi;refine amA st.1 st.2 hb hd hx fun h' JE cX=>?_;exact hQ _ h' s.toks (by simp [hi]) ⟨JE,st.2.at fun o e=>cX.extBut a o dY e⟩ fun b o hb e=>cX.extBut b o (fun h=>hb (by simp [h])) e
 done:=fun s Q E st hQ=>amB hh st.1 st.2 hb hd fun h' JM=>hQ h' s.toks fun b o hb e=>JM b o (fun h=>hb (by simp [h])) e
 self:=fun _ _ _ _ st hQ=>XM st.1 hQ
theorem aaG(hh:A.handled=none)(I a T:Addr)(dY:a≠I)(hTI:T≠I)(es:Array (Int×Value))(ep:Nat)(t:SetTable)(ps:List Nat)(hp:ps.Perm (List.range es.size)) :
  Walks prog w A I [I,a,T] [I] es.size (fun i v=>(ps.map fun j=>(es.getD j (0,.none)).2)[i]? = some v) (fun i h=>jZ h I a (.ref T) i es.size ep∧oW w h a es ep t∧GC h T ps)where
 sub:=fun b hb=>by simp at hb;simp [hb]
 frame:=fun _ _ _ st hk=>⟨st.1.at fun o e=>hk I (by simp) o e,st.2.1.at fun o e=>hk a (by simp) o e,st.2.2.at fun o e=>hk T (by simp) o e⟩
 item:=fun i s Q E hi st hQ=>by
  have hl:i<ps.length:=by rw [hp.length_eq];simpa using hi
  have hm:ps[i]<es.size:=by
   have:=hp.mem_iff.mp (RY hl);simpa using this
  refine al8 (j:=ps[i]) (x:=es[ps[i]]) st.1 st.2.1 st.2.2 (gK hl) (Jo hm) fun h' JE cX=>?_;exact hQ _ h' s.toks (by simp [hl,Array.getD,hm]) ⟨JE,st.2.1.at fun o e=>cX.extBut a o dY e,st.2.2.at fun o e=>cX.extBut T o hTI e⟩ fun b o hb e=>cX.extBut b o (fun h=>hb (by simp [h])) e
 done:=fun s Q E st hQ=>al9 hh st.1 st.2.1 st.2.2 (by rw [hp.length_eq];simp) fun h' JM=>hQ h' s.toks fun b o hb e=>JM b o (fun h=>hb (by simp [h])) e
 self:=fun _ _ _ _ st hQ=>XM st.1 hQ
end
set_option maxRecDepth 100000
theorem jN.ahB{prog:Program}{w:World}{h:Heap}{a:Addr}{es:Array (Int×Value)}(x:jN prog w h a es):∃ep t,oW w h a es ep t:=let ⟨o,ep,t,ho,_,hd,_,_,hf,hT⟩:=x; ⟨ep,t,o,ho,hd,hf,hT⟩
section
variable{prog:Program}{w:World}{A:Around}{E:Value→Shared→Prop}{s:Shared}
theorem aiZ{a:Addr}{es:Array (Int×Value)}{Q:Value→Shared→Prop}(hh:A.handled=none)(hS:jN prog w s.heap a es)
  (hQ:∀(I:Addr) (h':Heap) (d:Drawn) (ord:List Value) (fp:List Addr) (St:Nat→Heap→Prop),ord.Perm (es.toList.map (·.2))→(∀b o,s.heap.get? b=some o→h'.get? b=some o)→(∀b∈fp,b=a∨s.heap.objs.size≤b)→s.heap.objs.size≤I →
   Walks prog w A I fp [I] es.size (fun i v=>ord[i]? = some v) St→St 0 h'→Q (.ref I) { s with heap:=h',drawn:=d }):wpAny (model prog w) A (pyIter (.ref a)) Q E s:=by
 obtain⟨ep,t,hE⟩:=hS.ahB;obtain⟨os,gG,gT,hf,hT⟩:=id hE;have Te:=hS.typeIs;have bG:a<s.heap.objs.size:=hS.lt;have hsz:es.size<scanBound:=let ⟨_,_,_,_,_,_,_,hb,_,_⟩:=hS;hb;refine wpAny_pyIter_slot Te F.slot_set_iter (qF F.slot_set_iter Te atF ?_ (F.args_set_iter_1 _));unfold Builtin.«frozenset.__iter__»;refine aE (aQ ?_);refine aE ?_;unfold Builtin.Frozenset.sizeOf;refine aE (CO gG gT hf (aQ ?_));refine aE ?_;unfold setDrawn;refine aE (yL gG gT hf ?_);dsimp only;unfold setsByText;refine aE (aE (yO (aQ (aQ ?_))));cases hb:w.params.followText "set-order" with
 | true =>
  refine sC (lW (show ¬((!w.params.followText "set-order" && (!t.plain&&decide (es.size>1)))=true)by rw [hb];simp)) (aE (aQ ?_));refine aE (wpAny_setEpoch_of gG gT hf ?_);refine aE (mV (aQ ⟨_,rfl, "set_iterator",_,⟨_,gM _ rfl,rfl⟩,nA.lookup,?_⟩));have e:s = { s with drawn:=s.drawn }:=by cases s;rfl
  have:=hQ s.heap.objs.size (s.heap.push { cls := .type "set_iterator",data := .fields #[.int 0 0,.int 0 0,.ref a,.int es.size 0,.int ep 0] }) s.drawn _ _ _ ((XQ (w.params.setOrder a ep) es).map (·.2)) (fun b o e=>cZ _ e) (fun b hb=>by
   simp only [dZ,RW,or_false]at hb
   rcases hb with z | z
   ·exact .inr (by rw [z];exact oX _)
   ·exact .inl z) cE (aaI hh _ a (dH bG) es ep t hb) ⟨gM _ rfl,hE.at fun o e=>cZ _ e⟩
  simpa [rawInt]using this
 | false =>
  cases hd:(!t.plain&&decide (es.size>1))with
  | false =>
   refine sC (lW (show ¬((!w.params.followText "set-order" && (!t.plain&&decide (es.size>1)))=true)by rw [hd];simp)) (aE (aQ ?_));refine aE (wpAny_setEpoch_of gG gT hf ?_);refine aE (mV (aQ ⟨_,rfl, "set_iterator",_,⟨_,gM _ rfl,rfl⟩,nA.lookup,?_⟩));have:=hQ s.heap.objs.size (s.heap.push { cls := .type "set_iterator",data := .fields #[.int 0 0,.int 0 0,.ref a,.int es.size 0,.int ep 0] }) s.drawn _ _ _ (yE _) (fun b o e=>cZ _ e) (fun b hb=>by
    simp only [dZ,RW,or_false]at hb
    rcases hb with z | z
    ·exact .inr (by rw [z];exact oX _)
    ·exact .inl z) cE (aaH hh _ a (dH bG) es ep t hb hd) ⟨gM _ rfl,hE.at fun o e=>cZ _ e⟩
   simpa [rawInt]using this
  | true =>
   refine TF (tJ (show(!w.params.followText "set-order" && (!t.plain&&decide (es.size>1)))=true by rw [hb,hd];simp)) ?_;refine aE (Ke es.size (List.range es.size) s (by simp) fun ps d hp=>?_);have gF:ps.length=es.size:=by rw [hp.length_eq];simp
   refine aE (wpAny_newTuple ?_ (by rw [fW,gF];exact Eb hsz));have k1:∀b o,s.heap.get? b=some o→(s.heap.push { cls := .type "tuple",data := .seq (ps.map fun i:Nat=>rawInt (i:Int)).toArray }).get? b=some o:=fun b o e=>cZ _ e;refine aE (wpAny_setEpoch_of (k1 a _ gG) gT hf ?_);refine aE (mV (aQ ⟨_,rfl, "set_iterator",_,⟨_,gM _ rfl,rfl⟩,nA.lookup,?_⟩));have Rt:(s.heap.push { cls := .type "tuple",data := .seq (ps.map fun i:Nat=>rawInt (i:Int)).toArray }).objs.size=s.heap.objs.size+1:=CA _ _;have rP:(ps.map fun j=>(es.getD j (0,.none)).2).Perm (es.toList.map (·.2)):=by
    have h1:=hp.map fun j=>(es.getD j (0,.none)).2;have h2:(List.range es.size).map (fun j=>(es.getD j (0,Value.none)).2)=es.toList.map (·.2):=by
     apply BU;intro j;rw [lF,lF]
     by_cases hj:j<es.size
     ·simp [hj,Array.getD]
     ·simp [hj]
    rw [h2]at h1;exact h1
   have:=hQ (s.heap.objs.size+1) ((s.heap.push { cls := .type "tuple",data := .seq (ps.map fun i:Nat=>rawInt (i:Int)).toArray }).push { cls := .type "set_iterator",data := .fields #[.ref s.heap.objs.size,.int 0 0,.ref a,.int es.size 0,.int ep 0] }) d _ _ _ rP (fun b o e=>cZ _ (k1 b o e)) (fun b hb=>by
    simp only [dZ,RW,or_false]at hb
    rcases hb with z | z | z
    ·exact .inr (by rw [z];exact xV _)
    ·exact .inl z
    ·exact .inr (by rw [z];exact oX _)) (xV _) (aaG hh _ a s.heap.objs.size (dH (vI bG)) (dH (RQ _)) es ep t ps hp) ⟨by
     unfold jZ;have q:=gM (s.heap.push { cls := .type "tuple",data := .seq (ps.map fun i:Nat=>rawInt (i:Int)).toArray }) (o:={ cls := .type "set_iterator",data := .fields #[.ref s.heap.objs.size,.int 0 0,.ref a,.int es.size 0,.int ep 0] }) rfl;rw [Rt]at q;exact q,hE.at fun o e=>cZ _ (k1 a o e),cZ _ (gM _ rfl)⟩
   rw [← Rt]at this;simpa [rawInt]using this
end
set_option maxRecDepth 100000
section
variable{prog:Program}{w:World}{A:Around}{E:Value→Shared→Prop}{s:Shared}
theorem aqD{r:Addr}{Q:Bool→Shared→Prop}(hT:s.TypeIs (.ref r) "set")(h:Q false s):wpAny (model prog w) A (Builtin.List.listLengthHint (.ref r)) Q E s:=by
 unfold Builtin.List.listLengthHint;refine aE (wpAny_specialOf hT F.slot_set_len.lookup ?_);generalize JG:("set.__len__" : String)=id0
 wp_delta
 rw [show splitId id0=some ("set", "__len__")from by subst JG;decide +kernel];subst JG;refine aE (TJ (T := "set") (b:=true) hT (by rw [isSubtype_type];kernel_rfl) ?_);refine wpAny_ite_split (fun JR=>absurd JR (by decide)) (fun _=>?_);refine wpAny_ite_split (fun _=>?_) (fun JR=>absurd (by decide +kernel) JR);refine aE (wpAny_typeOf hT ?_);exact aQ h
theorem aoE{ord:List Value}{acc:Array Value}(h:ItemsOf (fun i v=>ord[i]? = some v) acc ord.length):acc.toList=ord:=by
 apply BU;intro i;rw [mC];cases e:acc[i]? with
 | some v=>exact(h.2 i v e).symm
 | none =>
  rw [eq_comm,List.getElem?_eq_none_iff];rw [Ze,h.1]at e;exact e
theorem as7{R:Result→Shared→Prop}{r:Addr}{es:Array (Int×Value)}(hh:A.handled=none)(hS0:jN prog w s.heap r es)(S:Addr)(Tn:S≠r)(res:Value)(c₀:Nat)(hS:s.heap.get? S=some { cls := .type "list",data := .seq #[] c₀ })
  (hR:∀h' tk d pY c',(∀b o,b≠S→s.heap.get? b=some o→h'.get? b=some o)→h'.get? S=some { cls := .type "list",dict:=none,data := .seq pY c',slots:=#[] }→pY.toList.Perm (es.toList.map (·.2))→R (.ok (.ret res)) { s with heap:=h',toks:=tk,drawn:=d }) :
  wpAny (model prog w) A.in1 (Builtin.List.listExtendWith (.ref S) (.ref r) res)
   (fun fin s'=>match fin with | .done f=>R (.ok f) s' | .again c'=>c'.quiet=true∧codeAny (model prog w) A c' R s') (fun e s'=>R (.error e) s') s:=by
 have hsz:es.size<scanBound:=let ⟨_,_,_,_,_,_,_,hb,_,_⟩:=hS0;hb;have JA:S<s.heap.objs.size:=cR hS;unfold Builtin.List.listExtendWith;refine aE (wpAny_typeOf (T := "set") hS0.typeIs ?_);have h1:Builtin.List.listSameRef (.ref S) (.ref r)=false:=by simp [Builtin.List.listSameRef,Tn]
 have n1:(Value.type "set" == Value.type "list")=false:=by decide
 have n2:(Value.type "set" == Value.type "tuple")=false:=by decide
 simp only [h1,n1,n2,Bool.or_false,iD,eF];refine aE (aiZ (A:=A.in1) hh hS0 fun I h0 d ord fp St hp mL AF hI W st=>?_);have PH:ord.length=es.size:=by rw [hp.length_eq];simp
 have AK:S∉fp:=fun hm=>by
  rcases AF S hm with z | z
  ·exact Tn z
  ·exact absurd JA (Nat.not_lt.mpr z)
 have hSI:S≠I:=fun z=>absurd JA (by rw [z];exact Nat.not_lt.mpr hI);have key:∀(h:Heap) (c₁ tk:Nat),St 0 h→(∀b o,b≠S→s.heap.get? b=some o→h.get? b=some o) →
   h.get? S=some { cls := .type "list",data := .seq #[] c₁ }→codeAny (model prog w) A (.builtin "list.extend.loop" ⟨[.ref S,.ref I,res],[]⟩) R { s with heap:=h,toks:=tk,drawn:=d }:=by
  intro h c₁ tk iT hk AJ;refine codeAny_extend_loopS W.toS (Eb hsz) S AK res es.size 0 _ #[] c₁ rfl rL iT AJ (ItemsOf.nil _) fun s' pY c' hm kY uZ=>?_;rw [Moved.eq_with hm];refine hR s'.heap s'.toks d pY c' (fun b o hb e=>hm.heap b o (fun IZ=>?_) (hk b o hb e)) kY (by rw [aoE (ord:=ord) (by rw [PH];exact uZ)];exact hp)
  rcases dZ.mp IZ with e' | IZ
  ·exact hb e'
  ·exact absurd (cR e) (by rw [jP.mp IZ];exact Nat.not_lt.mpr hI)
 have AJ:=mL S _ hS;refine aE (pE (aqD (jN.typeIs (s:={ s with heap:=h0,drawn:=d }) (hS0.at fun o e=>mL r o e)) ?_));refine wpAny_ite_split (fun _=>?_) (fun _=>aQ ⟨OG PySem.F.plain_extend_loop _,key _ c₀ _ st (fun b o _ e=>mL b o e) AJ⟩);refine aE (sA ?_);refine aE ?_;show wpAny _ _ (updateSeq S (·.push .none) >>= fun _=>updateSeq S (·.pop)) _ _ _;refine aE (wpAny_updateSeq AJ rfl ?_);have Ti:=LR (Obj.mapSeq (·.push Value.none)) AJ rfl;refine wpAny_updateSeq (hz:=by seq_fits) Ti rfl ?_;have hS₃:=LR (Obj.mapSeq (·.pop)) Ti rfl;refine aQ ⟨OG PySem.F.plain_extend_loop _,key _ _ _ ?_ (fun b o hb e=>?_) hS₃⟩
 ·refine W.frame 0 _ _ st fun b hb o e=>?_;have Sz:b≠S:=fun h=>AK (h ▸ hb);exact(rW _ _ (cA Sz)).trans ((rW _ _ (cA Sz)).trans e)
 ·exact(rW _ _ (cA hb)).trans ((rW _ _ (cA hb)).trans (mL b o e))
theorem auY{R:List Value→Shared→Prop}{r:Addr}{es:Array (Int×Value)}(hh:A.handled=none)(hS0:jN prog w s.heap r es)
  (h:∀(h':Heap) (tk:Nat) (d:Drawn) (acc:Array Value),(∀b o,s.heap.get? b=some o→h'.get? b=some o)→acc.toList.Perm (es.toList.map (·.2))→R acc.toList { s with heap:=h',toks:=tk,drawn:=d }) :
  wpAny (model prog w) A (collect (.ref r)) R E s:=by
 have bG:=hS0.lt;unfold collect;refine aE (wpAny_runValue (KI entry_proto_collect' ?_));rw [SW PySem.F.plain_proto_collect _];show wpAny _ A.in1 (newList [] >>= fun l=>again (.builtin "list.__iadd__" ⟨[l,.ref r],[]⟩)) _ _ s;refine aE (mV ?_);refine aQ ⟨OG PySem.F.plain_list_iadd _,KI entry_list_iadd' ?_⟩;rw [SW PySem.F.plain_list_iadd _];have AJ:(s.heap.push { cls := .type "list",data := .seq ([]:List Value).toArray }).get? s.heap.objs.size=some { cls := .type "list",data := .seq #[] }:=gM _ rfl;show wpAny _ A.in1 (Builtin.List.listExtendWith (.ref s.heap.objs.size) (.ref r) (.ref s.heap.objs.size)) _ _ _;have key:=as7 (A:=A) (s:={ s with heap:=s.heap.push { cls := .type "list",data := .seq ([]:List Value).toArray } }) (es:=es)
  (R:=fun(q:Result) (s':Shared)=>∃(h':Heap) (tk:Nat) (d:Drawn) (pY:Array Value) (c':Nat),q = .ok (.ret (.ref s.heap.objs.size))∧s' = { s with heap:=h',toks:=tk,drawn:=d } ∧
   (∀b o,s.heap.get? b=some o→h'.get? b=some o)∧h'.get? s.heap.objs.size=some { cls := .type "list",dict:=none,data := .seq pY c',slots:=#[] }∧pY.toList.Perm (es.toList.map (·.2)))
  hh (hS0.at fun o e=>cZ _ e) s.heap.objs.size (RP bG) (.ref s.heap.objs.size) 0 AJ
  (fun h' tk d pY c' hk kY uZ=>⟨h',tk,d,pY,c',rfl,rfl,fun b o e=>hk b o (dH (cR e)) (cZ _ e),kY,uZ⟩)
 refine qE key (fun fin s' x=>?_) fun e s' x=>?_
 ·cases fin with
  | done f =>
   obtain⟨h',tk,d,pY,c',e,rfl,hk,kY,uZ⟩:=x;cases e;show wpAny _ A (load s.heap.objs.size >>= _) _ _ _;refine aE (wpAny_load kY ?_);exact aQ (h h' tk d pY hk uZ)
  | again c₁ =>
   refine⟨x.1,xP x.2 fun q s₂ y=>?_⟩;obtain⟨h',tk,d,pY,c',rfl,rfl,hk,kY,uZ⟩:=y;show wpAny _ A (load s.heap.objs.size >>= _) _ _ _;refine aE (wpAny_load kY ?_);exact aQ (h h' tk d pY hk uZ)
 ·obtain⟨_,_,_,_,_,e',_⟩:=x;cases e'
end
end PySem
namespace L2
open PySem PySem.Spec PyProof.Rows
section
variable{X:Cx}
def FP(P:Program)(w:World)(a:Addr)(ms:List Int)(h:Heap):Prop:=∃es lP,jN P w h a es∧Nums es lP∧lP.Perm ms
def oI(ns:List Int):List Int:=ns.foldl step_dedup []
theorem aiD(ns:List Int):(List.range ns.length).map (fun i=>ns.getD i 0)=ns:=by
 apply BU;intro i;rw [lF]
 by_cases h:i<ns.length
 ·rw [List.getElem?_range h];simp [List.getD,h]
 ·rw [BS (by simp;omega),BS (by omega)];rfl
theorem ag9{P:Program}{w:World}{a:Addr}{ms:List Int}{H:Hp}{h:Heap}(x:FP P w a ms h):gW P w H h a (.ext (FP P w a ms)):=by
 refine⟨x,?_,fun h1 h2 y k=>?_⟩
 ·obtain⟨es,lP,hs,_⟩:=x;obtain⟨o,_,_,ho,_⟩:=hs;exact⟨o,ho⟩
 ·obtain⟨es,lP,hs,q⟩:=y;exact⟨es,lP,hs.at k,q⟩
theorem avD(hc:X.calm=true):qC X (.type "set") (fun xs H Q=>∃(a:Addr) (ns:List Int),xs=[.ref a]∧fK X.K H a (ns.map V.int)∧ns.length<4000 ∧
  ∀l,H l=none→Q (.ref l) (upd H l (.ext (FP X.prog X.w l (oI ns))))):=by
 intro pins s σ H xs us Q I r h;obtain⟨a,ns,rfl,hq,h4,q⟩:=h;obtain⟨u,rfl,ru⟩:=vals1 r;cases ru;obtain⟨aN,rv,pl,hz⟩:=I.list hq;have hI:IntsAre aN ns:=intsAre_of rv;have hl:aN.length=ns.length:=by rw [← rv.length,fW]
 refine avC (I.ok.hd hc) pl.isList hI (by rw [fL,hl];show ns.length+1<4096;omega) fun h' tk es ms hT hN hP hk=>?_;rw [fL,hl]at hP;unfold firstMet at hP;rw [aiD]at hP;exact⟨.ref s.heap.objs.size,_,I.laid (t':=tk) (o := .ext (FP X.prog X.w s.heap.objs.size (oI ns))) (fun b o e=>hk b o (cR e) e) cE (ag9 ⟨es,ms,hT,hN,hP⟩),rfl,q _ (I.aK.fresh cE)⟩
theorem Inv.drawn{pins:List (Addr×Obj)}{σ:St}{H:Hp}{s:Shared}(I:Inv X pins σ H s)(d:Drawn):Inv X pins σ H { s with drawn:=d } :=
 ⟨I.ok,I.os,I.bare,I.base,I.loc,I.cell,I.free,I.kK,I.pin,I.aK,I.len⟩
theorem aoR:∀{l l':List Value},l'.Perm l→∀{ms:List Int},IntsAre l ms→∃lP,IntsAre l' lP∧lP.Perm ms:=by
 intro l l' h
 induction h with
 | nil=>intro ms h;exact⟨ms,h,yE _⟩
 | cons x _ ih =>
  intro ms h;cases h with
  | cons n t r=>obtain⟨lP,a,b⟩:=ih r;exact⟨n::lP,.cons n t a,b.cons n⟩
 | swap x y l =>
  intro ms h;cases h with
  | cons n t r =>
   cases r with
   | cons n2 t2 r=>exact⟨n2::n::_,.cons n2 t2 (.cons n t r),.swap n n2 _⟩
 | trans _ _ ih1 An =>
  intro ms h;obtain⟨m1,a1,b1⟩:=An h;obtain⟨m2,a2,b2⟩:=ih1 a1;exact⟨m2,a2,b2.trans b1⟩
theorem avA(hc:X.calm=true):qC X (.builtin "sorted") (fun xs H Q=>∃(d:Addr) (ks:List Int),xs=[.ref d]∧H d=some (.ext (FP X.prog X.w d ks))∧ks.length<4000 ∧
  ∀(ms:List Int) (l:Addr),ms.Perm ks→ms.Pairwise (· ≤ ·)→H l=none→Q (.ref l) (upd H l (.lst (ms.map V.int)))):=by
 intro pins s σ H xs us Q I r h;obtain⟨d,ks,rfl,hd,JU,q⟩:=h;obtain⟨u,rfl,ru⟩:=vals1 r;cases ru;obtain⟨⟨es,ms0,hT,hN,hP⟩,_,_⟩:=I.aK _ _ hd;have hsz:(4000:Nat)≤sizeLine:=by decide
 refine Yx kind_sorted plain_sorted entry_sorted (args_sorted1 _) ?_;unfold Builtin.«sorted»;refine aE (m:=checkCount "sorted" 1 1 _) (aQ ?_);refine aE (auY (A:=X.A.in1) (I.ok.hd hc) hT fun h' tk dr acc EI uZ=>?_);obtain⟨ks',hI,xC⟩:=aoR uZ hN;have AL:ks'.Perm ks:=xC.trans hP;have hl:acc.toList.length=ks.length:=by
  have:∀{vs:List Value} {ns:List Int},IntsAre vs ns→vs.length=ns.length:=by
   intro vs ns h
   induction h with
   | nil=>rfl
   | cons n t _ ih=>simp [ih]
  rw [this hI,AL.length_eq]
 refine aE (MJ ?_ (by rw [hl];omega));have rR:(h'.push (seqObj "list" acc.toList.toArray 0)).get? h'.objs.size=some (seqObj "list" acc.toList.toArray 0):=gM _ rfl;refine aE (pE (qF slot_list_sort ⟨_,rR,rfl⟩ entry_list_sort (Ql rR hI (by omega) fun out mI a1 a2 a3=>⟨_,rfl,?_⟩) (args_list_sort _)));refine aQ ⟨_,rfl,?_⟩;have I1:Inv X pins σ H { s with heap:=h',toks:=tk,drawn:=dr }:=(I.kept (t':=tk) EI).drawn dr;have hf:H h'.objs.size=none:=I1.aK.fresh cE;obtain⟨e1,rS⟩:∃e1,((h'.push (seqObj "list" acc.toList.toArray 0)).update h'.objs.size (Obj.mapSeq fun _=>#[])).get? h'.objs.size=some (seqObj "list" #[] e1):=⟨_,get?_update_seq rR (fun _=>#[])⟩;have wX:=cZ (seqObj "list" #[] 0) (cZ (seqObj "tuple" acc.toList.toArray 0) rS);obtain⟨e2,ho3⟩:∃e2,(sortedHeap (h'.push (seqObj "list" acc.toList.toArray 0)) h'.objs.size acc.toList out).get? h'.objs.size=some (seqObj "list" out e2):=⟨_,get?_update_seq wX (fun _=>out)⟩;have kp:∀b u,h'.get? b=some u→(sortedHeap (h'.push (seqObj "list" acc.toList.toArray 0)) h'.objs.size acc.toList out).get? b=some u:=fun b u e=>by
  have hb:b≠h'.objs.size:=dH (cR e);unfold sortedHeap;exact(rW _ _ (cA hb)).trans (cZ _ (cZ _ ((rW _ _ (cA hb)).trans (cZ _ e))))
 have hv:Vals (mI.map V.int) out.toList:=TY a1;have PL:mI.length=ks.length:=(a2.trans AL).length_eq;refine⟨.ref h'.objs.size,upd H h'.objs.size (.lst (mI.map V.int)),I1.laid (t':=tk) kp cE ?_,rfl,q mI _ (a2.trans AL) a3 hf⟩;exact⟨by rw [fW];omega,out.toList,e2,hv,ho3⟩
end
end L2
namespace PySem
open PyProof.Rows PySem.Spec
set_option maxRecDepth 100000
end PySem
namespace L2
open PySem PySem.Spec PyProof.Rows
section
variable{X:Cx}
theorem Inv.NF{pins:List (Addr×Obj)}{σ:St}{H:Hp}{s:Shared}{a:Addr}{aB:List (Key×V)}{o:Obj}(I:Inv X pins σ H s)(h:H a=some (.cK o (.dK aB)))(hb:∀ob u,X.H₀ a≠some (.cK ob u)):Inv X pins σ (upd H a (.dK aB)) s where
 ok:=I.ok
 os:=I.os
 bare:=I.bare
 base:={
  keep:=I.base.keep
  slot:=I.base.slot
  free:=fun b ob q n hx=>by
   have z:=I.base.free b ob q n hx;rw [bA (cA (jU h z))];exact z
  there:=I.base.there
  kS:=fun b xs q=>by have z:=I.base.kS b xs q;rw [bA (wM z h (by intro w;cases w))];exact z
  kJ:=fun b ob u q=>by
   have z:=I.base.kJ b ob u q;have dY:b≠a:=fun e=>hb ob u (by rw [← e];exact q);rw [bA dY];exact z
  kT:=fun b ps q=>by obtain⟨more,z⟩:=I.base.kT b ps q;exact⟨more,by rw [bA (wM z h (by intro w;cases w))];exact z⟩ }
 loc:=I.loc
 cell:=I.cell
 free:=by rw [bA (cA (jU h I.free))];exact I.free
 kK:=fun x c q=>by rw [bA (cA (jU h (I.kK x c q)))];exact I.kK x c q
 pin:=fun q hq=>by
  obtain⟨x,y,c⟩:=I.pin q hq;exact⟨x,by rw [bA (cA (jU h y))];exact y,c⟩
 aK:=fun b u q=>by
  have st:∀c v,H c=some v→v ≠ .cK o (.dK aB)→upd H a (.dK aB) c=some v:=fun c v z hv=>by rw [bA (wM z h hv)];exact z
  by_cases eb:b=a
  ·subst eb;rw [fA]at q;cases q;obtain⟨_,ok⟩:=I.aK b _ h;exact gW.oP ok (fun c v _ z=>z) (fun c z=>st c _ z (by intro w;cases w)) fun c xs z=>st c _ z (by intro w;cases w)
  ·rw [bA eb]at q;exact(I.aK b u q).oP (fun c v _ z=>z) (fun c z=>st c _ z (by intro w;cases w)) fun c xs z=>st c _ z (by intro w;cases w)
 len:=I.len
def Lr(a:Addr)(D:Ends):Ends where
 nx:=fun σ H=>∃o aB,H a=some (.cK o (.dK aB))∧D.nx σ (upd H a (.dK aB))
 rt:=fun v H=>∃o aB,H a=some (.cK o (.dK aB))∧D.rt v (upd H a (.dK aB))
 bk:=fun σ H=>∃o aB,H a=some (.cK o (.dK aB))∧D.bk σ (upd H a (.dK aB))
 ct:=fun σ H=>∃o aB,H a=some (.cK o (.dK aB))∧D.ct σ (upd H a (.dK aB))
theorem ajG{st:Stmt}{t:TS}(h:PS X st t):PS X st (fun D σ H=>∃a aB,H a=some (.dK aB)∧t (Lr a D) σ H):=by
 intro pins s σ H D I ⟨a,aB,ha,q⟩;have hb:∀ob u,X.H₀ a≠some (.cK ob u):=fun ob u e=>by
  have:=I.base.kJ a ob u e;rw [ha]at this;cases this
 refine aY (h pins s σ H _ I q) fun f s' z=>?_;cases f with
 | next=>obtain⟨σ',H',I',o,ZA,h1,h2⟩:=z;exact⟨σ',_,I'.NF h1 hb,h2⟩
 | brk=>obtain⟨σ',H',I',o,ZA,h1,h2⟩:=z;exact⟨σ',_,I'.NF h1 hb,h2⟩
 | cont=>obtain⟨σ',H',I',o,ZA,h1,h2⟩:=z;exact⟨σ',_,I'.NF h1 hb,h2⟩
 | ret u=>obtain⟨v,σ',H',I',r,o,ZA,h1,h2⟩:=z;exact⟨v,σ',_,I'.NF h1 hb,r,h2⟩
end
end L2
namespace V2
open PySem PySem.Spec PyProof.Rows L2 KS
section
variable{X:Cx}{W:WX}{e o:Expr}
@[simp] def vW(c:Bool)(f:Ev→Mo A):Ev→Mo A:=fun ρ=>mb (f ρ) fun a Ω=>match (cU Ω a).bind intsOf with
 | some ns=>if ns.length<4000∧(oI ns).length<4000 then uO c ((sortI (oI ns)).map A.int) Ω else none
 | none=>none
theorem Kq{f:Ev→Mo A}{p1 p2 q1 q2:Pos}(c:Bool)(hc:X.calm=true)(hgs:Gl X "sorted")(hms:X.mg "sorted" = none)(EL:Gl X "set")(hmt:X.mg "set" = none)(he:VE X W e f)
  (hs:starEach [.Call (.Name "set" p2) [e] [] q2] X.env=(false,eval (.Call (.Name "set" p2) [e] [] q2) X.env)::starEach [] X.env:=by rfl)
  (Rw:starEach [e] X.env=(false,eval e X.env)::starEach [] X.env:=by rfl) :
  VE X W (.Call (.Name "sorted" p1) [.Call (.Name "set" p2) [e] [] q2] [] q1) (vW c f):=by
 obtain⟨t,p,s⟩:=he;refine⟨_,Pf (avA hc) hgs hms boot_sorted (XS (akX (avD hc) EL hmt PyProof.Rows.boot_set (XS p XR Rw) (by decide) (by decide) Rw rfl) XR hs) (by decide) (by decide) hs rfl,fun G ι Ω H σ ρ Q w r h=>?_⟩;show t σ H _;refine s G ι Ω H σ ρ _ w r (bH.mb h fun a Ω1 v H1 G1 ι1 x1 w1 d1 h1=>?_);split at h1
 ·rename_i ns en;split at h1
  ·rename_i hl;rw [BL]at en;obtain⟨ds,e1,e2⟩:=en;obtain⟨p,ys,rfl,h2,h3⟩:=rM w1 d1 e1;rw [IM e2 h3]at h2;refine⟨p,ns,rfl,h2,hl.1,fun l Sk=>?_⟩;refine⟨l,oI ns,rfl,fA,hl.2,fun ms l2 hp nW sW=>?_⟩;rw [VH hp nW];exact zJ (w1.new Sk (.ext (FP X.prog X.w l (oI ns)))) sW (QK _) (h1.ext (Ext.new (w1.qO Sk) _))
  ·exact False.elim h1
 ·exact False.elim h1
end
def del(G:Hp)(p:Addr):Hp:=fun b=>if b=p then none else G b
section
variable{K:Frag}{G H:Hp}{ι:List Addr}{Ω:aI}{p:Addr}{ob:Obj}{ws:List (Key×V)}
theorem Eo{b:Addr}(h:b≠p):del G p b=G b:=by unfold del;rw [if_neg h]
theorem Vf:del G p p=none:=by unfold del;rw [if_pos rfl]
theorem EZ{b:Addr}{o:HO}(hp:G p=some (.cK ob (.dK ws)))(h:G b=some o)(ho:o ≠ .cK ob (.dK ws)):del G p b=some o:=by
 rw [Eo];exact h;intro e;subst e;rw [hp]at h;cases h;exact ho rfl
theorem EY{b:Addr}(h:G b=none):del G p b=none:=by
 unfold del;split
 ·rfl
 ·exact h
mutual
theorem Den.del(hp:G p=some (.cK ob (.dK ws))):∀{v:V} {d:A},Den K G ι v d→Den K (del G p) ι v d
 | _,.int _,h=>by simpa only [Den]using h
 | _,.bl _,h=>by simpa only [Den]using h
 | _,.str _,h=>by simpa only [Den]using h
 | _,.bB,h=>by simpa only [Den]using h
 | _,.ty _,h=>by simpa only [Den]using h
 | _,.adr _,h=>by simpa only [Den]using h
 | _, .EV _ _ _ _,h=>by
  simp only [Den]at h ⊢;exact⟨h.1,EZ hp h.2 (by intro w;cases w)⟩
 | _,.gl _,h=>by simpa only [Den]using h
 | _,.cM _,h=>by
  simp only [Den]at h ⊢;obtain⟨a,h1,h2⟩:=h;refine⟨a,h1,?_⟩
  rcases h2 with(q | ⟨o,q⟩) | q
  ·exact .inl (.inl (EZ hp q (by intro w;cases w)))
  ·exact .inl (.inr ⟨o,EZ hp q (by intro w;cases w)⟩)
  ·exact .inr q
 | _,.tup ds,h=>by
  simp only [Den]at h ⊢;obtain⟨a,xs,h1,h2,h3⟩:=h;exact⟨a,xs,h1,EZ hp h2 (by intro w;cases w),aO.del hp h3⟩
 | _,.lst ds,h=>by
  simp only [Den]at h ⊢;obtain⟨a,xs,h1,h2,h3⟩:=h;exact⟨a,xs,h1,EZ hp h2 (by intro w;cases w),aO.del hp h3⟩
 | _,.aD k,h=>by simpa only [Den]using h
theorem aO.del(hp:G p=some (.cK ob (.dK ws))):∀{xs:List V} {ds:List A},aO K G ι xs ds→aO K (del G p) ι xs ds
 | _,[],h=>by simpa only [aO]using h
 | _,d::ds,h=>by
  simp only [aO]at h ⊢;obtain⟨x,r,h1,h2,h3⟩:=h;exact⟨x,r,h1,Den.del hp h2,aO.del hp h3⟩
end
theorem iC.del(hp:G p=some (.cK ob (.dK ws))){u:HO}{v:V}{fd:Fd}(h:iC K G ι H v fd):iC K (del G p) ι (upd H p u) v fd:=by
 have nb:∀b,G b=none→b≠p:=fun b z e=>by subst e;rw [hp]at z;cases z
 cases fd with
 | val a=>exact Den.del hp h
 | lst ds =>
  obtain⟨b,xs,h1,h2,h3,h4,h5⟩:=h;exact⟨b,xs,h1,EY h2,h3,by rw [bA (nb b h2)];exact h4,aO.del hp h5⟩
 | bD aB =>
  obtain⟨b,iQ,h1,h2,h3,h4,h5,h6⟩:=h;exact⟨b,iQ,h1,EY h2,h3,by rw [bA (nb b h2)];exact h4,h5,aO.del hp h6⟩
theorem nM.del(hp:G p=some (.cK ob (.dK ws))){u:HO}{a:Addr}{c:Cell}(h:nM K G ι H a c)(ha:a≠p):nM K (del G p) ι (upd H p u) a c:=by
 cases c with
 | lst ds=>obtain⟨g,xs,h1,h2⟩:=h;exact⟨EY g,xs,by rw [bA ha];exact h1,aO.del hp h2⟩
 | bD aB=>obtain⟨g,iQ,h1,h2,h3⟩:=h;exact⟨EY g,iQ,by rw [bA ha];exact h1,h2,aO.del hp h3⟩
 | ins cls fs=>obtain⟨g,C,dx,iQ,h0,h1,h2⟩:=h;exact⟨EY g,C,dx,iQ,h0,by rw [bA ha];exact h1,h2.map fun _ _ q=>q.del hp⟩
 | tab x pos qual =>
  obtain⟨g,hc,ps,h1,h2,h3⟩:=h;exact⟨EY g,hc,ps,by rw [bA ha];exact h1,h2,h3.imp id fun⟨c',oc,vs,t,q1,q2,q3⟩=>⟨c',oc,vs,t,q1,EZ hp q2 (by intro w;cases w),q3⟩⟩
 | dead=>trivial
theorem Wd.abZ{k:Nat}{aB:List (Key×A)}(w:Wd K G ι Ω H)(hp:G p=some (.cK ob (.dK ws)))(hk:ι[k]? = some p)(hd:Ω[k]? = some .dead)(h1:ws.map (·.1)=aB.map (·.1))(h2:aO K G ι (ws.map (·.2)) (aB.map (·.2))):Wd K (del G p) ι (Ω.set k (.bD aB)) (upd H p (.dK ws))where
 sub:=fun b u h=>by
  have hb:b≠p:=fun e=>by subst e;rw [Vf]at h;cases h
  rw [Eo hb]at h;rw [bA hb];exact w.sub _ _ h
 inj:=w.inj
 len:=by rw [yB];exact w.len
 live:=fun b hb=>by
  by_cases e:b=p
  ·subst e;exact⟨_,fA⟩
  ·rw [bA e];exact w.live b hb
 aD:=fun j c b z1 z2=>by
  by_cases hj:j=k
  ·subst hj;rw [hk]at z2;cases z2;rw [gX (bO.mp hd).1]at z1;cases z1;exact⟨Vf,ws,fA,h1,aO.del hp h2⟩
  ·rw [fY (cA hj)]at z1;exact(w.aD j c b z1 z2).del hp fun e=>by subst e;exact hj (wL w.inj z2 hk)
 sep:=fun b j i j' i' z1 z2=>by
  have back:∀{j i},hZ (upd H p (.dK ws)) ι (Ω.set k (.bD aB)) j i b→hZ H ι Ω j i b:=fun{j i} h=>by
   have h0:=h;obtain⟨a',cls,fs,C,dx,iQ,g,h',fd,q1,q2,q3,q4,q5,q6⟩:=h
   by_cases hj:j=k
   ·subst hj;exact(h0.no (gX (bO.mp hd).1) rfl).elim
   ·rw [fY (cA hj)]at q2;rw [bA (fun e=>by subst e;exact hj (wL w.inj q1 hk))]at q3;exact⟨a',cls,fs,C,dx,iQ,g,h',fd,q1,q2,q3,q4,q5,q6⟩
  exact w.sep b j i j' i' (back z1) (back z2)
end
theorem ag1{K:Frag}{W:WX}{tg:TG}{tb:TS}{g:A→MS}{b:MS}(hg:FN K W tg g)(hb:qS K W tb b){G1:Hp}{ι1:List Addr}{Ω1:aI}{H1:Hp}{σ:L2.St}{ρ:Ev}{D:Ends}{J:It}{S:Src}
  (w1:Wd K G1 ι1 Ω1 H1) (r1:fQ K G1 ι1 σ ρ) (j1:GB K G1 ι1 J S) (h1:cV K W G1 ι1 D (eG S.ok g b S.ds ρ Ω1)):US (fun _ _ R=>R J H1) tg tb D σ H1:=by
 refine⟨fun i m σ' H'=>m=S.ds.length - i∧i≤S.ds.length∧∃G' ι' Ω' ρ',Ext G1 ι1 G' ι'∧Wd K G' ι' Ω' H'∧fQ K G' ι' σ' ρ'∧cV K W G' ι' D (eG S.ok g b (S.ds.drop i) ρ' Ω'),
  ⟨_,rfl,vH _,G1,ι1,Ω1,ρ,Ext.refl _ _,w1,r1,by simpa using h1⟩,?_⟩
 rintro i m σ' H' ⟨rfl,Sm,G',ι',Ω',ρ',e',w',r',h'⟩;have aK:=Ur h'
 by_cases bG:i<S.ds.length
 ·right
  refine⟨j1.go G' ι' Ω' H' e' w' aK i bG,fun σ2 H2=>∃G2 ι2 Ω2 ρ2,Ext G1 ι1 G2 ι2∧Wd K G2 ι2 Ω2 H2∧fQ K G2 ι2 σ2 ρ2∧cV K W G2 ι2 D (eG S.ok g b (S.ds.drop (i+1)) ρ2 Ω2),fun σ2 H2 n=>?_,fun x H2 y=>?_⟩
  ·exact⟨S.ds.length - (i+1),by omega,rfl,bG,n⟩
  ·obtain⟨G2,e2,w2,d2⟩:=j1.vR G' ι' Ω' H' e' w' aK i x H2 S.ds[i] (gK bG) y;rw [BV bG]at h';unfold eG at h';rw [if_pos aK]at h';refine hg G2 ι' Ω' H2 σ' ρ' x S.ds[i] { D with nx:=fun σ3 H3=>tb _ σ3 H3 } w2 (r'.ext e2) d2 ?_
   revert h'
   generalize g S.ds[i] ρ' Ω'=q;intro h'
   match q,h' with
   | some (.nx,ρ3,Ω3),h' =>
    intro σ3 H3 G3 ι3 x3 w3 r3;refine hb G3 ι3 Ω3 H3 σ3 ρ3 _ w3 r3 ?_;simp only at h'
    revert h'
    generalize b ρ3 Ω3=q2;intro h'
    match q2,h' with
    | some (.nx,ρ4,Ω4),h'=>exact fun σ4 H4 G4 ι4 x4 w4 r4=>⟨G4,ι4,Ω4,ρ4,(e'.trans (e2.trans x3)).trans x4,w4,r4,cV.ext h' ((e2.trans x3).trans x4)⟩
    | some (.ct,ρ4,Ω4),h'=>exact fun σ4 H4 G4 ι4 x4 w4 r4=>⟨G4,ι4,Ω4,ρ4,(e'.trans (e2.trans x3)).trans x4,w4,r4,cV.ext h' ((e2.trans x3).trans x4)⟩
    | some (.bk,ρ4,Ω4),h'=>exact fun σ4 H4 G4 ι4 x4 w4 r4=>h' σ4 H4 G4 ι4 ((e2.trans x3).trans x4) w4 r4
    | some (.ret a,ρ4,Ω4),h'=>exact fun σ4 H4 G4 ι4 x4 w4 r4=>h' σ4 H4 G4 ι4 ((e2.trans x3).trans x4) w4 r4
    | some (.exc a,ρ4,Ω4),h'=>exact fun σ4 H4 G4 ι4 x4 w4 r4=>h' σ4 H4 G4 ι4 ((e2.trans x3).trans x4) w4 r4
   | some (.exc a,ρ3,Ω3),h'=>exact fun σ4 H4 G4 ι4 x4 w4 r4=>h' σ4 H4 G4 ι4 (e2.trans x4) w4 r4
 ·have JF:i=S.ds.length:=by omega
  subst JF
  left
  rw [Ib]at h';unfold eG at h';rw [if_pos aK]at h';exact⟨j1.stop G' ι' Ω' H' e' w' aK _ cE,pJ w' r' h'⟩
def UM(k:Nat)(aB:List (Key×A)):OS→OS
 | some (.exc _,_,_)=>none
 | some (o,ρ',Ω')=>(match Ω'[k]? with
  | some .dead=>some (o,ρ',Ω'.set k (.bD aB))
  | _=>none)
 | none=>none
@[simp] noncomputable def NX(i:Nat)(g:A→MS)(b:MS):MS:=fun ρ Ω=>match (ρ[i]?).join with
 | some a=>(match pT Ω a with
  | some (k,aB)=>UM k aB (eG (fun _=>True) g b (aB.map EB) ρ (Ω.set k .dead))
  | none=>none)
 | none=>none
theorem abY{K:Frag}{W:WX}{G G1:Hp}{ι ι1:List Addr}{D:Ends}{k:Nat}{aB:List (Key×A)}{r:OS}{p:Addr}{ob:Obj}{ws:List (Key×V)}(h:cV K W G ι D (UM k aB r))(e:Ext G ι G1 ι1)(hG:G p=none)(hG1:G1 p=some (.cK ob (.dK ws)))(hk:ι1[k]? = some p)(q1:ws.map (·.1)=aB.map (·.1))(q2:aO K G1 ι1 (ws.map (·.2)) (aB.map (·.2))):cV K W G1 ι1 (Lr p D) r:=by
 match r,h with
 | some (o,ρ',Ω'),h =>
  intro σ' H' G' ι' e' w' r';have hp:=e'.same _ _ hG1;have wZ:=e'.pre _ _ hk;have hH:H' p=some (.cK ob (.dK ws)):=w'.sub _ _ hp;have ex:Ext G ι (del G' p) ι':=⟨fun b u z=>by
   have hb:b≠p:=fun y=>by subst y;rw [hG]at z;cases z
   rw [Eo hb];exact e'.same _ _ (e.same _ _ z),fun j x z=>e'.pre _ _ (e.pre _ _ z)⟩
  have rr:fQ K (del G' p) ι' σ' ρ':=⟨r'.1,fun i d z=>let ⟨v,a1,a2⟩:=r'.2 i d z; ⟨v,a1,a2.del hp⟩⟩;have main:∀o2:Out,(∀x,o2 ≠ .exc x)→cV K W G ι D (match Ω'[k]? with | some .dead=>some (o2,ρ',Ω'.set k (.bD aB)) | _=>none)→Yc K W (del G' p) ι' D σ' (upd H' p (.dK ws)) o2:=fun o2 _ h2=>by
   split at h2
   ·rename_i hd;exact h2 σ' _ _ ι' ex (w'.abZ hp wZ hd q1 (q2.ext e')) rr
   ·exact h2.elim
  cases o with
  | nx=>exact⟨ob,ws,hH,main .nx (fun _ z=>by cases z) h⟩
  | bk=>exact⟨ob,ws,hH,main .bk (fun _ z=>by cases z) h⟩
  | ct=>exact⟨ob,ws,hH,main .ct (fun _ z=>by cases z) h⟩
  | ret a=>exact fun v dv=>⟨ob,ws,hH,main (.ret a) (fun _ z=>by cases z) h v (dv.del hp)⟩
  | exc x=>exact h.elim
theorem aaN{X:Cx}{W:WX}{o:Expr}{i:Nat}{elts:List Expr}{x1:Nat}{tp apos q2 pos:Pos}{body:List Stmt}{g:A→MS}{b:MS}(hpo:PassesOwn (model X.prog X.w) X.A X.env X.xe)(hc:X.calm=true)(ho:VE X W o (dG i))(hg:VG X W (.Tuple elts x1 tp) g)(hb:lD X W body b)
  (AI:attributeBase o "items" X.env (eval o X.env)=eval o X.env:=by rfl) (AA:(apos.endLine == q2.line)=true:=by rfl)
  (hs:∀x,foldedSetIterable (.Call (.Attribute o "items" apos) [] [] q2) X.env x=pure x:=by intro _;rfl):VS X W (.For (.Tuple elts x1 tp) (.Call (.Attribute o "items" apos) [] [] q2) body [] pos) (NX i g b):=by
 obtain⟨t1,p1,s1⟩:=ho;obtain⟨t2,p2,s2⟩:=hg;obtain⟨t3,p3,s3⟩:=hb;refine⟨_,ajG (Ow hpo hc (aj7 p1 AI AA) p2 p3 hs),fun G ι Ω H σ ρ D w r h=>?_⟩;unfold NX at h;cases ea:(ρ[i]?).join with
 | none=>rw [ea]at h;exact h.elim
 | some a =>
  rw [ea]at h;simp only at h;cases ed:pT Ω a with
  | none=>rw [ed]at h;exact h.elim
  | some kk =>
   obtain⟨k,aB⟩:=kk;rw [ed]at h;simp only at h;obtain⟨v0,Rk,dv0⟩:=r.2 i a (join_some ea);obtain⟨p,Zm,_,hk,hG,hH,_,_⟩:=KJ w dv0 ed;refine⟨p,Zm,hH,?_⟩;show t1 σ H _;refine s1 G ι Ω H σ ρ _ w r ?_;show bH X.K (Den X.K) W G ι σ _ (need (ρ[i]?).join Ω);rw [ea];intro v H1 G1 ι1 x1 w1 d1;obtain⟨p',ws,rfl,eS,g1,q1,q2,q3⟩:=KJ w1 d1 ed;have ep:p'=p:=by have:=x1.pre _ _ hk;rw [eS]at this;cases this;rfl
   subst ep;refine⟨p',ws,rfl,q1,fun ob=>?_⟩;have w2:=w1.put (k:=k) (c := .dead) (o := .cK ob (.dK ws)) eS g1 trivial;have w3:=w2.freeze eS g1 fA;rw [mT]at w3;have e0:Ext G1 ι1 (upd G1 p' (.cK ob (.dK ws))) ι1:=Ext.new g1 _;exact ag1 (S:=OW aB) s2 s3 w3 ((r.ext x1).ext e0) (aoC fA q2 (q3.ext e0)) (abY h (x1.trans e0) hG fA eS q2 (q3.ext e0))
end V2
namespace V2
open PySem PySem.Spec PyProof.Rows L2 KS
theorem avQ{K:Frag}{mg:Str→Option Value}{h:Heap}{rk m q:Str}{st:Stmt}{R f:Addr}{oc:Value}{od an:Option Addr}{jT:Array (Option Value)}{kV doc pm bC ct:Value}(X:K.In h)(G:h.Ns mainGlobals mg)(n:nsIn K mainGlobals rk=some (some (.ref R)))
  (r:readsIn K R (.type "type")=true) (fi:findCls K (.ref R) (.type "type") m=some (.val (.ref f))) (ga:specialIn K (.ref R) "__getattribute__" = some (some (.builtin "type.__getattribute__")))
  (l:K.lookup f=some ⟨oc,od,.func (fnOf m q (mR st) (hV st) (aX st) .none kV doc pm an bC ct),jT⟩) (c:codeIn K bC q=true) (k:keepIn K (.ref f)=true):LS K mg rk m q st :=
 ⟨R,f,_,mg_of X G n,⟨r,fi,ga,k⟩,JW l c k⟩
theorem Wz(a:A)(ha:cD 7 a=true):∀(ds:List A),ds.all (cD 7)=true→((ds.map (toPy 7)).any fun y=>PyData.eqv y (toPy 7 a))=ds.any fun d=>fV 7 d a
 | [],_=>rfl
 | d::ds,h=>by
  simp only [Ig,mB]at h;simp only [fE,RZ];rw [UK 7 d a h.1 ha,Wz a ha ds h.2]
def Ob(K:Frag)(neg:Bool):R2:=fun x y H Q=>∃ι a ds,cD 7 a=true∧cD 8 (.lst ds)=true∧Den K H ι x a∧Den K H ι y (.lst ds)∧Q (.bl (if neg then !(ds.any fun d=>fV 7 d a)else ds.any fun d=>fV 7 d a)) H
theorem alD{X:Cx}(hu:X.A.units+64<cLine):iA X (compareOp .NotIn) (Ob X.K true):=by
 intro pins s σ H x y v u Q I rx ry h;obtain⟨ι,a,ds,h1,h2,d1,d2,q⟩:=h;obtain⟨as,q1⟩:=DN I 7 x v a h1 d1 rx;obtain⟨bs,q2⟩:=DN I 8 y u (.lst ds) h2 d2 ry;have e1:=UL 7 a;have qN:ds.all (cD 7)=true:=h2;refine SeqAt.notIn_list_reads (xs:=ds.map (toPy 7)) q2 q1 (QS ds 7 (fun d _=>DF 7 d) qN) (DF 7 a h1) (by omega) ?_;rw [Wz a h1 ds qN];exact⟨.bl (!(ds.any fun d=>fV 7 d a)),H,I,rfl,q⟩
def xF(neg:Bool)(a b:A):Mo A:=fun Ω=>match res Ω 6 a,res Ω 6 b with
 | some x,some (.lst ds)=>if(cD 7 x&&cD 8 (.lst ds))=true then some (.ok (.bl (if neg then !(ds.any fun d=>fV 7 d x)else ds.any fun d=>fV 7 d x)),Ω)else none
 | _,_=>none
theorem ak8{K:Frag}{W:WX}{neg:Bool}:BN K W (Ob K neg) (xF neg):=by
 intro G ι Ω H σ x y a b Q w d1 d2 h;unfold xF at h;split at h
 ·rename_i a' ds e1 e2;split at h
  ·rename_i hp;simp only [mB]at hp;exact⟨ι,a',ds,hp.1,hp.2,OB w 6 x a a' d1 e1,OB w 6 y b _ d2 e2,h _ H G ι (Ext.refl _ _) w (by simp only [Den])⟩
  ·exact False.elim h
 ·exact False.elim h
theorem alX{X:Cx}{W:WX}(hu:X.A.units+64<cLine):lY X W (compareOp .NotIn) (xF true):=⟨_,alD hu,ak8⟩
end V2
namespace L2
open PySem PySem.Spec PyProof.Rows
structure aAE(K:Frag)(C:Addr):Prop where
 cls:lZ K C
 ha:findIn K (.ref C) "__class__" = some (some (.builtin "object.__class__"))
 hn:specialIn K (.builtin "object.__class__") "__get__" = some (some (.builtin "getset_descriptor.__get__"))
 tk:PySem.W.takesIn K (.builtin "object.__class__")=some true
 mro:PySem.W.mroIn K C (.type "object")=some true
end L2
namespace V2
open PySem PySem.Spec PyProof.Rows L2
structure GlC(K:Frag)(mg:Str→Option Value)(x:Str):Prop where
 ex:∃C,mg x=some (.ref C)∧nsIn K mainGlobals x=some (some (.ref C))
open PySem PySem.Spec PyProof.Rows L2 KS
section
variable{X:Cx}{W:WX}{e:Expr}{fe:Ev→Mo A}{pos:Pos}
@[simp] def WY(i:Nat)(fe:Ev→Mo A):MS:=fun ρ Ω0=>match ρ[i]? with
 | some (some (.int n))=>sM (fe ρ) ρ (fun a Ω=>(match a with
  | .int m=>some (.nx,ρ.set i (some (.int (n+m))),Ω)
  | _=>none)) Ω0
 | _=>none
theorem aaP{i:Nat}{x:Str}{pos':Pos}(hN:X.N.Nodup)(hi:X.N[i]? = some x)(hx:Loc X.env.scope x)(he:VE X W e fe)(hf:X.fn x=true∨X.env.scope.names.lookup x=some .local:=by first | exact .inl rfl | exact .inr rfl | assumption) :
  VS X W (.AugAssign (.Name x pos') .Add e pos) (WY i fe):=by
 obtain⟨t,p1,s1⟩:=he;refine⟨_,ajP hN hi hx p1 aoN hf,fun G ι Ω H σ ρ D w r h=>?_⟩;unfold WY at h;split at h
 ·rename_i n en;obtain⟨v,h1,h2⟩:=r.2 i _ en;simp only [Den]at h2;subst h2;refine⟨_,h1,s1 G ι Ω H σ ρ _ w r (cV.sM h r fun a Ω1 y H1 G1 ι1 x1 w1 d1 h3=>?_)⟩;split at h3
  ·simp only [Den]at d1;subst d1;exact⟨n,_,rfl,rfl,pJ w1 ((r.ext x1).set i (by simp only [Den])) h3⟩
  ·exact False.elim h3
 ·exact False.elim h
end
section
variable{X:Cx}{W:WX}{a b c d:Expr}{ta tb tc td:TE}{fa fb fc fd:Ev→Mo A}{pos:Pos}
def Za(_ j:Int):Prop:=0<j∧j<1152921504606846976
instance (i j:Int):Decidable (Za i j):=by unfold Za;infer_instance
def asT(K:Frag)(n:Nat)(t:tO):TG:=fun v σ H Q=>∃a xs,v = .ref a∧fK K H a xs∧xs.length=n∧t xs σ H Q
theorem akC{es:List Expr}{k:Nat}{t:tO}{n:Nat}(hc:X.calm=true)(h:FR X es t)
  (hn:(assignEach es X.env).length=n:=by rfl) (iT:(assignEach es X.env).findIdx? (·.1)=none:=by rfl):PG X (.Tuple es k pos) (asT X.K n t):=by
 intro pins s σ H v u Q I r hw;obtain⟨a,xs,e1,hq,hl,hw⟩:=hw;subst e1;cases r;obtain⟨aN,rv,pl,hz⟩:=I.list hq;rw [assign_Tuple];refine aE (wpAny_standAt ?_);unfold unpack;rw [show(assignEach es X.env).length=aN.toArray.size by simp [hn,← hl,rv.length],iT];refine aE (pE (PySem.W.kun_itemsOf (I.ok.hd hc) pl.isList fun h' hx=>?_));have I1:Inv X pins σ H { s with heap:=h' }:=I.kept (t':=s.toks) fun b o e=>hx b o (dH (cR e)) e;exact h pins _ σ H xs _ Q I1 (by simpa using rv) hw
@[simp] def Dk(n:Nat)(gs:List A→MS):A→MS:=fun a ρ Ω=>match cU Ω a with
 | some ds=>if ds.length=n then gs ds ρ Ω else none
 | none=>none
theorem aaT{es:List Expr}{k:Nat}{n:Nat}{gs:List A→MS}(hc:X.calm=true)(h:KW X W es gs)
  (hn:(assignEach es X.env).length=n:=by rfl) (iT:(assignEach es X.env).findIdx? (·.1)=none:=by rfl):VG X W (.Tuple es k pos) (Dk n gs):=by
 obtain⟨t,p,s⟩:=h;refine⟨_,akC hc p hn iT,fun G ι Ω H σ ρ v a D w r d h=>?_⟩;unfold Dk at h;split at h
 ·rename_i ds e
  by_cases hl:ds.length=n
  ·rw [if_pos hl]at h;obtain⟨p,xs,rfl,h2,h3⟩:=rM w d e;exact⟨p,xs,rfl,h2,by rw [h3.length];exact hl,s G ι Ω H σ ρ xs ds D w r h3 h⟩
  ·rw [if_neg hl]at h;exact False.elim h
 ·exact False.elim h
end
end V2
namespace M
open PySem V2
noncomputable section
def RG:MS :=
 (aZ (nT ["Halves"] "keep" aT bL)
  (aZ (nT ["Halves"] "many" aT eB)
  (nT ["Halves"] "taken" aT eB)))
def CF:List A→Mo A:=dN 2 RG
def Fv:MS :=
 (fG (bM (aF tD (aF eN (gY ["Halves"] "many" aT) bL) (cI 1000000000)))
   (fun _ _=>none)
   jE)
def SM:List A→Mo A:=dN 2 Fv
def Fw:MS :=
 (cH (gY ["Halves"] "many" aT))
def yH:List A→Mo A:=dN 1 Fw
def Ft:MS :=
 (cH (gY ["Halves"] "taken" aT))
def GD:List A→Mo A:=dN 1 Ft
def QV:MS :=
 (aZ (bS (aS (De false) (aH aT a0)) (gN 2))
  (aZ (bS (aF (jJ) (aS iG (aH cC a0)) (aF (gH) (aS iG (aH cC a0)) gO)) (gN 3))
  (cH (GN (aH (UB false cC (yS bL) (yS gD) (yS gO)) (aH (La false cC (yS gD) Mz) a0))))))
def Iz:List A→Mo A:=dN 4 QV
def RH:MS :=
 (aZ (sH 0 "levels" (kF (pG tE (gY ["Halves"] "levels" aT) (aH (jD false a0) a0))))
   (kF (GP ["Halves"] 0 "turns" eB)))
def FG:Ev→Mo Bool :=
 (bM (aF AO cC (MU ["Halves"] 0 "levels")))
def Gf:MS :=
 (aZ (fun ρ Ω=>jW FG RH ((fun _ _=>1000000) ρ Ω) ρ Ω)
  (bS (aF eN (mY ["Halves"] 0 "levels" cC) bL) (xH ["Halves"] 0 "levels" cC)))
def GF:List A→Mo A:=dN 3 Gf
def Ga:Ev→Mo A :=
 (mX false 1 [2] (lI gD) (gN 0) qD (GN (aH aT (aH bL a0))))
def KQ:MS :=
 (aZ (kF (pG Dp bL (aH Ga a0)))
   (bS (aF (fT) cC gO) (gN 2)))
def Gb:MS :=
 (aZ (bS (jD true a0) (gN 1))
  (aZ (bS bR (gN 2))
  (aZ (sH 0 "levels" (sI (lI (gY ["Halves"] "levels" aT)) (gN 3) KQ))
  (cH (GO 1)))))
def CG:List A→Mo A:=dN 4 Gb
def Ge:MS :=
 (cH (aF eN (gY ["Halves"] "over" aT) (gY ["Halves"] "under" aT)))
def LW:List A→Mo A:=dN 1 Ge
def rV:MS :=
 (aZ (fG (bM (aF kZ bL eB))
   (cH (aF (gH) aT TM))
   jE)
  (aZ (fG (bM (aF kZ bL bR))
   (cH (aF (jJ) (aF (gH) aT (cI 100)) (cI 50)))
   jE)
  (aZ (fG (bM (aF kZ bL gO))
   (cH (aF (jJ) (aF (gH) (aF (fT) (aF (fT) aT aT) (cI 48271)) (aF eN (aF (fT) gO (aF (AN) CU (cI 18))) bR)) (aF (AN) CU (cI 18))))
   jE)
  (aZ (fG (bM (aF kZ bL GK))
   (cH (aF kI (jD false (aH (aF eN (aF (AN) CU (cI 59)) aT) (aH (aF (jJ) (aF (jJ) eB (aF (AN) CU (cI 59))) aT) (aH (aF (jJ) (aF (AN) CU (cI 60)) bR) (aH (aF (jJ) bR (aF (AN) CU (cI 60))) a0))))) (aF (gH) aT TN)))
   jE)
  (cH (aF kI (jD false (aH ML (aH (aF (jJ) eB ML) (aH eB a0)))) (aF (nF) (aF (gH) aT (cI 30)) (cI 14))))))))
def qA:List A→Mo A:=dN 2 rV
def vF:MS :=
 (aZ (bS (aF (nF) aT CT) (gN 1))
  (aZ (bS (aF (ES) bR (aF (gH) bL (cI 20))) (gN 2))
  (cH (aF kI (jD false (aH bR (aH bR (aH (aF eN bR (aF (gH) bL wC9)) (aH (aF eN bR (aF (gH) bL (cI 100))) (aH (aF eN bR (aF (gH) bL (cI 1000000))) (aH cC (aH (aS vC (aH bR (aH (aF (jJ) cC bR) a0))) (aH TM a0))))))))) (aF (gH) aT CT)))))
def oZ:List A→Mo A:=dN 3 vF
def Fj:Ev→Mo A :=
 (mX false 2 [1] (lI aT) (pO 2 (iH (gN 0) (iH (gN 1) pP))) (bM (aF Uc aT cC)) bL)
def Fl:MS :=
 (cH (aS xE (aH Fj a0)))
def SI:List A→Mo A:=dN 2 Fl
def RD:MS :=
 (aZ (bS (aF (nF) aT gO) (gN 0))
   (WY 1 bR))
def RE:Ev→Mo Bool :=
 (bM (aF tD aT eB))
def Fs:MS :=
 (aZ (bS eB (gN 1))
  (aZ (fun ρ Ω=>jW RE RD ((fun _ _=>1000000) ρ Ω) ρ Ω)
  (cH bL)))
def rC:List A→Mo A:=dN 2 Fs
def Wv:MS :=
 (fG (iW (nR (bM (aS sZ (aH bL (aH (cT "int") a0))))) (bM (aS sZ (aH bL (aH (cT "bool") a0)))))
    (cH (cB false))
    jE)
def Ww:MS :=
 (aZ (fG (iW (nR (bM (aS sZ (aH aT (aH (cT "tuple") a0))))) (bM (aF nE (aS iG (aH aT a0)) gO)))
   (cH (cB false))
   jE)
  (aZ (sI (lI aT) (gN 1) Wv)
  (cH (cB true))))
def LU:List A→Mo A:=dN 2 Ww
def RI:MS :=
 (aZ (bS (mY ["Halves"] 0 "turns" bL) (gN 3))
  (aZ (bS (aS (bW 2 Iz) (aH (mY ["Halves"] 0 "levels" bL) (aH gD a0))) (gN 4))
  (aZ (bS (aF kI pF bR) (xH ["Halves"] 0 "levels" bL))
  (aZ (kF (eM "lay" [("Halves",dW 3 [] GF)] aT (aH (aF kI pF eB) (aH (aF eN bL bR) a0))))
  (aZ (bS (aF (jJ) bR gD) (xH ["Halves"] 0 "turns" bL))
  (fG (bM (aF kZ gD eB))
   (nT ["Halves"] "over" aT (aF eN (gY ["Halves"] "over" aT) cC))
   (nT ["Halves"] "under" aT (aF eN (gY ["Halves"] "under" aT) cC))))))))
def SR:List A→Mo A:=dN 5 RI
def Fy:MS :=
 (cH (aS (ER true) (aH (eM "stand_ins" [("Halves",dW 1 [] CG)] aT a0) a0)))
def SN:List A→Mo A:=dN 1 Fy
def Gg:Ev→Mo A :=
 (mX false 1 [] (lI (eM "stand_ins" [("Halves",dW 1 [] CG)] aT a0)) (gN 0) qD (aF kI aT eB))
def Gh:MS :=
 (cH Gg)
def yI:List A→Mo A:=dN 1 Gh
def Fx:MS :=
 (cH (aS iG (aH (eM "kept" [("Halves",dW 1 [] yI)] aT a0) a0)))
def LV:List A→Mo A:=dN 1 Fx
def Fu:MS :=
 (cH (vW true (eM "kept" [("Halves",dW 1 [] yI)] aT a0)))
def SK:List A→Mo A:=dN 1 Fu
def RJ:MS :=
 (aZ (kF (aS (bW 2 CF) (aH aT (aH bL a0))))
  (aZ (DL ["Halves"] 0 "levels" (jD true a0))
  (aZ (DL ["Halves"] 0 "turns" (jD true a0))
  (aZ (nT ["Halves"] "over" aT eB)
  (nT ["Halves"] "under" aT eB)))))
def GG:List A→Mo A:=dN 2 RJ
def BE:MS :=
 (aZ (fG (bM (aF AO (aS iG (aH (mY ["Halves"] 0 "levels" cC) a0)) (aF (fT) gO (gY ["Halves"] "keep" aT))))
    (kF (eM "halve" [("Halves",dW 3 [] SR)] aT (aH cC (aH bL a0))))
    jE)
   (aZ (bS (aF (fT) bL gO) (gN 1))
   (bS (aF eN cC bR) (gN 2))))
def xT:Ev→Mo Bool :=
 (bM (aF xG cC (MU ["Halves"] 0 "levels")))
def Gd:MS :=
 (aZ (bS bR (gN 1))
  (aZ (bS eB (gN 2))
  (fun ρ Ω=>jW xT BE ((fun _ _=>1000000) ρ Ω) ρ Ω)))
def SQ:List A→Mo A:=dN 3 Gd
def Wu:MS :=
 (aZ (bS (aS vC (aH eB (aH (aF (jJ) (aS iG (aH aT a0)) bL) a0))) (gN 3))
  (cH (aS Di (aH cC (aH (aS vC (aH gD (aH (aF (gH) (aS (bW 2 tW) (aH aT (aH (aF (jJ) bL bR) a0))) (aF eN cC bR)) a0))) a0)))))
def SJ:List A→Mo A:=dN 4 Wu
def Fm:MS :=
 (aZ (bS (aS vC (aH eB (aH (aF (jJ) (aS iG (aH aT a0)) bL) a0))) (gN 3))
  (cH (aS (bW 2 yG) (aH (aS (bW 2 tW) (aH aT (aH (aF eN bL (aF (gH) cC (aS vC (aH bR (aH gD a0))))) a0))) (aH cC a0)))))
def Jb:List A→Mo A:=dN 4 Fm
def vG:MS :=
 (aZ (bS (aS (bW 2 tW) (aH aT (aH bR a0))) (gN 1))
  (cH (aF kI (jD false (aH (aF eN bR (aF (gH) (aF (nF) bL CT) (cI 12))) (aH (aF eN bR (aF (gH) (aF (nF) bL CT) GK)) (aH (aF eN bR (aF (gH) (aF (nF) bL CT) (cI 60))) (aH (cI 1000) a0))))) (aF kI (jD false (aH eB (aH eB (aH eB (aH bR (aH bR (aH bR (aH gO (aH GK a0))))))))) (aF (gH) bL CT)))))
def qB:List A→Mo A:=dN 2 vG
def Wt:Ev→Mo A :=
 (mX false 2 [] (lI cC) (pO 2 (iH (gN 0) (iH (gN 1) pP))) qD aT)
def QW:MS :=
 (aZ (fG (iW (nR (bM (aS (bW 1 LU) (aH mE a0)))) (iW (bM (aF (xF true) (aF kI mE eB) qG)) (bM (aF xG (aF kI mE bR) bR))))
    (cH cN)
    jE)
   (NY (aF eN (GQ pF (aF kI mE bR) eB) bR) pF (aF kI mE bR)))
def Fi:MS :=
 (fG (iW (bM (aF nE (aF (ES) bR (aF (jJ) (aS (bW 1 rC) (aH nP a0)) bR)) nP)) (bM (aF AO sD (aF (fT) gO bL))))
    (cH cN)
    jE)
def QX:MS :=
 (aZ (bS (eM "weights" [("Halves",dW 1 [] SN)] aT a0) (gN 3))
  (aZ (fG (iW (nR (bM (aS sZ (aH gD (aH (cT "list") a0))))) (bM (aF nE gD (aS (ER false) (aH gD a0)))))
   (cH cN)
   jE)
  (aZ (bS Ld (gN 4))
  (aZ (bS Wt (gN 5))
  (aZ (sI (lI gD) (gN 6) QW)
  (aZ (NX 4 (pO 2 (iH (gN 7) (iH (gN 8) pP))) Fi)
  (cH gD)))))))
def Ja:List A→Mo A:=dN 9 QX
def FF:MS :=
 (aZ (fG (bM (aF kZ (aF (gH) cC gO) bR))
    (kF (eM "lay" [("Halves",dW 3 [] GF)] aT (aH (jD false (aH bL a0)) (aH gD a0))))
    jE)
   (aZ (bS (aF (nF) cC gO) (gN 2))
   (bS (aF eN gD bR) (gN 3))))
def KP:Ev→Mo Bool :=
 (bM (aF tD cC eB))
def Fz:MS :=
 (aZ (bS eB (gN 3))
  (aZ (fun ρ Ω=>jW KP FF ((fun _ _=>1000000) ρ Ω) ρ Ω)
  (kF (eM "settle" [("Halves",dW 1 [] SQ)] aT a0))))
def SO:List A→Mo A:=dN 4 Fz
def Fp:MS :=
 (aZ (bS (aS (bW 3 Jb) (aH aT (aH TN (aH bL a0)))) (gN 2))
  (aZ (bS (aS (bW 2 qA) (aH (aS (bW 2 yG) (aH cC (aH bR a0))) (aH (aF (nF) (aF (fT) (aF (gH) (aS (bW 2 tW) (aH aT (aH eB a0))) MK) ML) MK) a0))) (gN 3))
  (cH (jD false (aH cC (aH gD (aH (aS (bW 1 oZ) (aH (aS (bW 2 yG) (aH cC (aH gO a0))) a0)) a0)))))))
def Jc:List A→Mo A:=dN 4 Fp
def Fo:Ev→Mo A :=
 (mX false 2 [] (lI cC) (pO 2 (iH (gN 0) (iH (gN 1) pP))) qD bL)
def Fn:Ev→Mo A :=
 (mX false 2 [] (lI qG) (pO 2 (iH (gN 0) (iH (gN 1) pP))) qD bL)
def QY:Ev→Mo A :=
 (mX false 2 [] (lI qG) (pO 2 (iH (gN 0) (iH (gN 1) pP))) qD aT)
def QZ:MS :=
 (fG (bM (aF tD (aS Du (aH (aF (jJ) (aS (bW 2 SI) (aH qG (aH Kj a0))) (aS (bW 2 SI) (aH cC (aH Kj a0)))) a0)) nP))
    (cH (cB false))
    jE)
def RC:MS :=
 (aZ (bS (aS xE (aH Fo a0)) (gN 4))
  (aZ (bS (aS (bW 3 Ja) (aH aT (aH bL (aH cC a0)))) (gN 5))
  (aZ (fG (iW (bM (aF (Dl false) qG cN)) (bM (aF nE (aS xE (aH Fn a0)) pF)))
   (cH (cB false))
   jE)
  (aZ (bS (eM "numbers" [("Halves",dW 1 [] SK)] aT a0) (gN 6))
  (aZ (fG (iW (nR (bM (aS sZ (aH mE (aH (cT "list") a0))))) (bM (aF nE mE (vW false QY))))
   (cH (cB false))
   jE)
  (aZ (bS (eM "off" [("Halves",dW 1 [] LW)] aT a0) (gN 7))
  (aZ (bS (aF (nF) pF (aF (fT) gO bL)) (gN 8))
  (aZ (fG (iW (nR (bM (aS (bW 1 vP) (aH nP a0)))) (iW (bM (aF xG nP eB)) (bM (aF tD nP (aF (fT) (aS (bW 1 rC) (aH sD a0)) sD)))))
   (cH (cB false))
   jE)
  (aZ (sI (lI (UB false cC (yS (aF (gH) gD GK)) Mz (yS GK))) (pO 2 (iH (gN 9) (iH (gN 10) pP))) QZ)
  (aZ (bS (eM "held" [("Halves",dW 1 [] LV)] aT a0) (gN 11))
  (aZ (fG (iW (nR (bM (aS (bW 1 vP) (aH CS a0)))) (iW (bM (aF nE CS (aS iG (aH qG a0)))) (bM (aF tD CS (aF (fT) (aF (jJ) (aF (fT) gO bL) bR) (aS (bW 1 rC) (aH pF a0)))))))
   (cH (cB false))
   jE)
  (aZ (kF (pG tE mE (aH bR a0)))
  (aZ (kF (pG tE qG (aH (GN (aH bR (aH bR a0))) a0)))
  (cH (DB (aF kZ (jD false (aH (eM "length" [("Halves",dW 1 [] yH)] aT a0) (aH (eM "puts" [("Halves",dW 1 [] GD)] aT a0) a0))) (jD false (aH pF (aH gD a0)))) (aS (bW 1 vP) (aH (eM "length" [("Halves",dW 1 [] yH)] aT a0) a0)))))))))))))))))
def CC:List A→Mo A:=dN 12 RC
def RF:MS :=
 (aZ (fG (bM (aF xG cC bR))
   (fun _ _=>none)
   jE)
  (aZ (kF (eM "look_room" [("Halves",dW 2 [] SM)] aT (aH cC a0)))
  (aZ (kF (eM "take" [("Halves",dW 3 [] SO)] aT (aH bL (aH cC a0))))
  (aZ (nT ["Halves"] "many" aT (aF eN (gY ["Halves"] "many" aT) cC))
  (nT ["Halves"] "taken" aT (aF eN (gY ["Halves"] "taken" aT) bR))))))
def CD:List A→Mo A:=dN 3 RF
def QU:MS :=
 (aZ (bS (aS (bW 2 Jc) (aH aT (aH qG a0))) (Dk 3 (iH (gN 6) (iH (gN 7) (iH (gN 8) pP)))))
   (aZ (fG (vX (bM (aF kZ sD bR)) (bM (aF kZ (aF (gH) mE gO) eB)))
    (kF (eM "put" [("Halves",dW 3 [.int 1] CD)] cC (aH nP a0)))
    (kF (eM "put" [("Halves",dW 3 [] CD)] cC (aH nP (aH sD a0)))))
   (aZ (kF (pG tE gD (aH (GN (aH nP (aH sD a0))) a0)))
   (fG (vX (bM (aF kZ qG pF)) (nR (bM (aS (bW 4 CC) (aH cC (aH bL (aH gD (aH (aS iG (aH gD a0)) a0))))))))
    (cH (cB false))
    jE))))
def Fh:MS :=
 (aZ (bS (aS (bW 1 qB) (aH aT a0)) (gN 1))
  (aZ (bS (aS (JV "Halves" 2 GG) (aH bL a0)) (gN 2))
  (aZ (bS (jD true a0) (gN 3))
  (aZ (bS (aF (gH) (aS (bW 2 tW) (aH aT (aH gO a0))) (cI 40)) (gN 4))
  (aZ (sI (MR (aH (aS (bW 3 SJ) (aH aT (aH TN (aH (cI 59) a0)))) a0)) (gN 5) QU)
  (cH (DB (aS (bW 4 CC) (aH cC (aH bL (aH gD (aH (aS iG (aH gD a0)) a0))))) (aS (bW 4 CC) (aH cC (aH bL (aH gD (aH (aS iG (aH gD a0)) a0))))))))))))
def Yt:List A→Mo A:=dN 9 Fh
end
end M
namespace V2
open PySem PyProof L2
def alt{α:Type}:Bool→List α→List α
 | _,[]=>[]
 | true,x::xs=>x::alt false xs
 | false,_::xs=>alt true xs
theorem Gp{α β:Type}(f:α→β):∀(b:Bool) (xs:List α),alt b (xs.map f)=(alt b xs).map f
 | _,[]=>by simp [alt]
 | true,x::xs=>by simp [alt,Gp f false xs]
 | false,_::xs=>by simp [alt,Gp f true xs]
theorem Gr{α:Type}:∀(b:Bool) (k:Nat) (xs ys:List α),xs.length=2*k→alt b (xs++ys)=alt b xs++alt b ys
 | b,0,xs,ys,h=>by
  obtain rfl:xs=[]:=Hv.mp (by omega);simp [alt]
 | b,k+1,[],ys,h=>by simp at h
 | b,k+1,[x],ys,h=>by simp at h;omega
 | true,k+1,x::y::xs,ys,h=>by
  simp only [tU,alt];rw [Gr true k xs ys (by simp at h;omega)]
 | false,k+1,x::y::xs,ys,h=>by
  simp only [tU,alt];rw [Gr false k xs ys (by simp at h;omega)]
theorem KR{α:Type}:∀(b:Bool) (xs:List α),(alt b xs).Sublist xs
 | _,[]=>by simp [alt]
 | true,x::xs=>by simp only [alt];exact(KR false xs).cons_cons x
 | false,x::xs=>by simp only [alt];exact(KR true xs).cons x
theorem Xb{α:Type}(b:Bool):∀(k:Nat) (xs:List α),2*k≤xs.length→(List.range k).filterMap (fun i=>xs[2*i+(if b then 0 else 1)]?)=alt b (xs.take (2*k))
 | 0,xs,_=>by simp [alt]
 | k+1,xs,h=>by
  rw [List.range_succ,List.filterMap_append,Xb b k xs (by omega)];have e:xs.take (2*(k+1))=xs.take (2*k)++[xs[2*k],xs[2*k+1]]:=by
   rw [show 2*(k+1)=2*k+1+1 by omega,RV,RV,gK (show 2*k<xs.length by omega),gK (show 2*k+1<xs.length by omega),fZ];rfl
  rw [e,Gr b k _ _ (by simp;omega)];congr 1;cases b
  ·simp [alt,gK (show 2*k+1<xs.length by omega)]
  ·simp [alt,gK (show 2*k<xs.length by omega)]
theorem aj2{α:Type}(b:Bool)(xs:List α)(k:Nat)(h:2*k≤xs.length):nB xs (some (if b then 0 else 1)) (some ((2*k:Nat):Int)) (some 2)=alt b (xs.take (2*k)):=by
 rw [← Xb b k xs h];unfold nB sliceBounds;simp only [Option.getD_some,show(2:Int)>0 by decide,dP];have e2:max 0 (min (if((2*k:Nat):Int)<0 then((2*k:Nat):Int)+(xs.length:Int)else((2*k:Nat):Int)) (xs.length:Int))=((2*k:Nat):Int):=by
  rw [if_neg (by omega)];omega
 rw [e2]
 by_cases hk:k=0
 ·subst hk;unfold sliceRange;have:¬(max 0 (min (if(if b=true then(0:Int)else 1)<0 then(if b=true then(0:Int)else 1)+(xs.length:Int)else(if b=true then(0:Int)else 1)) (xs.length:Int))<((2*0:Nat):Int)):=by omega
  simp only [this,eF];simp
 ·have e1:max 0 (min (if(if b=true then(0:Int)else 1)<0 then(if b=true then(0:Int)else 1)+(xs.length:Int)else(if b=true then(0:Int)else 1)) (xs.length:Int))=(if b=true then 0 else 1):=by
   cases b <;> simp <;> omega
  rw [e1];unfold sliceRange;have bG:(if b=true then(0:Int)else 1)<((2*k:Nat):Int):=by cases b <;> simp <;> omega
  simp only [show(2:Int)>0 by decide,dP,bG];have hc:((((2*k:Nat):Int) - (if b=true then(0:Int)else 1)+2 - 1)/2).toNat=k:=by cases b <;> simp <;> omega
  rw [hc,List.filterMap_map];congr 1;funext i;simp only [Function.comp];have:((if b=true then(0:Int)else 1)+2*(i:Int)).toNat=2*i+(if b=true then 0 else 1):=by cases b <;> simp <;> omega
  rw [this]
theorem Xc:∀(xs:List Int) (n:Int),xs.Pairwise (· ≤ ·) →
  (2*((alt true xs).filter (· ≤ n)).length=(xs.filter (· ≤ n)).length∨2*((alt true xs).filter (· ≤ n)).length=(xs.filter (· ≤ n)).length+1) ∧
  (2*((alt false xs).filter (· ≤ n)).length=(xs.filter (· ≤ n)).length∨2*((alt false xs).filter (· ≤ n)).length+1=(xs.filter (· ≤ n)).length)
 | [],n,_=>by simp [alt]
 | x::xs,n,h=>by
  obtain⟨h1,h2⟩:=List.pairwise_cons.mp h;obtain⟨i1,i2⟩:=Xc xs n h2
  by_cases hx:x≤n
  ·simp only [alt,Hy,hx,KH,dP,eA];omega
  ·have hz:∀ys:List Int,ys.Sublist xs→ys.filter (fun y=>decide (y≤n))=[]:=fun ys s=>Ym.mpr fun y hy=>by
    have:=h1 y (s.subset hy);simp;omega
   simp only [alt,Hy,hx,QL];rw [hz _ (KR false xs),hz _ (KR true xs),hz _ (List.Sublist.refl _)];simp
theorem auV(ds:List A)(e:Nat)(h:e≤ds.length):AX ds (some (e:Int)) none=ds.drop e:=by
 unfold AX;rw [HT.ahU,HT.ahT,Nat.min_eq_left h,RU (by simp)]
end V2
namespace M
open PySem L2 V2
def dD:List (List Int)→Int
 | []=>0
 | L::ls=>(L.length:Int)+2*dD ls
def cQ(L:List Int)(x:Int):Int:=((L.filter (· ≤ x)).length:Int)
def eI:List (List Int)→Int→Int
 | [],_=>0
 | L::ls,x=>cQ L x+2*eI ls x
def jF:List Int→Int
 | []=>0
 | h::hs=>h+2*jF hs
def HB(k:Int):List Int→List (List Int)→Prop
 | [],[]=>True
 | h::hs,_::ls=>0≤h∧h*(2*k)≤2*dD ls∧HB k hs ls
 | _,_=>False
def dJ(s:List Int):List (List Int)→List (List Int)
 | []=>[s]
 | L::ls=>(L++s)::ls
def wJ:List Int→List Int
 | []=>[0]
 | t::ts=>t::ts
def eR(s:List Int):Nat→List (List Int)→List (List Int)
 | 0,ls=>dJ s ls
 | n+1,[]=>[]::eR s n []
 | n+1,L::ls=>L::eR s n ls
def gR:Nat→List Int→List Int
 | 0,ts=>wJ ts
 | n+1,[]=>0::gR n []
 | n+1,t::ts=>t::gR n ts
theorem GH:∀ls,0≤dD ls
 | []=>by simp [dD]
 | L::ls=>by have:=GH ls;simp only [dD];omega
theorem Vq(L M:List Int)(x:Int):cQ (L++M) x=cQ L x+cQ M x:=by simp [cQ]
theorem au0{L M:List Int}(h:L.Perm M)(x:Int):cQ L x=cQ M x:=by unfold cQ;rw [(h.filter _).length_eq]
theorem pI(n:Nat):(2:Int) ^ (n+1)=2*2 ^ n:=by rw [Int.pow_succ];omega
theorem HJ(n:Nat):(0:Int)<2 ^ n:=by
 induction n with
 | zero=>decide
 | succ n ih=>rw [pI];omega
theorem SX(s:List Int):∀ls,dD (dJ s ls)=dD ls+s.length
 | []=>by simp [dJ,dD]
 | L::ls=>by simp only [dJ,dD,fX];omega
theorem Vn(s:List Int)(x:Int):∀ls,eI (dJ s ls) x=eI ls x+cQ s x
 | []=>by simp [dJ,eI]
 | L::ls=>by simp only [dJ,eI,Vq];omega
theorem MD(s:List Int):∀(n:Nat) (ls:List (List Int)),dD (eR s n ls)=dD ls+2 ^ n*s.length
 | 0,ls=>by rw [eR,SX];simp
 | n+1,[]=>by
  show(([]:List Int).length:Int)+2*dD (eR s n [])=_;rw [MD s n [],pI,qY];simp [dD]
 | n+1,L::ls=>by rw [eR,dD,dD,MD s n ls,pI,qY];omega
theorem Es(s:List Int)(x:Int):∀(n:Nat) (ls:List (List Int)),eI (eR s n ls) x=eI ls x+2 ^ n*cQ s x
 | 0,ls=>by rw [eR,Vn];simp
 | n+1,[]=>by
  show cQ [] x+2*eI (eR s n []) x=_;rw [Es s x n [],pI,qY];simp [eI,cQ]
 | n+1,L::ls=>by rw [eR,eI,eI,Es s x n ls,pI,qY];omega
theorem Qe{s:List Int}{n:Int}:∀{ls:List (List Int)} {L:List Int},L∈dJ s ls→n∈L→n∈s∨∃M∈ls,n∈M
 | [],L,h,hn=>by simp only [dJ,jP]at h;subst h;exact .inl hn
 | K::ls,L,h,hn=>by
  rcases dZ.mp h with e | e
  ·subst e
   rcases iU.mp hn with q | q
   ·exact .inr ⟨K,by simp,q⟩
   ·exact .inl q
  ·exact .inr ⟨L,iB _ e,hn⟩
theorem YH{s:List Int}{n:Int}:∀{m:Nat} {ls:List (List Int)} {L:List Int},L∈eR s m ls→n∈L→n∈s∨∃M∈ls,n∈M
 | 0,ls,L,h,hn=>Qe h hn
 | m+1,[],L,h,hn=>by
  rcases dZ.mp h with e | e
  ·subst e;cases hn
  ·exact YH e hn
 | m+1,K::ls,L,h,hn=>by
  rcases dZ.mp h with e | e
  ·exact .inr ⟨K,by simp,by rw [← e];exact hn⟩
  ·rcases YH e hn with q | ⟨M,q,r⟩
   ·exact .inl q
   ·exact .inr ⟨M,iB _ q,r⟩
theorem IK(s:List Int):∀(n:Nat) (ls:List (List Int)),(eR s n ls).length=max (n+1) ls.length
 | 0,[]=>rfl
 | 0,L::ls=>by simp only [eR,dJ,eA];omega
 | n+1,[]=>by rw [eR,eA,IK s n [],yC];omega
 | n+1,L::ls=>by rw [eR,eA,IK s n ls,eA];omega
theorem DZ:∀(n:Nat) (ts:List Int),(gR n ts).length=max (n+1) ts.length
 | 0,[]=>rfl
 | 0,t::ts=>by simp only [gR,wJ,eA];omega
 | n+1,[]=>by rw [gR,eA,DZ n [],yC];omega
 | n+1,t::ts=>by rw [gR,eA,DZ n ts,eA];omega
theorem MY{P:Int→Prop}(h0:P 0):∀(n:Nat) (ts:List Int),(∀t∈ts,P t)→∀t∈gR n ts,P t
 | 0,[],_,t,ht=>by simp only [gR,wJ,jP]at ht;subst ht;exact h0
 | 0,t::ts,h,u,hu=>h u hu
 | n+1,[],_,t,ht=>by
  rcases dZ.mp ht with e | e
  ·subst e;exact h0
  ·exact MY h0 n [] (by simp) t e
 | n+1,t::ts,h,u,hu=>by
  rcases dZ.mp hu with e | e
  ·subst e;exact h u (by simp)
  ·exact MY h0 n ts (fun v hv=>h v (iB _ hv)) u e
theorem OI:∀(n:Nat) (hs:List Int),jF (gR n hs)=jF hs
 | 0,[]=>rfl
 | 0,_::_=>rfl
 | n+1,[]=>by
  show 0+2*jF (gR n [])=_;rw [OI n []];rfl
 | n+1,h::hs=>by rw [gR,jF,OI n hs,jF]
theorem Yq{k:Int}(s:List Int):∀{hs:List Int} {ls:List (List Int)},HB k hs ls→HB k (wJ hs) (dJ s ls)
 | [],[],_=>⟨by simp,by simp [dD],trivial⟩
 | _::_,_::_,h=>h
 | [],_::_,h=>h.elim
 | _::_,[],h=>h.elim
theorem Iy{k:Int}(s:List Int):∀(n:Nat) {hs:List Int} {ls:List (List Int)},HB k hs ls→HB k (gR n hs) (eR s n ls)
 | 0,hs,ls,h=>Yq s h
 | n+1,[],[],h=>⟨by simp,by have:=GH (eR s n []);omega,Iy s n h⟩
 | n+1,h::hs,L::ls,q=>⟨q.1,by
   have:=MD s n ls;have p:(0:Int)≤2 ^ n*s.length:=Int.mul_nonneg (by have:=HJ n;omega) (by omega);have:=q.2.1;omega,Iy s n q.2.2⟩
 | n+1,[],_::_,h=>h.elim
 | n+1,_::_,[],h=>h.elim
def LN:List (List Int)→Prop
 | []=>True
 | [L]=>L≠[]
 | _::L::ls=>LN (L::ls)
theorem Ih{L:List Int}:∀{ls:List (List Int)},LN (L::ls)→LN ls
 | [],_=>trivial
 | _::_,h=>h
theorem SA{L:List Int}:∀{ls:List (List Int)},ls≠[]→LN ls→LN (L::ls)
 | [],h,_=>absurd rfl h
 | _::_,_,h=>h
theorem Yn{s:List Int}(hs:s≠[]):∀{ls:List (List Int)},LN ls→LN (dJ s ls)
 | [],_=>hs
 | [L],_=>by show L++s≠[];intro e;exact hs (List.append_eq_nil_iff.mp e).2
 | _::_::_,h=>h
theorem av3(s:List Int)(ls:List (List Int)):dJ s ls≠[]:=by cases ls <;> simp [dJ]
theorem Qx(s:List Int)(n:Nat)(ls:List (List Int)):eR s n ls≠[]:=by
 intro e;have:=IK s n ls;rw [e]at this;simp at this;omega
theorem Ii{s:List Int}(hs:s≠[]):∀(n:Nat) {ls:List (List Int)},LN ls→LN (eR s n ls)
 | 0,ls,h=>Yn hs h
 | n+1,[],h=>SA (Qx _ _ _) (Ii hs n h)
 | n+1,L::ls,h=>SA (Qx _ _ _) (Ii hs n (Ih h))
theorem ME:∀(pre ls:List (List Int)),dD (pre++ls)=dD pre+2 ^ pre.length*dD ls
 | [],ls=>by simp [dD]
 | L::pre,ls=>by rw [tU,dD,dD,ME pre ls,eA,pI,qY];omega
theorem Vm(x:Int):∀(pre ls:List (List Int)),eI (pre++ls) x=eI pre x+2 ^ pre.length*eI ls x
 | [],ls=>by simp [eI]
 | L::pre,ls=>by rw [tU,eI,eI,Vm x pre ls,eA,pI,qY];omega
theorem Po:∀(pre hs:List Int),jF (pre++hs)=jF pre+2 ^ pre.length*jF hs
 | [],hs=>by simp [jF]
 | h::pre,hs=>by rw [tU,jF,jF,Po pre hs,eA,pI,qY];omega
theorem Yp{k:Int}:∀{pre:List (List Int)} {hs:List Int} {ls:List (List Int)},HB k hs (pre++ls)→∃h1 h2,hs=h1++h2∧h1.length=pre.length∧HB k h2 ls∧∀oE bJ,dD ls≤dD bJ→HB k oE bJ→HB k (h1++oE) (pre++bJ)
 | [],hs,ls,h=>⟨[],hs,rfl,rfl,h,fun _ _ _ q=>q⟩
 | L::pre,[],ls,h=>h.elim
 | L::pre,h::hs,ls,q=>by
  obtain⟨h1,h2,rfl,e,q2,q3⟩:=Yp (pre:=pre) q.2.2;refine⟨h::h1,h2,rfl,by simp [e],q2,fun oE bJ hw hq=>⟨q.1,?_,q3 oE bJ hw hq⟩⟩;have h9:h*(2*k)≤2*dD (pre++ls):=q.2.1;show h*(2*k)≤2*dD (pre++bJ);rw [ME]at h9 ⊢;have:(2:Int) ^ pre.length*dD ls≤2 ^ pre.length*dD bJ:=LM hw (by have:=HJ pre.length;omega);omega
theorem Qw(s:List Int):∀(pre ls:List (List Int)),eR s pre.length (pre++ls)=pre++dJ s ls
 | [],ls=>rfl
 | L::pre,ls=>by rw [eA,tU,eR,Qw s pre ls];rfl
end M
namespace V2
open PySem L2
@[simp] theorem Ud(neg:Bool)(i j:Int)(Ω:aI):xI neg (.int i) (.int j) Ω=some (.ok (.bl (if neg then !(i == j)else i == j)),Ω):=by
 simp [xI,res,cD,fV]
@[simp] theorem azN(i j:Int)(Ω:aI):kZ (.int i) (.int j) Ω=some (.ok (.bl (i == j)),Ω):=Ud false i j Ω
@[simp] theorem azM(i j:Int)(Ω:aI):nE (.int i) (.int j) Ω=some (.ok (.bl (!(i == j))),Ω):=Ud true i j Ω
theorem xQ{i j:Int}(h0 : -18446744073709551616<i)(h1:i<18446744073709551616):kB i j := .inl ⟨h0,h1⟩
theorem FC{i j:Int}(h0 : -18446744073709551616<j)(h1:j<18446744073709551616):kB i j := .inr ⟨h0,h1⟩
@[simp] theorem az5{α:Type}(x:α)(l:List α):gU (x::l) 0=some x:=avW _
@[simp] theorem az4{α:Type}(x y:α)(l:List α):gU (x::y::l) 1=some y:=avX _
@[simp] theorem az3{α:Type}(x y z:α)(l:List α):gU (x::y::z::l) 2=some z:=RK _ 2
@[simp] theorem az2{α:Type}(x y z u:α)(l:List α):gU (x::y::z::u::l) 3=some u:=RK _ 3
end V2
namespace M
open PySem L2 V2
def wO(c k:Int):Int :=
 ((c+1)*(48271+118*k)%2147483629/977*16807+(c+1)*(48271+118*k)%2147483629*(k*k+7)+k)%2147483587
theorem OK(c k:Int):0≤wO c k:=Iu _ (by decide)
theorem YG(c k:Int):wO c k<2147483587:=Iv _ (by decide)
theorem LF(c k:Int)(Ω:aI)(hc:0≤c)(hc1:c<8589934592)(hk:0≤k)(eS:k<1048576):yG [.int c,.int k] Ω=aL (.int (wO c k)) Ω:=by
 have f0:=Iu ((c+1)*(48271+118*k)) (show(2147483629:Int)≠0 by decide);have f1:=Iv ((c+1)*(48271+118*k)) (show(0:Int)<2147483629 by decide);have h1:kB (c+1) (48271+118*k):=xQ (by omega) (by omega);have h2:kB k k:=xQ (by omega) (by omega);have h3:∀j,kB ((c+1)*(48271+118*k)%2147483629) j:=fun j=>xQ (by omega) (by omega);have h4:∀j,kB j 16807:=fun j=>FC (by decide) (by decide);have h5:∀j,kB 118 j:=fun j=>xQ (by decide) (by decide);have h6:∀j,rE j 977:=fun j=>⟨by decide,by decide⟩
 simp [yG,Wx,h1,h2,h3,h4,h5,h6,wO]
def tK(ns:List Int)(k:Int):Int:=wO (if k<ns.length then ns[k.toNat]?.getD 0%2147483647 else 0) (k+101)
theorem QR(ns:List Int)(k:Int):0≤tK ns k:=OK _ _
theorem au6(ns:List Int)(k:Int):tK ns k<2147483587:=YG _ _
theorem LG(ns:List Int)(k:Int)(Ω:aI)(hk:0≤k)(eS:k<1000000):tW [.cM ns,.int k] Ω=aL (.int (tK ns k)) Ω:=by
 by_cases h:k<(ns.length:Int)
 ·obtain⟨n,rfl⟩:=vN hk;have hn:n<ns.length:=by omega
  have e:gU (ns.map A.int) (n:Int)=(aA (ns[n])):=by rw [tM];simp [hn]
  have f0:=Iu ns[n] (show(2147483647:Int)≠0 by decide);have f1:=Iv ns[n] (show(0:Int)<2147483647 by decide);have m:=fun Ω=>LF (ns[n]%2147483647) (n+101) Ω f0 (by omega) (by omega) (by omega);simp [tW,Fq,h,e,m,tK,hn]
 ·have m:=fun Ω=>LF 0 (k+101) Ω (by decide) (by decide) (by omega) (by omega);simp [tW,Fq,h,m,tK]
end M
namespace V2
open PySem L2
theorem Ef{f:A→A→Bool}:∀(xs:List A),(∀x∈xs,f x x=true)→xJ f xs xs=true
 | [],_=>rfl
 | x::xs,h=>by simp only [xJ,h x sP,Bool.true_and];exact Ef xs fun y hy=>h y (iB _ hy)
theorem Uw:∀(n:Nat) (a:A),cD n a=true→fV n a a=true:=by
 intro n
 induction n with
 | zero=>intro a h;cases a <;> first | (simp [fV];done) | (simp [cD]at h)
 | succ n ih =>
  intro a h;cases a with
  | tup ds=>simp only [cD,LJ]at h;simp only [fV];exact Ef ds fun x hx=>ih x (h x hx)
  | lst ds=>simp only [cD,LJ]at h;simp only [fV];exact Ef ds fun x hx=>ih x (h x hx)
  | int i=>simp [fV]
  | bl i=>simp [fV]
  | str i=>simp [fV]
  | bB=>simp [fV]
  | _=>simp [cD]at h
theorem uI{Ω:aI}{n:Nat}{a:A}(h:cD 8 a=true):res Ω n a=some a:=by
 cases n <;> simp [res,h]
theorem asV{a b c:A}{Ω:aI}(ha:res Ω 6 a=some c)(hb:res Ω 6 b=some c)(hc:cD 8 c=true):kZ a b Ω=some (.ok (.bl true),Ω):=by
 simp [kZ,xI,ha,hb,hc,Uw 8 c hc]
theorem Nx{Ω:aI}{n k:Nat}{ds:List A}(h:Ω[k]? = some (.lst ds)):res Ω (n+1) (.aD k)=(sO (res Ω n) ds).map .lst:=by
 rw [res,if_neg (by simp [cD])];simp [h]
theorem YJ{Ω:aI}{n:Nat}:∀(ds:List A),ds.all (cD 8)=true→sO (res Ω n) ds=some ds
 | [],_=>rfl
 | d::ds,h=>by
  simp only [Ig,mB]at h;simp [sO,uI h.1,YJ ds h.2]
abbrev E:=Int×Int×Int
theorem Ed{ok:aI→Prop}{g:A→MS}{c:Ev→Mo Bool}{e:Ev→Mo A}(F:A→Option A)(P:Ev→Prop)(Ω0:aI)(aK:∀ys,ok (Ω0++[.lst ys])):∀(xs:List A) (ρ:Ev) (acc:List A),P ρ→acc.length+xs.length≤1000000 →
  (∀x∈xs,∀ρ,P ρ→∀ys,∃ρ1,P ρ1∧g x ρ (Ω0++[.lst ys])=some (.nx,ρ1,Ω0++[.lst ys])∧((∃y,F x=some y∧c ρ1 (Ω0++[.lst ys])=some (.ok true,Ω0++[.lst ys])∧e ρ1 (Ω0++[.lst ys])=some (.ok y,Ω0++[.lst ys]))∨(F x=none∧c ρ1 (Ω0++[.lst ys])=some (.ok false,Ω0++[.lst ys])))) →
  ∃ρ',oH ok g c e Ω0.length xs ρ (Ω0++[.lst acc])=some (ρ',Ω0++[.lst (acc++xs.filterMap F)])
 | [],ρ,acc,_,_,_=>⟨ρ,by simp [oH,aK]⟩
 | x::xs,ρ,acc,hP,hl,turn=>by
  simp only [eA]at hl;obtain⟨ρ1,To,e1,q⟩:=turn x sP ρ hP acc;have hz:acc.length<sizeLine:=by rw [qK];omega
  rcases q with⟨y,f1,e2,e3⟩ | ⟨f1,e2⟩
  ·obtain⟨ρ',ih⟩:=Ed F P Ω0 aK xs ρ1 (acc++[y]) To (by simp;omega) fun x hx=>turn x (iB _ hx);exact⟨ρ',by simp [oH,aK,e1,e2,e3,hz,ih,f1]⟩
  ·obtain⟨ρ',ih⟩:=Ed F P Ω0 aK xs ρ1 acc To (by omega) fun x hx=>turn x (iB _ hx);exact⟨ρ',by simp [oH,aK,e1,e2,ih,f1]⟩
theorem Lc{n:Nat}{js:List Nat}{fi:Ev→Mo Src}{g:A→MS}{c:Ev→Mo Bool}{e:Ev→Mo A}{ρ:Ev}{Ω Ω0:aI}{S:Src}(F:A→Option A)(P:Ev→Prop)(hfi:fi ρ Ω=some (.ok S,Ω0))(aK:∀ys,S.ok (Ω0++[.lst ys]))(hP:P (uP n js ρ))(hl:S.ds.length≤1000000)
  (turn:∀x∈S.ds,∀ρ,P ρ→∀ys,∃ρ1,P ρ1∧g x ρ (Ω0++[.lst ys])=some (.nx,ρ1,Ω0++[.lst ys])∧((∃y,F x=some y∧c ρ1 (Ω0++[.lst ys])=some (.ok true,Ω0++[.lst ys])∧e ρ1 (Ω0++[.lst ys])=some (.ok y,Ω0++[.lst ys]))∨(F x=none∧c ρ1 (Ω0++[.lst ys])=some (.ok false,Ω0++[.lst ys]))))
  (hc:gC Ω0.length (S.ds.filterMap F)):mX false n js fi g c e ρ Ω=some (.ok (.lst (S.ds.filterMap F)),Ω0):=by
 obtain⟨ρ',q⟩:=Ed F P Ω0 aK S.ds (uP n js ρ) [] hP (by simpa using hl) turn;simp [mX,mb,hfi,q,YV,hc]
theorem Dg{a b c:A}{Ω:aI}(ha:res Ω 6 a=some c)(hb:res Ω 6 b=some c)(hc:cD 8 c=true):nE a b Ω=some (.ok (.bl false),Ω):=by
 simp [nE,xI,ha,hb,hc,Uw 8 c hc]
theorem asU{a:A}{Ω:aI}(h:cD 8 a=true):kZ a a Ω=some (.ok (.bl true),Ω):=asV (uI h) (uI h) h
theorem Df{a:A}{Ω:aI}(h:cD 8 a=true):nE a a Ω=some (.ok (.bl false),Ω):=Dg (uI h) (uI h) h
theorem ah5{f:Ev→Mo (List A)}{ρ:Ev}{Ω Ω':aI}{j:Int}(h:f ρ Ω=some (.ok [.int j],Ω'))(hs:DI j):MR f ρ Ω=some (.ok (DM 0 j.toNat),Ω'):=by
 unfold MR;rw [bZ h];show mb (nG (DI j)) _ Ω'=_;rw [amY _ hs];rfl
theorem QF{fi:Ev→Mo Src}{g:A→MS}{b:MS}{ρ:Ev}{Ω Ω':aI}{S:Src}(h:fi ρ Ω=some (.ok S,Ω')):sI fi g b ρ Ω=eG S.ok g b S.ds ρ Ω':=by
 unfold sI;rw [eP h]
theorem BB{n:Nat}:∀{as:List A},(∀a∈as,Cl n a)→gC n as
 | [],_=>by simp only [gC]
 | a::as,h=>by simp only [gC];exact⟨h a sP,BB fun b hb=>h b (iB _ hb)⟩
end V2
namespace M
open PySem L2 V2
abbrev Rn:=Int×Int
def dI(r:Rn):A := .tup [.int r.1,.int r.2]
def aP(rs:List Rn):List A:=rs.map dI
theorem clT(n:Nat)(r:Rn):Cl n (dI r):=by simp [dI,Cl,gC]
theorem Vt(n:Nat)(rs:List Rn):gC n (aP rs):=BB fun a h=>by
 obtain⟨r,_,rfl⟩:=qX.mp h;exact clT n r
theorem Ov(rs:List Rn):cD 8 (.lst (aP rs))=true:=by
 simp [cD,aP,dI]
def whole(rs:List Rn):Int:=(rs.map (·.2)).sum
def bI:List Rn→Int
 | []=>0
 | r::rs=>r.2+bI rs
def fB:List Rn→Int→Int
 | [],_=>0
 | r::rs,x=>(if r.1≤x then r.2 else 0)+fB rs x
theorem yU:∀(a b:List Rn),bI (a++b)=bI a+bI b
 | [],b=>by simp [bI]
 | r::a,b=>by rw [tU,bI,bI,yU a b];omega
theorem MW(x:Int):∀(a b:List Rn),fB (a++b) x=fB a x+fB b x
 | [],b=>by simp [fB]
 | r::a,b=>by rw [tU,fB,fB,MW x a b];omega
theorem Gq{α:Type}:∀(b:Bool) (k:Nat) (xs:List α),xs.length=2*k→(alt b xs).length=k
 | b,0,xs,h=>by
  obtain rfl:xs=[]:=Hv.mp (by omega);simp [alt]
 | b,k+1,[],h=>by simp at h
 | b,k+1,[x],h=>by simp at h;omega
 | true,k+1,x::y::xs,h=>by
  simp only [alt,eA];rw [Gq true k xs (by simp at h;omega)]
 | false,k+1,x::y::xs,h=>by
  simp only [alt,eA];rw [Gq false k xs (by simp at h;omega)]
structure HV(k:Int)(ls:List (List Int))(ts:List Int)(ov un:Int)(row:List Rn):Prop where
 len:ts.length=ls.length
 MZ:∀t∈ts,t=0∨t=1
 wt:dD ls=bI row
 cnt:∀x,fB row x - un≤eI ls x∧eI ls x≤fB row x+ov
 mem:∀L∈ls,∀n∈L,n∈row.map (·.1)
 PY:∃hs,HB k hs ls∧jF hs=ov+un
 last:LN ls
 HL:0≤ov
 uD:0≤un
theorem Rk(k:Int):HV k [] [] 0 0 []:=⟨rfl,by simp,rfl,by simp [fB,eI],by simp,⟨[],trivial,rfl⟩,trivial,by omega,by omega⟩
section
variable{k ov un:Int}{ls:List (List Int)}{ts:List Int}{row:List Rn}
theorem HV.more(h:HV k ls ts ov un row)(n:Int):HV k ls ts ov un (row++[(n,0)]) :=
 ⟨h.len,h.MZ,by rw [h.wt,yU];simp [bI],fun x=>by rw [MW];simp only [fB];have:=h.cnt x;split <;> omega,fun L hL m hm=>by
  rw [yA];exact kR _ (h.mem L hL m hm),h.PY,h.last,h.HL,h.uD⟩
theorem HV.lay{n p:Int}(h:HV k ls ts ov un (row++[(n,p)]))(l:Nat):HV k (eR [n] l ls) (gR l ts) ov un (row++[(n,p+2 ^ l)]):=by
 obtain⟨hs,h1,h2⟩:=h.PY;refine⟨by rw [IK,DZ,h.len],MY (.inl rfl) l ts h.MZ,?_,fun x=>?_,fun L hL m hm=>?_,⟨gR l hs,Iy [n] l h1,by rw [OI,h2]⟩,Ii (by simp) l h.last,h.HL,h.uD⟩
 ·rw [MD,h.wt,yU,yU];simp [bI];omega
 ·have q:=h.cnt x;rw [MW]at q ⊢;rw [Es];simp only [fB]at q ⊢
  by_cases c:n≤x
  ·rw [if_pos c]at q ⊢;simp [cQ,c];omega
  ·rw [if_neg c]at q ⊢;simp [cQ,c];omega
 ·have:∀z,z∈(row++[(n,p)]).map (·.1)→z∈(row++[(n,p+2 ^ l)]).map (·.1):=fun z hz=>by simpa using hz
  rcases YH hL hm with q | ⟨M,q,r⟩
  ·simp only [jP]at q;subst q;simp
  ·exact this m (h.mem M q m r)
def fO(b:Bool)(L:List Int):List Int:=alt b ((sortI L).take (2*(L.length/2)))
def eE(L:List Int):List Int:=(sortI L).drop (2*(L.length/2))
theorem Aj(b:Bool)(L:List Int):(fO b L).length=L.length/2:=Gq b _ _ (by rw [tT,yX];omega)
theorem OA(L:List Int):(eE L).length=L.length - 2*(L.length/2):=by unfold eE;rw [List.length_drop,yX]
theorem arC(L:List Int)(x:Int):(cQ L x≤cQ (eE L) x+2*cQ (fO true L) x∧cQ (eE L) x+2*cQ (fO true L) x≤cQ L x+1)∧(cQ L x - 1≤cQ (eE L) x+2*cQ (fO false L) x∧cQ (eE L) x+2*cQ (fO false L) x≤cQ L x):=by
 have e:cQ L x=cQ ((sortI L).take (2*(L.length/2))) x+cQ (eE L) x:=by
  rw [← Vq,eE,qU];exact(au0 (sortI_perm L) x).symm
 have q:=Xc ((sortI L).take (2*(L.length/2))) x ((VJ L).sublist (LH _ _));rw [e];unfold cQ fO at *;omega
theorem an3{b:Bool}{L:List Int}{n:Int}(h:n∈fO b L):n∈L:=(sortI_perm L).mem_iff.mp (Ht ((KR _ _).subset h))
theorem ah9{L:List Int}{n:Int}(h:n∈eE L):n∈L:=(sortI_perm L).mem_iff.mp (List.mem_of_mem_drop h)
theorem HV.arB{pre post:List (List Int)}{L:List Int}(h:HV k (pre++L::post) ts ov un row)(hk:1≤k)(hL:2*k≤L.length)(b:Bool){cG:List Int}(hl:cG.length=(pre++eE L::dJ (fO b L) post).length)(ht:∀t∈cG,t=0∨t=1) :
  HV k (pre++eE L::dJ (fO b L) post) cG (ov+if b then 2 ^ pre.length else 0) (un+if b then 0 else 2 ^ pre.length) row:=by
 obtain⟨hs,h1,h2⟩:=h.PY;have pp:=HJ pre.length;have kl:=Aj b L;have rl:=OA L;have ew:dD (eE L::dJ (fO b L) post)=dD (L::post):=by
  simp only [dD];rw [SX,kl,rl];omega
 refine⟨hl,ht,?_,fun x=>?_,fun M hM n hn=>?_,?_,?_,?_,?_⟩
 ·rw [ME,ew,← ME];exact h.wt
 ·have q:=h.cnt x;have hc:=arC L x;rw [Vm]at q ⊢;have ec:eI (eE L::dJ (fO b L) post) x=cQ (eE L) x+2*cQ (fO b L) x+2*eI post x:=by
   simp only [eI];rw [Vn];omega
  have ed:eI (L::post) x=cQ L x+2*eI post x:=rfl;rw [ed]at q;rw [ec];cases b with
  | true =>
   simp only [dP];have a1:(2:Int) ^ pre.length*(cQ L x+2*eI post x)≤2 ^ pre.length*(cQ (eE L) x+2*cQ (fO true L) x+2*eI post x):=LM (by omega) (by omega);have a2:(2:Int) ^ pre.length*(cQ (eE L) x+2*cQ (fO true L) x+2*eI post x)≤2 ^ pre.length*(cQ L x+2*eI post x+1):=LM (by omega) (by omega);rw [LO _ _ 1,Int.mul_one]at a2;omega
  | false =>
   simp only [iD,eF];have a1:(2:Int) ^ pre.length*(cQ (eE L) x+2*cQ (fO false L) x+2*eI post x)≤2 ^ pre.length*(cQ L x+2*eI post x):=LM (by omega) (by omega);have a2:(2:Int) ^ pre.length*(cQ L x+2*eI post x - 1)≤2 ^ pre.length*(cQ (eE L) x+2*cQ (fO false L) x+2*eI post x):=LM (by omega) (by omega);rw [Int.mul_sub,Int.mul_one]at a2;omega
 ·rcases iU.mp hM with q | q
  ·exact h.mem M (kR _ q) n hn
  ·rcases dZ.mp q with q | q
   ·subst q;exact h.mem L (by simp) n (ah9 hn)
   ·rcases Qe q hn with r | ⟨K,r,s⟩
    ·exact h.mem L (by simp) n (an3 r)
    ·exact h.mem K (by simp [r]) n s
 ·obtain⟨g1,g2,rfl,l1,q2,q3⟩:=Yp h1
  match g2,q2 with
  | g::gs,q2 =>
   refine⟨g1++(g+1)::wJ gs,q3 _ _ (by rw [ew];exact qZ _) ⟨by have:=q2.1;omega,?_,Yq _ q2.2.2⟩,?_⟩
   ·rw [SX,kl];have:=q2.2.1;rw [Int.add_mul];omega
   ·have ep:jF (wJ gs)=jF gs:=OI 0 gs;rw [Po]at h2 ⊢;simp only [jF]at h2 ⊢;rw [ep,l1]at *;have:(2:Int) ^ pre.length*(g+1+2*jF gs)=2 ^ pre.length*(g+2*jF gs)+2 ^ pre.length:=by
     rw [show g+1+2*jF gs=g+2*jF gs+1 by omega,LO,Int.mul_one]
    rw [this];cases b <;> simp <;> omega
 ·have nk:fO b L≠[]:=fun e=>by rw [e]at kl;simp at kl;omega
  have:∀(pre:List (List Int)),LN (pre++L::post)→LN (pre++eE L::dJ (fO b L) post):=by
   intro pre
   induction pre with
   | nil=>intro q;exact SA (av3 _ _) (Yn nk (Ih q))
   | cons K pre ih=>intro q;exact SA (by simp) (ih (Ih q))
  exact this pre h.last
 ·have:=h.HL;cases b <;> simp <;> omega
 ·have:=h.uD;cases b <;> simp <;> omega
end
def iK(n:Nat):Nat:=if h:n=0 then 0 else iK (n/2)+1
termination_by n
decreasing_by omega
theorem KO:iK 0=0:=by rw [iK];simp
theorem xS{n:Nat}(h:0<n):iK n=iK (n/2)+1:=by rw [iK,dif_neg (by omega)]
theorem avN:∀{m n:Nat},m≤n→iK m≤iK n:=by
 intro m
 induction m using Nat.strongRecOn with
 | ind m ih =>
  intro n h
  by_cases hm:m=0
  ·subst hm;rw [KO];exact vH _
  ·rw [xS (n:=m) (by omega),xS (n:=n) (by omega)];have:=ih (m/2) (by omega) (n:=n/2) (by omega);omega
theorem Wf(n:Nat):iK (2 ^ n)=n+1:=by
 induction n with
 | zero=>rw [xS (by decide)];simp [KO]
 | succ n ih =>
  have:0<2 ^ n:=Nat.two_pow_pos n;rw [xS (by rw [Hc];omega),Hc,Nat.mul_div_cancel _ (by decide),ih]
theorem Pn{k:Nat}(hk:1≤k):∀{ls:List (List Int)} {hs:List Int} {T:Nat},HB k hs ls→dD ls≤T→jF hs≤((iK (T/(2*k))*(T/(2*k)):Nat):Int)
 | [],[],T,_,_=>by simp only [jF];omega
 | L::ls,h::hs,T,⟨h0,h1,h2⟩,hw=>by
  have w0:=GH ls;have hw2:dD ls≤((T/2:Nat):Int):=by simp only [dD]at hw;omega
  have ih:=Pn hk h2 hw2;have ed:T/2/(2*k)=T/(2*k)/2:=by rw [Nat.div_div_eq_div_mul,Nat.div_div_eq_div_mul,Nat.mul_comm]
  rw [ed]at ih;have hp:h≤((T/(2*k):Nat):Int):=by
   obtain⟨n,rfl⟩:=vN h0;have:n*(2*k)≤T:=by
    have h3:((n*(2*k):Nat):Int)≤T:=by
     simp only [dD]at hw;have:((n*(2*k):Nat):Int)=(n:Int)*(2*(k:Int)):=by push_cast;rfl
     rw [this];omega
    omega
   have:=(Nat.le_div_iff_mul_le (show 0<2*k by omega)).mpr this;omega
  generalize T/(2*k)=p at ih hp;simp only [jF]
  by_cases p0:p=0
  ·subst p0;simp [KO]at ih ⊢;omega
  ·rw [xS (n:=p) (by omega)];have e1:2*(iK (p/2)*(p/2))≤iK (p/2)*p:=by
    rw [← Nat.mul_assoc,Nat.mul_comm 2,Nat.mul_assoc];exact Nat.mul_le_mul_left _ (by omega)
   rw [Nat.add_mul,Nat.one_mul];omega
 | [],_::_,_,h,_=>h.elim
 | _::_,[],_,h,_=>h.elim
theorem YT:∀{ls:List (List Int)} {T:Nat},LN ls→dD ls≤T→ls.length≤iK T
 | [],_,_,_=>vH _
 | [L],T,h,hw=>by
  have:0<L.length:=List.length_pos_iff.mpr h;simp only [dD]at hw;rw [xS (by omega)];simp
 | L::M::ls,T,h,hw=>by
  have q:=YT (ls:=M::ls) (T:=T/2) h (by simp only [dD]at hw ⊢;omega);have pos:0<T:=by
   have:0<iK (T/2):=by simp only [eA]at q;omega
   by_cases t:T=0
   ·subst t;simp [KO]at this
   ·omega
  rw [xS pos,eA];omega
def kU(r:Rn):List Int:=[r.1,r.2]
def DD:List Int→Rn
 | [a,b]=>(a,b)
 | _=>(0,0)
def kE(rs:List Rn):List Rn:=(oQ (rs.map kU)).map DD
theorem Mt(rs:List Rn):(kE rs).map kU=oQ (rs.map kU):=by
 unfold kE;rw [tS];have h:∀t∈oQ (rs.map kU),(kU ∘ DD) t=id t:=fun t ht=>by
  obtain⟨r,_,rfl⟩:=qX.mp ((NO (rs.map kU)).mem_iff.mp ht);rfl
 rw [RX h,List.map_id]
theorem Va(rs:List Rn):(oQ (rs.map kU)).map tI=aP (kE rs):=by rw [← Mt,tS];rfl
theorem UG:∀rs:List Rn,vY (aP rs)=some (rs.map kU)
 | []=>rfl
 | r::rs=>by
  show(NA (dI r)).bind (fun t=>(vY (aP rs)).map fun ts=>t::ts)=_;rw [UG rs];simp [NA,dI,intsOf,kU]
theorem Ms(rs:List Rn):(kE rs).length=rs.length:=by unfold kE;rw [List.length_map,agQ,List.length_map]
theorem agR(rs:List Rn):kE (kE rs)=kE rs:=by
 have h:oQ (rs.map kU)=oQ (oQ (rs.map kU)):=Mp (yE _) (Mq _);show(oQ ((kE rs).map kU)).map DD=_;rw [Mt,← h];rfl
def desc(rs:List Rn):List Int:=(sortI (rs.map (·.2))).reverse
def taken(rs:List Rn)(keep:Nat):Int:=if keep<rs.length then(desc rs).getD keep 0 else 0
@[simp] theorem az1{α:Type}(x y z u v:α)(l:List α):gU (x::y::z::u::v::l) 4=some v:=RK _ 4
theorem aiB{Ω:aI}{k:Nat}{rs:List Rn}(g:Ω[k]? = some (.lst (aP rs))):res Ω 6 (.aD k)=some (.lst (aP rs)):=by
 have h:(aP rs).all (cD 8)=true:=by simp [aP,dI,cD]
 rw [Nx g,YJ _ h];rfl
def iJ:List Rn→Int→Int
 | [],_=>0
 | r::rs,n=>if r.1=n then r.2 else iJ rs n
def jX:List Rn→Int→Int→List Rn
 | [],n,t=>[(n,t)]
 | r::rs,n,t=>if r.1=n then(r.1,r.2+t)::rs else r::jX rs n t
def UX:List Rn→Int
 | []=>0
 | r::rs=>r.2+UX rs
theorem Vo:∀{rs:List Rn} {r:Rn},(rs.map (·.1)).Nodup→r∈rs→iJ rs r.1=r.2
 | [],r,_,h=>by simp at h
 | s::rs,r,nd,h=>by
  rw [fE,vJ]at nd
  rcases dZ.mp h with e | e
  ·subst e;simp [iJ]
  ·have:s.1≠r.1:=fun z=>nd.1 (by rw [z];exact List.mem_map_of_mem e);simp only [iJ,if_neg this];exact Vo nd.2 e
theorem Vp:∀(rs:List Rn) (n t m:Int),iJ (jX rs n t) m=iJ rs m+if m=n then t else 0
 | [],n,t,m=>by
  simp only [jX,iJ]
  by_cases h:n=m
  ·rw [if_pos h,if_pos h.symm];omega
  ·rw [if_neg h,if_neg (cA h)];omega
 | r::rs,n,t,m=>by
  simp only [jX];split
  ·rename_i e;simp only [iJ]
   by_cases h:r.1=m
   ·rw [if_pos h,if_pos h,if_pos (by omega)]
   ·rw [if_neg h,if_neg h,if_neg (by omega)];omega
  ·rename_i e;simp only [iJ]
   by_cases h:r.1=m
   ·rw [if_pos h,if_pos h,if_neg (by omega)];omega
   ·rw [if_neg h,if_neg h,Vp rs n t m]
theorem Ah:∀(rs:List Rn) (n t m:Int),m∈(jX rs n t).map (·.1)→m∈rs.map (·.1)∨m=n
 | [],n,t,m,h=>by simp only [jX,fE,BR,jP]at h;exact .inr h
 | r::rs,n,t,m,h=>by
  simp only [jX]at h;split at h
  ·exact .inl (by simpa using h)
  ·simp only [fE,dZ]at h ⊢
   rcases h with h | h
   ·exact .inl (.inl h)
   ·rcases Ah rs n t m h with q | q
    ·exact .inl (.inr q)
    ·exact .inr q
theorem YC:∀(rs:List Rn) (n t:Int),(rs.map (·.1)).Nodup→((jX rs n t).map (·.1)).Nodup
 | [],n,t,_=>by simp [jX]
 | r::rs,n,t,nd=>by
  simp only [jX];split
  ·simpa using nd
  ·rename_i e;rw [fE,vJ]at nd ⊢;refine⟨fun h=>?_,YC rs n t nd.2⟩
   rcases Ah rs n t r.1 h with q | q
   ·exact nd.1 q
   ·exact e q
theorem Qq:∀(rs:List Rn) (n t:Int),(jX rs n t).length≤rs.length+1
 | [],n,t=>by simp [jX]
 | r::rs,n,t=>by
  simp only [jX];split
  ·simp
  ·have:=Qq rs n t;simp only [eA];omega
theorem Mr(rs:List Rn):(kE rs).Perm rs:=by
 have h:=(NO (rs.map kU)).map DD;rw [tS]at h;have e:rs.map (DD ∘ kU)=rs:=by
  have:∀r∈rs,(DD ∘ kU) r=id r:=fun r _=>rfl;rw [RX this,List.map_id]
 rw [e]at h;exact h
structure az9(keep:Nat)(rs:List Rn)(YK:Int)(ws:List Rn)(many:Int):Prop where
 nd:(rs.map (·.1)).Nodup
 pos:∀r∈rs,1≤r.2
 len:rs.length≤keep
 lo:0≤YK
 sum:YK*((keep:Int)+1)+UX rs≤many
 le:∀n,iJ rs n≤iJ ws n
 ge:∀n,iJ ws n≤iJ rs n+YK
 wnd:(ws.map (·.1)).Nodup
 aw6:∀r∈ws,1≤r.2
 wsum:UX ws=many
open PyProof.Rows (step_dedup)
def encD(rs:List Rn):List (Key×A):=rs.map fun r=>(.inl r.1,.int r.2)
theorem aa6{q:Key×A}{aB:List (Key×A)}{k:Key}(h:q.1=k):mW (q::aB) k=some q.2:=by simp [mW,h]
theorem aa5{q:Key×A}{aB:List (Key×A)}{k:Key}(h:q.1≠k):mW (q::aB) k=mW aB k:=by simp [mW,h]
theorem Kz:∀(rs:List Rn) (n:Int),(mW (encD rs) (.inl n)).getD (.int 0) = .int (iJ rs n)
 | [],n=>rfl
 | r::rs,n=>by
  have ih:=Kz rs n;show(mW ((.inl r.1,.int r.2)::encD rs) (.inl n)).getD (.int 0) = .int (iJ (r::rs) n)
  by_cases h:r.1=n
  ·rw [aa6 (by rw [h])];simp [iJ,h]
  ·rw [aa5 (by intro z;exact h (by simpa using z)),ih];simp [iJ,h]
theorem ai7{q:Key×A}{aB:List (Key×A)}{k:Key}{a:A}(h:q.1≠k):pH (q::aB) k a=q::pH aB k a:=by
 unfold pH;have e:((q::aB).any fun kv=>decide (kv.1=k))=aB.any fun kv=>decide (kv.1=k):=by simp [h]
 rw [e];split
 ·simp [h]
 ·simp
theorem Ot:∀(rs:List Rn) (n t:Int),(rs.map (·.1)).Nodup→pH (encD rs) (.inl n) (.int (iJ rs n+t))=encD (jX rs n t)
 | [],n,t,_=>by simp [encD,pH,jX,iJ]
 | r::rs,n,t,nd=>by
  rw [fE,vJ]at nd;have ih:=Ot rs n t nd.2;show pH ((.inl r.1,.int r.2)::encD rs) (.inl n) _=_
  by_cases h:r.1=n
  ·subst h;have em:∀(l:List Rn),r.1∉l.map (·.1)→(encD l).map (fun kv=>if kv.1=(.inl r.1:Key)then(kv.1,A.int (r.2+t))else kv)=encD l:=by
    intro l
    induction l with
    | nil=>intro _;rfl
    | cons s l An =>
     intro hn;simp only [fE,dZ,not_or]at hn;have hs:¬s.1=r.1:=fun z=>hn.1 z.symm;have:=An hn.2;simp only [encD,fE]at this ⊢;rw [this];simp [hs]
   have e2:=em rs nd.1;simp only [pH,iJ,if_pos,jX];simp [encD]at e2 ⊢;exact e2
  ·rw [ai7 (by intro z;exact h (by simpa using z))];simp only [iJ,jX,if_neg h,ih];rfl
theorem aoF(rs:List Rn):(encD rs).map EB=aP rs:=by simp [encD,EB,kA,aP,dI]
theorem lL{Ω Ω':aI}{a:A}(h:Ω'.length=Ω.length):trim Ω (some (.ok a,Ω'))=aL a Ω':=by
 simp only [trim];split
 ·rename_i hc;rw [← h,List.take_length]at hc;rw [hc.1]
 ·rfl
theorem Lm{Ω:aI}{c:Cell}:trim Ω (some (.ok (.aD Ω.length),Ω++[c]))=aL (.aD Ω.length) (Ω++[c]):=by
 simp [trim,Cl]
def cO(ls:List (List Int)):List A:=ls.map fun L=>A.lst (L.map A.int)
abbrev jK(keep many tk:Int)(ls:List (List Int))(ts:List Int)(ov un:Int):List (Str×Fd):=[("keep",.val (.int keep)),("many",.val (.int many)),("taken",.val (.int tk)),("levels",.lst (cO ls)),("turns",.lst (ts.map A.int)),("over",.val (.int ov)),("under",.val (.int un))]
abbrev aW(keep many tk:Int)(ls:List (List Int))(ts:List Int)(ov un:Int):Cell := .ins "Halves" (jK keep many tk ls ts ov un)
theorem sG{Ω:aI}{p:Nat}{c:Cell}(h:Ω[p]? = some c):Ω.set p c=Ω:=by
 apply BU;intro j
 by_cases hj:p=j
 ·subst hj;rw [gX (bO.mp h).1,h]
 ·rw [fY hj]
theorem anI{i:Nat}{f:Str}{g:MS}{ρ ρ':Ev}{Ω:aI}{s:Nat}{cls:Str}{fs:List (Str×Fd)}{fd fd':Fd}{c c':Cell}(h1:ρ[i]? = some (aC s))(h2:Ω[s]? = some (.ins cls fs))(h3:fs.lookup f=some fd)(h4:fd.cell=some c)
  (h5:g ρ (dX Ω s cls f fs c)=dU ρ' (dX Ω s cls f fs c')) (h6:fd'.cell=some c') (h7:fd'=fd∨oN Ω.length fd') (h8:∀(j:Nat) (d:A),ρ'[j]? = some (some d)→ρ[j]? = some (some d)∨Cl Ω.length d):sH i f g ρ Ω=dU ρ' (Ω.set s (.ins cls (putD f fd' fs))):=by
 have hs:s<Ω.length:=(bO.mp h2).1;refine Nu (r:=(.nx,ρ',Ω.set s (.ins cls (putD f fd' fs)))) ⟨s,cls,fs,fd,c,Ω.set s (.ins cls (putD f (.val (.aD Ω.length)) fs)),fd',c',h1,h2,h3,h4,h5,by simp,gX hs,h6,fun k x hk hx => .inl (by rw [fY (cA hk)]at hx;exact hx),h7,h8,rfl,by rw [mT]⟩
theorem pQ{Ω Ω':aI}{f:Ev→Mo A}{ρ:Ev}{a:A}(h:f ρ Ω=aL a Ω'):kF f ρ Ω=dU ρ Ω':=by
 unfold kF;rw [eP h]
theorem oR{Ω:aI}{p:Nat}{c:Cell}(hp:p<Ω.length):(Ω.set p c)[p]? = some c:=gX hp
section
variable{Ω Ω':aI}{p:Nat}{keep many tk ov un:Int}{ls:List (List Int)}{ts:List Int}
theorem wK(h:Ω[p]? = some (aW keep many tk ls ts ov un)){ρ:Ev}(h0:(ρ[0]?).join=(aC p)):lM ["Halves"] 0 "levels" ρ Ω=some (p,("Halves" : Str),jK keep many tk ls ts ov un,Fd.lst (cO ls)):=by
 unfold lM;rw [h0];simp only [h];rfl
theorem XT(h:Ω[p]? = some (aW keep many tk ls ts ov un)){ρ:Ev}(h0:(ρ[0]?).join=(aC p)):lM ["Halves"] 0 "turns" ρ Ω=some (p,("Halves" : Str),jK keep many tk ls ts ov un,Fd.lst (ts.map A.int)):=by
 unfold lM;rw [h0];simp only [h];rfl
theorem Om(bJ:List (List Int)):putD "levels" (.lst (cO bJ)) (jK keep many tk ls ts ov un)=jK keep many tk bJ ts ov un:=rfl
theorem Ol(cG:List Int):putD "turns" (.lst (cG.map A.int)) (jK keep many tk ls ts ov un)=jK keep many tk ls cG ov un:=rfl
theorem ai2(x:Int):putD "over" (.val (.int x)) (jK keep many tk ls ts ov un)=jK keep many tk ls ts x un:=rfl
theorem ai0(x:Int):putD "under" (.val (.int x)) (jK keep many tk ls ts ov un)=jK keep many tk ls ts ov x:=rfl
theorem ai3(x:Int):putD "many" (.val (.int x)) (jK keep many tk ls ts ov un)=jK keep x tk ls ts ov un:=rfl
theorem ai1(x:Int):putD "taken" (.val (.int x)) (jK keep many tk ls ts ov un)=jK keep many x ls ts ov un:=rfl
theorem au2(n:Nat)(ls:List (List Int)):oN n (.lst (cO ls)):=by
 show gC n (cO ls);refine BB fun a ha=>?_;obtain⟨L,_,rfl⟩:=qX.mp ha;simp only [Cl];exact BB fun a ha=>by obtain⟨x,_,rfl⟩:=qX.mp ha;simp only [Cl]
theorem tG{f:Str}{a:A}{ρ:Ev}{i:Nat}(h:Ω[p]? = some (aW keep many tk ls ts ov un))(h0:(ρ[i]?).join=(aC p))(hl:(jK keep many tk ls ts ov un).lookup f=some (.val a)):gY ["Halves"] f (dG i) ρ Ω=aL a Ω:=by
 simp [h0,h,hl]
theorem nD{m:Str}{F:List A→Mo A}{n i:Nat}{das as:List A}{fs:Ev→Mo (List A)}{ρ:Ev}{a:A}(h:Ω[p]? = some (aW keep many tk ls ts ov un))(hl:(jK keep many tk ls ts ov un).lookup m=none)(h0:(ρ[i]?).join=(aC p))(ha:fs ρ Ω=aL as Ω)(hn:as.length+1+das.length=n)
  (hF:F (.aD p::(as++das)) Ω=aL a Ω'):eM m [("Halves",dW n das F)] (dG i) fs ρ Ω=aL a Ω':=by
 unfold eM;rw [bZ (x:=A.aD p) (Ω':=Ω) (by simp [h0])];have lk:List.lookup ("Halves" : Str) [(("Halves" : Str),dW n das F)]=some (dW n das F):=by simp [List.lookup]
 simp only [Dj,h,lk,hl];rw [bZ ha];simp only [dW];rw [if_pos (by simp only [eA];omega)];exact hF
theorem uK{ρ:Ev}{fs:List (Str×Fd)}{f:Str}{fv:Ev→Mo A}{b:A}(h0:(ρ[0]?).join=(aC p))(h:Ω[p]? = some (.ins "Halves" fs))(hl:fs.length<1000)(hv:fv ρ Ω=aL b Ω):nT ["Halves"] f aT fv ρ Ω=dU ρ (Ω.set p (.ins "Halves" (putD f (.val b) fs))):=by
 unfold nT;rw [eP hv];rw [eP (x:=A.aD p) (Ω':=Ω) (by simp [h0])];simp only [h];rw [if_pos ⟨by simp,hl⟩]
theorem UZ{f cls:Str}{fs:List (Str×Fd)}{ds:List A}{fi:Ev→Mo A}{n:Nat}{a:A}{ρ:Ev}(o:lM ["Halves"] 0 f ρ Ω=some (p,cls,fs,.lst ds))(hi:fi ρ Ω=aL (.int n) Ω)(hn:n<ds.length):xH ["Halves"] 0 f fi a ρ Ω=dU ρ (Ω.set p (.ins cls (putD f (.lst (ds.set n a)) fs))):=by
 have ix:nV ds.length (n:Int)=some n:=by simp [nV,hn]
 unfold xH;rw [o];simp only [hi,ix]
theorem Am{f cls:Str}{fs:List (Str×Fd)}{ds:List A}{fi:Ev→Mo A}{n:Nat}{a:A}{ρ:Ev}(o:lM ["Halves"] 0 f ρ Ω=some (p,cls,fs,.lst ds))(hi:fi ρ Ω=aL (.int n) Ω)(hn:ds[n]? = some a):mY ["Halves"] 0 f fi ρ Ω=aL a Ω:=by
 have ix:gU ds (n:Int)=some a:=by rw [tM];exact hn
 unfold mY;rw [o];simp only [hi,ix]
theorem DA{ρ:Ev}{i:Nat}{a:A}(h:(ρ[i]?).join=some a):dG i ρ Ω=aL a Ω:=by simp [h]
def nU(l:Nat)(ls:List (List Int)):List (List Int):=ls++List.replicate (l+1 - ls.length) []
def zH(l:Nat)(ts:List Int):List Int:=ts++List.replicate (l+1 - ts.length) 0
theorem YY(s:List Int):∀(l:Nat) (ls:List (List Int)),eR s l ls=(nU l ls).set l (((nU l ls)[l]?.getD [])++s)
 | 0,[]=>by simp [eR,dJ,nU]
 | 0,L::ls=>by simp [eR,dJ,nU]
 | l+1,[]=>by
  rw [eR,YY s l []];simp [nU,Yi]
 | l+1,L::ls=>by
  rw [eR,YY s l ls];simp [nU]
theorem YX:∀(l:Nat) (ts:List Int),gR l ts=zH l ts
 | 0,[]=>by simp [gR,wJ,zH]
 | 0,t::ts=>by simp [gR,wJ,zH]
 | l+1,[]=>by rw [gR,YX l []];simp [zH,Yi]
 | l+1,t::ts=>by rw [gR,YX l ts];simp [zH]
theorem Qv(s:A)(l:Nat):∀(m n:Nat) (Ω:aI) (ls:List (List Int)) (ts:List Int),Ω[p]? = some (aW keep many tk ls ts ov un)→m=l+1 - ls.length→m<n→ls.length+m≤3000→ts.length=ls.length →
  jW FG RH n [aC p,some s,aA l] Ω=dU [aC p,some s,aA l] (Ω.set p (aW keep many tk (ls++List.replicate m []) (ts++List.replicate m 0) ov un))
 | 0,n,Ω,ls,ts,h,hm,hn,hl,ht=>by
  obtain⟨n,rfl⟩:∃j,n=j+1:=⟨n - 1,by omega⟩;have o:=wK (ρ:=[aC p,some s,aA l]) h rfl;have hc:FG [aC p,some s,aA l] Ω=aL false Ω:=by
   have bG:(l:Int)<(ls.length:Int):=by omega
   simp [FG,o,cO];omega
  rw [QH hc];simp only [List.replicate_zero,oY];rw [sG h]
 | m+1,n,Ω,ls,ts,h,hm,hn,hl,ht=>by
  obtain⟨n,rfl⟩:∃j,n=j+1:=⟨n - 1,by omega⟩;have hp:p<Ω.length:=(bO.mp h).1;have o:=wK (ρ:=[aC p,some s,aA l]) h rfl;have hc:FG [aC p,some s,aA l] Ω=aL true Ω:=by
   simp [FG,o,cO];omega
  have q1:(sH 0 "levels" (kF (pG tE (gY ["Halves"] "levels" aT) (aH (jD false a0) a0)))) [aC p,some s,aA l] Ω=dU [aC p,some s,aA l] (Ω.set p (aW keep many tk (ls++[[]]) ts ov un)):=by
   have hz:(cO ls).length<sizeLine:=by rw [qK];simp [cO];omega
   have lf:=DY (c := .lst (cO ls)) o;have la:=zO (c := .lst (cO ls)) o;refine anI (fd := .lst (cO ls)) (fd' := .lst (cO (ls++[[]]))) (c := .lst (cO ls)) (c' := .lst (cO (ls++[[]]))) rfl h rfl rfl ?_ rfl (.inr (au2 _ _)) (fun j d hj => .inl hj);refine pQ (a := .bB) ?_;have hi:zU (dX Ω p "Halves" "levels" (jK keep many tk ls ts ov un) (.lst (cO ls))) (.aD Ω.length):=OX (jV la);have jI:rU (dX Ω p "Halves" "levels" (jK keep many tk ls ts ov un) (.lst (cO ls))) (.aD Ω.length)=some (Ω.length,cO ls):=QQ la;unfold pG;rw [bZ lf];have e2:(dX Ω p "Halves" "levels" (jK keep many tk ls ts ov un) (.lst (cO ls))).set Ω.length (.lst (cO ls++[.lst []]))=dX Ω p "Halves" "levels" (jK keep many tk ls ts ov un) (.lst (cO (ls++[[]]))):=by
    unfold dX;rw [List.set_append_right _ _ (by simp)];simp [cO]
   simp [hi,jI,hz,e2]
  have h1:(Ω.set p (aW keep many tk (ls++[[]]) ts ov un))[p]? = some (aW keep many tk (ls++[[]]) ts ov un):=oR hp;have q2:(kF (GP ["Halves"] 0 "turns" eB)) [aC p,some s,aA l] (Ω.set p (aW keep many tk (ls++[[]]) ts ov un))=dU [aC p,some s,aA l] (Ω.set p (aW keep many tk (ls++[[]]) (ts++[0]) ov un)):=by
   have o2:=XT (ρ:=[aC p,some s,aA l]) h1 rfl;have hz:ts.length<sizeLine:=by rw [qK];omega
   refine pQ (a := .bB) ?_;unfold GP;rw [o2];simp only [cI,V2.ret,fW];rw [if_pos hz,mT,show ts.map A.int++[A.int 0]=(ts++[0]).map A.int by simp,Ol]
  have q3:RH [aC p,some s,aA l] Ω=dU [aC p,some s,aA l] (Ω.set p (aW keep many tk (ls++[[]]) (ts++[0]) ov un)):=by
   unfold RH;rw [bP q1,q2]
  rw [JZ hc q3,Qv s l m n _ (ls++[[]]) (ts++[0]) (oR hp) (by simp;omega) (by omega) (by simp;omega) (by simp [ht]),mT];simp only [fZ,List.singleton_append,← Yi]
theorem Yh(s:List Int)(l:Nat)(h:Ω[p]? = some (aW keep many tk ls ts ov un))(hl:l<900)(hls:ls.length≤900)(ht:ts.length=ls.length)(hz:∀L∈ls,L.length+s.length≤100000)(hs:s.length≤100000) :
  GF [.aD p,.lst (s.map A.int),.int l] Ω=aL (.bB) (Ω.set p (aW keep many tk (eR s l ls) (gR l ts) ov un)):=by
 have hp:p<Ω.length:=(bO.mp h).1;have q:=Qv (.lst (s.map A.int)) l (l+1 - ls.length) 1000000 Ω ls ts h rfl (by omega) (by omega) ht;have e1:ls++List.replicate (l+1 - ls.length) []=nU l ls:=rfl;have e2:ts++List.replicate (l+1 - ls.length) 0=zH l ts:=by rw [← ht];rfl
 rw [e1,e2]at q;have pl:l<(nU l ls).length:=by unfold nU;simp;omega
 have gz:∀L,(nU l ls)[l]? = some L→L.length+s.length≤100000:=fun L hL=>by
  have:=kQ hL;unfold nU at this
  rcases iU.mp this with r | r
  ·exact hz L r
  ·have:=(List.mem_replicate.mp r).2;subst this;simpa using hs
 have eg:(nU l ls)[l]? = some ((nU l ls)[l]):=gK pl;have eL:=YY s l ls;rw [eg]at eL;simp only [Option.getD_some]at eL;have gz':=gz _ eg;have hT:=YX l ts;generalize (nU l ls)[l]=L at eg eL gz';generalize nU l ls=lp at q pl eg eL;rw [hT,eL];generalize zH l ts=tp at q;have h1:(Ω.set p (aW keep many tk lp tp ov un))[p]? = some (aW keep many tk lp tp ov un):=oR hp;have o:=wK (ρ:=[aC p,iN (s.map A.int),aA l]) h1 rfl;have ea:gU (cO lp) (l:Int)=some (.lst (L.map A.int)):=by rw [tM];unfold cO;rw [List.getElem?_map,eg];rfl
 have ix:nV (cO lp).length (l:Int)=some l:=by
  have:l<(cO lp).length:=by simpa [cO]using pl
  simp [nV,this]
 have es:(cO lp).set l (.lst (L.map A.int++s.map A.int))=cO (lp.set l (L++s)):=by simp [cO]
 show trim Ω (cS (Gf [aC p,iN (s.map A.int),aA l] Ω))=_;unfold Gf;rw [bP (ρ1:=[aC p,iN (s.map A.int),aA l]) q];have hsz:L.length+s.length≤sizeLine:=by rw [qK];omega
 have r1:(aF eN (mY ["Halves"] 0 "levels" cC) bL) [aC p,iN (s.map A.int),aA l] (Ω.set p (aW keep many tk lp tp ov un))=aL (.lst (L.map A.int++s.map A.int)) (Ω.set p (aW keep many tk lp tp ov un)):=by
  simp [o,ea,QE,hsz]
 have r2:bS (aF eN (mY ["Halves"] 0 "levels" cC) bL) (xH ["Halves"] 0 "levels" cC) [aC p,iN (s.map A.int),aA l] (Ω.set p (aW keep many tk lp tp ov un))=dU [aC p,iN (s.map A.int),aA l] (Ω.set p (aW keep many tk (lp.set l (L++s)) tp ov un)):=by
  unfold bS;rw [eP r1,UZ o (n:=l) (DA rfl) (by simpa [cO]using pl),es,Om,mT]
 rw [r2];simp only [cS];exact lL (by simp)
end
def bK:List (List Int)→Nat
 | []=>0
 | L::ls=>L.length+bK ls
theorem Lp(s:List Int):∀ls,bK (dJ s ls)=bK ls+s.length
 | []=>by simp [dJ,bK]
 | L::ls=>by simp only [dJ,bK,fX];omega
theorem NC(s:List Int):∀(n:Nat) (ls:List (List Int)),bK (eR s n ls)=bK ls+s.length
 | 0,ls=>Lp s ls
 | n+1,[]=>by
  show([]:List Int).length+bK (eR s n [])=_;rw [NC s n []];simp [bK]
 | n+1,L::ls=>by rw [eR,bK,bK,NC s n ls];omega
theorem UI:∀(a b:List (List Int)),bK (a++b)=bK a+bK b
 | [],b=>by simp [bK]
 | L::a,b=>by rw [tU,bK,bK,UI a b];omega
theorem GR:∀{ls:List (List Int)} {L:List Int},L∈ls→L.length≤bK ls
 | M::ls,L,h=>by
  rw [bK]
  rcases dZ.mp h with e | e
  ·subst e;omega
  ·have:=GR e;omega
theorem Wg{n:Nat}(h:n≤2 ^ 40):iK n≤41:=by
 have:=avN h;rw [Wf]at this;exact this
section
variable{Ω Ω':aI}{p:Nat}{keep many tk ov un:Int}{ls:List (List Int)}{ts:List Int}{row:List Rn}
theorem HV.short(h:HV keep ls ts ov un row)(hs:bI row≤1000000000000):ls.length≤41:=by
 have w0:=GH ls;have q:=YT (ls:=ls) (T:=(dD ls).toNat) h.last (by omega);have:=h.wt;exact kN q (Wg (by omega))
theorem awT(L:List Int)(b:Bool)(Ω:aI)(h:L.length<4000) :
  Iz [.lst (L.map A.int),.int (if b then 0 else 1)] Ω=aL (.tup [.lst ((fO b L).map A.int),.lst ((eE L).map A.int)]) Ω:=by
 have e:(L.length:Int) - (L.length:Int)%2=((2*(L.length/2):Nat):Int):=by omega
 have p:=aj2 b ((sortI L).map A.int) (L.length/2) (by simp [yX];omega);have q:=auV ((sortI L).map A.int) (2*(L.length/2)) (by simp [yX];omega);rw [← List.map_take,Gp]at p;rw [← List.map_drop]at q;have h2:(2:Nat)≤sizeLine:=by decide
 have p':nB ((sortI L).map A.int) (some (if b=true then 0 else 1)) (some (2*((L.length:Int)/2))) (some 2)=(fO b L).map A.int:=by
  unfold fO;rw [← p];congr 1
 have q':AX ((sortI L).map A.int) (some (2*((L.length:Int)/2))) none=(eE L).map A.int:=by
  unfold eE;rw [← q];congr 1
 have e':(L.length:Int) - (L.length:Int)%2=2*((L.length:Int)/2):=by omega
 show trim Ω (cS (QV [iN (L.map A.int),aA (if b then 0 else 1),none,none] Ω))=_;have e1:QV [iN (L.map A.int),aA (if b then 0 else 1),none,none] Ω=some (.ret (.tup [.lst ((fO b L).map A.int),.lst ((eE L).map A.int)]),[iN (L.map A.int),aA (if b then 0 else 1),iN ((sortI L).map A.int),aA (2*((L.length:Int)/2))],Ω):=by
  simp [QV,EC,h,yX,e',h2,uO,p',q']
 rw [e1];simp only [cS];exact lL rfl
theorem awU{pre post:List (List Int)}{L:List Int}(b:Bool)(w:Int)(h:Ω[p]? = some (aW keep many tk (pre++L::post) ts ov un))(ht:ts.length=(pre++L::post).length)(hb:ts[pre.length]? = some (if b then 0 else 1))(hl:(pre++L::post).length≤50)(hz:bK (pre++L::post)≤3000) :
  SR [.aD p,.int pre.length,.int w] Ω=aL (.bB) (Ω.set p (aW keep many tk (pre++eE L::dJ (fO b L) post) ((gR (pre.length+1) ts).set pre.length (1 - if b then 0 else 1)) (ov+if b then w else 0) (un+if b then 0 else w))):=by
 have hp:p<Ω.length:=(bO.mp h).1;have hL:L.length≤3000:=kN (GR (ls:=pre++L::post) (by simp)) hz;have q0:=awT L b Ω (by omega);have kl:=Aj b L;have rl:=OA L;have gL:(cO (pre++L::post))[pre.length]? = some (.lst (L.map A.int)):=by simp [cO]
 have gt:(ts.map A.int)[pre.length]? = (aA (if b then 0 else 1)):=by rw [lF,hb];rfl
 have es:(cO (pre++L::post)).set pre.length (.lst ((eE L).map A.int))=cO (pre++eE L::post):=by simp [cO]
 have lt:pre.length<ts.length:=by rw [ht];simp
 have OZ:∀M∈pre++eE L::post,M.length+(fO b L).length≤100000:=fun M hM=>by
  have:M.length≤3000:=by
   rcases iU.mp hM with r | r
   ·exact kN (GR (ls:=pre++L::post) (by simp [r])) hz
   ·rcases dZ.mp r with r | r
    ·subst r;omega
    ·exact kN (GR (ls:=pre++L::post) (by simp [r])) hz
  omega
 have h1:(Ω.set p (aW keep many tk (pre++eE L::post) ts ov un))[p]? = some (aW keep many tk (pre++eE L::post) ts ov un):=oR hp;have q1:=Yh (fO b L) (pre.length+1) h1 (by simp at hl;omega) (by simp at hl ⊢;omega) (by rw [ht];simp) OZ (by omega);have el:eR (fO b L) (pre.length+1) (pre++eE L::post)=pre++eE L::dJ (fO b L) post:=by
  have:=Qw (fO b L) (pre++[eE L]) post;simpa using this
 rw [el,mT]at q1;generalize hK:fO b L=K at *;generalize hR:eE L=R at *;generalize hTu:gR (pre.length+1) ts=T at *;have lT:pre.length<T.length:=by rw [← hTu,DZ];omega
 have h2:(Ω.set p (aW keep many tk (pre++R::dJ K post) T ov un))[p]? = some (aW keep many tk (pre++R::dJ K post) T ov un):=oR hp;have eT:(T.map A.int).set pre.length (.int (1 - if b then 0 else 1))=(T.set pre.length (1 - if b then 0 else 1)).map A.int:=by simp
 have h3:(Ω.set p (aW keep many tk (pre++R::dJ K post) (T.set pre.length (1 - if b then 0 else 1)) ov un))[p]? = some (aW keep many tk (pre++R::dJ K post) (T.set pre.length (1 - if b then 0 else 1)) ov un):=oR hp;show trim Ω (cS (RI [aC p,aA pre.length,aA w,none,none] Ω))=_;have s1:(mY ["Halves"] 0 "turns" bL) [aC p,aA pre.length,aA w,none,none] Ω=aL (.int (if b then 0 else 1)) Ω:=Am (XT h rfl) (n:=pre.length) (DA rfl) gt;have s2:(mY ["Halves"] 0 "levels" bL) [aC p,aA pre.length,aA w,aA (if b then 0 else 1),none] Ω=aL (.lst (L.map A.int)) Ω:=Am (wK h rfl) (n:=pre.length) (DA rfl) gL;have e:RI [aC p,aA pre.length,aA w,none,none] Ω=dU [aC p,aA pre.length,aA w,aA (if b then 0 else 1),some (.tup [.lst (K.map A.int),.lst (R.map A.int)])] (Ω.set p (aW keep many tk (pre++R::dJ K post) (T.set pre.length (1 - if b then 0 else 1)) (ov+if b then w else 0) (un+if b then 0 else w))):=by
  unfold RI;rw [bP (ρ1:=[aC p,aA pre.length,aA w,aA (if b then 0 else 1),none]) (Ω':=Ω) (by unfold bS;rw [eP s1];simp)];rw [bP (ρ1:=[aC p,aA pre.length,aA w,aA (if b then 0 else 1),some (.tup [.lst (K.map A.int),.lst (R.map A.int)])]) (Ω':=Ω) (by
   unfold bS;rw [eP (x:=A.tup [.lst (K.map A.int),.lst (R.map A.int)]) (Ω':=Ω) (by
    unfold aS;rw [bZ (x:=[A.lst (L.map A.int),.int (if b then 0 else 1)]) (Ω':=Ω) (by unfold aH;rw [bZ s2];simp)];simp [q0])]
   simp)]
  rw [bP (ρ1:=[aC p,aA pre.length,aA w,aA (if b then 0 else 1),some (.tup [.lst (K.map A.int),.lst (R.map A.int)])]) (Ω':=Ω.set p (aW keep many tk (pre++R::post) ts ov un)) (by
   unfold bS;rw [eP (x:=A.lst (R.map A.int)) (Ω':=Ω) (by simp),UZ (wK h rfl) (n:=pre.length) (DA rfl) (by simp [cO]),es,Om])]
  rw [bP (ρ1:=[aC p,aA pre.length,aA w,aA (if b then 0 else 1),some (.tup [.lst (K.map A.int),.lst (R.map A.int)])]) (Ω':=Ω.set p (aW keep many tk (pre++R::dJ K post) T ov un)) (by
   refine pQ (a := .bB) (nD h1 rfl rfl (as:=[.lst (K.map A.int),.int ((pre.length+1:Nat):Int)]) (das:=[]) (by simp) rfl ?_);simpa using q1)]
  rw [bP (ρ1:=[aC p,aA pre.length,aA w,aA (if b then 0 else 1),some (.tup [.lst (K.map A.int),.lst (R.map A.int)])]) (Ω':=Ω.set p (aW keep many tk (pre++R::dJ K post) (T.set pre.length (1 - if b then 0 else 1)) ov un)) (by
   unfold bS;rw [eP (x:=A.int (1 - if b then 0 else 1)) (Ω':=Ω.set p (aW keep many tk (pre++R::dJ K post) T ov un)) (by simp),UZ (XT h2 rfl) (n:=pre.length) (DA rfl) (by simpa using lT),eT,Ol,mT])]
  cases b with
  | true =>
   have f1:=tG (f := "over") (ρ:=[aC p,aA pre.length,aA w,aA 0,some (.tup [.lst (K.map A.int),.lst (R.map A.int)])]) (i:=0) h3 rfl rfl;simp only [dP]at f1 h3 ⊢;unfold fG;rw [eP (x:=true) (Ω':=Ω.set p (aW keep many tk (pre++R::dJ K post) (T.set pre.length (1 - 0)) ov un)) (by simp)];simp only [dP];rw [uK (b := .int (ov+w)) rfl h3 (by simp) (by unfold aF;rw [bZ f1];simp),ai2,List.set_set];simp
  | false =>
   have f1:=tG (f := "under") (ρ:=[aC p,aA pre.length,aA w,aA 1,some (.tup [.lst (K.map A.int),.lst (R.map A.int)])]) (i:=0) h3 rfl rfl;simp only [iD,eF]at f1 h3 ⊢;unfold fG;rw [eP (x:=false) (Ω':=Ω.set p (aW keep many tk (pre++R::dJ K post) (T.set pre.length (1 - 1)) ov un)) (by simp)];simp only [iD,eF];rw [uK (b := .int (un+w)) rfl h3 (by simp) (by unfold aF;rw [bZ f1];simp),ai0,List.set_set];simp
 rw [e];simp only [cS];exact lL (by simp)
end
theorem abQ(b:Bool)(pre post:List (List Int))(L:List Int):bK (pre++eE L::dJ (fO b L) post)≤bK (pre++L::post):=by
 rw [UI,UI,bK,bK,Lp,Aj,OA];omega
section
variable{p:Nat}{keep many tk:Int}{row:List Rn}
theorem QO(a:Int):kB 2 a:=xQ (by decide) (by decide)
theorem ag4{Ω:aI}{ls:List (List Int)}{ts:List Int}{ov un:Int}{lv:Nat}(h:Ω[p]? = some (aW keep many tk ls ts ov un))(hv:HV keep ls ts ov un row)(hk:1≤keep)(fS:keep≤100000)(hs:bI row≤1000000000000)(hz:bK ls≤3000)(Sg:lv<ls.length)(fR:∀i L,i<lv→ls[i]? = some L→(L.length:Int)<2*keep)(w:Int)(hw:w=2 ^ lv) :
  ∃bJ cG dM dB,HV keep bJ cG dM dB row∧bK bJ≤bK ls∧lv<bJ.length∧(∀i L,i<lv+1→bJ[i]? = some L→(L.length:Int)<2*keep) ∧
   BE [aC p,aA w,aA lv] Ω=dU [aC p,aA (w*2),aA ((lv+1:Nat):Int)] (Ω.set p (aW keep many tk bJ cG dM dB)):=by
 have hp:p<Ω.length:=(bO.mp h).1;have IT:=hv.short hs;obtain⟨pre,L,post,rfl,EF⟩:∃pre L post,ls=pre++L::post∧pre.length=lv:=⟨ls.take lv,ls[lv],ls.drop (lv+1),by rw [← BV Sg,qU],by rw [tT];omega⟩;subst EF;have gL:(cO (pre++L::post))[pre.length]? = some (.lst (L.map A.int)):=by simp [cO]
 have s1:(mY ["Halves"] 0 "levels" cC) [aC p,aA w,aA pre.length] Ω=aL (.lst (L.map A.int)) Ω:=Am (wK h rfl) (n:=pre.length) (DA rfl) gL;have s2:=tG (f := "keep") (ρ:=[aC p,aA w,aA pre.length]) (i:=0) h rfl rfl;have gQ:(bM (aF AO (aS iG (aH (mY ["Halves"] 0 "levels" cC) a0)) (aF (fT) gO (gY ["Halves"] "keep" aT)))) [aC p,aA w,aA pre.length] Ω=aL (decide (2*keep≤(L.length:Int))) Ω:=by
  have e1:(aS iG (aH (mY ["Halves"] 0 "levels" cC) a0)) [aC p,aA w,aA pre.length] Ω=aL (.int L.length) Ω:=by
   unfold aS;rw [bZ (x:=[A.lst (L.map A.int)]) (Ω':=Ω) (by unfold aH;rw [bZ s1];simp)];simp
  have e2:(aF (fT) gO (gY ["Halves"] "keep" aT)) [aC p,aA w,aA pre.length] Ω=aL (.int (2*keep)) Ω:=by
   unfold aF;rw [bZ (x:=A.int 2) (Ω':=Ω) rfl,bZ s2];simp [QO]
  have e3:(aF AO (aS iG (aH (mY ["Halves"] 0 "levels" cC) a0)) (aF (fT) gO (gY ["Halves"] "keep" aT))) [aC p,aA w,aA pre.length] Ω=aL (.bl (decide (2*keep≤(L.length:Int)))) Ω:=by
   unfold aF at e2 ⊢;rw [bZ e1,bZ e2];simp
  unfold bM;rw [bZ e3];simp
 have w2:kB w 2:=FC (by decide) (by decide);have tail:∀Ω',(aZ (bS (aF (fT) bL gO) (gN 1)) (bS (aF eN cC bR) (gN 2))) [aC p,aA w,aA pre.length] Ω'=dU [aC p,aA (w*2),aA ((pre.length+1:Nat):Int)] Ω':=fun Ω'=>by simp [w2]
 by_cases hc:2*keep≤(L.length:Int)
 ·obtain⟨b,hb⟩:∃b:Bool,ts[pre.length]? = some (if b then 0 else 1):=by
   have lt:pre.length<ts.length:=by rw [hv.len];simp
   have e:=gK lt
   rcases hv.MZ _ (kQ e)with q | q
   ·exact⟨true,by rw [e,q];rfl⟩
   ·exact⟨false,by rw [e,q];rfl⟩
  have q:=awU b w h hv.len hb (by omega) hz;have ltT:pre.length<(gR (pre.length+1) ts).length:=by rw [DZ];omega
  have anM:((gR (pre.length+1) ts).set pre.length (1 - if b then 0 else 1)).length=(pre++eE L::dJ (fO b L) post).length:=by
   rw [yB,DZ,hv.len];cases post <;> simp [dJ] <;> omega
  have abJ:∀t∈(gR (pre.length+1) ts).set pre.length (1 - if b then 0 else 1),t=0∨t=1:=fun t ht=>by
   rcases List.mem_or_eq_of_mem_set ht with r | r
   ·exact MY (P:=fun t=>t=0∨t=1) (.inl rfl) _ ts hv.MZ t r
   ·subst r;cases b <;> simp
  have ED:=hv.arB hk hc b anM abJ;rw [← hw]at ED;refine⟨_,_,_,_,ED,abQ b pre post L,by simp,fun i M hi hM=>?_,?_⟩
  ·by_cases e:i=pre.length
   ·subst e;have:eE L=M:=by simpa using hM
    subst this;rw [OA];omega
   ·have jH:i<pre.length:=by omega
    rw [eK jH]at hM;exact fR i M jH (by rw [eK jH];exact hM)
  ·unfold BE;rw [bP (ρ1:=[aC p,aA w,aA pre.length]) (Ω':=Ω.set p (aW keep many tk (pre++eE L::dJ (fO b L) post) ((gR (pre.length+1) ts).set pre.length (1 - if b then 0 else 1)) (ov+if b then w else 0) (un+if b then 0 else w))) (by
    unfold fG;rw [eP gQ,tJ hc];simp only [dP];exact pQ (a := .bB) (nD h rfl rfl (as:=[.int pre.length,.int w]) (das:=[]) (by simp) rfl (by simpa using q)))]
   exact tail _
 ·refine⟨_,_,_,_,hv,oX _,by simp,fun i M hi hM=>?_,?_⟩
  ·by_cases e:i=pre.length
   ·subst e;have:L=M:=by simpa using hM
    subst this;omega
   ·exact fR i M (by omega) hM
  ·unfold BE;rw [sG h];rw [bP (ρ1:=[aC p,aA w,aA pre.length]) (Ω':=Ω) (by
    unfold fG;rw [eP gQ,lW hc];simp)]
   exact tail _
theorem Nf(hk:1≤keep)(fS:keep≤100000)(hs:bI row≤1000000000000):∀(m n:Nat) (Ω:aI) (ls:List (List Int)) (ts:List Int) (ov un:Int) (lv:Nat) (w:Int),Ω[p]? = some (aW keep many tk ls ts ov un)→HV keep ls ts ov un row→bK ls≤3000→lv≤ls.length→(∀i L,i<lv→ls[i]? = some L→(L.length:Int)<2*keep)→w=2 ^ lv→m=60 - lv→m<n →
  ∃bJ cG dM dB w' wQ,HV keep bJ cG dM dB row∧bK bJ≤bK ls∧(∀L∈bJ,(L.length:Int)<2*keep) ∧
   jW xT BE n [aC p,aA w,aA lv] Ω=dU [aC p,aA w',aA wQ] (Ω.set p (aW keep many tk bJ cG dM dB))
 | m,n,Ω,ls,ts,ov,un,lv,w,h,hv,hz,Sg,fR,hw,hm,hn=>by
  obtain⟨n,rfl⟩:∃j,n=j+1:=⟨n - 1,by omega⟩;have hp:p<Ω.length:=(bO.mp h).1;have IT:=hv.short hs;have o:=wK (ρ:=[aC p,aA w,aA lv]) h rfl
  by_cases hc:lv<ls.length
  ·have c1:xT [aC p,aA w,aA lv] Ω=aL true Ω:=by
    simp [xT,o,cO,hc]
   obtain⟨bJ,cG,dM,dB,ED,Rh,hl',ap6,e⟩:=ag4 h hv hk fS hs hz hc fR w hw
   match m,hm,hn with
   | m+1,hm,hn =>
    obtain⟨l2,t2,o2,u2,w2,v2,r1,r2,r3,r4⟩:=Nf hk fS hs m n _ bJ cG dM dB (lv+1) (w*2) (oR hp) ED (by omega) hl' ap6 (by rw [hw,pI,Int.mul_comm]) (by omega) (by omega);refine⟨l2,t2,o2,u2,w2,v2,r1,by omega,r3,?_⟩;rw [JZ c1 e,r4,mT]
   | 0,hm,hn=>omega
  ·have c1:xT [aC p,aA w,aA lv] Ω=aL false Ω:=by
    simp [xT,o,cO];omega
   refine⟨ls,ts,ov,un,w,lv,hv,oX _,fun L hL=>?_,?_⟩
   ·obtain⟨i,hi,e⟩:=vK hL;exact fR i L (by omega) (by rw [gK hi,e])
   ·rw [QH c1,sG h]
theorem awF{Ω:aI}{ls:List (List Int)}{ts:List Int}{ov un:Int}(hk:1≤keep)(fS:keep≤100000)(hs:bI row≤1000000000000)(h:Ω[p]? = some (aW keep many tk ls ts ov un))(hv:HV keep ls ts ov un row)(hz:bK ls≤3000) :
  ∃bJ cG dM dB,HV keep bJ cG dM dB row∧bK bJ≤bK ls∧(∀L∈bJ,(L.length:Int)<2*keep)∧SQ [.aD p] Ω=aL (.bB) (Ω.set p (aW keep many tk bJ cG dM dB)):=by
 obtain⟨bJ,cG,dM,dB,w',wQ,r1,r2,r3,r4⟩:=Nf hk fS hs 60 1000000 Ω ls ts ov un 0 1 h hv hz rL (fun i L hi=>absurd hi (Nat.not_lt_zero _)) rfl rfl (by omega);refine⟨bJ,cG,dM,dB,r1,r2,r3,?_⟩;show trim Ω (cS (Gd [aC p,none,none] Ω))=_;unfold Gd;rw [bP (ρ1:=[aC p,aA 1,none]) (Ω':=Ω) (by simp)];rw [bP (ρ1:=[aC p,aA 1,aA 0]) (Ω':=Ω) (by simp)];have r4':jW xT BE 1000000 [aC p,aA 1,aA 0] Ω=_:=r4;show trim Ω (cS (jW xT BE 1000000 [aC p,aA 1,aA 0] Ω))=_;rw [r4'];simp only [cS];exact lL (by simp)
theorem UN(n0:Int):∀(m n:Nat) (Ω:aI) (ls:List (List Int)) (ts:List Int) (ov un pt:Int) (lv t:Nat),Ω[p]? = some (aW keep many tk ls ts ov un)→HV keep ls ts ov un (row++[(n0,pt)])→lv+m≤30→t<2 ^ m→m<n→bK ls+m≤2000→ls.length≤60 →
  ∃bJ cG wQ,HV keep bJ cG ov un (row++[(n0,pt+t*2 ^ lv)])∧bK bJ≤bK ls+m ∧
   jW KP FF n [aC p,aA n0,aA t,aA lv] Ω=dU [aC p,aA n0,aA 0,aA wQ] (Ω.set p (aW keep many tk bJ cG ov un))
 | m,n,Ω,ls,ts,ov,un,pt,lv,t,h,hv,Si,ht,hn,hz,hll=>by
  obtain⟨n,rfl⟩:∃j,n=j+1:=⟨n - 1,by omega⟩;have hp:p<Ω.length:=(bO.mp h).1
  by_cases hc:t=0
  ·subst hc;refine⟨ls,ts,lv,by simpa using hv,by omega,?_⟩;rw [QH (Ω1:=Ω) (by simp [KP]),sG h];rfl
  ·have c1:KP [aC p,aA n0,aA t,aA lv] Ω=aL true Ω:=by
    have:0<t:=by omega
    simp [KP,this]
   match m,Si,ht,hn,hz with
   | 0,_,ht,_,_=>simp at ht;omega
   | m+1,Si,ht,hn,hz =>
    have IS:t/2<2 ^ m:=by rw [Hc]at ht;omega
    have d2:rE (t:Int) 2:=⟨by decide,by decide⟩;have h1s:(1:Nat)≤sizeLine:=by decide
    have ed:((t:Int)/2)=((t/2:Nat):Int):=by omega
    have tail:∀Ω',(aZ (bS (aF (nF) cC gO) (gN 2)) (bS (aF eN gD bR) (gN 3))) [aC p,aA n0,aA t,aA lv] Ω'=dU [aC p,aA n0,aA ((t/2:Nat):Int),aA ((lv+1:Nat):Int)] Ω':=fun Ω'=>by simp [d2]
    by_cases ho:t%2=1
    ·have q:=Yh [n0] lv h (by omega) (by omega) hv.len (fun L hL=>by have:=GR hL;simp;omega) (by simp);have e:FF [aC p,aA n0,aA t,aA lv] Ω=dU [aC p,aA n0,aA ((t/2:Nat):Int),aA ((lv+1:Nat):Int)] (Ω.set p (aW keep many tk (eR [n0] lv ls) (gR lv ts) ov un)):=by
      unfold FF;rw [bP (ρ1:=[aC p,aA n0,aA t,aA lv]) (Ω':=Ω.set p (aW keep many tk (eR [n0] lv ls) (gR lv ts) ov un)) (by
       unfold fG;have gQ:(bM (aF kZ (aF (gH) cC gO) bR)) [aC p,aA n0,aA t,aA lv] Ω=aL true Ω:=by
        have:(t:Int)%2=1:=by omega
        simp [this]
       rw [eP gQ];simp only [dP];exact pQ (a := .bB) (nD h rfl rfl (as:=[.lst [.int n0],.int lv]) (das:=[]) (by simp [h1s]) rfl (by simpa using q)))]
      exact tail _
     obtain⟨bJ,cG,wQ,r1,r2,r3⟩:=UN n0 m n _ (eR [n0] lv ls) (gR lv ts) ov un (pt+2 ^ lv) (lv+1) (t/2) (oR hp) (hv.lay lv) (by omega) IS (by omega) (by rw [NC];simp;omega) (by rw [IK];omega);refine⟨bJ,cG,wQ,?_,by rw [NC]at r2;simp at r2;omega,?_⟩
     ·have ev:pt+2 ^ lv+((t/2:Nat):Int)*2 ^ (lv+1)=pt+(t:Int)*2 ^ lv:=by
       rw [pI];have:(t:Int)=2*((t/2:Nat):Int)+1:=by omega
       generalize ((t/2:Nat):Int)=q at this ⊢;generalize (2:Int) ^ lv=X;rw [this,Int.add_mul,Int.one_mul,qY,Int.mul_left_comm q 2 X];omega
      rw [ev]at r1;exact r1
     ·rw [JZ c1 e,r3,mT]
    ·have e:FF [aC p,aA n0,aA t,aA lv] Ω=dU [aC p,aA n0,aA ((t/2:Nat):Int),aA ((lv+1:Nat):Int)] Ω:=by
      unfold FF;rw [bP (ρ1:=[aC p,aA n0,aA t,aA lv]) (Ω':=Ω) (by
       have:¬(t:Int)%2=1:=by omega
       simp [this])]
      exact tail _
     obtain⟨bJ,cG,wQ,r1,r2,r3⟩:=UN n0 m n Ω ls ts ov un pt (lv+1) (t/2) h hv (by omega) IS (by omega) (by omega) hll;refine⟨bJ,cG,wQ,?_,by omega,?_⟩
     ·have ev:pt+((t/2:Nat):Int)*2 ^ (lv+1)=pt+(t:Int)*2 ^ lv:=by
       rw [pI];have:(t:Int)=2*((t/2:Nat):Int):=by omega
       generalize ((t/2:Nat):Int)=q at this ⊢;generalize (2:Int) ^ lv=X;rw [this,qY,Int.mul_left_comm q 2 X]
      rw [ev]at r1;exact r1
     ·rw [JZ c1 e,r3]
end
open Classical in
theorem MT{α:Type}{n:Nat}{js:List Nat}{fi:Ev→Mo Src}{g:A→MS}{e:Ev→Mo A}{ρ:Ev}{Ω Ω0:aI}{S:Src}(xs:List α)(enc out:α→A)(P:Ev→Prop)(inj:∀x y,enc x=enc y→out x=out y)
  (h0:fi ρ Ω=aL S Ω0) (aK:∀ys,S.ok (Ω0++[.lst ys])) (hP:P (uP n js ρ)) (hS:S.ds=xs.map enc) (hl:xs.length≤1000000)
  (step:∀x∈xs,∀ρ,P ρ→∀ys,∃ρ1,P ρ1∧g (enc x) ρ (Ω0++[.lst ys])=dU ρ1 (Ω0++[.lst ys])∧e ρ1 (Ω0++[.lst ys])=aL (out x) (Ω0++[.lst ys]))
  (hc:∀x∈xs,Cl Ω0.length (out x)):mX false n js fi g qD e ρ Ω=aL (.lst (xs.map out)) Ω0:=by
 let F:A→Option A:=fun a=>if h:∃x,x∈xs∧enc x=a then some (out (Classical.choose h))else none
 have hF:∀x∈xs,F (enc x)=some (out x):=fun x hx=>by
  have h:∃y,y∈xs∧enc y=enc x:=⟨x,hx,rfl⟩;show(if h:∃y,y∈xs∧enc y=enc x then some (out (Classical.choose h))else none)=_;rw [dif_pos h,inj _ _ (Jm h).2]
 have ef:∀l:List α,(∀x∈l,x∈xs)→(l.map enc).filterMap F=l.map out:=by
  intro l
  induction l with
  | nil=>intro _;rfl
  | cons x r ih =>
   intro h;simp only [fE,yD,hF x (h x (by simp)),ih fun y hy=>h y (by simp [hy])]
 have q:=Lc (n:=n) (js:=js) (fi:=fi) (g:=g) (c:=qD) (e:=e) (ρ:=ρ) (Ω:=Ω) (Ω0:=Ω0) (S:=S) F P h0 aK hP (by rw [hS];simpa using hl) (fun x hx ρ hp ys=>by
  rw [hS]at hx;obtain⟨y,hy,rfl⟩:=qX.mp hx;obtain⟨ρ1,h1,h2,h3⟩:=step y hy ρ hp ys;exact⟨ρ1,h1,h2,.inl ⟨out y,hF y hy,by simp [qD],h3⟩⟩) (by
  rw [hS,ef xs fun _ h=>h];exact BB fun a ha=>by obtain⟨x,hx,rfl⟩:=qX.mp ha;exact hc x hx)
 rw [hS,ef xs fun _ h=>h]at q;exact q
open Classical in
theorem aa7{α:Type}{n:Nat}{js:List Nat}{fi:Ev→Mo Src}{g:A→MS}{c:Ev→Mo Bool}{e:Ev→Mo A}{ρ:Ev}{Ω Ω0:aI}{S:Src}(xs:List α)(enc out:α→A)(kp:α→Bool)(P:Ev→Prop)(inj:∀x y,enc x=enc y→out x=out y∧kp x=kp y)
  (h0:fi ρ Ω=aL S Ω0) (aK:∀ys,S.ok (Ω0++[.lst ys])) (hP:P (uP n js ρ)) (hS:S.ds=xs.map enc) (hl:xs.length≤1000000)
  (step:∀x∈xs,∀ρ,P ρ→∀ys,∃ρ1,P ρ1∧g (enc x) ρ (Ω0++[.lst ys])=dU ρ1 (Ω0++[.lst ys])∧c ρ1 (Ω0++[.lst ys])=aL (kp x) (Ω0++[.lst ys])∧e ρ1 (Ω0++[.lst ys])=aL (out x) (Ω0++[.lst ys]))
  (hc:∀x∈xs,Cl Ω0.length (out x)):mX false n js fi g c e ρ Ω=aL (.lst ((xs.filter kp).map out)) Ω0:=by
 let F:A→Option A:=fun a=>if h:∃x,x∈xs∧enc x=a then(if kp (Classical.choose h)=true then some (out (Classical.choose h))else none)else none
 have hF:∀x∈xs,F (enc x)=if kp x=true then some (out x)else none:=fun x hx=>by
  have h:∃y,y∈xs∧enc y=enc x:=⟨x,hx,rfl⟩;show(if h:∃y,y∈xs∧enc y=enc x then(if kp (Classical.choose h)=true then some (out (Classical.choose h))else none)else none)=_;have q:=inj _ _ (Jm h).2;rw [dif_pos h,q.1,q.2]
 have ef:∀l:List α,(∀x∈l,x∈xs)→(l.map enc).filterMap F=(l.filter kp).map out:=by
  intro l
  induction l with
  | nil=>intro _;rfl
  | cons x r ih =>
   intro h;have q:=hF x (h x (by simp))
   by_cases hk:kp x=true
   ·rw [if_pos hk]at q;simp only [fE,yD,q,ih fun y hy=>h y (by simp [hy]),Hy,hk,dP]
   ·rw [if_neg hk]at q;simp only [fE,yD,q,ih fun y hy=>h y (by simp [hy]),Hy,if_neg hk]
 have q:=Lc (n:=n) (js:=js) (fi:=fi) (g:=g) (c:=c) (e:=e) (ρ:=ρ) (Ω:=Ω) (Ω0:=Ω0) (S:=S) F P h0 aK hP (by rw [hS];simpa using hl) (fun x hx ρ hp ys=>by
  rw [hS]at hx;obtain⟨y,hy,rfl⟩:=qX.mp hx;obtain⟨ρ1,h1,h2,h3,h4⟩:=step y hy ρ hp ys;have q:=hF y hy
  by_cases hk:kp y=true
  ·rw [if_pos hk]at q;rw [hk]at h3;exact⟨ρ1,h1,h2,.inl ⟨out y,q,h3,h4⟩⟩
  ·rw [if_neg hk]at q;rw [Bool.eq_false_iff.mpr hk]at h3;exact⟨ρ1,h1,h2,.inr ⟨q,h3⟩⟩) (by
  rw [hS,ef xs fun _ h=>h];exact BB fun a ha=>by
   obtain⟨x,hx,rfl⟩:=qX.mp ha;exact hc x (List.mem_filter.mp hx).1)
 rw [hS,ef xs fun _ h=>h]at q;exact q
theorem EO(Ω:aI)(c:Cell):(Ω++[c])[Ω.length]? = some c:=by simp
theorem yY(Ω:aI)(c d:Cell):(Ω++[c]).set Ω.length d=Ω++[d]:=by simp
section
variable{p:Nat}{keep many tk:Int}{row:List Rn}{Ω:aI}{ls:List (List Int)}{ts:List Int}{ov un:Int}
theorem awB(n0:Int)(t:Nat)(hk:1≤keep)(fS:keep≤100000)(ht:t<2 ^ 21)(hs:bI row+t≤1000000000000)(h:Ω[p]? = some (aW keep many tk ls ts ov un))(hv:HV keep ls ts ov un row)(hz:bK ls≤1900)(apE:bI row≤1000000000000) :
  ∃bJ cG dM dB,HV keep bJ cG dM dB (row++[(n0,(t:Int))])∧bK bJ≤bK ls+21∧(∀L∈bJ,(L.length:Int)<2*keep)∧SO [.aD p,.int n0,.int t] Ω=aL (.bB) (Ω.set p (aW keep many tk bJ cG dM dB)):=by
 have hp:p<Ω.length:=(bO.mp h).1;have IT:=hv.short apE;obtain⟨l1,t1,v1,r1,r2,r3⟩:=UN n0 21 1000000 Ω ls ts ov un 0 0 t h (hv.more n0) (by omega) ht (by omega) (by omega) (by omega);rw [show(0:Int)+(t:Int)*2 ^ 0=t by simp]at r1;have nW:bI (row++[(n0,(t:Int))])≤1000000000000:=by rw [yU];simp [bI];omega
 obtain⟨bJ,cG,dM,dB,q1,q2,q3,q4⟩:=awF (many:=many) (tk:=tk) hk fS nW (oR hp) r1 (by omega);refine⟨bJ,cG,dM,dB,q1,by omega,q3,?_⟩;rw [mT]at q4;show trim Ω (cS (Fz [aC p,aA n0,aA t,none] Ω))=_;unfold Fz;rw [bP (ρ1:=[aC p,aA n0,aA t,aA 0]) (Ω':=Ω) (by simp)];rw [bP (ρ1:=[aC p,aA n0,aA 0,aA v1]) (Ω':=Ω.set p (aW keep many tk l1 t1 ov un)) (by exact r3)];rw [pQ (a := .bB) (Ω':=Ω.set p (aW keep many tk bJ cG dM dB)) (by exact nD (oR hp) rfl rfl (as:=[]) (das:=[]) (by simp) rfl (by simpa using q4))];simp only [cS];exact lL (by simp)
theorem awO(h:Ω[p]? = some (aW keep many tk ls ts ov un))(t:Int)(hm:many+t≤1000000000):SM [.aD p,.int t] Ω=aL (.bB) Ω:=by
 have f1:=tG (f := "many") (ρ:=[aC p,aA t]) (i:=0) h rfl rfl;have e:(bM (aF tD (aF eN (gY ["Halves"] "many" aT) bL) (cI 1000000000))) [aC p,aA t] Ω=aL false Ω:=by
  have:(aF eN (gY ["Halves"] "many" aT) bL) [aC p,aA t] Ω=aL (.int (many+t)) Ω:=by
   unfold aF;rw [bZ f1];simp
  unfold bM;rw [bZ (x:=A.bl false) (Ω':=Ω) (by unfold aF at this ⊢;rw [bZ this];simp;omega)];simp
 show trim Ω (cS (Fv [aC p,aA t] Ω))=_;unfold Fv fG;rw [eP e];simp only [iD,eF,jE,cS];exact lL rfl
theorem awH(n0:Int)(t:Nat)(hk:1≤keep)(fS:keep≤100000)(ht1:1≤t)(ht:t<2 ^ 21)(hm:many+t≤1000000000)(h:Ω[p]? = some (aW keep many tk ls ts ov un))(hv:HV keep ls ts ov un row)(hmr:many=bI row)(hz:bK ls≤1900) :
  ∃bJ cG dM dB,HV keep bJ cG dM dB (row++[(n0,(t:Int))])∧bK bJ≤bK ls+21∧(∀L∈bJ,(L.length:Int)<2*keep)∧CD [.aD p,.int n0,.int t] Ω=aL (.bB) (Ω.set p (aW keep (many+t) (tk+1) bJ cG dM dB)):=by
 have hp:p<Ω.length:=(bO.mp h).1;obtain⟨bJ,cG,dM,dB,q1,q2,q3,q4⟩:=awB n0 t hk fS ht (by omega) h hv hz (by omega);refine⟨bJ,cG,dM,dB,q1,q2,q3,?_⟩;have q5:=awO h t hm;have h2:(Ω.set p (aW keep many tk bJ cG dM dB))[p]? = some (aW keep many tk bJ cG dM dB):=oR hp;have ht':¬(t:Int)<1:=by omega
 have f1:=tG (f := "many") (ρ:=[aC p,aA n0,aA t]) (i:=0) h2 rfl rfl;have h3:(Ω.set p (aW keep (many+t) tk bJ cG dM dB))[p]? = some (aW keep (many+t) tk bJ cG dM dB):=oR hp;have f2:=tG (f := "taken") (ρ:=[aC p,aA n0,aA t]) (i:=0) h3 rfl rfl;show trim Ω (cS (RF [aC p,aA n0,aA t] Ω))=_;unfold RF;rw [bP (ρ1:=[aC p,aA n0,aA t]) (Ω':=Ω) (by simp [ht'])];rw [bP (pQ (nD h (by rfl) (by rfl) (as:=[.int t]) (das:=[]) (by simp) (by rfl) (by simpa using q5)))];rw [bP (pQ (nD h (by rfl) (by rfl) (as:=[.int n0,.int t]) (das:=[]) (by simp) (by rfl) (by simpa using q4)))];rw [bP (uK (b := .int (many+t)) (by rfl) h2 (by simp) (by unfold aF;rw [bZ f1];simp)),ai3,List.set_set];rw [uK (b := .int (tk+1)) (by rfl) h3 (by simp) (by unfold aF;rw [bZ f2];simp),ai1,List.set_set];simp only [cS];exact lL (by simp)
theorem Uj{f:Str}{fs:List (Str×Fd)}(hl:fs.length<1000):(DL ["Halves"] 0 f (jD true a0)) [aC Ω.length,aA keep] (Ω++[.ins "Halves" fs])=dU [aC Ω.length,aA keep] (Ω++[.ins "Halves" (putD f (.lst []) fs)]):=by
 have ob:HR ["Halves"] 0 [aC Ω.length,aA keep] (Ω++[.ins "Halves" fs])=some (Ω.length,("Halves" : Str),fs):=by
  unfold HR;simp
 have e1:jD true a0 [aC Ω.length,aA keep] (Ω++[.ins "Halves" fs])=aL (.aD (Ω++[Cell.ins "Halves" fs]).length) ((Ω++[.ins "Halves" fs])++[.lst []]):=by simp
 unfold DL;rw [ob];simp only [e1,EO,Fd.HQ];rw [if_pos ⟨rfl,rfl,hl,by simp [oN,gC]⟩,yY]
theorem awL(Ω:aI)(keep:Int):JV "Halves" 2 GG [.int keep] Ω=aL (.aD Ω.length) (Ω++[aW keep 0 0 [] [] 0 0]):=by
 have base:CF [.aD Ω.length,.int keep] (Ω++[.ins "Halves" []])=aL (.bB) (Ω++[.ins "Halves" [("keep",.val (.int keep)),("many",.val (.int 0)),("taken",.val (.int 0))]]):=by
  show trim _ (cS (RG [aC Ω.length,aA keep] (Ω++[.ins "Halves" []])))=_;unfold RG;rw [bP (uK (b := .int keep) (by rfl) (EO _ _) (by simp) (by simp)),yY];rw [bP (uK (b := .int 0) (by rfl) (EO _ _) (by exact(show(1:Nat)<1000 by decide)) (by simp)),yY];rw [uK (b := .int 0) (by rfl) (EO _ _) (by exact(show(2:Nat)<1000 by decide)) (by simp),yY];simp only [cS];rw [lL (by simp)];rfl
 have e:GG [.aD Ω.length,.int keep] (Ω++[.ins "Halves" []])=aL (.bB) (Ω++[aW keep 0 0 [] [] 0 0]):=by
  show trim _ (cS (RJ [aC Ω.length,aA keep] (Ω++[.ins "Halves" []])))=_;unfold RJ;rw [bP (pQ (a := .bB) (Ω':=Ω++[.ins "Halves" [("keep",.val (.int keep)),("many",.val (.int 0)),("taken",.val (.int 0))]]) (by simp [bW,base]))];rw [bP (Uj (by simp))];rw [bP (Uj (by exact(show(4:Nat)<1000 by decide)))];rw [bP (uK (b := .int 0) (by rfl) (EO _ _) (by exact(show(5:Nat)<1000 by decide)) (by simp)),yY];rw [uK (b := .int 0) (by rfl) (EO _ _) (by exact(show(6:Nat)<1000 by decide)) (by simp),yY];simp only [cS];rw [lL (by simp)];rfl
 unfold JV;rw [if_pos (by rfl)];rw [e]
end
def stI:Int→List (List Int)→List Rn
 | _,[]=>[]
 | w,L::ls=>L.map (fun n=>(n,w))++stI (w*2) ls
theorem yV:∀(w:Int) (ls:List (List Int)),(stI w ls).length=bK ls
 | _,[]=>rfl
 | w,L::ls=>by rw [stI,fX,fW,yV,bK]
theorem Md(w:Int):∀L:List Int,bI (L.map fun n=>(n,w))=w*L.length
 | []=>by simp [bI]
 | n::L=>by rw [fE,bI,Md w L,eA];push_cast;rw [LO];omega
theorem Le(w x:Int):∀L:List Int,fB (L.map fun n=>(n,w)) x=w*cQ L x
 | []=>by simp [fB,cQ]
 | n::L=>by
  have e:cQ (n::L) x=(if n≤x then 1 else 0)+cQ L x:=by
   unfold cQ
   by_cases h:n≤x <;> simp [h];omega
  rw [fE,fB,Le w x L,e,LO]
  by_cases h:n≤x <;> simp [h]
theorem Mi:∀(w:Int) (ls:List (List Int)),bI (stI w ls)=w*dD ls
 | _,[]=>by simp [stI,bI,dD]
 | w,L::ls=>by rw [stI,yU,Md,Mi,dD,LO,qY]
theorem Mh(x:Int):∀(w:Int) (ls:List (List Int)),fB (stI w ls) x=w*eI ls x
 | _,[]=>by simp [stI,fB,eI]
 | w,L::ls=>by rw [stI,MW,Le,Mh x,eI,LO,qY]
theorem VD:∀{w:Int} {ls:List (List Int)} {r:Rn},r∈stI w ls→(∃L∈ls,r.1∈L)∧∃i:Nat,r.2=w*2 ^ i
 | w,L::ls,r,h=>by
  rw [stI]at h
  rcases iU.mp h with q | q
  ·obtain⟨n,hn,rfl⟩:=qX.mp q;exact⟨⟨L,by simp,hn⟩,0,by simp⟩
  ·obtain⟨⟨M,h1,h2⟩,i,h3⟩:=VD q;exact⟨⟨M,iB _ h1,h2⟩,i+1,by rw [h3,pI,qY]⟩
theorem Ml{m:Nat}(v:Int):∀{w:Int} {ls:List (List Int)},0<w→(∀L∈ls,L.length≤m)→((stI w ls).filter fun r=>decide (r.2=v)).length≤m
 | w,[],_,_=>by simp [stI]
 | w,L::ls,hw,h=>by
  rw [stI,List.filter_append,fX];have hL:=h L (by simp)
  by_cases e:w=v
  ·subst e;have z:(stI (w*2) ls).filter (fun r=>decide (r.2=w))=[]:=Ym.mpr fun r hr=>by
    obtain⟨_,i,hi⟩:=VD hr;have:=HJ i;have h2:w*2*1≤w*2*2 ^ i:=LM (by omega) (by omega);simp;rw [hi];omega
   rw [z];have:=List.length_filter_le (fun r:Rn=>decide (r.2=w)) (L.map fun n=>(n,w));rw [fW]at this;simp only [yC];omega
  ·have z:(L.map fun n=>((n,w):Rn)).filter (fun r=>decide (r.2=v))=[]:=Ym.mpr fun r hr=>by
    obtain⟨n,_,rfl⟩:=qX.mp hr;simp [e]
   rw [z];have:=Ml v (w:=w*2) (ls:=ls) (by omega) fun M hM=>h M (by simp [hM]);simp only [yC];omega
theorem Lo{m:Nat}:∀{ls:List (List Int)},(∀L∈ls,L.length≤m)→bK ls≤m*ls.length
 | [],_=>by simp [bK]
 | L::ls,h=>by
  have:=Lo (ls:=ls) fun M hM=>h M (by simp [hM]);have:=h L (by simp);rw [bK,eA,Nat.mul_add];omega
theorem agG{a b:List Rn}(h:a.Perm b):bI a=bI b:=by
 induction h with
 | nil=>rfl
 | cons x _ ih=>simp only [bI];omega
 | swap x y l=>simp only [bI];omega
 | trans _ _ h1 h2=>omega
theorem abA{a b:List Rn}(x:Int)(h:a.Perm b):fB a x=fB b x:=by
 induction h with
 | nil=>rfl
 | cons y _ ih=>simp only [fB];omega
 | swap y z l=>simp only [fB];omega
 | trans _ _ h1 h2=>omega
theorem anJ{i:Nat}{f:Str}{g:MS}{ρ ρ':Ev}{Ω:aI}{s j:Nat}{cls:Str}{fs:List (Str×Fd)}{fd:Fd}{c x:Cell}(h1:ρ[i]? = some (aC s))(h2:Ω[s]? = some (.ins cls fs))(h3:fs.lookup f=some fd)(h4:fd.cell=some c)(hf:putD f fd fs=fs)
  (h5:g ρ (dX Ω s cls f fs c)=dU ρ' ((dX Ω s cls f fs c).set j x)) (hj:j<Ω.length) (JD:j≠s) (hx:CJ Ω.length x) (h8:∀(j:Nat) (d:A),ρ'[j]? = some (some d)→ρ[j]? = some (some d)∨Cl Ω.length d):sH i f g ρ Ω=dU ρ' (Ω.set j x):=by
 have hs:s<Ω.length:=(bO.mp h2).1;have e0:(dX Ω s cls f fs c).set j x=((Ω.set s (.ins cls (putD f (.val (.aD Ω.length)) fs))).set j x)++[c]:=by
  unfold dX;rw [List.set_append_left _ _ (by simpa using hj)]
 rw [e0]at h5;refine Nu (r:=(.nx,ρ',Ω.set j x)) ⟨s,cls,fs,fd,c,(Ω.set s (.ins cls (putD f (.val (.aD Ω.length)) fs))).set j x,fd,c,h1,h2,h3,h4,h5,by simp,?_,h4,fun k y hk hy=>?_,.inl rfl,h8,rfl,?_⟩
 ·rw [fY JD,gX hs]
 ·by_cases e:j=k
  ·subst e;rw [gX (by simpa using hj)]at hy;cases hy;exact .inr hx
  ·rw [fY e,fY (cA hk)]at hy;exact .inl hy
 ·have e7:(Ω.set j x)[s]? = some (.ins cls fs):=by rw [fY JD];exact h2
  rw [List.set_comm _ _ (cA JD),mT,hf,← List.set_comm _ _ (cA JD),sG h2]
section
variable{p:Nat}{keep many tk:Int}{row:List Rn}{Ω:aI}{ls:List (List Int)}{ts:List Int}{ov un:Int}
theorem agI{Ψ:aI}{n0:Nat}{acc:List Rn}(h:Ψ[n0]? = some (.lst (aP acc)))(L:List Int)(w:Int)(hL:acc.length+L.length≤100000)(x:Option A) :
  KQ [x,aC n0,aA w,iN (L.map A.int)] Ψ=dU [x,aC n0,aA (w*2),iN (L.map A.int)] (Ψ.set n0 (.lst (aP (acc++L.map fun n=>(n,w))))):=by
 have s2:(2:Nat)≤sizeLine:=by decide
 have q:Ga [x,aC n0,aA w,iN (L.map A.int)] Ψ=aL (.lst (L.map fun n => .tup [.int n,.int w])) Ψ:=by
  unfold Ga;exact MT (S:=srcOf (.lst (L.map A.int)) (L.map A.int)) L A.int (fun n => .tup [.int n,.int w]) (fun ρ=>∃y,ρ=[y,aA w]) (fun a b e=>by cases e;rfl) (by simp) (fun _=>rfl) ⟨none,rfl⟩ rfl (by omega) (fun n _ ρ ⟨y,e⟩ ys=>by subst e;exact⟨[aA n,aA w],⟨_,rfl⟩,by simp,by simp [s2]⟩) (fun n _=>by simp [Cl,gC])
 have hc:rU Ψ (.aD n0)=some (n0,aP acc):=QQ h;have hi:zU Ψ (.aD n0):=OX (jV h);have hz:acc.length+L.length≤sizeLine:=by rw [qK];omega
 have w2:kB w 2:=FC (by decide) (by decide);have ee:aP acc++(L.map fun n=>A.tup [.int n,.int w])=aP (acc++L.map fun n=>(n,w)):=by simp [aP,dI]
 unfold KQ;rw [bP (ρ1:=[x,aC n0,aA w,iN (L.map A.int)]) (Ω':=Ψ.set n0 (.lst (aP (acc++L.map fun n=>(n,w))))) (by
  refine pQ (a := .bB) ?_;unfold pG;rw [bZ (x:=A.aD n0) (Ω':=Ψ) (by simp),bZ (x:=[A.lst (L.map fun n => .tup [.int n,.int w])]) (Ω':=Ψ) (by unfold aH;rw [bZ q];simp)];rw [← ee];simp [hc,hi,DX,aP];exact hz)]
 simp [w2]
theorem Mf{n0:Nat}(x:Option A)(ok:aI→Prop):∀(ls:List (List Int)) (acc:List Rn) (w:Int) (y:Option A) (Ψ:aI),Ψ[n0]? = some (.lst (aP acc))→acc.length+bK ls≤100000→(∀d,ok (Ψ.set n0 (.lst d))) →
  ∃w' y',eG ok (gN 3) KQ (cO ls) [x,aC n0,aA w,y] Ψ=dU [x,aC n0,aA w',y'] (Ψ.set n0 (.lst (aP (acc++stI w ls))))∧(y'=y∨∃L:List Int,y'=some (.lst (L.map A.int)))
 | [],acc,w,y,Ψ,h,_,aK=>⟨w,y,by
   have e:=sG h;have:=aK (aP acc);rw [e]at this;show eG _ _ _ [] _ _=_;rw [KC this];simp [stI,e],.inl rfl⟩
 | L::ls,acc,w,y,Ψ,h,hz,aK=>by
  rw [bK]at hz;have hn:n0<Ψ.length:=(bO.mp h).1;have t:=agI h L w (by omega) x;obtain⟨w',y',q,hy⟩:=Mf x ok ls (acc++L.map fun n=>(n,w)) (w*2) (some (.lst (L.map A.int))) (Ψ.set n0 (.lst (aP (acc++L.map fun n=>(n,w))))) (oR hn) (by simp;omega) (fun d=>by rw [mT];exact aK d);refine⟨w',y',?_,?_⟩
  ·have XZ:ok Ψ:=by have:=aK (aP acc);rwa [sG h]at this
   show eG ok _ _ (A.lst (L.map A.int)::cO ls) _ _=_;rw [KA XZ (ρ0:=[x,aC n0,aA w,iN (L.map A.int)]) (Ω0:=Ψ) (by simp) t,q,mT,stI,fZ]
  ·rcases hy with e | e
   ·exact .inr ⟨L,e⟩
   ·exact .inr e
theorem awE(h:Ω[p]? = some (aW keep many tk ls ts ov un))(hz:bK ls≤100000):CG [.aD p] Ω=aL (.lst (aP (stI 1 ls))) Ω:=by
 have hp:p<Ω.length:=(bO.mp h).1;have h1:(Ω++[Cell.lst []])[p]? = some (aW keep many tk ls ts ov un):=by rw [eK hp];exact h
 have o:=wK (ρ:=[aC p,aC Ω.length,aA 1,none]) h1 rfl;have lf:=DY (c := .lst (cO ls)) o;have la:=zO (c := .lst (cO ls)) o;have hn:(dX (Ω++[Cell.lst []]) p "Halves" "levels" (jK keep many tk ls ts ov un) (.lst (cO ls)))[Ω.length]? = some (.lst (aP [])):=by
  unfold dX;rw [eK (by simp),fY (by omega)];simp [aP]
 obtain⟨w',y',q,hy⟩:=Mf (n0:=Ω.length) (aC p) (fun Ω'=>gE Ω' (.aD (Ω++[Cell.lst []]).length)=some (cO ls)) ls [] 1 none _ hn (by simpa using hz) (fun d=>by
  refine wG (jV ?_);rw [fY (by simp)];exact la)
 rw [FW]at q;have e1:(sH 0 "levels" (sI (lI (gY ["Halves"] "levels" aT)) (gN 3) KQ)) [aC p,aC Ω.length,aA 1,none] (Ω++[.lst []])=dU [aC p,aC Ω.length,aA w',y'] ((Ω++[Cell.lst []]).set Ω.length (.lst (aP (stI 1 ls)))):=by
  refine anJ (j:=Ω.length) (x := .lst (aP (stI 1 ls))) (fd := .lst (cO ls)) (c := .lst (cO ls)) rfl h1 rfl rfl rfl ?_ (by simp) (by omega) (by show gC _ _;exact Vt _ _) (fun j d hj=>?_)
  ·rw [QF (S:=srcOf (.aD (Ω++[Cell.lst []]).length) (cO ls)) (Ω':=dX (Ω++[Cell.lst []]) p "Halves" "levels" (jK keep many tk ls ts ov un) (.lst (cO ls))) (by
    unfold lI;rw [bZ lf];have:=wG (jV la);simp only [this])]
   exact q
  ·match j,hj with
   | 0,hj=>exact .inl hj
   | 1,hj=>exact .inl hj
   | 2,hj=>cases hj;exact .inr (by simp [Cl])
   | 3,hj =>
    rcases hy with e | ⟨L,e⟩
    ·subst e;cases hj
    ·subst e;cases hj;refine .inr ?_;simp only [Cl];exact BB fun a ha=>by obtain⟨x,_,rfl⟩:=qX.mp ha;simp only [Cl]
   | j+4,hj=>simp at hj
 rw [yY]at e1;show trim Ω (cS (Gb [aC p,none,none,none] Ω))=_;unfold Gb;rw [bP (ρ1:=[aC p,aC Ω.length,none,none]) (Ω':=Ω++[.lst []]) (by simp)];rw [bP (ρ1:=[aC p,aC Ω.length,aA 1,none]) (Ω':=Ω++[.lst []]) (by simp)];rw [bP e1];have e2:cH (GO 1) [aC p,aC Ω.length,aA w',y'] (Ω++[.lst (aP (stI 1 ls))])=some (.ret (.lst (aP (stI 1 ls))),[aC p,aC Ω.length,aA w',y'],Ω++[.dead]):=by
  unfold cH;rw [eP (x:=A.lst (aP (stI 1 ls))) (Ω':=Ω++[.dead]) (by simp)]
 rw [e2];simp only [cS];exact Ln (by simp only [Cl];exact Vt _ _)
end
open PyProof.Rows (step_dedup)
theorem Qd{ns:List Int}:∀{acc:List Int} {x:Int},x∈ns.foldl step_dedup acc↔x∈acc∨x∈ns:=by
 induction ns with
 | nil=>intro acc x;simp
 | cons n ns ih =>
  intro acc x;rw [Hx,ih];unfold step_dedup;split
  ·rename_i h;simp only [Ie,beq_iff_eq]at h;obtain⟨y,hy,e⟩:=h;subst e;constructor
   ·rintro(q | q)
    ·exact .inl q
    ·exact .inr (by simp [q])
   ·rintro(q | q)
    ·exact .inl q
    ·rcases dZ.mp q with r | r
     ·exact .inl (by rw [r];exact hy)
     ·exact .inr r
  ·simp [or_assoc]
theorem Pw{ns:List Int}:∀{acc:List Int},acc.Nodup→(ns.foldl step_dedup acc).Nodup:=by
 induction ns with
 | nil=>intro acc h;exact h
 | cons n ns ih =>
  intro acc h;rw [Hx];refine ih ?_;unfold step_dedup;split
  ·exact h
  ·rename_i q;refine Hs.mpr ⟨h,by simp,fun a ha b hb=>?_⟩;simp only [jP]at hb;subst hb;intro e;subst e;exact q (by simp only [Ie,beq_iff_eq];exact⟨a,ha,rfl⟩)
theorem anK(ns:List Int):∀acc:List Int,(ns.foldl step_dedup acc).length≤acc.length+ns.length:=by
 induction ns with
 | nil=>intro acc;simp
 | cons n ns ih =>
  intro acc;rw [Hx];refine kN (ih _) ?_;unfold step_dedup;split <;> simp <;> omega
theorem agP{a b:List Int}(h:a.Perm b):sortI (oI a)=sortI (oI b):=by
 refine VH ?_ (VJ _);refine(sortI_perm _).trans ?_;refine(List.perm_ext_iff_of_nodup (Pw (by simp)) (Pw (by simp))).mpr fun x=>?_;rw [Qd,Qd];simp [h.mem_iff]
theorem Ep(a:List Int):(oI a).length≤a.length:=by
 have:=anK a [];simpa [oI]using this
section
variable{p:Nat}{keep many tk:Int}{row:List Rn}{Ω:aI}{ls:List (List Int)}{ts:List Int}{ov un:Int}
theorem Mg(h:Ω[p]? = some (aW keep many tk ls ts ov un))(hz:bK ls≤3000){ρ:Ev}(h0:(ρ[0]?).join=(aC p)):eM "stand_ins" [("Halves",dW 1 [] CG)] aT a0 ρ Ω=aL (.lst (aP (stI 1 ls))) Ω :=
 nD h rfl h0 (as:=[]) (das:=[]) (by simp) rfl (by simpa using awE h (by omega))
theorem av9(h:Ω[p]? = some (aW keep many tk ls ts ov un))(hz:bK ls≤3000):SN [.aD p] Ω=aL (.aD Ω.length) (Ω++[.lst (aP (kE (stI 1 ls)))]):=by
 have q:=Mg h hz (ρ:=[aC p]) rfl;have hl:((stI 1 ls).map kU).length<4000:=by rw [fW,yV];omega
 have e:(aS (ER true) (aH (eM "stand_ins" [("Halves",dW 1 [] CG)] aT a0) a0)) [aC p] Ω=aL (.aD Ω.length) (Ω++[.lst (aP (kE (stI 1 ls)))]):=by
  unfold aS;rw [bZ (x:=[A.lst (aP (stI 1 ls))]) (Ω':=Ω) (by unfold aH;rw [bZ q];simp)];have e3:(cU Ω (.lst (aP (stI 1 ls)))).bind vY=some ((stI 1 ls).map kU):=UG _;unfold ER;simp only [e3];rw [if_pos hl,Va];rfl
 show trim Ω (cS (Fy [aC p] Ω))=_;unfold Fy cH;rw [eP e];simp only [cS];exact Lm
theorem awQ(h:Ω[p]? = some (aW keep many tk ls ts ov un))(hz:bK ls≤3000):yI [.aD p] Ω=aL (.lst (((stI 1 ls).map (·.1)).map A.int)) Ω:=by
 have q:=Mg h hz (ρ:=[aC p]) rfl;have hl:=yV 1 ls;have e:Gg [aC p] Ω=aL (.lst ((stI 1 ls).map fun r=>A.int r.1)) Ω:=by
  unfold Gg;exact MT (S:=srcOf (.lst (aP (stI 1 ls))) (aP (stI 1 ls))) (stI 1 ls) dI (fun r=>A.int r.1) (fun ρ=>∃y,ρ=[y]) (fun a b e=>by simp only [dI,A.tup.injEq,vL,A.int.injEq]at e;rw [e.1]) (by
   unfold lI;rw [bZ q];rfl) (fun _=>rfl) ⟨none,rfl⟩ rfl (by omega) (fun r _ ρ ⟨y,e⟩ ys=>by subst e;exact⟨[some (dI r)],⟨_,rfl⟩,by simp,by simp [dI]⟩) (fun n _=>by simp [Cl])
 show trim Ω (cS (Gh [aC p] Ω))=_;unfold Gh cH;rw [eP e];simp only [cS,tS];exact lL rfl
theorem Qz(h:Ω[p]? = some (aW keep many tk ls ts ov un))(hz:bK ls≤3000){ρ:Ev}(h0:(ρ[0]?).join=(aC p)):eM "kept" [("Halves",dW 1 [] yI)] aT a0 ρ Ω=aL (.lst (((stI 1 ls).map (·.1)).map A.int)) Ω :=
 nD h rfl h0 (as:=[]) (das:=[]) (by simp) rfl (by simpa using awQ h hz)
theorem awS(h:Ω[p]? = some (aW keep many tk ls ts ov un))(hz:bK ls≤3000):LV [.aD p] Ω=aL (.int (bK ls)) Ω:=by
 have q:=Qz h hz (ρ:=[aC p]) rfl;have hl:=yV 1 ls;have e:(aS iG (aH (eM "kept" [("Halves",dW 1 [] yI)] aT a0) a0)) [aC p] Ω=aL (.int (bK ls)) Ω:=by
  unfold aS;rw [bZ (x:=[A.lst (((stI 1 ls).map (·.1)).map A.int)]) (Ω':=Ω) (by unfold aH;rw [bZ q];simp)];simp [hl]
 show trim Ω (cS (Fx [aC p] Ω))=_;unfold Fx cH;rw [eP e];simp only [cS];exact lL rfl
theorem awJ(h:Ω[p]? = some (aW keep many tk ls ts ov un))(hz:bK ls≤3000):SK [.aD p] Ω=aL (.aD Ω.length) (Ω++[.lst ((sortI (oI ((stI 1 ls).map (·.1)))).map A.int)]):=by
 have q:=Qz h hz (ρ:=[aC p]) rfl;have hl:=yV 1 ls;have hd:=Ep ((stI 1 ls).map (·.1));have e:vW true (eM "kept" [("Halves",dW 1 [] yI)] aT a0) [aC p] Ω=aL (.aD Ω.length) (Ω++[.lst ((sortI (oI ((stI 1 ls).map (·.1)))).map A.int)]):=by
  unfold vW;rw [bZ q];have e3:(cU Ω (.lst (((stI 1 ls).map (·.1)).map A.int))).bind intsOf=some ((stI 1 ls).map (·.1)):=by
   show intsOf (((stI 1 ls).map (·.1)).map A.int)=_;exact EC _
  rw [fW]at hd;simp only [e3];rw [if_pos ⟨by rw [fW];omega,by omega⟩];rfl
 show trim Ω (cS (Fu [aC p] Ω))=_;unfold Fu cH;rw [eP e];simp only [cS];exact Lm
theorem awI(h:Ω[p]? = some (aW keep many tk ls ts ov un)):LW [.aD p] Ω=aL (.int (ov+un)) Ω:=by
 have f1:=tG (f := "over") (ρ:=[aC p]) (i:=0) h rfl rfl;have f2:=tG (f := "under") (ρ:=[aC p]) (i:=0) h rfl rfl;show trim Ω (cS (Ge [aC p] Ω))=_;unfold Ge cH;rw [eP (x:=A.int (ov+un)) (Ω':=Ω) (by unfold aF;rw [bZ f1,bZ f2];simp)];simp only [cS];exact lL rfl
theorem awP(h:Ω[p]? = some (aW keep many tk ls ts ov un)):yH [.aD p] Ω=aL (.int many) Ω:=by
 have f1:=tG (f := "many") (ρ:=[aC p]) (i:=0) h rfl rfl;show trim Ω (cS (Fw [aC p] Ω))=_;unfold Fw cH;rw [eP f1];simp only [cS];exact lL rfl
theorem awG(h:Ω[p]? = some (aW keep many tk ls ts ov un)):GD [.aD p] Ω=aL (.int tk) Ω:=by
 have f1:=tG (f := "taken") (ρ:=[aC p]) (i:=0) h rfl rfl;show trim Ω (cS (Ft [aC p] Ω))=_;unfold Ft cH;rw [eP f1];simp only [cS];exact lL rfl
end
theorem We:∀(m n:Nat) (v:Nat) (f:Int) (Ω:aI),v<2 ^ m→m<n→jW RE RD n [aA v,aA f] Ω=dU [aA 0,aA (f+iK v)] Ω
 | m,n,v,f,Ω,hv,hn=>by
  obtain⟨n,rfl⟩:∃j,n=j+1:=⟨n - 1,by omega⟩
  by_cases h:v=0
  ·subst h;rw [QH (Ω1:=Ω) (by simp [RE]),KO];simp
  ·match m,hv,hn with
   | 0,hv,_=>simp at hv;omega
   | m+1,hv,hn =>
    have d2:rE (v:Int) 2:=⟨by decide,by decide⟩;have pos:0<v:=by omega
    have e:RD [aA v,aA f] Ω=dU [aA ((v/2:Nat):Int),aA (f+1)] Ω:=by
     simp [RD,d2]
    rw [JZ (Ω1:=Ω) (by simp [RE,pos]) e,We m n (v/2) (f+1) Ω (by rw [Hc]at hv;omega) (by omega),xS pos];rw [show f+1+((iK (v/2):Nat):Int)=f+((iK (v/2)+1:Nat):Int)by omega]
theorem Hh(v:Nat)(hv:v<2 ^ 100)(Ω:aI):rC [.int v] Ω=aL (.int (iK v)) Ω:=by
 have q:=We 100 1000000 v 0 Ω hv (by omega);rw [Int.zero_add]at q;show trim Ω (cS (Fs [aA v,none] Ω))=_;unfold Fs;rw [bP (ρ1:=[aA v,aA 0]) (Ω':=Ω) (by simp)];rw [bP (ρ1:=[aA 0,aA (iK v)]) (Ω':=Ω) (by exact q)];simp [lL]
theorem Mc(x:Int):∀rs:List Rn,((rs.filter fun r=>decide (r.1≤x)).map (·.2)).sum=fB rs x
 | []=>rfl
 | r::rs=>by
  rw [fB,← Mc x rs]
  by_cases h:r.1≤x <;> simp [h]
theorem Yg(src:A)(rs:List Rn)(x:Int)(Ω:aI)(hs:∀Δ,gE (Ω++Δ) src=some (aP rs))(hl:rs.length≤100000):SI [src,.int x] Ω=aL (.int (fB rs x)) Ω:=by
 have Rx:=hs [];rw [oY]at Rx;have e:Fj [some src,aA x] Ω=aL (.lst ((rs.filter fun r=>decide (r.1≤x)).map fun r=>A.int r.2)) Ω:=by
  unfold Fj;exact aa7 (S:=srcOf src (aP rs)) rs dI (fun r=>A.int r.2) (fun r=>decide (r.1≤x)) (fun ρ=>∃y z,ρ=[y,z,aA x]) (fun a b e=>by simp only [dI,A.tup.injEq,vL,A.int.injEq,and_true]at e;rw [e.1,e.2];exact⟨rfl,rfl⟩) (by
   unfold lI;rw [bZ (x:=src) (Ω':=Ω) (by simp)];simp only [Rx]) (fun ys=>hs _) ⟨none,none,rfl⟩ rfl (by omega) (fun r _ ρ ⟨y,z,e⟩ ys=>by subst e;exact⟨[aA r.1,aA r.2,aA x],⟨_,_,rfl⟩,by simp [dI],by simp,by simp⟩) (fun n _=>by simp [Cl])
 have e2:intsOf ((rs.filter fun r=>decide (r.1≤x)).map fun r=>A.int r.2)=some ((rs.filter fun r=>decide (r.1≤x)).map (·.2)):=by
  have:=EC ((rs.filter fun r=>decide (r.1≤x)).map (·.2));rw [tS]at this;exact this
 show trim Ω (cS (Fl [some src,aA x] Ω))=_;unfold Fl cH;rw [eP (x:=A.int (fB rs x)) (Ω':=Ω) (by
  unfold aS;rw [bZ (x:=[A.lst ((rs.filter fun r=>decide (r.1≤x)).map fun r=>A.int r.2)]) (Ω':=Ω) (by unfold aH;rw [bZ e];simp)];rw [← Mc];simp [e2])]
 simp only [cS];exact lL rfl
section
variable{Ω Ω' Jq:aI}{ρ:Ev}
theorem uL{f g:Ev→Mo Bool}(h:f ρ Ω=aL false Ω'):iW f g ρ Ω=g ρ Ω':=by
 unfold iW;rw [bZ h];rfl
theorem HW{f:Ev→Mo Bool}{b:Bool}(h:f ρ Ω=aL b Ω'):nR f ρ Ω=aL (!b) Ω':=by
 unfold nR;rw [bZ h];rfl
theorem gQ{f:Ev→Mo A}{b:Bool}(h:f ρ Ω=aL (.bl b) Ω'):bM f ρ Ω=aL b Ω':=by
 unfold bM;rw [bZ h];rfl
theorem opE{g:A→A→Mo A}{f1 f2:Ev→Mo A}{a b:A}{Ω3:aI}{c:A}(h1:f1 ρ Ω=aL a Ω')(h2:f2 ρ Ω'=aL b Jq)(h3:g a b Jq=aL c Ω3):aF g f1 f2 ρ Ω=aL c Ω3:=by
 unfold aF;rw [bZ h1,bZ h2,h3]
theorem fH{g:A→A→Mo A}{f1 f2:Ev→Mo A}{a b c:A}(h1:f1 ρ Ω=aL a Ω)(h2:f2 ρ Ω=aL b Ω)(h3:g a b Ω=aL c Ω):aF g f1 f2 ρ Ω=aL c Ω:=opE h1 h2 h3
theorem wW{t:Ev→Mo Bool}{s:MS}(h:t ρ Ω=aL false Ω'):fG t s jE ρ Ω=dU ρ Ω':=by
 unfold fG;rw [eP h];rfl
theorem pW{f:Ev→Mo A}{i:Nat}{a:A}(h:f ρ Ω=aL a Ω'):bS f (gN i) ρ Ω=dU (ρ.set i (some a)) Ω':=by
 unfold bS;rw [eP h];rfl
theorem dA{i:Nat}{a:A}(h:(ρ[i]?).join=some a):dG i ρ Ω=aL a Ω:=by simp [h]
theorem Hg(n:Int)(Ω:aI):vP [.int n] Ω=aL (.bl true) Ω:=by simp [vP,Ws]
end
theorem OF(L:List Int):cD 8 (.lst (L.map A.int))=true:=by simp [cD]
theorem aiA{Ω:aI}{k:Nat}{L:List Int}(h:Ω[k]? = some (.lst (L.map A.int))):res Ω 6 (.aD k)=some (.lst (L.map A.int)):=by
 have hp:(L.map A.int).all (cD 8)=true:=by simp [cD]
 rw [Nx h,YJ _ hp];rfl
section
variable{Ω:aI}{ρ:Ev}
theorem bX{f:Ev→Mo A}{fs:Ev→Mo (List A)}{a:A}{as:List A}(h:f ρ Ω=aL a Ω)(hs:fs ρ Ω=aL as Ω):aH f fs ρ Ω=aL (a::as) Ω:=by
 unfold aH;rw [bZ h,bZ hs];rfl
theorem fD:a0 ρ Ω=aL [] Ω:=rfl
theorem asS(n:Int)(L:List Int):xF true (.int n) (.lst (L.map A.int)) Ω=aL (.bl (!decide (n∈L))) Ω:=by
 have r1:res Ω 6 (.int n)=(aA n):=uI (by simp [cD]);have r2:res Ω 6 (.lst (L.map A.int))=some (.lst (L.map A.int)):=uI (OF L);have p1:cD 7 (.int n)=true:=by simp [cD]
 have ea:((L.map A.int).any fun d=>fV 7 d (.int n))=decide (n∈L):=by
  rw [List.any_map];have e0:∀m:Int,((fun d=>fV 7 d (.int n)) ∘ A.int) m=decide (m=n):=fun m=>by
   simp only [Function.comp,fV]
   by_cases Sf:m=n
   ·simp [Sf]
   ·simp [Sf]
  rw [show((fun d=>fV 7 d (.int n)) ∘ A.int)=fun m=>decide (m=n)from funext e0];clear r2
  induction L with
  | nil=>rfl
  | cons m L ih =>
   rw [RZ,ih]
   by_cases hm:m=n
   ·simp [hm]
   ·have:¬n=m:=fun z=>hm z.symm;simp [hm,this]
 unfold xF;rw [r1,r2];simp only [p1,OF L,Bool.and_self,dP,ea]
end
section
variable{Ω Ω':aI}{ρ:Ev}
theorem Xa{f g:Ev→Mo Bool}(h:f ρ Ω=aL false Ω'):vX f g ρ Ω=aL false Ω':=by
 unfold vX;rw [bZ h];rfl
theorem Gn{f g:Ev→Mo Bool}(h:f ρ Ω=aL true Ω'):vX f g ρ Ω=g ρ Ω':=by
 unfold vX;rw [bZ h];rfl
theorem jL{F:List A→Mo A}{fs:Ev→Mo (List A)}{n:Nat}{as:List A}{a:A}(h:fs ρ Ω=aL as Ω)(hn:as.length=n)(hF:F as Ω=aL a Ω'):aS (bW n F) fs ρ Ω=aL a Ω':=by
 unfold aS;rw [bZ h];unfold bW;rw [if_pos hn];exact hF
end
@[simp] theorem az0{α:Type}(x y z u v w:α)(l:List α):gU (x::y::z::u::v::w::l) 5=some w:=RK _ 5
theorem ifB{t:Ev→Mo Bool}{f g:MS}{ρ:Ev}{Ω Ω':aI}{b:Bool}(h:t ρ Ω=aL b Ω'):fG t f g ρ Ω=if b then f ρ Ω' else g ρ Ω':=by
 unfold fG;rw [eP h]
theorem qR{g:List A→Mo A}{fs:Ev→Mo (List A)}{ρ:Ev}{Ω Ω':aI}{as:List A}{a:A}(h:fs ρ Ω=aL as Ω)(hg:g as Ω=aL a Ω'):aS g fs ρ Ω=aL a Ω':=by
 unfold aS;rw [bZ h];exact hg
section
variable{ρ:Ev}{Ω Ω':aI}
theorem asM{fo fi:Ev→Mo A}{k:Nat}{ws:List Rn}{n:Int}(h0:fo ρ Ω=aL (.aD k) Ω)(h:Ω[k]? = some (.bD (encD ws)))(h1:fi ρ Ω=aL (.int n) Ω):GQ fo fi eB ρ Ω=aL (.int (iJ ws n)) Ω:=by
 have cd:pT Ω (.aD k)=some (k,encD ws):=Eu h;unfold GQ;rw [bZ h0];rw [if_pos ⟨_,_,cd⟩];rw [bZ h1];rw [bZ (x := .int 0) (Ω':=Ω) (by simp)];simp only [Dq,cd,wR,Kz]
theorem ai6{fo fi fe:Ev→Mo A}{k:Nat}{ws:List Rn}{n t:Int}(h0:fo ρ Ω=aL (.aD k) Ω)(h:Ω[k]? = some (.bD (encD ws)))(h1:fi ρ Ω=aL (.int n) Ω)(h2:fe ρ Ω=aL (.int t) Ω)(nd:(ws.map (·.1)).Nodup)(hl:ws.length<100000) :
  NY (aF eN (GQ fo fi eB) fe) fo fi ρ Ω=dU ρ (Ω.set k (.bD (encD (jX ws n t)))):=by
 have cd:pT Ω (.aD k)=some (k,encD ws):=Eu h;have hz:(encD ws).length<sizeLine:=by rw [qK];simp [encD];omega
 unfold NY;rw [eP (fH (a := .int (iJ ws n)) (b := .int t) (c := .int (iJ ws n+t)) (asM h0 h h1) h2 (by simp))];rw [eP h0,eP h1];simp only [VN,cd,wR,if_pos hz,Ot ws n t nd]
end
theorem ak5(r:Rn)(Ω:aI):LU [dI r] Ω=aL (.bl true) Ω:=by
 simp [LU,Ww,Wv,dI,eG]
def pS:List Rn→List Rn→List Rn
 | acc,[]=>acc
 | acc,r::rs=>pS (jX acc r.2 1) rs
theorem cw_nodup:∀(rs acc:List Rn),(acc.map (·.1)).Nodup→((pS acc rs).map (·.1)).Nodup
 | [],acc,h=>h
 | r::rs,acc,h=>cw_nodup rs _ (YC acc r.2 1 h)
theorem cw_cnt(v:Int):∀(rs acc:List Rn),iJ (pS acc rs) v=iJ acc v+((rs.filter fun r=>decide (r.2=v)).length:Int)
 | [],acc=>by simp [pS]
 | r::rs,acc=>by
  rw [pS,cw_cnt v rs,Vp]
  by_cases h:r.2=v
  ·subst h;simp;omega
  ·simp [h,cA h]
theorem cw_keys{n:Int}:∀{rs acc:List Rn},n∈(pS acc rs).map (·.1)→n∈acc.map (·.1)∨∃r∈rs,r.2=n
 | [],acc,h => .inl h
 | r::rs,acc,h=>by
  rcases cw_keys (rs:=rs) h with q | ⟨s,q,e⟩
  ·rcases Ah acc r.2 1 n q with z | z
   ·exact .inl z
   ·exact .inr ⟨r,by simp,z.symm⟩
  ·exact .inr ⟨s,by simp [q],e⟩
theorem aaF{Ψ:aI}{d:Nat}{cs:List Rn}(pin:List Int)(r:Rn)(hr:r.1∈pin)(h1:1≤r.2)(h:Ψ[d]? = some (.bD (encD cs)))(nd:(cs.map (·.1)).Nodup)(hl:cs.length<100000)(x0 x1 x2 x3 x7 x8:Option A) :
  QW [x0,x1,x2,x3,aC d,iN (pin.map A.int),some (dI r),x7,x8] Ψ=dU [x0,x1,x2,x3,aC d,iN (pin.map A.int),some (dI r),x7,x8] (Ψ.set d (.bD (encD (jX cs r.2 1)))):=by
 have e0:∀Ω,(aF kI mE eB) [x0,x1,x2,x3,aC d,iN (pin.map A.int),some (dI r),x7,x8] Ω=aL (.int r.1) Ω:=fun Ω=>by simp [dI]
 have e1:∀Ω,(aF kI mE bR) [x0,x1,x2,x3,aC d,iN (pin.map A.int),some (dI r),x7,x8] Ω=aL (.int r.2) Ω:=fun Ω=>by simp [dI]
 have gm:xF true (.int r.1) (.lst (pin.map A.int)) Ψ=aL (.bl false) Ψ:=by rw [asS];simp [hr]
 have t:(iW (nR (bM (aS (bW 1 LU) (aH mE a0)))) (iW (bM (aF (xF true) (aF kI mE eB) qG)) (bM (aF xG (aF kI mE bR) bR)))) [x0,x1,x2,x3,aC d,iN (pin.map A.int),some (dI r),x7,x8] Ψ=aL false Ψ:=by
  rw [uL (HW (b:=true) (gQ (jL (bX (dA (a:=dI r) (by rfl)) fD) (by rfl) (ak5 r Ψ))))];rw [uL (gQ (fH (e0 Ψ) (dA (a := .lst (pin.map A.int)) (by rfl)) gm))];have:¬r.2<1:=by omega
  exact gQ (fH (e1 Ψ) (b := .int 1) (by simp) (by simp [this]))
 unfold QW;rw [bP (wW t)];exact ai6 (dA rfl) h (e1 Ψ) (by simp) nd hl
theorem Kf{n0 d:Nat}(pin:List Int)(ok:aI→Prop)(x0 x1 x2 x3 x7 x8:Option A):∀(rs cs:List Rn) (Ψ:aI) (x6:Option A),(∀r∈rs,r.1∈pin∧1≤r.2)→Ψ[d]? = some (.bD (encD cs))→(cs.map (·.1)).Nodup→cs.length+rs.length<100000→(∀c,ok (Ψ.set d (.bD c))) →
  ∃Zl,eG ok (gN 6) QW (aP rs) [x0,x1,x2,x3,aC d,iN (pin.map A.int),x6,x7,x8] Ψ=dU [x0,x1,x2,x3,aC d,iN (pin.map A.int),Zl,x7,x8] (Ψ.set d (.bD (encD (pS cs rs))))
 | [],cs,Ψ,x6,_,h,_,_,aK=>⟨x6,by
   have e:=sG h;have:=aK (encD cs);rw [e]at this;show eG _ _ _ [] _ _=_;rw [KC this];simp [pS,e]⟩
 | r::rs,cs,Ψ,x6,hr,h,nd,hl,aK=>by
  have hd:d<Ψ.length:=(bO.mp h).1;simp only [eA]at hl;have t:=aaF pin r (hr r (by simp)).1 (hr r (by simp)).2 h nd (by omega) x0 x1 x2 x3 x7 x8;obtain⟨y,q⟩:=Kf (n0:=n0) pin ok x0 x1 x2 x3 x7 x8 rs (jX cs r.2 1) (Ψ.set d (.bD (encD (jX cs r.2 1)))) (some (dI r)) (fun s hs=>hr s (by simp [hs])) (oR hd) (YC cs r.2 1 nd) (by have:=Qq cs r.2 1;omega) (fun c=>by rw [mT];exact aK c);refine⟨y,?_⟩;have XZ:ok Ψ:=by have:=aK (encD cs);rwa [sG h]at this
  show eG ok _ _ (dI r::aP rs) _ _=_;rw [KA XZ (ρ0:=[x0,x1,x2,x3,aC d,iN (pin.map A.int),some (dI r),x7,x8]) (Ω0:=Ψ) (by simp) t,q,mT,pS]
theorem Kg{keep:Int}(x0 x2 x3 x4 x5 x6:Option A):∀(cs:List Rn) (Ψ:aI) (x7 x8:Option A),(∀r∈cs,r.2<2*keep∧∃i:Nat,i<60∧r.1=2 ^ i) →
  ∃Zk Zj,eG (fun _=>True) (pO 2 (iH (gN 7) (iH (gN 8) pP))) Fi (aP cs) [x0,aA keep,x2,x3,x4,x5,x6,x7,x8] Ψ=dU [x0,aA keep,x2,x3,x4,x5,x6,Zk,Zj] Ψ
 | [],Ψ,x7,x8,_=>⟨x7,x8,by show eG _ _ _ [] _ _=_;rw [KC trivial]⟩
 | r::cs,Ψ,x7,x8,h=>by
  obtain⟨h1,i,hi,h2⟩:=h r (by simp);obtain⟨y7,y8,q⟩:=Kg x0 x2 x3 x4 x5 x6 cs Ψ (aA r.1) (aA r.2) (fun s hs=>h s (by simp [hs]));refine⟨y7,y8,?_⟩;have e2:((2:Int) ^ i)=((2 ^ i:Nat):Int):=by push_cast;rfl
  have hb:rC [.int r.1] Ψ=aL (.int ((i:Int)+1)) Ψ:=by
   rw [h2,e2];have:=Hh (2 ^ i) (Nat.pow_lt_pow_right (by decide) (by omega)) Ψ;rw [Wf]at this;exact this
  have cp:rX 1 (i:Int):=⟨by omega,by omega,by decide⟩;have t:(iW (bM (aF nE (aF (ES) bR (aF (jJ) (aS (bW 1 rC) (aH nP a0)) bR)) nP)) (bM (aF AO sD (aF (fT) gO bL)))) [x0,aA keep,x2,x3,x4,x5,x6,aA r.1,aA r.2] Ψ=aL false Ψ:=by
   have sh:(aF (ES) bR (aF (jJ) (aS (bW 1 rC) (aH nP a0)) bR)) [x0,aA keep,x2,x3,x4,x5,x6,aA r.1,aA r.2] Ψ=aL (.int r.1) Ψ:=by
    refine fH (a := .int 1) (b := .int ((i:Int)+1 - 1)) (by simp) (fH (a := .int ((i:Int)+1)) (b := .int 1) (jL (bX (dA (a := .int r.1) rfl) fD) rfl hb) (by simp) (by simp)) ?_;have:((i:Int)+1 - 1).toNat=i:=by omega
    simp [ES,gI,cp,this,h2]
   rw [uL (gQ (b:=false) (fH sh (dA (a := .int r.1) (by rfl)) (Df (by simp [cD]))))];have:¬2*keep≤r.2:=by omega
   exact gQ (fH (a := .int r.2) (b := .int (2*keep)) (by simp) (by simp [QO]) (by simp [this]))
  show eG _ _ _ (dI r::aP cs) _ _=_;rw [KA trivial (ρ0:=[x0,aA keep,x2,x3,x4,x5,x6,aA r.1,aA r.2]) (Ω0:=Ψ) (by simp [dI]) (ρ1:=[x0,aA keep,x2,x3,x4,x5,x6,aA r.1,aA r.2]) (Ω1:=Ψ) (by unfold Fi;exact wW t),q]
theorem Mj:∀{w:Int} {ls:List (List Int)} {r:Rn},r∈stI w ls→∃i:Nat,i<ls.length∧r.2=w*2 ^ i
 | w,L::ls,r,h=>by
  rw [stI]at h
  rcases iU.mp h with q | q
  ·obtain⟨n,hn,rfl⟩:=qX.mp q;exact⟨0,by simp,by simp⟩
  ·obtain⟨i,hi,h3⟩:=Mj q;exact⟨i+1,by simp;omega,by rw [h3,pI,qY]⟩
theorem Qt(q:Ev→Mo A)(j:Nat)(hq:q=mX false 2 [] (lI (dG j)) (pO 2 (iH (gN 0) (iH (gN 1) pP))) qD aT)(S:List Rn)(hl:S.length≤100000)(ρ:Ev)(Ω:aI)(k:Nat)(h0:(ρ[j]?).join=(aC k))(g:Ω[k]? = some (.lst (aP S))):q ρ Ω=aL (.lst ((S.map (·.1)).map A.int)) Ω:=by
 have hk:k<Ω.length:=(bO.mp g).1;have gi:cU Ω (.aD k)=some (aP S):=jV g;rw [hq,tS];exact MT (S:=srcOf (.aD k) (aP S)) S dI (fun r=>A.int r.1) (fun ρ=>∃u v,ρ=[u,v]) (fun a b e=>by simp only [dI,A.tup.injEq,vL,A.int.injEq]at e;rw [e.1]) (by simp [h0,gi]) (fun ys=>by
  show gE (Ω++[.lst ys]) (.aD k)=some (aP S);exact jV (by rw [eK hk];exact g)) ⟨none,none,rfl⟩ rfl (by omega) (fun r _ ρ ⟨u,v,e⟩ ys=>by subst e;exact⟨[aA r.1,aA r.2],⟨_,_,rfl⟩,by simp [dI],by simp⟩) (fun n _=>by simp [Cl])
theorem Qs(q:Ev→Mo A)(j:Nat)(hq:q=mX false 2 [] (lI (dG j)) (pO 2 (iH (gN 0) (iH (gN 1) pP))) qD bL)(S:List Rn)(hl:S.length≤100000)(ρ:Ev)(Ω:aI)(k:Nat)(h0:(ρ[j]?).join=(aC k))(g:Ω[k]? = some (.lst (aP S))):q ρ Ω=aL (.lst ((S.map (·.2)).map A.int)) Ω:=by
 have hk:k<Ω.length:=(bO.mp g).1;have gi:cU Ω (.aD k)=some (aP S):=jV g;rw [hq,tS];exact MT (S:=srcOf (.aD k) (aP S)) S dI (fun r=>A.int r.2) (fun ρ=>∃u v,ρ=[u,v]) (fun a b e=>by simp only [dI,A.tup.injEq,vL,A.int.injEq,and_true]at e;rw [e.2]) (by simp [h0,gi]) (fun ys=>by
  show gE (Ω++[.lst ys]) (.aD k)=some (aP S);exact jV (by rw [eK hk];exact g)) ⟨none,none,rfl⟩ rfl (by omega) (fun r _ ρ ⟨u,v,e⟩ ys=>by subst e;exact⟨[aA r.1,aA r.2],⟨_,_,rfl⟩,by simp [dI],by simp⟩) (fun n _=>by simp [Cl])
theorem UY:∀rs:List Rn,(rs.map (·.2)).sum=bI rs
 | []=>rfl
 | r::rs=>by simp [bI,UY rs]
section
variable{p:Nat}{keep many tk:Int}{row:List Rn}{Ω:aI}{ls:List (List Int)}{ts:List Int}{ov un:Int}
theorem awM{k:Nat}(h:Ω[p]? = some (aW keep many tk ls ts ov un))(hv:HV keep ls ts ov un row)(hk:1≤keep)(rO:∀L∈ls,(L.length:Int)<2*keep)(hz:bK ls≤3000)(hs:bI row≤1000000000000)(hr:Ω[k]? = some (.lst (aP row)))(Rz:row.length≤10000) :
  ∃cs,Ja [.aD p,.int keep,.aD k] Ω=aL (.aD Ω.length) (Ω++[.lst (aP (kE (stI 1 ls))),.bD (encD cs)]):=by
 have IT:=hv.short hs;have q1:=av9 h hz;have JG:=agR (stI 1 ls);have PL:=Ms (stI 1 ls);have iT:=yV 1 ls;have rP:=Mr (stI 1 ls);have Tg:∀r∈kE (stI 1 ls),r.1∈row.map (·.1)∧1≤r.2:=fun r EE=>by
  have hm:=rP.mem_iff.mp EE;obtain⟨⟨L,hL,hn⟩,i,hi⟩:=VD hm;refine⟨hv.mem L hL r.1 hn,?_⟩;have:=HJ i;rw [hi];omega
 have Th:∀v,(((kE (stI 1 ls)).filter fun r=>decide (r.2=v)).length:Int)<2*keep:=fun v=>by
  rw [(rP.filter _).length_eq];have:=Ml (m:=(2*keep - 1).toNat) v (w:=1) (ls:=ls) (by decide) (fun L hL=>by have:=rO L hL;omega);omega
 have Tf:∀r∈kE (stI 1 ls),∃i:Nat,i<60∧r.2=2 ^ i:=fun r EE=>by
  obtain⟨i,hi,e⟩:=Mj (rP.mem_iff.mp EE);exact⟨i,by omega,by rw [e];omega⟩
 generalize kE (stI 1 ls)=T at q1 JG PL Tg Th Tf;have IV:p<Ω.length:=(bO.mp h).1;have PM:k<Ω.length:=(bO.mp hr).1;have g1:(Ω++[Cell.lst (aP T)])[Ω.length]? = some (.lst (aP T)):=by simp
 have gi:cU (Ω++[Cell.lst (aP T)]) (.aD Ω.length)=some (aP T):=jV g1;have ty:=Lg g1;have IS:=UG T;have nW:=Va T;rw [JG]at nW;have OZ:(T.map kU).length<4000:=by rw [fW];omega
 have n1:nE (.aD Ω.length) (.lst (aP T)) (Ω++[Cell.lst (aP T)])=aL (.bl false) (Ω++[Cell.lst (aP T)]):=Dg (aiB g1) (uI (Ov T)) (Ov T);generalize T.map kU=us at IS nW OZ;have l2:(Ω++[Cell.lst (aP T)]).length=Ω.length+1:=by simp
 have hr2:(Ω++[Cell.lst (aP T),Cell.bD []])[k]? = some (.lst (aP row)):=by rw [eK PM];exact hr
 have gd:(Ω++[Cell.lst (aP T),Cell.bD []])[Ω.length+1]? = some (.bD (encD [])):=by simp [encD]
 obtain⟨y6,lp⟩:=Kf (n0:=Ω.length) (d:=Ω.length+1) (row.map (·.1)) (fun Ω'=>gE Ω' (.aD Ω.length)=some (aP T)) (aC p) (aA keep) (aC k) (aC Ω.length) none none T [] (Ω++[Cell.lst (aP T),Cell.bD []]) none Tg gd (by simp) (by simp;omega) (fun c=>by
  refine wG (jV ?_);rw [fY (by omega)];simp)
 have es:(Ω++[Cell.lst (aP T),Cell.bD []]).set (Ω.length+1) (.bD (encD (pS [] T)))=Ω++[.lst (aP T),.bD (encD (pS [] T))]:=by simp
 rw [es]at lp;have JP:∀r∈pS [] T,r.2<2*keep∧∃i:Nat,i<60∧r.1=2 ^ i:=fun r EE=>by
  have c1:=Vo (cw_nodup T [] (by simp)) EE;rw [cw_cnt]at c1;refine⟨by rw [← c1];simp [iJ];exact Th r.1,?_⟩
  rcases cw_keys (List.mem_map_of_mem (f:=(·.1)) EE)with z | ⟨s,z,e⟩
  ·simp at z
  ·obtain⟨i,hi,e2⟩:=Tf s z;exact⟨i,hi,by rw [← e];exact e2⟩
 generalize pS [] T=cs at lp JP;refine⟨cs,?_⟩;have Tu:(Ω++[Cell.lst (aP T),Cell.bD (encD cs)])[Ω.length+1]? = some (.bD (encD cs)):=by simp
 obtain⟨y7,y8,lp2⟩:=Kg (keep:=keep) (aC p) (aC k) (aC Ω.length) (aC (Ω.length+1)) (some (.lst ((row.map (·.1)).map A.int))) y6 cs ((Ω++[Cell.lst (aP T),Cell.bD (encD cs)]).set (Ω.length+1) .dead) none none JP;show trim Ω (cS (QX [aC p,aA keep,aC k,none,none,none,none,none,none] Ω))=_
 suffices hh:∃ρ',QX [aC p,aA keep,aC k,none,none,none,none,none,none] Ω=some (.ret (.aD Ω.length),ρ',Ω++[.lst (aP T),.bD (encD cs)])by
  obtain⟨ρ',e⟩:=hh;rw [e];simp [trim,Cl]
 refine⟨[aC p,aA keep,aC k,aC Ω.length,aC (Ω.length+1),iN ((row.map (·.1)).map A.int),y6,y7,y8],?_⟩;unfold QX;rw [bP (pW (nD h (by rfl) (by rfl) (as:=[]) (das:=[]) (by simp) (by rfl) (by simpa using q1)))];simp only [qW,qV];rw [bP (ρ1:=[aC p,aA keep,aC k,aC Ω.length,none,none,none,none,none]) (Ω':=Ω++[Cell.lst (aP T)]) (by simp [ty,gi,IS,OZ,nW,n1])];rw [bP (ρ1:=[aC p,aA keep,aC k,aC Ω.length,aC (Ω.length+1),none,none,none,none]) (Ω':=Ω++[Cell.lst (aP T),Cell.bD []]) (by simp)];rw [bP (pW (Qt Wt 2 rfl row (by omega) _ _ k rfl hr2))];simp only [qW,qV];rw [bP (ρ1:=[aC p,aA keep,aC k,aC Ω.length,aC (Ω.length+1),iN ((row.map (·.1)).map A.int),y6,none,none]) (Ω':=Ω++[.lst (aP T),.bD (encD cs)]) (by
  have gi2:cU (Ω++[Cell.lst (aP T),Cell.bD []]) (.aD Ω.length)=some (aP T):=jV (by simp);rw [QF (S:=srcOf (.aD Ω.length) (aP T)) (Ω':=Ω++[Cell.lst (aP T),Cell.bD []]) (by simp [gi2])];exact lp)]
 rw [bP (ρ1:=[aC p,aA keep,aC k,aC Ω.length,aC (Ω.length+1),iN ((row.map (·.1)).map A.int),y6,y7,y8]) (Ω':=Ω++[.lst (aP T),.bD (encD cs)]) (by
  have cd:pT (Ω++[Cell.lst (aP T),Cell.bD (encD cs)]) (.aD (Ω.length+1))=some (Ω.length+1,encD cs):=Eu Tu;unfold NX;simp only [List.getElem?_cons_succ,List.getElem?_cons_zero,Option.join_some,cd,aoF];rw [lp2];have bG:Ω.length+1<(Ω++[Cell.lst (aP T),Cell.bD (encD cs)]).length:=by simp
  simp only [UM,gX bG,mT];rw [sG Tu])]
 simp
end
theorem aj3{α:Type}{ds:List α}{lo hi st:Option Int}{a:α}(h:a∈nB ds lo hi st):a∈ds:=by
 unfold nB at h;obtain⟨i,_,e⟩:=List.mem_filterMap.mp h;exact kQ e
theorem Ph:(2:Nat) ^ 40=1099511627776:=rfl
theorem lt100{t:Nat}(h:t≤1000000000000):t<2 ^ 100:=lE (show t<2 ^ 40 by rw [Ph];omega) (Nat.pow_le_pow_right (by decide) (by decide))
theorem Wh{t:Nat}(h:t≤1000000000000):iK t≤41:=Wg (by rw [Ph];omega)
theorem ab1{Ω:aI}(off P B:Int)(hb:rC [.int P] Ω=aL (.int B) Ω)(h0:0≤off)(h1:off≤B*P)(hB:0≤B)(hB2:B≤100)(x0 x1 x2 x3 x4 x5 x6 x9 CM rY:Option A) :
  (iW (nR (bM (aS (bW 1 vP) (aH nP a0)))) (iW (bM (aF xG nP eB)) (bM (aF tD nP (aF (fT) (aS (bW 1 rC) (aH sD a0)) sD))))) [x0,x1,x2,x3,x4,x5,x6,aA off,aA P,x9,CM,rY] Ω=aL false Ω:=by
 rw [uL (HW (b:=true) (gQ (jL (bX (dA (a := .int off) (by rfl)) fD) (by rfl) (Hg _ _))))];have g0:¬off<0:=by omega
 rw [uL (gQ (b:=false) (fH (a := .int off) (b := .int 0) (by simp) (by simp) (by simp [g0])))];have hle:¬B*P<off:=by omega
 have cm:kB B P:=xQ (by omega) (by omega);generalize hX:B*P=X at hle;refine gQ (fH (a := .int off) (b := .int X) (by simp) (fH (a := .int B) (b := .int P) (jL (bX (dA (a := .int P) (by rfl)) fD) (by rfl) hb) (by simp) ?_) (by simp [hle]));simp [fT,gI,cm,hX]
theorem Tz(L:List Int)(Ω:aI):xE [.lst (L.map A.int)] Ω=aL (.int L.sum) Ω:=by
 simp [EC]
section
variable{p:Nat}{keep many tk:Int}{row:List Rn}{Ω:aI}{ls:List (List Int)}{ts:List Int}{ov un:Int}
theorem am9{Ψ:aI}{T:List Rn}{k n0:Nat}(off:Int)(hT:∀Δ,gE (Ψ++Δ) (.aD n0)=some (aP T))(hR:∀Δ,gE (Ψ++Δ) (.aD k)=some (aP row))(AB:T.length≤100000)(wY:row.length≤100000)(x:Int)(hx:(fB T x - fB row x).natAbs≤off)(x0 x1 x3 x4 x6 x8 CM rY:Option A) :
  QZ [x0,x1,aC k,x3,x4,aC n0,x6,aA off,x8,aA x,CM,rY] Ψ=dU [x0,x1,aC k,x3,x4,aC n0,x6,aA off,x8,aA x,CM,rY] Ψ:=by
 have u1:=Yg (.aD n0) T x Ψ hT AB;have u2:=Yg (.aD k) row x Ψ hR wY;unfold QZ;generalize fB T x=a at *;generalize fB row x=b at *;refine wW (gQ (fH (a := .int (if a - b<0 then -(a - b)else a - b)) (b := .int off) ?_ (by simp) ?_))
 ·exact qR (bX (fH (a := .int a) (b := .int b) (c := .int (a - b)) (jL (bX (dA (by rfl)) (bX (dA (by rfl)) fD)) (by rfl) u1) (jL (bX (dA (by rfl)) (bX (dA (by rfl)) fD)) (by rfl) u2) (by simp)) fD) (by simp)
 ·have:¬off<(if a - b<0 then -(a - b)else a - b):=by split <;> omega
  generalize (if a - b<0 then -(a - b)else a - b)=d at this;simp [this]
theorem Qj{Ψ:aI}{T:List Rn}{k n0:Nat}(off:Int)(hT:∀Δ,gE (Ψ++Δ) (.aD n0)=some (aP T))(hR:∀Δ,gE (Ψ++Δ) (.aD k)=some (aP row))(AB:T.length≤100000)(wY:row.length≤100000)(hx:∀x,((fB T x - fB row x).natAbs:Int)≤off)(x0 x1 x3 x4 x6 x8 rY:Option A)(ok:aI→Prop)(aK:ok Ψ):∀(xs:List A) (y z:Option A),(∀a∈xs,∃r:Rn,a=dI r) →
  ∃y' z',eG ok (pO 2 (iH (gN 9) (iH (gN 10) pP))) QZ xs [x0,x1,aC k,x3,x4,aC n0,x6,aA off,x8,y,z,rY] Ψ=dU [x0,x1,aC k,x3,x4,aC n0,x6,aA off,x8,y',z',rY] Ψ
 | [],y,z,_=>⟨y,z,by rw [KC aK]⟩
 | a::xs,y,z,h=>by
  obtain⟨r,rfl⟩:=h a (by simp);obtain⟨y',z',q⟩:=Qj off hT hR AB wY hx x0 x1 x3 x4 x6 x8 rY ok aK xs (aA r.1) (aA r.2) (fun b hb=>h b (by simp [hb]));refine⟨y',z',?_⟩;rw [KA aK (ρ0:=[x0,x1,aC k,x3,x4,aC n0,x6,aA off,x8,aA r.1,aA r.2,rY]) (Ω0:=Ψ) (by simp [dI]) (am9 off hT hR AB wY r.1 (hx r.1) x0 x1 x3 x4 x6 x8 (aA r.2) rY),q]
theorem ab2{Ω:aI}(held keep iX B:Int){n0:Nat}{ds:List A}(hl:cU Ω (.aD n0)=some ds)(hh:held=ds.length)(hb:rC [.int iX] Ω=aL (.int B) Ω)(h1:held≤(2*keep - 1)*B)(hB:0≤B)(hB2:B≤100)(x0 x2 x3 x6 x7 x8 x9 CM:Option A) :
  (iW (nR (bM (aS (bW 1 vP) (aH CS a0)))) (iW (bM (aF nE CS (aS iG (aH qG a0)))) (bM (aF tD CS (aF (fT) (aF (jJ) (aF (fT) gO bL) bR) (aS (bW 1 rC) (aH pF a0))))))) [x0,aA keep,x2,x3,aA iX,aC n0,x6,x7,x8,x9,CM,aA held] Ω=aL false Ω:=by
 rw [uL (HW (b:=true) (gQ (jL (bX (dA (a := .int held) (by rfl)) fD) (by rfl) (Hg _ _))))];have JH:iG [.aD n0] Ω=aL (.int held) Ω:=by
  have:=wG hl;simp [hl,this,hh]
 rw [uL (gQ (b:=false) (fH (a := .int held) (b := .int held) (by simp) (qR (bX (dA (a := .aD n0) (by rfl)) fD) JH) (Df (by simp [cD]))))];have hle:¬(2*keep - 1)*B<held:=by omega
 have cm:kB (2*keep - 1) B:=FC (by omega) (by omega);generalize hX:(2*keep - 1)*B=X at hle;refine gQ (fH (a := .int held) (b := .int X) (by simp) (fH (a := .int (2*keep - 1)) (b := .int B) (fH (a := .int (2*keep)) (b := .int 1) (by simp [QO]) (by simp) (by simp)) (jL (bX (dA (a := .int iX) (by rfl)) fD) (by rfl) hb) ?_) (by simp [hle]));simp [fT,gI,cm,hX]
theorem Gk{Ω:aI}{k:Nat}{ds:List A}{f:Ev→Mo A}{fa:Ev→Mo A}{a:A}{ρ:Ev}(h:Ω[k]? = some (.lst ds))(hf:f ρ Ω=aL (.aD k) Ω)(ha:fa ρ Ω=aL a Ω)(hl:ds.length≤100000):kF (pG tE f (aH fa a0)) ρ Ω=dU ρ (Ω.set k (.lst (ds++[a]))):=by
 have hi:zU Ω (.aD k):=OX (jV h);have hc:rU Ω (.aD k)=some (k,ds):=QQ h;have hz:ds.length<sizeLine:=by rw [qK];omega
 refine pQ (a := .bB) ?_;unfold pG;rw [bZ hf];simp [hi,ha,hc,hz]
theorem awN{k m:Nat}(h:Ω[p]? = some (aW keep many tk ls ts ov un))(hv:HV keep ls ts ov un row)(hk:1≤keep)(fS:keep≤100000)(rO:∀L∈ls,(L.length:Int)<2*keep)(hz:bK ls≤3000)(hs:bI row≤1000000000000)(hr:Ω[k]? = some (.lst (aP row)))(Rz:row.length≤10000)(hm:many=bI row)(ht:tk=m) :
  CC [.aD p,.int keep,.aD k,.int m] Ω=aL (.bl true) Ω:=by
 subst hm ht;obtain⟨cs,q2⟩:=awM h hv hk rO hz hs hr Rz;have IV:p<Ω.length:=(bO.mp h).1;have PM:k<Ω.length:=(bO.mp hr).1;have rP:=Mr (stI 1 ls);have PL:=Ms (stI 1 ls);have iT:=yV 1 ls;have Rv:bI (kE (stI 1 ls))=bI row:=by rw [agG rP,Mi,Int.one_mul,hv.wt]
 have Rm:∀x,fB (kE (stI 1 ls)) x=eI ls x:=fun x=>by rw [abA x rP,Mh,Int.one_mul]
 have PJ:sortI (oI ((kE (stI 1 ls)).map (·.1)))=sortI (oI ((stI 1 ls).map (·.1))):=agP (rP.map _);generalize kE (stI 1 ls)=T at q2 rP PL Rv Rm PJ;have h3:(Ω++[Cell.lst (aP T),.bD (encD cs)])[p]? = some (aW keep (bI row) m ls ts ov un):=by rw [eK IV];exact h
 have q4:=awJ h3 hz;have l3:(Ω++[Cell.lst (aP T),.bD (encD cs)]).length=Ω.length+2:=by simp
 rw [l3,fZ]at q4;generalize hN:sortI (oI ((stI 1 ls).map (·.1)))=N at q4 PJ;have a4:([Cell.lst (aP T),.bD (encD cs)]++[Cell.lst (N.map A.int)])=[Cell.lst (aP T),.bD (encD cs),.lst (N.map A.int)]:=rfl;rw [a4]at q4;have h4:∀Δ,(Ω++[Cell.lst (aP T),.bD (encD cs),.lst (N.map A.int)]++Δ)[p]? = some (aW keep (bI row) m ls ts ov un):=fun Δ=>by rw [fZ,eK IV];exact h
 have xD:=h4 [];rw [oY]at xD;have Sb:∀Δ,(Ω++[Cell.lst (aP T),.bD (encD cs),.lst (N.map A.int)]++Δ)[k]? = some (.lst (aP row)):=fun Δ=>by rw [fZ,eK PM];exact hr
 have Sa:=Sb [];rw [oY]at Sa;have hr3:(Ω++[Cell.lst (aP T),.bD (encD cs)])[k]? = some (.lst (aP row)):=by rw [eK PM];exact hr
 have gT3:(Ω++[Cell.lst (aP T),.bD (encD cs)])[Ω.length]? = some (.lst (aP T)):=by simp
 have Tw:∀Δ,(Ω++[Cell.lst (aP T),.bD (encD cs),.lst (N.map A.int)]++Δ)[Ω.length]? = some (.lst (aP T)):=fun Δ=>by simp
 have QC:=Tw [];rw [oY]at QC;have QD:(Ω++[Cell.lst (aP T),.bD (encD cs),.lst (N.map A.int)])[Ω.length+2]? = some (.lst (N.map A.int)):=by simp
 have q6:=awI xD;have q10:=awS xD hz;obtain⟨iX,Rp⟩:=vN (show 0≤bI row by rw [← hv.wt];exact GH ls);obtain⟨kp,EI⟩:=vN (show 0≤keep by omega);obtain⟨nW,uY,pN⟩:=hv.PY;rw [EI]at uY;have ob:=Pn (k:=kp) (by omega) (T:=iX) uY (by rw [hv.wt];omega);rw [pN]at ob;have lb:=YT (T:=iX) hv.last (by rw [hv.wt];omega);have tl:bK ls≤(2*kp - 1)*ls.length:=Lo fun L hL=>by have:=rO L hL;omega
 have tl2:bK ls≤(2*kp - 1)*iK iX:=kN tl (Nat.mul_le_mul_left _ lb);have bt:=Hh iX (lt100 (by omega));have bp:=Hh (iX/(2*kp)) (lt100 (kN (Nat.div_le_self _ _) (by omega)));have bb:iK (iX/(2*kp))≤41:=Wh (kN (Nat.div_le_self _ _) (by omega));have bb2:iK iX≤41:=Wh (by omega);have cnt:=hv.cnt;have HL:=hv.HL;have uD:=hv.uD;clear uY pN nW rP hN rO hv h;generalize Tp:Ω++[Cell.lst (aP T),.bD (encD cs),.lst (N.map A.int)]=Ω4 at *;generalize hO3:Ω++[Cell.lst (aP T),.bD (encD cs)]=Ω3 at *;have giT:cU Ω4 (.aD Ω.length)=some (aP T):=jV QC;have giN:cU Ω4 (.aD (Ω.length+2))=some (N.map A.int):=jV QD;have tyN:=Lg QD;have giR:cU Ω4 (.aD k)=some (aP row):=jV Sa;have e1:(aS xE (aH Fo a0)) [aC p,aA keep,aC k,aA m,none,none,none,none,none,none,none,none] Ω=aL (.int (bI row)) Ω:=by
  refine qR (bX (Qs Fo 2 rfl row (by omega) _ _ k rfl hr) fD) ?_;rw [Tz,UY]
 have t3:(iW (bM (aF (Dl false) qG cN)) (bM (aF nE (aS xE (aH Fn a0)) pF))) [aC p,aA keep,aC k,aA m,aA (bI row),aC Ω.length,none,none,none,none,none,none] Ω3=aL false Ω3:=by
  rw [uL (gQ (b:=false) (fH (a := .aD Ω.length) (b := .bB) (by simp) (by simp) (by simp [wV])))];refine gQ (fH (a := .int (bI row)) (b := .int (bI row)) ?_ (by simp) (Df (by simp [cD])));refine qR (bX (Qs Fn 5 rfl T (by omega) _ _ Ω.length rfl gT3) fD) ?_;rw [Tz,UY,Rv]
 have t5:(iW (nR (bM (aS sZ (aH mE (aH (cT "list") a0))))) (bM (aF nE mE (vW false QY)))) [aC p,aA keep,aC k,aA m,aA (bI row),aC Ω.length,aC (Ω.length+2),none,none,none,none,none] Ω4=aL false Ω4:=by
  rw [uL (Ω':=Ω4) (HW (b:=true) (gQ (b:=true) (by simp [tyN])))];have e7:vW false QY [aC p,aA keep,aC k,aA m,aA (bI row),aC Ω.length,aC (Ω.length+2),none,none,none,none,none] Ω4=aL (.lst (N.map A.int)) Ω4:=by
   unfold vW;rw [bZ (Qt QY 5 rfl T (by omega) _ _ Ω.length rfl QC)];have e3:(cU Ω4 (.lst ((T.map (·.1)).map A.int))).bind intsOf=some (T.map (·.1)):=by
    show intsOf ((T.map (·.1)).map A.int)=_;exact EC _
   have hd:=Ep (T.map (·.1));rw [fW]at hd;simp only [e3];rw [if_pos ⟨by rw [fW];omega,by omega⟩,PJ];rfl
  exact gQ (fH (a := .aD (Ω.length+2)) (b := .lst (N.map A.int)) (by simp) e7 (Dg (aiA QD) (uI (OF _)) (OF _)))
 have e8:(aF (nF) pF (aF (fT) gO bL)) [aC p,aA keep,aC k,aA m,aA (bI row),aC Ω.length,aC (Ω.length+2),aA (ov+un),none,none,none,none] Ω4=aL (.int ((iX/(2*kp):Nat):Int)) Ω4:=by
  refine fH (a := .int iX) (b := .int (2*(kp:Int))) (by simp [Rp]) (by simp [QO,EI]) ?_;have cd:rE (iX:Int) (2*(kp:Int)):=⟨by omega,by omega⟩;simp [nF,gI,cd]
 have apN:(eM "off" [("Halves",dW 1 [] LW)] aT a0) [aC p,aA keep,aC k,aA m,aA (bI row),aC Ω.length,aC (Ω.length+2),none,none,none,none,none] Ω4=aL (.int (ov+un)) Ω4:=nD xD rfl rfl (as:=[]) (das:=[]) (by simp) rfl (by simpa using q6);have t8:=ab1 (Ω:=Ω4) (ov+un) ((iX/(2*kp):Nat):Int) (iK (iX/(2*kp)):Int) (bp Ω4) (by omega) (by rw [← Int.natCast_mul];exact ob) (by omega) (by omega) (aC p) (aA keep) (aC k) (aA m) (aA (bI row)) (aC Ω.length) (aC (Ω.length+2)) none none none;have sT:∀Δ,gE (Ω4++Δ) (.aD Ω.length)=some (aP T):=fun Δ=>wG (jV (Tw Δ));have sR:∀Δ,gE (Ω4++Δ) (.aD k)=some (aP row):=fun Δ=>wG (jV (Sb Δ));have near:∀x,((fB T x - fB row x).natAbs:Int)≤ov+un:=fun x=>by
  have:=cnt x;rw [Rm x];omega
 have hX:∀a∈nB (aP row) (some ((m:Int)%3)) none (some 3),∃r:Rn,a=dI r:=fun a ha=>by
  obtain⟨r,_,e⟩:=qX.mp (aj3 ha);exact⟨r,e.symm⟩
 generalize hXX:nB (aP row) (some ((m:Int)%3)) none (some 3)=X at hX;obtain⟨y9,vS,lp⟩:=Qj (ov+un) sT sR (by omega) (by omega) near (aC p) (aA keep) (aA m) (aA (bI row)) (aC (Ω.length+2)) (aA ((iX/(2*kp):Nat):Int)) none (fun Ω'=>gE Ω' (.lst X)=some X) rfl X none none hX;have aqI:∀(y9 vS:Option A),(eM "held" [("Halves",dW 1 [] LV)] aT a0) [aC p,aA keep,aC k,aA m,aA (bI row),aC Ω.length,aC (Ω.length+2),aA (ov+un),aA ((iX/(2*kp):Nat):Int),y9,vS,none] Ω4=aL (.int (bK ls)) Ω4:=fun y9 vS=>nD xD rfl rfl (as:=[]) (das:=[]) (by simp) rfl (by simpa using q10);have UW:=ab2 (Ω:=Ω4) (bK ls:Int) keep (bI row) (iK iX:Int) giT (by simp [aP];omega) (by rw [Rp];exact bt Ω4) (by
  have:((bK ls:Nat):Int)≤(((2*kp - 1)*iK iX:Nat):Int):=by exact_mod_cast tl2
  rw [Int.natCast_mul]at this;have e:(((2*kp - 1:Nat)):Int)=2*keep - 1:=by omega
  rw [e]at this;exact this) (by omega) (by omega) (aC p) (aC k) (aA m) (aC (Ω.length+2)) (aA (ov+un)) (aA ((iX/(2*kp):Nat):Int)) y9 vS
 have g5:(Ω4.set (Ω.length+2) (.lst (N.map A.int++[.int 1])))[Ω.length]? = some (.lst (aP T)):=by rw [fY (by omega)];exact QC
 have hO6:(Ω4.set (Ω.length+2) (.lst (N.map A.int++[.int 1]))).set Ω.length (.lst (aP T++[.tup [.int 1,.int 1]]))=Ω++[.lst (aP T++[.tup [.int 1,.int 1]]),.bD (encD cs),.lst (N.map A.int++[.int 1])]:=by rw [← Tp];simp
 have h6:(Ω++[Cell.lst (aP T++[.tup [.int 1,.int 1]]),.bD (encD cs),.lst (N.map A.int++[.int 1])])[p]? = some (aW keep (bI row) m ls ts ov un):=by
  rw [eK IV];have:=xD;rw [← Tp,eK IV]at this;exact this
 have hNl:(N.map A.int).length≤100000:=by
  rw [← PJ,fW,yX];have:=Ep (T.map (·.1));rw [fW]at this;omega
 have s2:(2:Nat)≤sizeLine:=by decide
 show trim Ω (cS (RC [aC p,aA keep,aC k,aA m,none,none,none,none,none,none,none,none] Ω))=_
 suffices hh:∃ρ',RC [aC p,aA keep,aC k,aA m,none,none,none,none,none,none,none,none] Ω=some (.ret (.bl true),ρ',Ω++[.lst (aP T++[.tup [.int 1,.int 1]]),.bD (encD cs),.lst (N.map A.int++[.int 1])])by
  obtain⟨ρ',e⟩:=hh;rw [e];simp only [cS];exact Ln (by simp [Cl])
 refine⟨[aC p,aA keep,aC k,aA m,aA (bI row),aC Ω.length,aC (Ω.length+2),aA (ov+un),aA ((iX/(2*kp):Nat):Int),y9,vS,aA (bK ls)],?_⟩;unfold RC;rw [bP (pW e1)];simp only [qW,qV];rw [bP (pW (jL (bX (dA (a := .aD p) (by rfl)) (bX (dA (a := .int keep) (by rfl)) (bX (dA (a := .aD k) (by rfl)) fD))) (by rfl) q2))];simp only [qW,qV];rw [bP (wW t3)];rw [bP (pW (nD h3 (by rfl) (by rfl) (as:=[]) (das:=[]) (by simp) (by rfl) (by simpa using q4)))];simp only [qW,qV];rw [bP (wW t5)];rw [bP (pW apN)];simp only [qW,qV];rw [bP (pW e8)];simp only [qW,qV];rw [bP (wW t8)];rw [bP (ρ1:=[aC p,aA keep,aC k,aA m,aA (bI row),aC Ω.length,aC (Ω.length+2),aA (ov+un),aA ((iX/(2*kp):Nat):Int),y9,vS,none]) (Ω':=Ω4) (by
  rw [QF (S:=srcOf (.lst X) X) (Ω':=Ω4) (by simp [giR,hXX])];exact lp)]
 rw [bP (pW (aqI y9 vS))];simp only [qW,qV];rw [bP (wW UW)];rw [bP (Gk QD (dA (by rfl)) (a := .int 1) (by simp) hNl)];rw [bP (Gk g5 (dA (by rfl)) (a := .tup [.int 1,.int 1]) (by simp [s2]) (by simp [aP];omega)),hO6];generalize hρ:[some (A.aD p),aA keep,aC k,aA m,aA (bI row),aC Ω.length,aC (Ω.length+2),aA (ov+un),aA ((iX/(2*kp):Nat):Int),y9,vS,aA (bK ls)]=ρ;have v0:(ρ[0]?).join=(aC p):=by rw [← hρ];rfl
 have v3:(ρ[3]?).join=(aA m):=by rw [← hρ];rfl
 have v4:(ρ[4]?).join=(aA (bI row)):=by rw [← hρ];rfl
 generalize Ω++[Cell.lst (aP T++[.tup [.int 1,.int 1]]),.bD (encD cs),.lst (N.map A.int++[.int 1])]=Ω6 at h6 ⊢;have r1:(eM "length" [("Halves",dW 1 [] yH)] aT a0) ρ Ω6=aL (.int (bI row)) Ω6:=nD h6 rfl v0 (as:=[]) (das:=[]) (by simp) rfl (by simpa using awP h6);have r2:(eM "puts" [("Halves",dW 1 [] GD)] aT a0) ρ Ω6=aL (.int m) Ω6:=nD h6 rfl v0 (as:=[]) (das:=[]) (by simp) rfl (by simpa using awG h6);have r3:(aF kZ (jD false (aH (eM "length" [("Halves",dW 1 [] yH)] aT a0) (aH (eM "puts" [("Halves",dW 1 [] GD)] aT a0) a0))) (jD false (aH pF (aH gD a0)))) ρ Ω6=aL (.bl true) Ω6:=by
  refine fH (a := .lst [.int (bI row),.int m]) (b := .lst [.int (bI row),.int m]) ?_ ?_ (asU (by simp [cD]))
  ·unfold jD;rw [bZ (bX r1 (bX r2 fD))];simp [s2]
  ·unfold jD;rw [bZ (bX (dA v4) (bX (dA v3) fD))];simp [s2]
 have r4:(aS (bW 1 vP) (aH (eM "length" [("Halves",dW 1 [] yH)] aT a0) a0)) ρ Ω6=aL (.bl true) Ω6:=jL (bX r1 fD) rfl (Hg _ _);unfold cH;rw [eP (x:=A.bl true) (Ω':=Ω6) (by
  unfold DB;rw [bZ r3,bZ (x:=true) (Ω':=Ω6) (by simp)];simp only [dP];exact r4)]
end
theorem awC(ns:List Int):∃n:Nat,n≤59∧∀Ω,SJ [.cM ns,.int 4,.int 59] Ω=aL (.int n) Ω:=by
 have c:=fun Ω=>LG ns 3 Ω (by decide) (by decide);have c0:=QR ns 3;generalize tK ns 3=x at c c0;obtain⟨n,hn⟩:=vN (show 0≤min 59 (max (max 0 ((ns.length:Int) - 4)) (x%60))by omega);refine⟨n,by omega,fun Ω=>?_⟩;simp [SJ,Wu,bW,c];omega
theorem awD(ns:List Int)(zZ:ns.length≤63)(k:Nat)(hk:k≤60):∃c:Int,0≤c∧c<2147483587∧∀Ω,Jb [.cM ns,.int 4,.int k] Ω=aL (.int c) Ω:=by
 have hm:(0:Int)<max 1 (max 0 ((ns.length:Int) - 4)):=by omega
 have EH:max 1 (max 0 ((ns.length:Int) - 4))≤100:=by omega
 generalize hx:max 1 (max 0 ((ns.length:Int) - 4))=x at hm EH;have e0:=Iu (k:Int) (show x≠0 by omega);have e1:=Iv (k:Int) hm;generalize hy:(k:Int)%x=y at e0 e1;have c:=fun Ω=>LG ns (4+y) Ω (by omega) (by omega);have c0:=QR ns (4+y);have c1:=au6 ns (4+y);generalize tK ns (4+y)=z at c c0 c1;have m:=fun Ω=>LF z k Ω c0 (by omega) (by omega) (by omega);refine⟨wO z k,OK _ _,YG _ _,fun Ω=>?_⟩;have l1:(aS vC (aH eB (aH (aF (jJ) (aS iG (aH aT a0)) bL) a0))) [some (.cM ns),aA 4,aA k,none] Ω=aL (.int (max 0 ((ns.length:Int) - 4))) Ω:=by simp
 show trim Ω (cS (Fm [some (.cM ns),aA 4,aA k,none] Ω))=_;unfold Fm;rw [bP (pW l1)];simp only [qW,qV];have e:(aF eN bL (aF (gH) cC (aS vC (aH bR (aH gD a0))))) [some (.cM ns),aA 4,aA k,aA (max 0 ((ns.length:Int) - 4))] Ω=aL (.int (4+y)) Ω:=by
  refine fH (a := .int 4) (b := .int y) (by simp) (fH (a := .int k) (b := .int x) (by simp) (by simp [hx]) ?_) (by simp);simp [hm,hy]
 unfold cH;rw [eP (jL (bX (jL (bX (dA (a := .cM ns) (by rfl)) (bX e fD)) (by rfl) (c Ω)) (bX (dA (a := .int k) (by rfl)) fD)) (by rfl) (m Ω))];simp only [cS];exact lL rfl
theorem awK(c kind:Int)(hc:0≤c)(hc1:c<8589934592)(h0:0≤kind)(h4:kind≤4):∃n,∀Ω,qA [.int c,.int kind] Ω=aL (.int n) Ω:=by
 have h1:∀j,kB c j:=fun j=>xQ (by omega) (by omega);have vB:∀j,kB j 48271:=fun j=>FC (by decide) (by decide);have h2:∀j,kB 2 j:=fun j=>xQ (by decide) (by decide);have h3:rX 10 18:=⟨by decide,by decide,by decide⟩;have h5:rX 10 59:=⟨by decide,by decide,by decide⟩;have h6:rX 10 60:=⟨by decide,by decide,by decide⟩;have Er:∀j,rE j 14:=fun j=>⟨by decide,by decide⟩
 have s4:(4:Nat)≤sizeLine:=by decide
 have s3:(3:Nat)≤sizeLine:=by decide
 have hk:kind=0∨kind=1∨kind=2∨kind=3∨kind=4:=by omega
 rcases hk with e | e | e | e | e
 ·exact⟨c%7,fun Ω=>by simp [qA,rV,e]⟩
 ·exact⟨c%100 - 50,fun Ω=>by simp [qA,rV,e]⟩
 ·exact⟨c*c*48271%(2*10 ^ 18+1) - 10 ^ 18,fun Ω=>by simp [qA,rV,e,h1,vB,h2,h3]⟩
 ·have hm:c%4=0∨c%4=1∨c%4=2∨c%4=3:=by omega
  rcases hm with z | z | z | z
  ·exact⟨10 ^ 59+c,fun Ω=>by simp [qA,rV,e,z,h5,h6,s4]⟩
  ·exact⟨0 - 10 ^ 59 - c,fun Ω=>by simp [qA,rV,e,z,h5,h6,s4]⟩
  ·exact⟨10 ^ 60 - 1,fun Ω=>by simp [qA,rV,e,z,h5,h6,s4]⟩
  ·exact⟨1 - 10 ^ 60,fun Ω=>by simp [qA,rV,e,z,h5,h6,s4]⟩
 ·have hm:c%30/14=0∨c%30/14=1∨c%30/14=2:=by omega
  rcases hm with z | z | z
  ·exact⟨5,fun Ω=>by simp [qA,rV,e,z,Er,s3]⟩
  ·exact⟨0 - 5,fun Ω=>by simp [qA,rV,e,z,Er,s3]⟩
  ·exact⟨0,fun Ω=>by simp [qA,rV,e,z,Er,s3]⟩
theorem awA(c:Int)(hc:0≤c):∃t:Nat,1≤t∧t<2097152∧∀Ω,oZ [.int c] Ω=aL (.int t) Ω:=by
 have d8:∀j,rE j 8:=fun j=>⟨by decide,by decide⟩
 have s8:(8:Nat)≤sizeLine:=by decide
 have a6:∀(ds:List A),gU ds 6=ds[6]?:=fun ds=>tM ds 6;have a7:∀(ds:List A),gU ds 7=ds[7]?:=fun ds=>tM ds 7;obtain⟨i,hi⟩:=vN (show 0≤c/8%20 by omega);have uW:i<20:=by omega
 have cp:rX 1 (c/8%20):=⟨by omega,by omega,by decide⟩;have pw:((2:Int) ^ (c/8%20).toNat)=((2 ^ i:Nat):Int):=by rw [hi];simp
 have pl:2 ^ i≤2 ^ 19:=Nat.pow_le_pow_right (by decide) (by omega);have pl2:2 ^ i≤524288:=pl;have pg:1≤2 ^ i:=Nat.one_le_two_pow;generalize (2:Nat) ^ i=P at pw pl2 pg;have hm:c%8=0∨c%8=1∨c%8=2∨c%8=3∨c%8=4∨c%8=5∨c%8=6∨c%8=7:=by omega
 have go:∀(t:Nat),1≤t→t<2097152→(∀Ω,oZ [.int c] Ω=aL (.int t) Ω)→∃t:Nat,1≤t∧t<2097152∧∀Ω,oZ [.int c] Ω=aL (.int t) Ω:=fun t a b h=>⟨t,a,b,h⟩
 rcases hm with z | z | z | z | z | z | z | z
 ·exact go 1 (by omega) (by omega) fun Ω=>by simp [oZ,vF,d8,cp,pw,z,s8,a6,a7]
 ·exact go 1 (by omega) (by omega) fun Ω=>by simp [oZ,vF,d8,cp,pw,z,s8,a6,a7]
 ·obtain⟨t,ht⟩:=vN (show 0≤1+c/8%9 by omega);exact go t (by omega) (by omega) fun Ω=>by simp [oZ,vF,d8,cp,pw,z,s8,ht,a6,a7]
 ·obtain⟨t,ht⟩:=vN (show 0≤1+c/8%100 by omega);exact go t (by omega) (by omega) fun Ω=>by simp [oZ,vF,d8,cp,pw,z,s8,ht,a6,a7]
 ·obtain⟨t,ht⟩:=vN (show 0≤1+c/8%1000000 by omega);exact go t (by omega) (by omega) fun Ω=>by simp [oZ,vF,d8,cp,pw,z,s8,ht,a6,a7]
 ·exact go P (by omega) (by omega) fun Ω=>by simp [oZ,vF,d8,cp,pw,z,s8,a6,a7]
 ·obtain⟨t,ht⟩:=vN (show 0≤max 1 ((P:Int) - 1)by omega);exact go t (by omega) (by omega) fun Ω=>by simp [oZ,vF,d8,cp,pw,z,s8,ht,a6,a7]
 ·exact go 7 (by omega) (by omega) fun Ω=>by simp [oZ,vF,d8,cp,pw,z,s8,a6,a7]
theorem awR(ns:List Int):∃kp:Int,1≤kp∧kp≤1000∧∀Ω,qB [.cM ns] Ω=aL (.int kp) Ω:=by
 have c:=fun Ω=>LG ns 1 Ω (by decide) (by decide);have c0:=QR ns 1;generalize tK ns 1=x at c c0;have d8:∀j,rE j 8:=fun j=>⟨by decide,by decide⟩
 have s8:(8:Nat)≤sizeLine:=by decide
 have a6:∀(ds:List A),gU ds 6=ds[6]?:=fun ds=>tM ds 6;have a7:∀(ds:List A),gU ds 7=ds[7]?:=fun ds=>tM ds 7;have s4:(4:Nat)≤sizeLine:=by decide
 have go:∀(t:Int),1≤t→t≤1000→(∀Ω,qB [.cM ns] Ω=aL (.int t) Ω)→∃t:Int,1≤t∧t≤1000∧∀Ω,qB [.cM ns] Ω=aL (.int t) Ω:=fun t a b h=>⟨t,a,b,h⟩
 have hm:x%8=0∨x%8=1∨x%8=2∨x%8=3∨x%8=4∨x%8=5∨x%8=6∨x%8=7:=by omega
 rcases hm with z | z | z | z | z | z | z | z
 ·exact go (1+x/8%12) (by omega) (by omega) fun Ω=>by simp [qB,vG,bW,c,d8,z,s8,s4,a6,a7]
 ·exact go (1+x/8%12) (by omega) (by omega) fun Ω=>by simp [qB,vG,bW,c,d8,z,s8,s4,a6,a7]
 ·exact go (1+x/8%12) (by omega) (by omega) fun Ω=>by simp [qB,vG,bW,c,d8,z,s8,s4,a6,a7]
 ·exact go (1+x/8%3) (by omega) (by omega) fun Ω=>by simp [qB,vG,bW,c,d8,z,s8,s4,a6,a7]
 ·exact go (1+x/8%3) (by omega) (by omega) fun Ω=>by simp [qB,vG,bW,c,d8,z,s8,s4,a6,a7]
 ·exact go (1+x/8%3) (by omega) (by omega) fun Ω=>by simp [qB,vG,bW,c,d8,z,s8,s4,a6,a7]
 ·exact go (1+x/8%60) (by omega) (by omega) fun Ω=>by simp [qB,vG,bW,c,d8,z,s8,s4,a6,a7]
 ·exact go 1000 (by omega) (by omega) fun Ω=>by simp [qB,vG,bW,c,d8,z,s8,s4,a6,a7]
theorem awV(ns:List Int)(zZ:ns.length≤63)(k:Nat)(hk:k≤60):∃(c n:Int) (t:Nat),1≤t∧t<2097152∧∀Ω,Jc [.cM ns,.int k] Ω=aL (.lst [.int c,.int n,.int t]) Ω:=by
 obtain⟨c,c0,c1,hc⟩:=awD ns zZ k hk;have m1:=fun Ω=>LF c 1 Ω c0 (by omega) (by decide) (by decide);have m2:=fun Ω=>LF c 2 Ω c0 (by omega) (by decide) (by decide);have z:=fun Ω=>LG ns 0 Ω (by decide) (by decide);have z0:=QR ns 0;generalize tK ns 0=x at z z0;have d6:∀j,rE j 6:=fun j=>⟨by decide,by decide⟩
 have c5:kB (x%6) 5:=FC (by decide) (by decide);obtain⟨n,hn⟩:=awK (wO c 1) (x%6*5/6) (OK _ _) (by have:=YG c 1;omega) (by omega) (by omega);obtain⟨t,t1,t2,ht⟩:=awA (wO c 2) (OK _ _);refine⟨c,n,t,t1,t2,fun Ω=>?_⟩;have s3:(3:Nat)≤sizeLine:=by decide
 show trim Ω (cS (Fp [some (.cM ns),aA k,none,none] Ω))=_;unfold Fp;rw [bP (pW (jL (bX (dA (a := .cM ns) (by rfl)) (bX (f:=cI 4) (a := .int 4) (by simp) (bX (dA (a := .int k) (by rfl)) fD))) (by rfl) (hc Ω)))];simp only [qW,qV];have e1:(aF (nF) (aF (fT) (aF (gH) (aS (bW 2 tW) (aH aT (aH eB a0))) MK) ML) MK) [some (.cM ns),aA k,aA c,none] Ω=aL (.int (x%6*5/6)) Ω:=by
  refine fH (a := .int (x%6*5)) (b := .int 6) (fH (a := .int (x%6)) (b := .int 5) (fH (a := .int x) (b := .int 6) (jL (bX (dA (a := .cM ns) (by rfl)) (bX (f:=cI 0) (a := .int 0) (by simp) fD)) (by rfl) (z Ω)) (by simp) (by simp)) (by simp) (by simp [fT,gI,c5])) (by simp) (by simp [nF,gI,d6])
 rw [bP (pW (jL (bX (jL (bX (dA (a := .int c) (by rfl)) (bX (f:=cI 1) (a := .int 1) (by simp) fD)) (by rfl) (m1 Ω)) (bX e1 fD)) (by rfl) (hn Ω)))];simp only [qW,qV];have e2:(aS (bW 1 oZ) (aH (aS (bW 2 yG) (aH cC (aH gO a0))) a0)) [some (.cM ns),aA k,aA c,aA n] Ω=aL (.int t) Ω:=jL (bX (jL (bX (dA (a := .int c) (by rfl)) (bX (f:=cI 2) (a := .int 2) (by simp) fD)) (by rfl) (m2 Ω)) fD) (by rfl) (ht Ω);unfold cH;rw [eP (x:=A.lst [.int c,.int n,.int t]) (Ω':=Ω) (by
  unfold jD;rw [bZ (bX (dA (a := .int c) (by rfl)) (bX (dA (a := .int n) (by rfl)) (bX e2 fD)))];simp [s3])]
 simp only [cS];exact lL rfl
structure BJ(keep:Int)(i:Nat)(Ω:aI)(ls:List (List Int))(ts:List Int)(ov un:Int)(row:List Rn):Prop where
 st:Ω=[aW keep (bI row) i ls ts ov un,.lst (aP row)]
 hv:HV keep ls ts ov un row
 sm:∀L∈ls,(L.length:Int)<2*keep
 tz:bK ls≤21*i
 su:bI row≤2097152*i
 rl:row.length=i
theorem BJ.look{keep:Int}{i:Nat}{Ω:aI}{ls:List (List Int)}{ts:List Int}{ov un:Int}{row:List Rn}(h:BJ keep i Ω ls ts ov un row)(hk:1≤keep)(fS:keep≤1000)(hi:i≤60):CC [.aD 0,.int keep,.aD 1,.int i] Ω=aL (.bl true) Ω:=by
 have e:=h.st;subst e;exact awN (k:=1) (p:=0) rfl h.hv hk (by omega) h.sm (by have:=h.tz;omega) (by have:=h.su;omega) rfl (by have:=h.rl;omega) rfl rfl
theorem anR(ns:List Int)(zZ:ns.length≤63){keep:Int}(hk:1≤keep)(fS:keep≤1000)(am:Int)(i:Nat)(hi:i<59){Ω:aI}{ls:List (List Int)}{ts:List Int}{ov un:Int}{row:List Rn}(h:BJ keep i Ω ls ts ov un row)(y6 y7 y8:Option A) :
  ∃Zh Zg Zf Ω' bJ cG dM dB XB,BJ keep (i+1) Ω' bJ cG dM dB XB∧QU [some (.cM ns),aA keep,aC 0,aC 1,aA am,aA i,y6,y7,y8] Ω=dU [some (.cM ns),aA keep,aC 0,aC 1,aA am,aA i,Zh,Zg,Zf] Ω':=by
 obtain⟨c,n,t,t1,t2,hd⟩:=awV ns zZ i (by omega);have h0:Ω[0]? = some (aW keep (bI row) i ls ts ov un):=by rw [h.st];rfl
 obtain⟨bJ,cG,dM,dB,q1,q2,q3,q4⟩:=awH (tk:=(i:Int)) n t hk (by omega) t1 t2 (by have:=h.su;omega) h0 h.hv rfl (by have:=h.tz;omega);have eO:Ω.set 0 (aW keep (bI row+t) (i+1) bJ cG dM dB)=[aW keep (bI row+t) (i+1) bJ cG dM dB,.lst (aP row)]:=by rw [h.st];rfl
 rw [eO]at q4;have es:bI (row++[(n,(t:Int))])=bI row+t:=by rw [yU];simp [bI]
 have s2:BJ keep (i+1) [aW keep (bI row+t) (i+1) bJ cG dM dB,.lst (aP (row++[(n,(t:Int))]))] bJ cG dM dB (row++[(n,(t:Int))]) :=
  ⟨by rw [es];rfl,q1,q3,by have:=h.tz;omega,by rw [es];have:=h.su;omega,by simp [h.rl]⟩
 have lk:=s2.look hk fS (by omega);refine⟨aA c,aA n,aA t,_,bJ,cG,dM,dB,_,s2,?_⟩;have s2z:(2:Nat)≤sizeLine:=by decide
 unfold QU;rw [bP (ρ1:=[some (.cM ns),aA keep,aC 0,aC 1,aA am,aA i,aA c,aA n,aA t]) (Ω':=Ω) (by
  unfold bS;rw [eP (jL (bX (dA (a := .cM ns) (by rfl)) (bX (dA (a := .int i) (by rfl)) fD)) (by rfl) (hd Ω))];simp)]
 rw [bP (ρ1:=[some (.cM ns),aA keep,aC 0,aC 1,aA am,aA i,aA c,aA n,aA t]) (Ω':=[aW keep (bI row+t) (i+1) bJ cG dM dB,.lst (aP row)]) (by
  have tb:∃b,(vX (bM (aF kZ sD bR)) (bM (aF kZ (aF (gH) mE gO) eB))) [some (.cM ns),aA keep,aC 0,aC 1,aA am,aA i,aA c,aA n,aA t] Ω=aL b Ω∧(b=true→t=1):=by
   by_cases e:t=1
   ·subst e
    by_cases e2:c%2=0
    ·refine⟨true,?_,fun _=>rfl⟩;rw [Gn (gQ (b:=true) (fH (a := .int 1) (b := .int 1) (by simp) (by simp) (by simp)))];exact gQ (fH (a := .int (c%2)) (b := .int 0) (by simp) (by simp) (by simp [e2]))
    ·refine⟨false,?_,fun z=>by cases z⟩;rw [Gn (gQ (b:=true) (fH (a := .int 1) (b := .int 1) (by simp) (by simp) (by simp)))];exact gQ (fH (a := .int (c%2)) (b := .int 0) (by simp) (by simp) (by simp [e2]))
   ·refine⟨false,?_,fun z=>by cases z⟩;have e':¬(t:Int)=1:=by omega
    exact Xa (gQ (b:=false) (fH (a := .int t) (b := .int 1) (by simp) (by simp) (by simp [e'])))
  obtain⟨b,tb,hb⟩:=tb;rw [ifB tb];cases b with
  | true =>
   have e:=hb rfl;subst e;simp only [dP];exact pQ (a := .bB) (nD h0 rfl rfl (as:=[.int n]) (das:=[.int 1]) (by simp) rfl (by simpa using q4))
  | false =>
   simp only [iD,eF];exact pQ (a := .bB) (nD h0 rfl rfl (as:=[.int n,.int t]) (das:=[]) (by simp) rfl (by simpa using q4)))]
 have er:aP row++[A.tup [.int n,.int t]]=aP (row++[(n,(t:Int))]):=by simp [aP,dI]
 rw [bP (ρ1:=[some (.cM ns),aA keep,aC 0,aC 1,aA am,aA i,aA c,aA n,aA t]) (Ω':=[aW keep (bI row+t) (i+1) bJ cG dM dB,.lst (aP (row++[(n,(t:Int))]))]) (by
  rw [Gk (k:=1) (ds:=aP row) (a := .tup [.int n,.int t]) rfl (dA (by rfl)) (by simp [s2z]) (by simp [aP];have:=h.rl;omega),er];rfl)]
 generalize hO:[aW keep (bI row+t) (i+1) bJ cG dM dB,.lst (aP (row++[(n,(t:Int))]))]=Ω2 at lk ⊢;have gl:Ω2[1]? = some (.lst (aP (row++[(n,(t:Int))]))):=by rw [← hO];rfl
 have JH:iG [.aD 1] Ω2=aL (.int ((i+1:Nat):Int)) Ω2:=by
  have l1:cU Ω2 (.aD 1)=_:=jV gl;have l2:=wG l1;simp [l1,l2,aP,h.rl]
 refine wW ?_
 by_cases e:(i:Int)=am
 ·rw [Gn (gQ (b:=true) (fH (a := .int i) (b := .int am) (by simp) (by simp) (by simp [e])))];exact HW (b:=true) (gQ (jL (bX (dA (a := .aD 0) (by rfl)) (bX (dA (a := .int keep) (by rfl)) (bX (dA (a := .aD 1) (by rfl)) (bX (qR (bX (dA (a := .aD 1) (by rfl)) fD) JH) fD)))) (by rfl) lk))
 ·exact Xa (gQ (b:=false) (fH (a := .int i) (b := .int am) (by simp) (by simp) (by simp [e])))
theorem anQ(ns:List Int)(h:ns.length≤63):∃W,Yt [.cM ns] []=aL (.bl true) W:=by
 obtain⟨keep,hk,fS,EI⟩:=awR ns;obtain⟨N,hN,iT⟩:=awC ns;have z:=fun Ω=>LG ns 2 Ω (by decide) (by decide);generalize tK ns 2=x at z;have s0:BJ keep 0 [aW keep 0 0 [] [] 0 0,.lst []] [] [] 0 0 []:=⟨rfl,Rk keep,by simp,by simp [bK],by simp [bI],rfl⟩;have rO:DI (N:Int):=⟨by omega,by omega⟩;obtain⟨ρ1,Ω1,e1,y5,y6,y7,y8,ls,ts,ov,un,row,rfl,hS⟩:=Us (ok:=fun _=>True) (g:=gN 5) (b:=QU)
  (fun i ρ Ω=>∃(y5 y6 y7 y8:Option A) (ls:List (List Int)) (ts:List Int) (ov un:Int) (row:List Rn),ρ=[some (.cM ns),aA keep,aC 0,aC 1,aA (x%40),y5,y6,y7,y8]∧BJ keep i Ω ls ts ov un row) (fun _ _ _ _=>trivial)
  ((List.range N).map fun(i:Nat)=>A.int (0+(i:Int))) 0 [some (.cM ns),aA keep,aC 0,aC 1,aA (x%40),none,none,none,none] [aW keep 0 0 [] [] 0 0,.lst []] ⟨none,none,none,none,[],[],0,0,[],rfl,s0⟩
  (by
   rintro i a ρ Ω hx ⟨y5,y6,y7,y8,ls,ts,ov,un,row,rfl,hS⟩;have hi:i<N:=by simpa using(bO.mp hx).1
   obtain rfl:A.int (0+(i:Int))=a:=by
    have:=(bO.mp hx).2;simpa using this
   rw [LB]at hS ⊢;obtain⟨z6,z7,z8,Ω',bJ,cG,dM,dB,XB,q1,q2⟩:=anR ns h hk fS (x%40) i (by omega) hS y6 y7 y8;refine⟨[some (.cM ns),aA keep,aC 0,aC 1,aA (x%40),aA i,y6,y7,y8],Ω,_,Ω',by simp,.inl q2,aA i,z6,z7,z8,bJ,cG,dM,dB,XB,rfl,q1⟩)
 simp only [LB,fW,Hu]at hS;have lk:=hS.look hk fS (by omega);have JH:iG [.aD 1] Ω1=aL (.int N) Ω1:=by
  have g:Ω1[1]? = some (.lst (aP row)):=by rw [hS.st];rfl
  have l1:cU Ω1 (.aD 1)=_:=jV g;have l2:=wG l1;simp [l1,l2,aP,hS.rl]
 refine⟨Ω1.take 0,?_⟩;show trim [] (cS (Fh [some (.cM ns),none,none,none,none,none,none,none,none] []))=_;unfold Fh;rw [bP (pW (jL (bX (dA (a := .cM ns) (by rfl)) fD) (by rfl) (EI [])))];simp only [qW,qV];rw [bP (pW (qR (bX (dA (a := .int keep) (by rfl)) fD) (awL [] keep)))];simp only [qW,qV,yC,FW];rw [bP (ρ1:=[some (.cM ns),aA keep,aC 0,aC 1,none,none,none,none,none]) (Ω':=[aW keep 0 0 [] [] 0 0,.lst []]) (by simp)];rw [bP (ρ1:=[some (.cM ns),aA keep,aC 0,aC 1,aA (x%40),none,none,none,none]) (Ω':=[aW keep 0 0 [] [] 0 0,.lst []]) (by simp [bW,z])];have rg:=ah5 (ρ:=[some (.cM ns),aA keep,aC 0,aC 1,aA (x%40),none,none,none,none]) (bX (jL (n:=3) (bX (dA (i:=0) (a := .cM ns) (by rfl)) (bX (f:=cI 4) (a := .int 4) (by simp) (bX (f:=cI 59) (a := .int 59) (by simp) fD))) (by rfl) (iT [aW keep 0 0 [] [] 0 0,.lst []])) fD) rO;rw [bP (ρ1:=[some (.cM ns),aA keep,aC 0,aC 1,aA (x%40),y5,y6,y7,y8]) (Ω':=Ω1) (by
  rw [QF rg];exact e1)]
 have r1:(aS (bW 4 CC) (aH cC (aH bL (aH gD (aH (aS iG (aH gD a0)) a0))))) [some (.cM ns),aA keep,aC 0,aC 1,aA (x%40),y5,y6,y7,y8] Ω1=aL (.bl true) Ω1:=jL (bX (dA (a := .aD 0) (by rfl)) (bX (dA (a := .int keep) (by rfl)) (bX (dA (a := .aD 1) (by rfl)) (bX (qR (bX (dA (a := .aD 1) (by rfl)) fD) JH) fD)))) (by rfl) lk;unfold cH;rw [eP (x:=A.bl true) (Ω':=Ω1) (by
  unfold DB;rw [bZ r1,bZ (x:=true) (Ω':=Ω1) (by simp)];simp only [dP];exact r1)]
 simp [trim,Cl]
end M
namespace Il
open PySem L2 V2 PyProof.Rows M
def top(i:Nat):Stmt:=PySem.Challenge.pw_rankpouch_k52_weights_of_halves.main.body.getD i (.Pass ⟨0,0,0,0⟩)
abbrev VY:Stmt:=top 9
abbrev WG:Stmt:=top 12
abbrev WJ:Stmt:=top 13
abbrev WE:Stmt:=top 14
abbrev WA:Stmt:=top 15
abbrev NU:Stmt:=top 16
abbrev WK:Stmt:=top 17
abbrev WD:Stmt:=top 18
abbrev VZ:Stmt:=top 19
abbrev WB:Stmt:=top 20
abbrev WC:Stmt:=top 21
abbrev WI:Stmt:=top 22
abbrev WH:Stmt:=top 23
abbrev NT:Stmt:=top 24
abbrev DK:Stmt:=top 25
abbrev zB:Stmt:=inClass (top 6) 0
abbrev zA:Stmt:=inClass (top 6) 1
abbrev WN:Stmt:=inClass (top 6) 3
abbrev WO:Stmt:=inClass (top 6) 4
abbrev WL:Stmt:=inClass (top 6) 5
abbrev WQ:Stmt:=inClass (top 6) 6
abbrev WM:Stmt:=inClass (top 6) 7
abbrev zC:Stmt:=inClass (top 10) 0
abbrev WS:Stmt:=inClass (top 10) 2
abbrev WV:Stmt:=inClass (top 10) 4
abbrev WT:Stmt:=inClass (top 10) 5
abbrev WW:Stmt:=inClass (top 10) 6
abbrev NV:Stmt:=inClass (top 10) 7
abbrev WR:Stmt:=inClass (top 10) 8
abbrev NW:Stmt:=inClass (top 10) 9
abbrev WU:Stmt:=inClass (top 10) 10
abbrev uH:Stmt:=top 26
structure dR(mg:Str→Option Value):Prop where
 abs:mg "abs" = none
 bool:mg "bool" = none
 int:mg "int" = none
 isinstance:mg "isinstance" = none
 len:mg "len" = none
 list:mg "list" = none
 max:mg "max" = none
 min:mg "min" = none
 range:mg "range" = none
 set:mg "set" = none
 sorted:mg "sorted" = none
 sum:mg "sum" = none
 tuple:mg "tuple" = none
section
variable(P:Program)(w:World)(K:Frag)(mg:Str→Option Value)(base:Heap)
abbrev Xu:=eX P w K mg base "halved" 1 ["some", "turn"] Iz
abbrev RM:=eX P w K mg base "_law_mix" 1 ["_law_cell_here", "_law_k"] yG
abbrev Xl:=eX P w K mg base "_law_number" 1 ["_law_cell_here", "_law_sort"] qA
abbrev Xk:=eX P w K mg base "_law_times" 1 ["_law_cell_here"] oZ
abbrev Xj:=eX P w K mg base "_law_upto" 1 ["_law_row", "_law_number_here"] SI
abbrev Gw:=eX P w K mg base "_law_bits" 1 ["_law_number_here"] rC
abbrev Xi:=eX P w K mg base "_law_pair" 1 ["_law_found"] LU
abbrev Xh:=eX P w K mg base "_law_whole" 1 ["_law_found"] vP
abbrev Xg:=cL P w K mg base "Halves" "stand_ins" 1 1 [] CG
abbrev FJ:=eX P w K mg base "_law_cell" 2 ["_law_script", "_law_k"] tW
abbrev Xs:=cL P w K mg base "Halves" "kept" 2 1 [] yI
abbrev Xr:=eX P w K mg base "_law_steps" 3 ["_law_script", "_law_start", "_law_most"] SJ
abbrev Xq:=eX P w K mg base "_law_step" 3 ["_law_script", "_law_start", "_law_k"] Jb
abbrev Xp:=eX P w K mg base "_law_keep" 3 ["_law_script"] qB
abbrev Xo:=eX P w K mg base "_law_weights" 3 ["_law_pouch", "_law_keep_here", "_law_row"] Ja
abbrev Xn:=eX P w K mg base "_law_deed" 4 ["_law_script", "_law_k"] Jc
abbrev Xm:=eX P w K mg base "_law_looked" 4 ["_law_pouch", "_law_keep_here", "_law_row", "_law_many"] CC
abbrev Gy:=cL P w K mg base "Halves" "look_room" 1 2 [] SM
abbrev Gx:=cL P w K mg base "Halves" "take" 4 3 [] SO
end
section
variable{P:Program}{w:World}{K:Frag}{mg:Str→Option Value}{base:Heap}
theorem Nq:dF ["self", "keep"] ["self", "keep"] (aX zB):=fP
theorem Wn(B:dR mg)(tY:cJ K ["Halves"] "keep")(kD:cJ K ["Halves"] "many")(lG:cJ K ["Halves"] "taken")(f:Addr)(bC:Value)(A:Around)(outer:List Env)(s:Shared)(H:Hp)(E:XK)(hr:cY 0 (A.deeper (envOfC "Pouch.__init__" (aX zB) s.heap.objs.size f bC))) :
  lD (qQ P w K mg base ["self", "keep"] "Pouch.__init__" (aX zB) f bC A outer s H E) (fun _=>E) (hV zB) RG:=by
 exact(bE (rG (vv 0) (vv 1) tY)
  (bE (rG (vv 0) aM kD)
  (bN (rG (vv 0) aM lG))))
theorem azS(B:dR mg)(tY:cJ K ["Halves"] "keep")(kD:cJ K ["Halves"] "many")(lG:cJ K ["Halves"] "taken"){cls:Str}(h:SH K mg cls "Pouch.__init__" zB):xW P w K mg base cls 1 2 CF:=xW.of h Nq (fun _ _ _ _ _ _ us hl=>qJ us hl iE) (Wn B tY kD lG)
theorem atU(B:dR mg)(tY:cJ K ["Halves"] "keep")(kD:cJ K ["Halves"] "many")(lG:cJ K ["Halves"] "taken"){rk:Str}(h:LS K mg rk "__init__" "Pouch.__init__" zB):tV P w K mg base rk "__init__" 1 2 CF:=tV.of h Nq (fun _ _ _ _ _ _ us hl=>qJ us hl iE) (Wn B tY kD lG)
theorem ahL:dF ["self", "more"] ["self", "more"] (aX WN):=fP
theorem auK(B:dR mg)(Bt:∃t,mg "LONGEST" = some (.int 1000000000 t))(kD:cJ K ["Halves"] "many"){cls:Str}(h:oK K mg cls "look_room" "Pouch.look_room" WN):cL P w K mg base cls "look_room" 1 2 [] SM:=by
 refine cL.of h ahL (fun _ _ _ _ _ _ us hl=>qJ us hl iE) (fun _ _ _ _ _ _ _ hr=>?_);exact(bN (jR (fM DS (aR (iF false) (jS (vv 0) kD) (vv 1)) (aaY rfl Bt) (fN _))
   (bN Km)
   kO))
theorem ahM:dF ["self"] ["self"] (aX WO):=fP
theorem auL(B:dR mg)(kD:cJ K ["Halves"] "many"){cls:Str}(h:oK K mg cls "length" "Pouch.length" WO):cL P w K mg base cls "length" 1 1 [] yH:=by
 refine cL.of h ahM (fun _ _ _ _ _ _ us hl=>nS us hl (fun _=>rfl)) (fun _ _ _ _ _ _ _ hr=>?_);exact(bN (dO (jS (vv 0) kD)))
theorem ahJ:dF ["self"] ["self"] (aX WL):=fP
theorem auH(B:dR mg)(lG:cJ K ["Halves"] "taken"){cls:Str}(h:oK K mg cls "puts" "Pouch.puts" WL):cL P w K mg base cls "puts" 1 1 [] GD:=by
 refine cL.of h ahJ (fun _ _ _ _ _ _ us hl=>nS us hl (fun _=>rfl)) (fun _ _ _ _ _ _ _ hr=>?_);exact(bN (dO (jS (vv 0) lG)))
theorem VP:dF ["some", "turn", "ordered", "even"] ["some", "turn"] (aX VY):=fP
theorem at0(B:dR mg)(h:HasFn K mg "halved" VY):Xu P w K mg base:=by
 refine eX.of h VP (fun _ _ _ _ _ _ us hl=>qJ us hl iE) (fun _ _ _ _ _ _ _ hr=>?_);exact(bE (dS (i:=2) VP.nd rfl bU (eZ (avJ false) rfl B.sorted boot_sorted (aJ (vv 0) aU)))
  (bE (dS (i:=3) VP.nd rfl bU (aR nC (eZ oU rfl B.len PySem.boot_len (aJ (vv 2) aU)) (aR iS (eZ oU rfl B.len PySem.boot_len (aJ (vv 2) aU)) aM)))
  (bN (dO (MO (aJ (Ks false (vv 2) (CV (vv 1)) (CV (vv 3)) (CV aM)) (aJ (aaV false (vv 2) (CV (vv 3)) Kp) aU)))))))
theorem ahQ:dF ["self", "some", "level"] ["self", "some", "level"] (aX WV):=fP
theorem auS(B:dR mg)(jB:cJ K ["Halves"] "levels")(pC:cJ K ["Halves"] "turns"){cls:Str}(h:oK K mg cls "lay" "Halves.lay" WV):cL P w K mg base cls "lay" 1 3 [] GF:=by
 refine cL.of h ahQ (fun _ _ _ _ _ _ us hl=>yT us hl (fun _ _ _=>rfl)) (fun _ _ _ _ _ _ _ hr=>?_);exact(bE (MM (fun _ _=>1000000) bV.passes (fM YA (vv 2) (Kt (eZ oU rfl B.len PySem.boot_len (aJ (jS (vv 0) jB) aU))) (fN _))
   (bE (Kn (i:=0) (f := "levels") (nQ (CZ PySem.F.plainAttrs_list PySem.F.slot_list_append PySem.F.type_list_append HZ IF (jS (vv 0) jB) (aJ (oO false aU) aU))))
   (bN (nQ (aaZ (CZ PySem.F.plainAttrs_list PySem.F.slot_list_append PySem.F.type_list_append HZ IF (jS (vv 0) pC) (aJ aM aU)) (ai8 0))))))
  (bN (MN (aR (iF false) (MQ (mG (jS (vv 0) jB) (vv 2) iE) (zG 2)) (vv 1)) (TR (TQ (jS (vv 0) jB) (vv 2)) (zG 2)))))
theorem HC:dF ["self", "runs", "weight", "some"] ["self"] (aX NV):=fP
theorem auP(B:dR mg)(jB:cJ K ["Halves"] "levels"){cls:Str}(h:oK K mg cls "stand_ins" "Halves.stand_ins" NV):cL P w K mg base cls "stand_ins" 1 1 [] CG:=by
 refine cL.of h HC (fun _ _ _ _ _ _ us hl=>nS us hl (fun _=>rfl)) (fun _ _ _ _ _ _ _ hr=>?_);exact(bE (dS (i:=1) HC.nd rfl bU (oO true aU))
  (bE (dS (i:=2) HC.nd rfl (Or.inr rfl) aM)
  (bE (Kn (i:=0) (f := "levels") (GL bV.passes rfl (rH (jS (vv 0) jB)) (jC (i:=3) HC.nd rfl bU)
   (bE (nQ (CZ PySem.F.plainAttrs_list PySem.F.slot_list_extend PySem.F.type_list_extend amR am3 (vv 1) (aJ (CY false ["number"] [2] rfl (zP (aX NV) ["self", "runs", "weight", "some"]) (rH (vv 3)) (fun cl C s H fp=>⟨(jC (i:=0) (show(["number", "weight"]:List Str).Nodup by decide +kernel) rfl bU),CW,(MO (aJ (vv 0) (aJ (vv 1) aU)))⟩)) aU)))
   (bN (dS (i:=2) HC.nd rfl (Or.inr rfl) (aR mH (vv 2) aM))))))
  (bN (dO (vf 1))))))
theorem ahP:dF ["self"] ["self"] (aX WU):=fP
theorem auR(B:dR mg)(pD:cJ K ["Halves"] "over")(pB:cJ K ["Halves"] "under"){cls:Str}(h:oK K mg cls "off" "Halves.off" WU):cL P w K mg base cls "off" 1 1 [] LW:=by
 refine cL.of h ahP (fun _ _ _ _ _ _ us hl=>nS us hl (fun _=>rfl)) (fun _ _ _ _ _ _ _ hr=>?_);exact(bN (dO (aR (iF false) (jS (vv 0) pD) (jS (vv 0) pB))))
theorem Nm:dF ["_law_cell_here", "_law_k", "_law_first"] ["_law_cell_here", "_law_k"] (aX WG):=fP
theorem auB(B:dR mg)(h:HasFn K mg "_law_mix" WG):RM P w K mg base:=by
 refine eX.of h Nm (fun _ _ _ _ _ _ us hl=>qJ us hl iE) (fun _ _ _ _ _ _ _ hr=>?_);exact(bE (dS (i:=2) Nm.nd rfl bU (aR iS (aR mH (aR (iF false) (vv 0) aM) (aR (iF false) aM (aR mH aM (vv 1)))) aM))
  (bN (dO (aR iS (aR (iF false) (aR (iF false) (aR mH (aR sN (vv 2) aM) aM) (aR mH (vv 2) (aR (iF false) (aR mH (vv 1) (vv 1)) aM))) (vv 1)) aM))))
theorem ahI:dF ["_law_cell_here", "_law_sort"] ["_law_cell_here", "_law_sort"] (aX WE):=fP
theorem auA(B:dR mg)(h:HasFn K mg "_law_number" WE):Xl P w K mg base:=by
 refine eX.of h ahI (fun _ _ _ _ _ _ us hl=>qJ us hl iE) (fun _ _ _ _ _ _ _ hr=>?_);exact(bE (jR (fM (sL hr.units) (vv 1) aM (fN _))
   (bN (dO (aR iS (vv 0) aM)))
   kO)
  (bE (jR (fM (sL hr.units) (vv 1) aM (fN _))
   (bN (dO (aR nC (aR iS (vv 0) aM) aM)))
   kO)
  (bE (jR (fM (sL hr.units) (vv 1) aM (fN _))
   (bN (dO (aR nC (aR iS (aR mH (aR mH (vv 0) (vv 0)) aM) (aR (iF false) (aR mH aM (aR DQ aM aM)) aM)) (aR DQ aM aM))))
   kO)
  (bE (jR (fM (sL hr.units) (vv 1) aM (fN _))
   (bN (dO (mG (oO false (aJ (aR (iF false) (aR DQ aM aM) (vv 0)) (aJ (aR nC (aR nC aM (aR DQ aM aM)) (vv 0)) (aJ (aR nC (aR DQ aM aM) aM) (aJ (aR nC aM (aR DQ aM aM)) aU))))) (aR iS (vv 0) aM) iE)))
   kO)
  (bN (dO (mG (oO false (aJ aM (aJ (aR nC aM aM) (aJ aM aU)))) (aR sN (aR iS (vv 0) aM) aM) iE)))))))
theorem VQ:dF ["_law_cell_here", "_law_far", "_law_power"] ["_law_cell_here"] (aX WA):=fP
theorem at6(B:dR mg)(h:HasFn K mg "_law_times" WA):Xk P w K mg base:=by
 refine eX.of h VQ (fun _ _ _ _ _ _ us hl=>nS us hl (fun _=>rfl)) (fun _ _ _ _ _ _ _ hr=>?_);exact(bE (dS (i:=1) VQ.nd rfl bU (aR sN (vv 0) aM))
  (bE (dS (i:=2) VQ.nd rfl bU (aR Pp aM (aR iS (vv 1) aM)))
  (bN (dO (mG (oO false (aJ aM (aJ aM (aJ (aR (iF false) aM (aR iS (vv 1) aM)) (aJ (aR (iF false) aM (aR iS (vv 1) aM)) (aJ (aR (iF false) aM (aR iS (vv 1) aM)) (aJ (vv 2) (aJ (eZ (KN rfl) rfl B.max boot_max (aJ aM (aJ (aR nC (vv 2) aM) aU))) (aJ aM aU))))))))) (aR iS (vv 0) aM) iE)))))
theorem ahH:dF ["_law_row", "_law_number_here"] ["_law_row", "_law_number_here"] (aX NU):=fP
theorem at5(B:dR mg)(h:HasFn K mg "_law_upto" NU):Xj P w K mg base:=by
 refine eX.of h ahH (fun _ _ _ _ _ _ us hl=>qJ us hl iE) (fun _ _ _ _ _ _ _ hr=>?_);exact(bN (dO (eZ (Ez rfl) rfl B.sum boot_sum (aJ (CY false ["_law_value", "_law_times_here"] [1] rfl (zP (aX NU) ["_law_row", "_law_number_here"]) (rH (vv 0)) (fun cl C s H fp=>⟨(yP rfl (mF (jC (i:=0) (show(["_law_value", "_law_times_here", "_law_number_here"]:List Str).Nodup by decide +kernel) rfl bU) (mF (jC (i:=1) (show(["_law_value", "_law_times_here", "_law_number_here"]:List Str).Nodup by decide +kernel) rfl bU) vV))),(aaR (fM alY (vv 0) (vv 2) (fN _))),(vv 1)⟩)) aU))))
theorem NR:dF ["_law_number_here", "_law_found"] ["_law_number_here"] (aX WK):=fP
theorem auG(B:dR mg)(h:HasFn K mg "_law_bits" WK):Gw P w K mg base:=by
 refine eX.of h NR (fun _ _ _ _ _ _ us hl=>nS us hl (fun _=>rfl)) (fun _ _ _ _ _ _ _ hr=>?_);exact(bE (dS (i:=1) NR.nd rfl bU aM)
  (bE (MM (fun _ _=>1000000) bV.passes (fM DS (vv 0) aM (fN _))
   (bE (dS (i:=0) NR.nd rfl bU (aR sN (vv 0) aM))
   (bN (aaP (i:=1) NR.nd rfl bU aM))))
  (bN (dO (vv 1)))))
theorem Nl:dF ["_law_found", "_law_one"] ["_law_found"] (aX WD):=fP
theorem at9(B:dR mg)(h:HasFn K mg "_law_pair" WD):Xi P w K mg base:=by
 refine eX.of h Nl (fun _ _ _ _ _ _ us hl=>nS us hl (fun _=>rfl)) (fun _ _ _ _ _ _ _ hr=>?_);exact(bE (jR (VW.vt (qH (vU (uA (eZ BC rfl B.isinstance FE (aJ (vv 0) (aJ (yQ rfl B.tuple PyProof.Rows.boot_tuple) aU))))) (tZ (fM (DR hr.units) (eZ oU rfl B.len PySem.boot_len (aJ (vv 0) aU)) aM (fN _)))))
   (bN (dO uB))
   kO)
  (bE (GL bV.passes rfl (rH (vv 0)) (jC (i:=1) Nl.nd rfl bU)
   (bN (jR (VW.vt (qH (vU (uA (eZ BC rfl B.isinstance FE (aJ (vv 1) (aJ (yQ rfl B.int PyProof.Rows.boot_int) aU))))) (tZ (uA (eZ BC rfl B.isinstance FE (aJ (vv 1) (aJ (yQ rfl B.bool PyProof.Rows.boot_bool) aU)))))))
    (bN (dO uB))
    kO)))
  (bN (dO uB))))
theorem ahG:dF ["_law_found"] ["_law_found"] (aX VZ):=fP
theorem at3(B:dR mg)(h:HasFn K mg "_law_whole" VZ):Xh P w K mg base:=by
 refine eX.of h ahG (fun _ _ _ _ _ _ us hl=>nS us hl (fun _=>rfl)) (fun _ _ _ _ _ _ _ hr=>?_);exact(bN (dO (TX (eZ BC rfl B.isinstance FE (aJ (vv 0) (aJ (yQ rfl B.int PyProof.Rows.boot_int) aU))) (TU (aaW (eZ BC rfl B.isinstance FE (aJ (vv 0) (aJ (yQ rfl B.bool PyProof.Rows.boot_bool) aU))))))))
theorem VV:dF ["self", "level", "weight", "turn", "parts"] ["self", "level", "weight"] (aX WW):=fP
theorem auU(B:dR mg)(Jd:Xu P w K mg base)(jB:cJ K ["Halves"] "levels")(pD:cJ K ["Halves"] "over")(pC:cJ K ["Halves"] "turns")(pB:cJ K ["Halves"] "under")(FU:cL P w K mg base "Halves" "lay" 1 3 [] GF){cls:Str}(h:oK K mg cls "halve" "Halves.halve" WW):cL P w K mg base cls "halve" 2 3 [] SR:=by
 refine cL.of h VV (fun _ _ _ _ _ _ us hl=>yT us hl (fun _ _ _=>rfl)) (fun _ _ _ _ _ _ _ hr=>?_);exact(bE (dS (i:=3) VV.nd rfl bU (MQ (mG (jS (vv 0) pC) (vv 1) iE) (zG 1)))
  (bE (dS (i:=4) VV.nd rfl bU (gP bV Jd hr.m rfl (aJ (MQ (mG (jS (vv 0) jB) (vv 1) iE) (zG 1)) (aJ (vv 3) aU))))
  (bE (MN (mG (vv 4) aM iE) (TR (TQ (jS (vv 0) jB) (vv 1)) (zG 1)))
  (bE (nQ (yR bV (cW.cons FU hr.m cW.nil) (vv 0) (aJ (mG (vv 4) aM iE) (aJ (aR (iF false) (vv 1) aM) aU))))
  (bE (MN (aR nC aM (vv 3)) (TR (TQ (jS (vv 0) pC) (vv 1)) (zG 1)))
  (bN (jR (fM (sL hr.units) (vv 3) aM (fN _))
   (bN (rG (vv 0) (aR (iF false) (jS (vv 0) pD) (vv 2)) pD))
   (bN (rG (vv 0) (aR (iF false) (jS (vv 0) pB) (vv 2)) pB)))))))))
theorem ahO:dF ["self"] ["self"] (aX WR):=fP
theorem auN(B:dR mg)(FT:Xg P w K mg base){cls:Str}(h:oK K mg cls "weights" "Halves.weights" WR):cL P w K mg base cls "weights" 2 1 [] SN:=by
 refine cL.of h ahO (fun _ _ _ _ _ _ us hl=>nS us hl (fun _=>rfl)) (fun _ _ _ _ _ _ _ hr=>?_);exact(bN (dO (eZ (Wb true) rfl B.sorted boot_sorted (aJ (qI bV (cW.cons FT hr.m cW.nil) (vv 0)) aU))))
theorem ahR:dF ["self"] ["self"] (aX NW):=fP
theorem auT(B:dR mg)(FT:Xg P w K mg base){cls:Str}(h:oK K mg cls "kept" "Halves.kept" NW):cL P w K mg base cls "kept" 2 1 [] yI:=by
 refine cL.of h ahR (fun _ _ _ _ _ _ us hl=>nS us hl (fun _=>rfl)) (fun _ _ _ _ _ _ _ hr=>?_);exact(bN (dO (CY false ["run"] [] rfl (zP (aX NW) ["self"]) (rH (qI bV (cW.cons FT hr.m cW.nil) (vv 0))) (fun cl C s H fp=>⟨(jC (i:=0) (show(["run"]:List Str).Nodup by decide +kernel) rfl bU),CW,(mG (vv 0) aM iE)⟩))))
theorem VU:dF ["_law_script", "_law_k", "_law_cell_here"] ["_law_script", "_law_k"] (aX WJ):=fP
theorem auF(B:dR mg)(h:HasFn K mg "_law_cell" WJ)(tX:RM P w K mg base):FJ P w K mg base:=by
 refine eX.of h VU (fun _ _ _ _ _ _ us hl=>qJ us hl iE) (fun _ _ _ _ _ _ _ hr=>?_);exact(bE (dS (i:=2) VU.nd rfl bU aM)
  (bE (jR (fM HS (vv 1) (eZ oU rfl B.len PySem.boot_len (aJ (vv 0) aU)) (fN _))
   (bN (dS (i:=2) VU.nd rfl bU (aR iS (mG (vv 0) (vv 1) iE) aM)))
   kO)
  (bN (dO (gP bV tX hr.m rfl (aJ (vv 2) (aJ (aR (iF false) (vv 1) aM) aU)))))))
theorem ahN:dF ["self"] ["self"] (aX WQ):=fP
theorem auM(B:dR mg)(FV:Xs P w K mg base){cls:Str}(h:oK K mg cls "held" "Pouch.held" WQ):cL P w K mg base cls "held" 3 1 [] LV:=by
 refine cL.of h ahN (fun _ _ _ _ _ _ us hl=>nS us hl (fun _=>rfl)) (fun _ _ _ _ _ _ _ hr=>?_);exact(bN (dO (eZ oU rfl B.len PySem.boot_len (aJ (qI bV (cW.cons FV hr.m cW.nil) (vv 0)) aU))))
theorem ahK:dF ["self"] ["self"] (aX WM):=fP
theorem auJ(B:dR mg)(FV:Xs P w K mg base){cls:Str}(h:oK K mg cls "numbers" "Pouch.numbers" WM):cL P w K mg base cls "numbers" 3 1 [] SK:=by
 refine cL.of h ahK (fun _ _ _ _ _ _ us hl=>nS us hl (fun _=>rfl)) (fun _ _ _ _ _ _ _ hr=>?_);exact(bN (dO (Kq true rfl rfl B.sorted rfl B.set (qI bV (cW.cons FV hr.m cW.nil) (vv 0)))))
theorem Nr:dF ["self", "keep"] ["self", "keep"] (aX zC):=fP
theorem Wo(B:dR mg)(BY:tV P w K mg base "RankPouch" "__init__" 1 2 CF)(jB:cJ K ["Halves"] "levels")(pD:cJ K ["Halves"] "over")(pC:cJ K ["Halves"] "turns")(pB:cJ K ["Halves"] "under")(f:Addr)(bC:Value)(A:Around)(outer:List Env)(s:Shared)(H:Hp)(E:XK)(hr:cY 2 (A.deeper (envOfC "Halves.__init__" (aX zC) s.heap.objs.size f bC))) :
  lD (qQ P w K mg base ["self", "keep"] "Halves.__init__" (aX zC) f bC A outer s H E) (fun _=>E) (hV zC) RJ:=by
 exact(bE (nQ (aa3 bV BY rfl hr.m (aJ (vv 0) (aJ (vv 1) aU))))
  (bE (Ko (rG (vv 0) (oO true aU) jB))
  (bE (Ko (rG (vv 0) (oO true aU) pC))
  (bE (rG (vv 0) aM pD)
  (bN (rG (vv 0) aM pB))))))
theorem atR(B:dR mg)(BY:tV P w K mg base "RankPouch" "__init__" 1 2 CF)(jB:cJ K ["Halves"] "levels")(pD:cJ K ["Halves"] "over")(pC:cJ K ["Halves"] "turns")(pB:cJ K ["Halves"] "under"){cls:Str}(h:SH K mg cls "Halves.__init__" zC):xW P w K mg base cls 3 2 GG:=xW.of h Nr (fun _ _ _ _ _ _ us hl=>qJ us hl iE) (Wo B BY jB pD pC pB)
theorem azU(B:dR mg)(BY:tV P w K mg base "RankPouch" "__init__" 1 2 CF)(jB:cJ K ["Halves"] "levels")(pD:cJ K ["Halves"] "over")(pC:cJ K ["Halves"] "turns")(pB:cJ K ["Halves"] "under"){rk:Str}(h:LS K mg rk "__init__" "Halves.__init__" zC):tV P w K mg base rk "__init__" 3 2 GG:=tV.of h Nr (fun _ _ _ _ _ _ us hl=>qJ us hl iE) (Wo B BY jB pD pC pB)
theorem HE:dF ["self", "weight", "level"] ["self"] (aX WT):=fP
theorem auQ(B:dR mg)(tY:cJ K ["Halves"] "keep")(jB:cJ K ["Halves"] "levels")(Hq:cL P w K mg base "Halves" "halve" 2 3 [] SR){cls:Str}(h:oK K mg cls "settle" "Halves.settle" WT):cL P w K mg base cls "settle" 3 1 [] SQ:=by
 refine cL.of h HE (fun _ _ _ _ _ _ us hl=>nS us hl (fun _=>rfl)) (fun _ _ _ _ _ _ _ hr=>?_);exact(bE (dS (i:=1) HE.nd rfl bU aM)
  (bE (dS (i:=2) HE.nd rfl bU aM)
  (bN (MM (fun _ _=>1000000) bV.passes (fM HS (vv 2) (Kt (eZ oU rfl B.len PySem.boot_len (aJ (jS (vv 0) jB) aU))) (fN _))
   (bE (jR (fM YA (eZ oU rfl B.len PySem.boot_len (aJ (MQ (mG (jS (vv 0) jB) (vv 2) iE) (zG 2)) aU)) (aR mH aM (jS (vv 0) tY)) (fN _))
    (bN (nQ (yR bV (cW.cons Hq hr.m cW.nil) (vv 0) (aJ (vv 2) (aJ (vv 1) aU)))))
    kO)
   (bE (dS (i:=1) HE.nd rfl bU (aR mH (vv 1) aM))
   (bN (dS (i:=2) HE.nd rfl bU (aR (iF false) (vv 2) aM)))))))))
theorem Nj:dF ["_law_script", "_law_start", "_law_most", "_law_cells"] ["_law_script", "_law_start", "_law_most"] (aX WB):=fP
theorem at7(B:dR mg)(h:HasFn K mg "_law_steps" WB)(oM:FJ P w K mg base):Xr P w K mg base:=by
 refine eX.of h Nj (fun _ _ _ _ _ _ us hl=>yT us hl (fun _ _ _=>rfl)) (fun _ _ _ _ _ _ _ hr=>?_);exact(bE (dS (i:=3) Nj.nd rfl bU (eZ (KN rfl) rfl B.max boot_max (aJ aM (aJ (aR nC (eZ oU rfl B.len PySem.boot_len (aJ (vv 0) aU)) (vv 1)) aU))))
  (bN (dO (eZ (avK rfl) rfl B.min boot_min (aJ (vv 2) (aJ (eZ (KN rfl) rfl B.max boot_max (aJ (vv 3) (aJ (aR iS (gP bV oM hr.m rfl (aJ (vv 0) (aJ (aR nC (vv 1) aM) aU))) (aR (iF false) (vv 2) aM)) aU))) aU))))))
theorem Nk:dF ["_law_script", "_law_start", "_law_k", "_law_cells"] ["_law_script", "_law_start", "_law_k"] (aX WC):=fP
theorem at8(B:dR mg)(h:HasFn K mg "_law_step" WC)(oM:FJ P w K mg base)(tX:RM P w K mg base):Xq P w K mg base:=by
 refine eX.of h Nk (fun _ _ _ _ _ _ us hl=>yT us hl (fun _ _ _=>rfl)) (fun _ _ _ _ _ _ _ hr=>?_);exact(bE (dS (i:=3) Nk.nd rfl bU (eZ (KN rfl) rfl B.max boot_max (aJ aM (aJ (aR nC (eZ oU rfl B.len PySem.boot_len (aJ (vv 0) aU)) (vv 1)) aU))))
  (bN (dO (gP bV tX hr.m rfl (aJ (gP bV oM hr.m rfl (aJ (vv 0) (aJ (aR (iF false) (vv 1) (aR iS (vv 2) (eZ (KN rfl) rfl B.max boot_max (aJ aM (aJ (vv 3) aU))))) aU))) (aJ (vv 2) aU))))))
theorem Nn:dF ["_law_script", "_law_cell_here"] ["_law_script"] (aX WH):=fP
theorem auD(B:dR mg)(h:HasFn K mg "_law_keep" WH)(oM:FJ P w K mg base):Xp P w K mg base:=by
 refine eX.of h Nn (fun _ _ _ _ _ _ us hl=>nS us hl (fun _=>rfl)) (fun _ _ _ _ _ _ _ hr=>?_);exact(bE (dS (i:=1) Nn.nd rfl bU (gP bV oM hr.m rfl (aJ (vv 0) (aJ aM aU))))
  (bN (dO (mG (oO false (aJ (aR (iF false) aM (aR iS (aR sN (vv 1) aM) aM)) (aJ (aR (iF false) aM (aR iS (aR sN (vv 1) aM) aM)) (aJ (aR (iF false) aM (aR iS (aR sN (vv 1) aM) aM)) (aJ aM aU))))) (mG (oO false (aJ aM (aJ aM (aJ aM (aJ aM (aJ aM (aJ aM (aJ aM (aJ aM aU))))))))) (aR iS (vv 1) aM) iE) iE))))
theorem yZ:dF ["_law_pouch", "_law_keep_here", "_law_row", "_law_told", "_law_counts", "_law_put_in", "_law_pair_here", "_law_weight", "_law_many"] ["_law_pouch", "_law_keep_here", "_law_row"] (aX NT):=fP
theorem at4(B:dR mg)(h:HasFn K mg "_law_weights" NT)(CI:Gw P w K mg base)(Ji:Xi P w K mg base)(Hi:cL P w K mg base "Halves" "weights" 2 1 [] SN):Xo P w K mg base:=by
 refine eX.of h yZ (fun _ _ _ _ _ _ us hl=>yT us hl (fun _ _ _=>rfl)) (fun _ _ _ _ _ _ _ hr=>?_);exact(bE (dS (i:=3) yZ.nd rfl bU (qI bV (cW.cons Hi hr.m cW.nil) (vv 0)))
  (bE (jR (VW.vt (qH (vU (uA (eZ BC rfl B.isinstance FE (aJ (vv 3) (aJ (yQ rfl B.list PyProof.Rows.boot_list) aU))))) (tZ (fM (DR hr.units) (vv 3) (eZ (Wb false) rfl B.sorted boot_sorted (aJ (vv 3) aU)) (fN _)))))
   (bN (dO MP))
   kO)
  (bE (dS (i:=4) yZ.nd rfl bU aa0)
  (bE (aaL (i:=5) false ["_law_number_here", "_law_times_here"] [] yZ.nd rfl bU rfl (zP (aX NT) ["_law_pouch", "_law_keep_here", "_law_row", "_law_told", "_law_counts", "_law_put_in", "_law_pair_here", "_law_weight", "_law_many"]) (rH (vv 2)) (fun cl C s H fp=>⟨(yP rfl (mF (jC (i:=0) (show(["_law_number_here", "_law_times_here"]:List Str).Nodup by decide +kernel) rfl bU) (mF (jC (i:=1) (show(["_law_number_here", "_law_times_here"]:List Str).Nodup by decide +kernel) rfl bU) vV))),CW,(vv 0)⟩))
  (bE (GL bV.passes rfl (rH (vv 3)) (jC (i:=6) yZ.nd rfl bU)
   (bE (jR (VW.vt (qH (vU (uA (gP bV Ji hr.m rfl (aJ (vv 6) aU)))) (qH (fM (alX hr.units) (mG (vv 6) aM iE) (vv 5) rfl) (tZ (fM HS (mG (vv 6) aM iE) aM (fN _))))))
    (bN (dO MP))
    kO)
   (bN (aaO (cY.Lf hr) (vv 4) (mG (vv 6) aM iE) (aR (iF false) (aa1 (cY.Lf hr) (vv 4) (mG (vv 6) aM iE) aM ⟨rfl,rfl,rfl,rfl⟩) aM)))))
  (bE (aaN bV.passes rfl (vv 4) (yP rfl (mF (jC (i:=7) yZ.nd rfl bU) (mF (jC (i:=8) yZ.nd rfl bU) vV)))
   (bN (jR (VW.vt (qH (fM (DR hr.units) (aR Pp aM (aR nC (gP bV CI hr.m rfl (aJ (vv 7) aU)) aM)) (vv 7) (fN _)) (tZ (fM YA (vv 8) (aR mH aM (vv 1)) (fN _)))))
    (bN (dO MP))
    kO)))
  (bN (dO (vv 3)))))))))
theorem NS:dF ["self", "number", "times", "level"] ["self", "number", "times"] (aX WS):=fP
theorem auO(B:dR mg)(FU:cL P w K mg base "Halves" "lay" 1 3 [] GF)(Hj:cL P w K mg base "Halves" "settle" 3 1 [] SQ){cls:Str}(h:oK K mg cls "take" "Halves.take" WS):cL P w K mg base cls "take" 4 3 [] SO:=by
 refine cL.of h NS (fun _ _ _ _ _ _ us hl=>yT us hl (fun _ _ _=>rfl)) (fun _ _ _ _ _ _ _ hr=>?_);exact(bE (dS (i:=3) NS.nd rfl bU aM)
  (bE (MM (fun _ _=>1000000) bV.passes (fM DS (vv 2) aM (fN _))
   (bE (jR (fM (sL hr.units) (aR iS (vv 2) aM) aM (fN _))
    (bN (nQ (yR bV (cW.cons FU hr.m cW.nil) (vv 0) (aJ (oO false (aJ (vv 1) aU)) (aJ (vv 3) aU)))))
    kO)
   (bE (dS (i:=2) NS.nd rfl bU (aR sN (vv 2) aM))
   (bN (dS (i:=3) NS.nd rfl bU (aR (iF false) (vv 3) aM))))))
  (bN (nQ (qI bV (cW.cons Hj hr.m cW.nil) (vv 0))))))
theorem VR:dF ["_law_script", "_law_k", "_law_cell_here", "_law_number_here"] ["_law_script", "_law_k"] (aX WI):=fP
theorem auE(B:dR mg)(h:HasFn K mg "_law_deed" WI)(oM:FJ P w K mg base)(tX:RM P w K mg base)(Jj:Xl P w K mg base)(Jh:Xq P w K mg base)(Jf:Xk P w K mg base):Xn P w K mg base:=by
 refine eX.of h VR (fun _ _ _ _ _ _ us hl=>qJ us hl iE) (fun _ _ _ _ _ _ _ hr=>?_);exact(bE (dS (i:=2) VR.nd rfl bU (gP bV Jh hr.m rfl (aJ (vv 0) (aJ aM (aJ (vv 1) aU)))))
  (bE (dS (i:=3) VR.nd rfl bU (gP bV Jj hr.m rfl (aJ (gP bV tX hr.m rfl (aJ (vv 2) (aJ aM aU))) (aJ (aR sN (aR mH (aR iS (gP bV oM hr.m rfl (aJ (vv 0) (aJ aM aU))) aM) aM) aM) aU))))
  (bN (dO (oO false (aJ (vv 2) (aJ (vv 3) (aJ (gP bV Jf hr.m rfl (aJ (gP bV tX hr.m rfl (aJ (vv 2) (aJ aM aU))) aU)) aU))))))))
theorem uG:dF ["_law_pouch", "_law_keep_here", "_law_row", "_law_many", "_law_total", "_law_told", "_law_numbers", "_law_off", "_law_part", "_law_number_here", "_law_times_here", "_law_held"] ["_law_pouch", "_law_keep_here", "_law_row", "_law_many"] (aX DK):=fP
theorem auC(B:dR mg)(h:HasFn K mg "_law_looked" DK)(CI:Gw P w K mg base)(SS:Xj P w K mg base)(Je:Xo P w K mg base)(LX:Xh P w K mg base)(Ho:cL P w K mg base "Halves" "held" 3 1 [] LV)(RS:cL P w K mg base "Halves" "length" 1 1 [] yH)(Hn:cL P w K mg base "Halves" "numbers" 3 1 [] SK)(Hm:cL P w K mg base "Halves" "off" 1 1 [] LW)(Hk:cL P w K mg base "Halves" "puts" 1 1 [] GD):Xm P w K mg base:=by
 refine eX.of h uG (fun _ _ _ _ _ _ us hl=>us4 us hl (fun _ _ _ _=>rfl)) (fun _ _ _ _ _ _ _ hr=>?_);exact(bE (dS (i:=4) uG.nd rfl bU (eZ (Ez rfl) rfl B.sum boot_sum (aJ (CY false ["_law_number_here", "_law_times_here"] [] rfl (zP (aX DK) ["_law_pouch", "_law_keep_here", "_law_row", "_law_many", "_law_total", "_law_told", "_law_numbers", "_law_off", "_law_part", "_law_number_here", "_law_times_here", "_law_held"]) (rH (vv 2)) (fun cl C s H fp=>⟨(yP rfl (mF (jC (i:=0) (show(["_law_number_here", "_law_times_here"]:List Str).Nodup by decide +kernel) rfl bU) (mF (jC (i:=1) (show(["_law_number_here", "_law_times_here"]:List Str).Nodup by decide +kernel) rfl bU) vV))),CW,(vv 1)⟩)) aU)))
  (bE (dS (i:=5) uG.nd rfl bU (gP bV Je hr.m rfl (aJ (vv 0) (aJ (vv 1) (aJ (vv 2) aU)))))
  (bE (jR (VW.vt (qH (fM alZ (vv 5) MP (fN _)) (tZ (fM (DR hr.units) (eZ (Ez rfl) rfl B.sum boot_sum (aJ (CY false ["_law_number_here", "_law_weight"] [] rfl (zP (aX DK) ["_law_pouch", "_law_keep_here", "_law_row", "_law_many", "_law_total", "_law_told", "_law_numbers", "_law_off", "_law_part", "_law_number_here", "_law_times_here", "_law_held"]) (rH (vv 5)) (fun cl C s H fp=>⟨(yP rfl (mF (jC (i:=0) (show(["_law_number_here", "_law_weight"]:List Str).Nodup by decide +kernel) rfl bU) (mF (jC (i:=1) (show(["_law_number_here", "_law_weight"]:List Str).Nodup by decide +kernel) rfl bU) vV))),CW,(vv 1)⟩)) aU)) (vv 4) (fN _)))))
   (bN (dO uB))
   kO)
  (bE (dS (i:=6) uG.nd rfl bU (qI bV (cW.cons Hn hr.m cW.nil) (vv 0)))
  (bE (jR (VW.vt (qH (vU (uA (eZ BC rfl B.isinstance FE (aJ (vv 6) (aJ (yQ rfl B.list PyProof.Rows.boot_list) aU))))) (tZ (fM (DR hr.units) (vv 6) (Kq false rfl rfl B.sorted rfl B.set (CY false ["_law_number_here", "_law_weight"] [] rfl (zP (aX DK) ["_law_pouch", "_law_keep_here", "_law_row", "_law_many", "_law_total", "_law_told", "_law_numbers", "_law_off", "_law_part", "_law_number_here", "_law_times_here", "_law_held"]) (rH (vv 5)) (fun cl C s H fp=>⟨(yP rfl (mF (jC (i:=0) (show(["_law_number_here", "_law_weight"]:List Str).Nodup by decide +kernel) rfl bU) (mF (jC (i:=1) (show(["_law_number_here", "_law_weight"]:List Str).Nodup by decide +kernel) rfl bU) vV))),CW,(vv 0)⟩))) (fN _)))))
   (bN (dO uB))
   kO)
  (bE (dS (i:=7) uG.nd rfl bU (qI bV (cW.cons Hm hr.m cW.nil) (vv 0)))
  (bE (dS (i:=8) uG.nd rfl bU (aR sN (vv 4) (aR mH aM (vv 1))))
  (bE (jR (VW.vt (qH (vU (uA (gP bV LX hr.m rfl (aJ (vv 7) aU)))) (qH (fM HS (vv 7) aM (fN _)) (tZ (fM DS (vv 7) (aR mH (gP bV CI hr.m rfl (aJ (vv 8) aU)) (vv 8)) (fN _))))))
   (bN (dO uB))
   kO)
  (bE (GL bV.passes rfl (rH (Ks false (vv 2) (CV (aR iS (vv 3) aM)) Kp (CV aM))) (yP rfl (mF (jC (i:=9) uG.nd rfl bU) (mF (jC (i:=10) uG.nd rfl bU) vV)))
   (bN (jR (fM DS (eZ avL rfl B.abs PyProof.Rows.boot_abs (aJ (aR nC (gP bV SS hr.m rfl (aJ (vv 5) (aJ (vv 9) aU))) (gP bV SS hr.m rfl (aJ (vv 2) (aJ (vv 9) aU)))) aU)) (vv 7) (fN _))
    (bN (dO uB))
    kO)))
  (bE (dS (i:=11) uG.nd rfl bU (qI bV (cW.cons Ho hr.m cW.nil) (vv 0)))
  (bE (jR (VW.vt (qH (vU (uA (gP bV LX hr.m rfl (aJ (vv 11) aU)))) (qH (fM (DR hr.units) (vv 11) (eZ oU rfl B.len PySem.boot_len (aJ (vv 5) aU)) (fN _)) (tZ (fM DS (vv 11) (aR mH (aR nC (aR mH aM (vv 1)) aM) (gP bV CI hr.m rfl (aJ (vv 4) aU))) (fN _))))))
   (bN (dO uB))
   kO)
  (bE (nQ (CZ PySem.F.plainAttrs_list PySem.F.slot_list_append PySem.F.type_list_append HZ IF (vv 6) (aJ aM aU)))
  (bE (nQ (CZ PySem.F.plainAttrs_list PySem.F.slot_list_append PySem.F.type_list_append HZ IF (vv 5) (aJ (MO (aJ aM (aJ aM aU))) aU)))
  (bN (dO (TX (aa2 (sL hr.units) (oO false (aJ (qI bV (cW.cons RS hr.m cW.nil) (vv 0)) (aJ (qI bV (cW.cons Hk hr.m cW.nil) (vv 0)) aU))) (oO false (aJ (vv 4) (aJ (vv 3) aU))) (fN _)) (TU (gP bV LX hr.m rfl (aJ (qI bV (cW.cons RS hr.m cW.nil) (vv 0)) aU)))))))))))))))))))
theorem Np:dF ["self", "number", "times"] ["self", "number", "times"] (aX zA):=fP
theorem Wm(B:dR mg)(kD:cJ K ["Halves"] "many")(lG:cJ K ["Halves"] "taken")(xY:Gy P w K mg base)(xX:Gx P w K mg base)(f:Addr)(bC:Value)(A:Around)(outer:List Env)(s:Shared)(H:Hp)(E:XK)(hr:cY 4 (A.deeper (envOfC "Pouch.put" (aX zA) s.heap.objs.size f bC))) :
  lD (qQ P w K mg base ["self", "number", "times"] "Pouch.put" (aX zA) f bC A outer s H E) (fun _=>E) (hV zA) RF:=by
 exact(bE (jR (fM HS (vv 2) aM (fN _))
   (bN Km)
   kO)
  (bE (nQ (yR bV (cW.cons xY hr.m cW.nil) (vv 0) (aJ (vv 2) aU)))
  (bE (nQ (yR bV (cW.cons xX hr.m cW.nil) (vv 0) (aJ (vv 1) (aJ (vv 2) aU))))
  (bE (rG (vv 0) (aR (iF false) (jS (vv 0) kD) (vv 2)) kD)
  (bN (rG (vv 0) (aR (iF false) (jS (vv 0) lG) aM) lG))))))
theorem auI(B:dR mg)(kD:cJ K ["Halves"] "many")(lG:cJ K ["Halves"] "taken")(xY:Gy P w K mg base)(xX:Gx P w K mg base){cls:Str}{tk:Tok}(h:SG K mg cls "put" "Pouch.put" zA #[.int 1 tk]):cL P w K mg base cls "put" 5 3 [] CD:=cL.ofD (ds:=[]) (dvs:=[]) h .nil (fun _ _ => .nil) Np (fun _ _ _ _ _ _ _ us hl=>match us,hl with | [_,_,_],_=>⟨_,rfl,rfl⟩) (Wm B kD lG xY xX)
theorem atO(B:dR mg)(kD:cJ K ["Halves"] "many")(lG:cJ K ["Halves"] "taken")(xY:Gy P w K mg base)(xX:Gx P w K mg base){cls:Str}{tk:Tok}(h:SG K mg cls "put" "Pouch.put" zA #[.int 1 tk]):cL P w K mg base cls "put" 5 3 [.int 1] CD:=cL.ofD (ds:=[.int 1 tk]) (dvs:=[.int 1]) h (.cons ⟨_,rfl⟩ .nil) (fun _ _ => .cons (by simp only [V2.Den]) .nil) Np (fun _ _ _ _ _ _ _ us hl=>match us,hl with | [_,_],_=>⟨_,rfl,rfl⟩) (Wm B kD lG xY xX)
theorem uF:dF ["_law_script", "_law_keep_here", "_law_pouch", "_law_row", "_law_amid", "_law_k", "_law_cell_here", "_law_number_here", "_law_times_here"] ["_law_script"] (aX uH):=fP
theorem atZ{f:Addr}{fd:FuncData}(B:dR mg)(F:rA K "law" "law" uH f fd)(oM:FJ P w K mg base)(Jl:Xn P w K mg base)(Jk:Xp P w K mg base)(LY:Xm P w K mg base)(Jg:Xr P w K mg base)(Ik:xW P w K mg base "Halves" 3 2 GG)(Hl:cL P w K mg base "Halves" "put" 5 3 [] CD)(He:cL P w K mg base "Halves" "put" 5 3 [.int 1] CD):iV P w K mg base (nN P w) 6 f fd ["_law_script"] (sF K 1 Yt):=by
 refine Uk F uF (fun _ _ _ _ _ _ _ hr=>?_);exact(bE (dS (i:=1) uF.nd rfl bU (gP bV Jk hr.m rfl (aJ (vv 0) aU)))
  (bE (dS (i:=2) uF.nd rfl bU (aaX Ik hr.m rfl (aJ (vv 1) aU)))
  (bE (dS (i:=3) uF.nd rfl bU (oO true aU))
  (bE (dS (i:=4) uF.nd rfl bU (aR iS (gP bV oM hr.m rfl (aJ (vv 0) (aJ aM aU))) aM))
  (bE (GL bV.passes rfl (aaS rfl B.range (aJ (gP bV Jg hr.m rfl (aJ (vv 0) (aJ aM (aJ aM aU)))) aU)) (jC (i:=5) uF.nd rfl bU)
   (bE (MN (gP bV Jl hr.m rfl (aJ (vv 0) (aJ (vv 5) aU))) (aaT rfl (mF (jC (i:=6) uF.nd rfl bU) (mF (jC (i:=7) uF.nd rfl bU) (mF (jC (i:=8) uF.nd rfl bU) vV)))))
   (bE (jR (VW.vt (Kl (fM (sL hr.units) (vv 8) aM (fN _)) (Kk (fM (sL hr.units) (aR iS (vv 6) aM) aM (fN _)))))
    (bN (nQ (yR bV (cW.cons He hr.m cW.nil) (vv 2) (aJ (vv 7) aU))))
    (bN (nQ (yR bV (cW.cons Hl hr.m cW.nil) (vv 2) (aJ (vv 7) (aJ (vv 8) aU))))))
   (bE (nQ (CZ PySem.F.plainAttrs_list PySem.F.slot_list_append PySem.F.type_list_append HZ IF (vv 3) (aJ (MO (aJ (vv 7) (aJ (vv 8) aU))) aU)))
   (bN (jR (VW.vt (Kl (fM (sL hr.units) (vv 5) (vv 4) (fN _)) (Kk (vU (uA (gP bV LY hr.m rfl (aJ (vv 2) (aJ (vv 1) (aJ (vv 3) (aJ (eZ oU rfl B.len PySem.boot_len (aJ (vv 3) aU)) aU))))))))))
    (bN (dO uB))
    kO))))))
  (bN (dO (TX (gP bV LY hr.m rfl (aJ (vv 2) (aJ (vv 1) (aJ (vv 3) (aJ (eZ oU rfl B.len PySem.boot_len (aJ (vv 3) aU)) aU))))) (TU (gP bV LY hr.m rfl (aJ (vv 2) (aJ (vv 1) (aJ (vv 3) (aJ (eZ oU rfl B.len PySem.boot_len (aJ (vv 3) aU)) aU))))))))))))))
end
theorem all_mk{l:OpenLaw}{w:World}{K:Frag}{h:Heap}{mg:Str→Option Value}{fa fl:Addr}{od an:Option Addr}{sl:Array (Option Value)}{oc kV dc pm cd ct:Value}(X:K.In h)(G:h.Ns mainGlobals mg)(hfa:mg "law" = some (.ref fa))
  (al:nsIn K mainGlobals "law" = some (some (.ref fl))) (ll:K.lookup fl=some ⟨oc,od,.func (fnOf "law" "law" (mR uH) (hV uH) (aX uH) .none kV dc pm an cd ct),sl⟩) (lc:codeIn K cd "law" = true) (lk:keepIn K (.ref fl)=true)
  (B:dR mg)
  (arE:HasFn K mg "halved" VY)
  (arN:HasFn K mg "_law_mix" WG)
  (arR:HasFn K mg "_law_cell" WJ)
  (arM:HasFn K mg "_law_number" WE)
  (arI:HasFn K mg "_law_times" WA)
  (arH:HasFn K mg "_law_upto" NU)
  (arS:HasFn K mg "_law_bits" WK)
  (arL:HasFn K mg "_law_pair" WD)
  (arF:HasFn K mg "_law_whole" VZ)
  (arJ:HasFn K mg "_law_steps" WB)
  (arK:HasFn K mg "_law_step" WC)
  (arQ:HasFn K mg "_law_deed" WI)
  (arP:HasFn K mg "_law_keep" WH)
  (arG:HasFn K mg "_law_weights" NT)
  (arO:HasFn K mg "_law_looked" DK)
  (Bt:∃t,mg "LONGEST" = some (.int 1000000000 t))
  {iZ:Addr} (jG:nsIn K mainGlobals "Halves" = some (some (.ref iZ))) (jY:lZ K iZ)
  (amN:findIn K (.ref iZ) "keep" = some none)
  (amM:findIn K (.ref iZ) "levels" = some none)
  (amL:findIn K (.ref iZ) "many" = some none)
  (amK:findIn K (.ref iZ) "over" = some none)
  (amJ:findIn K (.ref iZ) "taken" = some none)
  (amI:findIn K (.ref iZ) "turns" = some none)
  (amH:findIn K (.ref iZ) "under" = some none)
  {abW:Tok} (Oi:RR K iZ "put" "Pouch.put" zA #[.int 1 abW])
  (aiR:nJ K iZ "look_room" "Pouch.look_room" WN)
  (aiS:nJ K iZ "length" "Pouch.length" WO)
  (aiO:nJ K iZ "puts" "Pouch.puts" WL)
  (aiV:nJ K iZ "held" "Pouch.held" WQ)
  (aiQ:nJ K iZ "numbers" "Pouch.numbers" WM)
  (aiX:SE K iZ "Halves.__init__" zC)
  (aiL:nJ K iZ "take" "Halves.take" WS)
  (aiT:nJ K iZ "lay" "Halves.lay" WV)
  (aiN:nJ K iZ "settle" "Halves.settle" WT)
  (aiW:nJ K iZ "halve" "Halves.halve" WW)
  (aiM:nJ K iZ "stand_ins" "Halves.stand_ins" NV)
  (aiK:nJ K iZ "weights" "Halves.weights" WR)
  (aiU:nJ K iZ "kept" "Halves.kept" NW)
  (aiP:nJ K iZ "off" "Halves.off" WU)
  (aq8:LS K mg "RankPouch" "__init__" "Pouch.__init__" zB)
  : ∃fd:FuncData,(∀(s:Shared) (v:Value),BindsTo s fd ⟨[v],[]⟩ [("_law_script",v)])∧∀base:Heap,K.In base→base.Ns mainGlobals mg→iV l.prog w K mg base CK 6 fa fd ["_law_script"] (NN K):=by
 have e:=hfa.symm.trans (mg_of X G al);cases e;have tY:cJ K ["Halves"] "keep":=BA jG jY amN (AZ);have jB:cJ K ["Halves"] "levels":=BA jG jY amM (AZ);have kD:cJ K ["Halves"] "many":=BA jG jY amL (AZ);have pD:cJ K ["Halves"] "over":=BA jG jY amK (AZ);have lG:cJ K ["Halves"] "taken":=BA jG jY amJ (AZ);have pC:cJ K ["Halves"] "turns":=BA jG jY amI (AZ);have pB:cJ K ["Halves"] "under":=BA jG jY amH (AZ);have FL:=JW (st:=uH) ll lc lk;refine⟨fnOf "law" "law" (mR uH) (hV uH) (aX uH) .none kV dc pm an cd ct,fun s v => .of_eq rfl,fun base _ _=>?_⟩;have Jd:=@at0 l.prog w K mg base B arE;have tX:=@auB l.prog w K mg base B arN;have Jj:=@auA l.prog w K mg base B arM;have Jf:=@at6 l.prog w K mg base B arI;have SS:=@at5 l.prog w K mg base B arH;have CI:=@auG l.prog w K mg base B arS;have Ji:=@at9 l.prog w K mg base B arL;have LX:=@at3 l.prog w K mg base B arF;have BY:=@atU l.prog w K mg base B tY kD lG _ aq8;have xY:=@auK l.prog w K mg base B Bt kD _ (aiR.has X G jG jY);have RS:=@auL l.prog w K mg base B kD _ (aiS.has X G jG jY);have Hk:=@auH l.prog w K mg base B lG _ (aiO.has X G jG jY);have FU:=@auS l.prog w K mg base B jB pC _ (aiT.has X G jG jY);have FT:=@auP l.prog w K mg base B jB _ (aiM.has X G jG jY);have Hm:=@auR l.prog w K mg base B pD pB _ (aiP.has X G jG jY);have oM:=@auF l.prog w K mg base B arR tX;have Hq:=@auU l.prog w K mg base B Jd jB pD pC pB FU _ (aiW.has X G jG jY);have Hi:=@auN l.prog w K mg base B FT _ (aiK.has X G jG jY);have FV:=@auT l.prog w K mg base B FT _ (aiU.has X G jG jY);have Jg:=@at7 l.prog w K mg base B arJ oM;have Jh:=@at8 l.prog w K mg base B arK oM tX;have Jk:=@auD l.prog w K mg base B arP oM;have Je:=@at4 l.prog w K mg base B arG CI Ji Hi;have Ho:=@auM l.prog w K mg base B FV _ (aiV.has X G jG jY);have Hn:=@auJ l.prog w K mg base B FV _ (aiQ.has X G jG jY);have Ik:=@atR l.prog w K mg base B BY jB pD pC pB _ (aiX.has X G jG);have Hj:=@auQ l.prog w K mg base B tY jB Hq _ (aiN.has X G jG jY);have Jl:=@auE l.prog w K mg base B arQ oM tX Jj Jh Jf;have LY:=@auC l.prog w K mg base B arO CI SS Je LX Ho RS Hn Hm Hk;have xX:=@auO l.prog w K mg base B FU Hj _ (aiL.has X G jG jY);have Hl:=@auI l.prog w K mg base B kD lG xY xX _ _ (Oi.has X G jG jY);have He:=@atO l.prog w K mg base B kD lG xY xX _ _ (Oi.has X G jG jY);exact anO (atZ B FL oM Jl Jk LY Jg Ik Hl He) M.anQ
theorem walk{l:OpenLaw}{q:Program}{loose:List Str}{XP:(Str→Option Value)→Heap→Prop}{YP:World→Heap→Prop}{d:DefRec}{K:Params→Frag}(hn:l.most=some 63)(JN:d.params.defaults=[])
  (hY:∀(w:World) (h:Heap),YP w h→(K w.params).In h)
  (F:∀(w:World) (mg:Str→Option Value) (fa:Addr) (h:Heap),(K w.params).In h→h.Ns mainGlobals mg→mg d.name=some (.ref fa) →
   ∃fd:FuncData,(∀(s:Shared) (u:Value),BindsTo s fd ⟨[u],[]⟩ [("_law_script",u)])∧∀base:Heap,(K w.params).In base→base.Ns mainGlobals mg→iV l.prog w (K w.params) mg base CK 6 fa fd ["_law_script"] (NN (K w.params))) :
  PySem.W.WalkO q loose XP YP l.row.toRowW d [] (fun f vs=>PySem.call f vs) :=
 L2.aaJ (n:=63) (k:=6) (x := "_law_script") (CX:=fun _=>CK) (sp:=fun w=>NN (K w.params)) hn (by decide) JN ⟨rfl,by decide,by decide⟩ hY F (fun _ _ a ns hl _ hS=>⟨a,ns,rfl,hS,hl,fun _=>rfl⟩) fun _ _ _ _ _ z=>z
end Il
open PySem PySem.W PyProof.Rows
namespace HD
open PySem PySem.W PyProof.Rows
def NZ(B:String→Option Builtin)(p:Program)(w:World)(lo:Nat)(an:Option Value):Nat→SharedT→Thread→Option SharedT
 | 0,_,_=>none
 | m+1,x,th=>bif through th then some x else bif stepOk lo an th then(stepT (denote B) p w x th).bind (fun y=>NZ B p w lo an m y.1 y.2)else none
theorem ah3{B:String→Option Builtin}{p:Program}{w:World}{lo:Nat}{an:Option Value}(m:Nat) :
  ∀(x y:SharedT) (th:Thread),NZ B p w lo an m x th=some y→topRun B p w lo an m x.abs th=some y.abs:=by
 induction m with
 | zero=>intro x y th z;cases z
 | succ m ih =>
  intro x y th z;unfold NZ at z;unfold topRun;cases a:through th <;> rw [a]at z
  ·cases b:stepOk lo an th <;> rw [b]at z
   ·cases z
   ·obtain⟨u,hu,z'⟩:=BL.mp (show(stepT (denote B) p w x th).bind _=some y from z);dsimp only;rw [stepT_spec (s':=u.1) (t':=u.2) hu];exact ih _ _ _ z'
  ·cases z;rfl
def grow:List Obj→BT→Nat→BT
 | [],T,_=>T
 | o::l,T,n=>grow l (T.ins n o) (n+1)
noncomputable def boot(w:World)(os:OsState):SharedT:=⟨grow (boot_heap w.params).objs.toList .nil 0,11,(boot_heap w.params).life,#[],boot_drawn,boot_toks,os⟩
noncomputable def ends(p:Program)(N:Nat)(w:World)(os:OsState):Option SharedT:=NZ treeTable p w 11 (some (.ref 6)) N (boot w os) (topStub p)
theorem avM(w:World):((boot_heap w.params).isNs mainGlobals&&(#[]:Array GenState).size == 0,(boot_heap w.params).objs.size,(boot_heap w.params).nsMap mainGlobals "__annotations__")=(true,11,some (Value.ref 6)):=by kernel_rfl
theorem boot_abs(w:World)(os:OsState):(boot w os).abs=⟨boot_heap w.params,#[],boot_drawn,boot_toks,os⟩:=by kernel_rfl
def fits(p:Program)(h:Heap)(y:SharedT):Bool:=staticsOk (importedModules p.main.body) h y.abs.heap&&namesBound p y.abs.heap&&gensDone y.abs&&laidKept h y.abs.heap
theorem left{p q:Program}{loose:List Str}{Xt:Shared→Bool}{α:Type}{Yf:Shared→α}{Ya:World→α}{N:Nat}{g0:Bool}
  (plain:opening p=plainProg p.main.scope.names) (hN:Nat.ble 600 N=true) (fence:∀s,fenceModules? p s=some s)
  (tests:∀(w:World) (os:OsState),(ends p N w os).map (fits p (boot_heap w.params))=some true)
  (YM:∀(w:World) (os:OsState),(ends p N w os).map (fun y=>openSeen q loose (importedModules p.main.body) Xt g0 y.abs)=some (openGood q loose))
  (hook:∀(w:World) (os:OsState),(ends p N w os).map (fun y=>Yf y.abs)=some (Ya w)) :
  LeftO p q loose Xt Yf Ya N g0:=by
 intro w;obtain⟨⟨hp,ge,dr,tk,os⟩,ho,hq⟩:=BK.mp (boot_open plain hN fence w);simp only [RO]at hq;obtain⟨rfl,rfl,rfl,rfl⟩:=hq;have bs:=avM w;simp only [RO]at bs;obtain⟨y,hy,a1⟩:=BK.mp (tests w os);have a2:=YM w os;have a3:=hook w os;rw [hy]at a2 a3;have rr:=ah3 _ _ _ _ hy;rw [boot_abs]at rr;have tt:topFrom treeTable p w N ⟨boot_heap w.params,#[],boot_drawn,boot_toks,os⟩=some y.abs:=by
  unfold topFrom;dsimp only;rw [bs.1,bs.2.1,bs.2.2,rr];show(match fits p (boot_heap w.params) y with | true=>some y.abs | false=>none)=some y.abs;rw [a1]
 show((fencedOpening treeTable p w N).bind (topFrom treeTable p w N)).map _=_;rw [ho,Option.bind_some,tt,LA,jO,RO];exact⟨mS a2,mS a3⟩
set_option maxRecDepth 100000
set_option maxHeartbeats 0
noncomputable def an4(ds:List Nat)(l:List Stmt):List Stmt:=@List.rec Stmt (fun _=>Nat→List Stmt) (fun _=>[]) (fun s _ f i=>@Bool.rec (fun _=>List Stmt) (s::f (Nat.succ i)) (f (Nat.succ i)) (ds.any (Nat.beq i))) l 0
noncomputable def kept:Program:={ PySem.Challenge.pw_rankpouch_k52_weights_of_halves with main:={ PySem.Challenge.pw_rankpouch_k52_weights_of_halves.main with body:=an4 [1,5,8,11] PySem.Challenge.pw_rankpouch_k52_weights_of_halves.main.body } }
noncomputable def seenX(s:Shared):Bool:=xlAt kept [] s&&recOk (RowW.records (OpenRow.toRowW (OpenLaw.row PySem.Challenge.rw_rankpouch_k52_weights_of_halves))) s
theorem said:OpenLaw.wellSaid PySem.Challenge.rw_rankpouch_k52_weights_of_halves=true:=by kernel_rfl
theorem plain:opening PySem.Challenge.pw_rankpouch_k52_weights_of_halves=plainProg PySem.Challenge.pw_rankpouch_k52_weights_of_halves.main.scope.names:=by kernel_rfl
theorem fence(s:Shared):fenceModules? PySem.Challenge.pw_rankpouch_k52_weights_of_halves s=some s:=by kernel_rfl
theorem tests(w:World)(os:OsState):(ends PySem.Challenge.pw_rankpouch_k52_weights_of_halves 5478 w os).map (fits PySem.Challenge.pw_rankpouch_k52_weights_of_halves (boot_heap w.params))=some true:=by kernel_rfl
theorem YM(w:World)(os:OsState):(ends PySem.Challenge.pw_rankpouch_k52_weights_of_halves 5478 w os).map (fun y=>openSeen kept [] (importedModules PySem.Challenge.pw_rankpouch_k52_weights_of_halves.main.body) seenX true y.abs)=some (openGood kept []):=by kernel_rfl
end HD
open PySem PySem.W PyProof.Rows
local macro_rules
 | `(tactic| o_head $H) => `(tactic| refine holds_open (q := HD.kept) (loose := []) (N := 5478) (Xt := HD.seenX)
   (XP := XL HD.kept []) (Yf := Hook.obs $H) (Ya := Hook.val $H) (YP := Hook.says $H)
   ?_ (Hook.of $H) (Hook.keeps $H) (fun s e => xl_of s (Bool.and_eq_true_iff.mp e).1) XL.keeps
   (by rfl) (by rfl) (by rfl) (fun s e => recFacts_of (Bool.and_eq_true_iff.mp e).2)
   (by rfl) (by assumption) (by decide +kernel) ⟨rfl, rfl, rfl, rfl, rfl, by decide +kernel⟩ ?_ ?_)
set_option maxRecDepth 100000 in
set_option maxHeartbeats 0 in
theorem PySem.Challenge.cw_rankpouch_k52_weights_of_halves_holds : PySem.Challenge.rw_rankpouch_k52_weights_of_halves.Holds := by
 w_on
 refine holds_law HD.said fun said=>?_
 k_head
 ·clear said
  refine HD.left HD.plain (by kernel_rfl) HD.fence HD.tests HD.YM ?_
  intro w os
  kernel_rfl
 ·clear said
  w_witness2
 clear said
 k_fill
 refine Il.walk (l:=PySem.Challenge.rw_rankpouch_k52_weights_of_halves) rfl rfl (fun w h Y=>PySem.W.kIn_of Y) ?F
 case F =>
  intro w mg fa h KX G IY
  refine' Il.all_mk KX G IY ?t1 ?t2 ?t3 ?t4 ⟨qL KX G ?t5,qL KX G ?t6,qL KX G ?t7,qL KX G ?t8,qL KX G ?t9,qL KX G ?t10,qL KX G ?UW,qL KX G ?t12,qL KX G ?t13,qL KX G ?t14,qL KX G ?t15,qL KX G ?t16,qL KX G ?t17⟩ (L2.oB KX G ?t18 ?t19 ?t20 ?t21) (L2.oB KX G ?t22 ?t23 ?t24 ?t25) (L2.oB KX G ?t26 ?t27 ?t28 ?t29) (L2.oB KX G ?t30 ?t31 ?t32 ?t33) (L2.oB KX G ?t34 ?t35 ?t36 ?t37) (L2.oB KX G ?t38 ?t39 ?t40 ?t41) (L2.oB KX G ?t42 ?t43 ?t44 ?t45) (L2.oB KX G ?t46 ?t47 ?t48 ?t49) (L2.oB KX G ?t50 ?t51 ?t52 ?t53) (L2.oB KX G ?t54 ?t55 ?t56 ?t57) (L2.oB KX G ?t58 ?t59 ?t60 ?t61) (L2.oB KX G ?t62 ?t63 ?t64 ?t65) (L2.oB KX G ?t66 ?t67 ?t68 ?t69) (L2.oB KX G ?t70 ?t71 ?t72 ?t73) (L2.oB KX G ?t74 ?t75 ?t76 ?t77) (V2.auX KX G ?t78) ?t79 ⟨?t80,?t81,?t82,?t83⟩ ?t84 ?t85 ?t86 ?t87 ?t88 ?t89 ?t90 (V2.amQ ?t91 ?t92 ?t93 ?t94 ?t95 ?t96) (V2.pK ?t97 ?t98 ?t99 ?agD ?t101) (V2.pK ?t102 ?agC ?agB ?agA ?t106) (V2.pK ?t107 ?af9 ?af8 ?af7 ?t111) (V2.pK ?t112 ?af6 ?af5 ?af4 ?t116) (V2.pK ?t117 ?af3 ?af2 ?af0 ?t121) (V2.aoT ?t122 ?afZ ?afY ?afX ?t126 ?afW ?t128) (V2.pK ?afV ?afT ?afS ?afR ?t133) (V2.pK ?t134 ?afQ ?afP ?afO ?t138) (V2.pK ?t139 ?afM ?afL ?afK ?t143) (V2.pK ?t144 ?afJ ?afI ?afH ?t148) (V2.pK ?t149 ?afF ?afE ?afD ?t153) (V2.pK ?t154 ?afC ?afB ?afA ?t158) (V2.pK ?t159 ?ae8 ?ae7 ?ae6 ?t163) (V2.pK ?t164 ?ae5 ?ae4 ?ae3 ?t168) (V2.avQ KX G ?t169 ?t170 ?t171 ?t172 ?t173 ?ae1 ?ae0)
  case t1 | t2 | t3 | t4 | t5 | t6 | t7 | t8 | t9 | t10 | UW | t12 | t13 | t14 | t15 | t16 | t17 | t18 | t19 | t20 | t21 | t22 | t23 | t24 | t25 | t26 | t27 | t28 | t29 | t30 | t31 | t32 | t33 | t34 | t35 | t36 | t37 | t38 | t39 | t40 | t41 | t42 | t43 | t44 | t45 | t46 | t47 | t48 | t49 | t50 | t51 | t52 | t53 | t54 | t55 | t56 | t57 | t58 | t59 | t60 | t61 | t62 | t63 | t64 | t65 | t66 | t67 | t68 | t69 | t70 | t71 | t72 | t73 | t74 | t75 | t76 | t77 | t78 | t79=>k_is
  case t80 | t81 | t82=>kernel_rfl
  case t83 | t84 | t85 | t86 | t87 | t88 | t89 | t90 | t91 | t92 | t93 | t94=>k_is
  case t95=>kernel_rfl
  case t96 | t97 | t98 | t99 | agD=>k_is
  case t101=>kernel_rfl
  case t102 | agC | agB | agA=>k_is
  case t106=>kernel_rfl
  case t107 | af9 | af8 | af7=>k_is
  case t111=>kernel_rfl
  case t112 | af6 | af5 | af4=>k_is
  case t116=>kernel_rfl
  case t117 | af3 | af2 | af0=>k_is
  case t121=>kernel_rfl
  case t122 | afZ | afY | afX=>k_is
  case t126 | afW=>kernel_rfl
  case t128 | afV | afT | afS | afR=>k_is
  case t133=>kernel_rfl
  case t134 | afQ | afP | afO=>k_is
  case t138=>kernel_rfl
  case t139 | afM | afL | afK=>k_is
  case t143=>kernel_rfl
  case t144 | afJ | afI | afH=>k_is
  case t148=>kernel_rfl
  case t149 | afF | afE | afD=>k_is
  case t153=>kernel_rfl
  case t154 | afC | afB | afA=>k_is
  case t158=>kernel_rfl
  case t159 | ae8 | ae7 | ae6=>k_is
  case t163=>kernel_rfl
  case t164 | ae5 | ae4 | ae3=>k_is
  case t168=>kernel_rfl
  case t169=>k_is
  case t170=>kernel_rfl
  case t171=>k_is
  case t172=>kernel_rfl
  case t173 | ae1 | ae0=>k_is
