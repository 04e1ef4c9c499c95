import PyProof.Rows.All
import KE.IntTextLaws
import KE.KIsAll
import KE.KItemsList
import KE.KLam
import KE.KNestM
import KE.KRevIter
import KE.KSortTup
import KE.KUnpack
import KE.LcSums
import PySem.Challenge.RW_rankpouch_k82_whole_gaps
set_option Elab.async false
set_option linter.all false
set_option maxRecDepth 100000
set_option compiler.extract_closed false
set_option genSizeOf false
set_option bootstrap.genMatcherCode false
noncomputable section
namespace HD
abbrev pP:=PySem.Challenge.pw_rankpouch_k82_whole_gaps
open PySem PySem.W PyProof.Rows
noncomputable def inClass (s : Stmt) (j : Nat) : Stmt:=match s with
  | .ClassDef _ _ _ body _ _ _ _ _ _ _=>body.getD j (.Pass ⟨0,0,0,0⟩)
  | _=>.Pass ⟨0,0,0,0⟩
noncomputable def defArgs (s : Stmt) : Arguments:=match s with
  | .FunctionDef _ a _ _ _ _ _ _ _ _=>a
  | _=>{ posonlyargs:=[],args:=[],vararg:=none,kwonlyargs:=[],kw_defaults:=[],kwarg:=none,defaults:=[] }
noncomputable def defBody (s : Stmt) : List Stmt:=match s with
  | .FunctionDef _ _ b _ _ _ _ _ _ _=>b
  | _=>[]
noncomputable def defScope (s : Stmt) : Scope:=match s with
  | .FunctionDef _ _ _ _ _ _ sc _ _ _=>sc
  | _=>{ kind:=.function,names:=[],isGenerator:=false,isCoroutine:=false }
noncomputable def runT (B : String → Option Builtin) (p : Program) (w : World) (lo : Nat) (an : Option Value) : Nat → SharedT → Thread → Option SharedT
  | 0,_,_=>none
  | m + 1,x,th=>bif through th then some x else bif stepOk lo an th then (stepT (denote B) p w x th).bind (fun y=>runT B p w lo an m y.1 y.2) else none
theorem run_of {B : String → Option Builtin} {p : Program} {w : World} {lo : Nat} {an : Option Value} (m : Nat) :
    ∀ (x y : SharedT) (th : Thread),runT B p w lo an m x th = some y → topRun B p w lo an m x.abs th = some y.abs:=by
  induction m with
  | zero=>intro x y th z; cases z
  | succ m ih =>
    intro x y th z
    unfold runT at z; unfold topRun
    cases a : through th <;> rw [a] at z
    · cases b : stepOk lo an th <;> rw [b] at z
      · cases z
      · obtain ⟨u,hu,z'⟩:=Option.bind_eq_some_iff.mp (show (stepT (denote B) p w x th).bind _ = some y from z)
        dsimp only
        rw [stepT_spec (s':=u.1) (t':=u.2) hu]
        exact ih _ _ _ z'
    · cases z; rfl
noncomputable def grow : List Obj → BT → Nat → BT
  | [],T,_=>T
  | o :: l,T,n=>grow l (T.ins n o) (n + 1)
noncomputable def SS (s : String) (t : Nat) : Value:=.str (Str.ofString s) t
noncomputable def en (w : World) (s : String) (t : Nat) (v : Value) : DictEntry:=⟨reduceHash (w.params.strHash (Str.ofString s).cps),SS s t,v⟩
noncomputable def ob (c : String) (d : Data) : Obj:=⟨.type c,none,d,#[]⟩
noncomputable def tp (l : List Value) : Obj:=ob "tuple" (.seq ⟨l⟩ 0)
noncomputable def di (l : List DictEntry) (n : Nat) : Obj:=ob "dict" (.dict ⟨l⟩ n)
noncomputable def fl (l : List Value) : Obj:=⟨.none,none,.fields ⟨l⟩,#[]⟩
noncomputable def nn (i : Nat) : Value:=.int i 0
noncomputable def bm (b : String) (v : Value) : Obj:=ob "builtin_function_or_method" (.fields ⟨[.builtin b,v]⟩)
noncomputable def co (n q : String) (t l k f x : Nat) (b : Bool) (r : List Value) (u : Nat) : Obj:=ob "code" (.fields ⟨[SS n t,SS q (t + 1),SS "/claim/cut.py" (t + 2),nn l,nn k,nn 0,nn 0,nn f,.ref x,.bool b,nn 181,.ref (x + 1),.none] ++ r ++ [nn u,nn l,SS "/claim/cut.py" (u + 1)]⟩)
noncomputable def fr (c n : Nat) (m : Value) : Obj:=⟨.type "frame",none,.plain,⟨[some (.ref c),some (.ref 3),some (.ref n),none,some m,none,some (.ref 0)]⟩⟩
noncomputable def fu (st : Stmt) (n q : String) (g : Nat) (m c : Value) : Data:=.func ⟨Str.ofString n,Str.ofString q,defArgs st,.stmts (defBody st),defScope st,g,[],.none,.none,.none,m,none,c,.none,0⟩
noncomputable def ty (n : String) (b : Value) (mr : List Value) (c ns a t : Nat) (su : List Value) : Obj:=⟨.type "type",none,.cls { name:=Str.ofString n,bases:=[b],mro:=.ref c :: mr,ns:=ns,qualname:=Str.ofString n,subclasses:=su },⟨[some (.ref a),none,some (SS n t),some (SS n (t + 8)),some (.builtin "ValueError.__new__"),some (.bool true)]⟩⟩
noncomputable def mr0 : List Value:=[.type "ValueError",.type "Exception",.type "BaseException",.type "object"]
noncomputable def n3 : List Value:=[.none,.none,.none]
noncomputable def su (c : Nat) : List Obj:=[ob "super" (.fields ⟨[.ref c,.ref c,.ref c]⟩),bm "object.__init_subclass__" (.ref c)]
noncomputable def kW (st : Stmt) : List Obj:=[tp [],fl [],tp [SS "k" 190],tp [],⟨.none,none,fu st "_wall" "_wall" 0 .none .none,#[]⟩,co "_wall" "_wall" 187 1 1 3 15 true [.ref 17,.ref 18,.ref 19] 191,ob "function" (fu st "_wall" "_wall" 3 (SS "__main__" 164) (.ref 20))]
section
variable (w : World) (m : Value) (n : String)
noncomputable def e0 (l t : Nat) : List DictEntry:=[en w "__module__" (t + 7) m,en w "__firstlineno__" (t + 11) (.int l (t + 10))]
noncomputable def e1 (l t : Nat) : List DictEntry:=[en w "__module__" (t + 7) m,en w "__qualname__" (t + 9) (SS n (t + 8)),en w "__firstlineno__" (t + 11) (.int l (t + 10))]
noncomputable def k0 (l a t : Nat) (b : Value) : List Obj:=[tp [b],bm "type.__prepare__" (.type "type"),di (e1 w m n l t ++ [en w "__static_attributes__" (t + 12) (.ref (a + 7))]) 4,tp [],fl [],co n n (t + 2) l 0 0 (a + 3) false n3 (t + 5),fr (a + 5) (a + 2) m,tp []]
noncomputable def kR (l a t : Nat) (ss : List Value) : List Obj:=k0 w m n l a t (.type "ValueError") ++ [di (e0 w m l t ++ [en w "__static_attributes__" (t + 12) (.ref (a + 7)),en w "__weakref__" (t + 14) (.ref (a + 10)),en w "__doc__" (t + 15) .none]) 3,ty n (.type "ValueError") mr0 (a + 9) (a + 8) a t ss,ob "getset_descriptor" (.fields ⟨[SS "__weakref__" (t + 13),.ref (a + 9),.builtin "ExceptionGroup.__weakref__",.none]⟩)] ++ su (a + 9)
noncomputable def kA (r l a t : Nat) : List Obj:=k0 w m n l a t (.ref r) ++ [di (e0 w m l t ++ [en w "__static_attributes__" (t + 12) (.ref (a + 7)),en w "__doc__" (t + 13) .none]) 2,ty n (.ref r) (.ref r :: mr0) (a + 9) (a + 8) a t []] ++ su (a + 9)
noncomputable def kB (f : String) (st : Stmt) (r l k a t : Nat) : List Obj:=[tp [.ref r],bm "type.__prepare__" (.type "type"),di (e1 w m n l t ++ [en w "__init__" (t + 19) (.ref (a + 13)),en w "__static_attributes__" (t + 21) (.ref (a + 14))]) 5,tp [],fl [nn k,nn 4,.ref (a + 12)],co n n (t + 2) l 0 0 (a + 3) false n3 (t + 5),fr (a + 5) (a + 2) m,
  tp [],fl [],tp [SS "self" (t + 15),SS f (t + 16)],tp [],⟨.none,none,fu st "__init__" (n ++ ".__init__") 0 .none .none,#[]⟩,co "__init__" (n ++ ".__init__") (t + 12) k 2 3 (a + 7) true [.ref (a + 9),.ref (a + 10),.ref (a + 11)] (t + 17),ob "function" (fu st "__init__" (n ++ ".__init__") 3 m (.ref (a + 12))),tp [SS f (t + 20)],
  di (e0 w m l t ++ [en w "__init__" (t + 19) (.ref (a + 13)),en w "__static_attributes__" (t + 21) (.ref (a + 14)),en w "__doc__" (t + 22) .none]) 2,ty n (.ref r) (.ref r :: mr0) (a + 16) (a + 15) a t []] ++ su (a + 16)
noncomputable def gl (es : List DictEntry) (k : Nat) : Obj:=di ([en w "__name__" 165 m,en w "__doc__" 166 .none,en w "__package__" 167 .none,en w "__loader__" 168 (.builtin "__main__.__loader__#opaque"),en w "__spec__" 169 .none,en w "__annotations__" 170 (.ref 6),en w "__builtins__" 171 (.ref 4),en w "__file__" 173 (SS "/claim/cut.py" 172),en w "__cached__" 174 .none] ++ es) k
end
noncomputable def bt (w : World) : List Obj:=(boot_heap w.params).objs.toList
noncomputable def hd4 (l : List Value) : List Obj:=[tp [],fl l,co "<module>" "<module>" 182 1 0 0 11 false n3 185,fr 13 3 (SS "__main__" 164)]
noncomputable def stT (w : World) (os : OsState) (l : List Obj) (n k : Nat) : SharedT:=⟨grow l .nil 0,n,(boot_heap w.params).life,#[],boot_drawn,k,os⟩
noncomputable def boot (w : World) (os : OsState) : SharedT:=stT w os (bt w) 11 boot_toks
noncomputable def sa (w : World) (os : OsState) : SharedT:=stT w os (bt w ++ hd4 []) 15 187
noncomputable def env0 (p : Program) : Env:={ scope:=p.main.scope,locals:=mainNs,globals:=mainNs,cells:=[],code:=.ref 13,frame:=some 14 }
noncomputable def c0 (p : Program) : Code:=.body (behindTheImports p) (env0 p)
noncomputable def pp0 : Pos:=⟨0,0,0,0⟩
noncomputable def thr (p : Program) (k : Nat) (q : Pos) : Thread:=restOf ((behindTheImports p).drop k) (env0 p) (c0 p) q [topFrame pp0]
theorem boot_size (w : World) : ((boot_heap w.params).isNs mainGlobals && (#[] : Array GenState).size == 0,(boot_heap w.params).objs.size,(boot_heap w.params).nsMap mainGlobals "__annotations__") = (true,11,some (Value.ref 6)):=by kernel_rfl
theorem boot_abs (w : World) (os : OsState) : (boot w os).abs = ⟨boot_heap w.params,#[],boot_drawn,boot_toks,os⟩:=by kernel_rfl
noncomputable def fits (p : Program) (h : Heap) (y : SharedT) : Bool:=staticsOk (importedModules p.main.body) h y.abs.heap && namesBound p y.abs.heap && gensDone y.abs && laidKept h y.abs.heap
noncomputable def ends (p : Program) (N : Nat) (w : World) (x : SharedT) (k : Nat) (q : Pos) : Option SharedT:=runT treeTable p w 11 (some (.ref 6)) N x (thr p k q)
noncomputable def seg1 (p : Program) (n : Nat) (w : World) (x : SharedT) (k : Nat) : Option (Flow × SharedT × Code × Pos):=segRunT treeTable p w 11 (some (.ref 6)) 1 n x (piecesOf ((behindTheImports p).take k) (env0 p) (c0 p) pp0 [topFrame pp0])
noncomputable def getT (y : SharedT) (a : Addr) : Option Obj:=match Nat.blt a y.n with
  | true=>alive ((y.tree.get a).getD default)
  | false=>none
theorem get_abs (y : SharedT) (a : Addr) : y.abs.heap.get? a = getT y a:=by
  have e:=absHeap_at y.tree y.n y.life a
  unfold getT
  show (absHeap y.tree y.n y.life).get? a = _
  by_cases h : a < y.n
  · rw [show Nat.blt a y.n = true from by simpa [Nat.blt_eq] using h]
    unfold Heap.get?
    rw [e,if_pos h]
    generalize (y.tree.get a).getD default = o
    obtain ⟨c,d,dt,sl⟩:=o
    cases dt <;> rfl
  · rw [show Nat.blt a y.n = false from Bool.eq_false_iff.mpr (by simpa [Nat.blt_eq] using h)]
    exact abs_get_none h
theorem gets (l : List Addr) (y : SharedT) : l.map (getT y) = l.map y.abs.heap.get?:=List.map_congr_left fun a _=>(get_abs y a).symm
theorem obsK {K : Params → Frag} {as : List Addr} {e : ∀ P,as = (K P).map (·.1)} (y : SharedT) : as.map (getT y) = (kHook K as e).obs y.abs:=gets as y
theorem obsM {K : Params → Frag} {as ts : List Addr} {e : ∀ P,as = (K P).map (·.1)} (y : SharedT) : (as.map (getT y),ts.map (getT y)) = (kmHook K as e ts).obs y.abs:=by
  rw [gets,gets]; rfl
theorem left {p q : Program} {loose : List Str} {Xt : Shared → Bool} {α : Type} {Yf : Shared → α} {Ya : World → α} {N N2 n1 k : Nat} {g0 : Bool} {mid : World → OsState → SharedT} {po : Pos} {YT : SharedT → α}
    (plain : opening p = plainProg p.main.scope.names) (hN : Nat.ble 600 N = true) (hN2 : 12 + (1 + (n1 + N2)) = N) (fence : ∀ s,fenceModules? p s = some s)
    (pre : ∀ (w : World) (os : OsState),topGo treeTable p w 11 (some (.ref 6)) 12 (boot w os).abs (topStub p) = some ((sa w os).abs,⟨denote treeTable (c0 p),c0 p,pp0,[topFrame pp0]⟩))
    (blk : ∀ (w : World) (os : OsState),segRun treeTable p w 11 (some (.ref 6)) 1 1 (sa w os).abs (blockOf (behindTheImports p) (env0 p) (c0 p) pp0 [topFrame pp0]) = some (.next,(sa w os).abs,c0 p,pp0))
    (one : ∀ (w : World) (os : OsState),seg1 p n1 w (sa w os) k = some (.next,mid w os,c0 p,po))
    (tests : ∀ (w : World) (os : OsState),(ends p N2 w (mid w os) k po).map (fits p (boot_heap w.params)) = some true)
    (looks : ∀ (w : World) (os : OsState),(ends p N2 w (mid w os) k po).map (fun y=>openSeen q loose (importedModules p.main.body) Xt g0 y.abs) = some (openGood q loose))
    (hY : ∀ y,YT y = Yf y.abs)
    (hook : ∀ (w : World) (os : OsState),(ends p N2 w (mid w os) k po).map YT = some (Ya w)) :
    LeftO p q loose Xt Yf Ya N g0:=by
  intro w
  obtain ⟨⟨hp,ge,dr,tk,os⟩,ho,hq⟩:=Option.map_eq_some_iff.mp (boot_open plain hN fence w)
  simp only [Prod.mk.injEq] at hq
  obtain ⟨rfl,rfl,rfl,rfl⟩:=hq
  have bs:=boot_size w
  simp only [Prod.mk.injEq] at bs
  obtain ⟨y,hy,a1⟩:=Option.map_eq_some_iff.mp (tests w os)
  have a2:=looks w os
  have a3:=hook w os
  rw [show YT = fun y=>Yf y.abs from funext hY,hy] at a3
  rw [hy] at a2
  have r1:=run_of _ _ _ _ hy
  have r2:=piece_app (segRun_of (one w os)) r1
  rw [List.take_append_drop] at r2
  have rr:=go_top (pre w os) (piece_block (blk w os) r2)
  rw [boot_abs,hN2] at rr
  have tt : topFrom treeTable p w N ⟨boot_heap w.params,#[],boot_drawn,boot_toks,os⟩ = some y.abs:=by
    unfold topFrom; dsimp only
    rw [bs.1,bs.2.1,bs.2.2,rr]
    show (match fits p (boot_heap w.params) y with | true=>some y.abs | false=>none) = some y.abs
    rw [a1]
  show ((fencedOpening treeTable p w N).bind (topFrom treeTable p w N)).map _ = _
  rw [ho,Option.bind_some,tt,Option.map_some,Option.some.injEq,Prod.mk.injEq]
  exact ⟨Option.some.inj a2,Option.some.inj a3⟩
set_option maxRecDepth 100000
set_option maxHeartbeats 0
noncomputable def keptOf (ds : List Nat) (l : List Stmt) : List Stmt:=@List.rec Stmt (fun _=>Nat → List Stmt) (fun _=>[]) (fun s _ f i=>@Bool.rec (fun _=>List Stmt) (s :: f (Nat.succ i)) (f (Nat.succ i)) (ds.any (Nat.beq i))) l 0
noncomputable def kept : Program:={ pP with main:={ pP.main with body:=keptOf [0,9,17,22,32,42,45,47,50] pP.main.body } }
noncomputable def seenX (s : Shared) : Bool:=xlAt kept [] s && recOk (RowW.records (OpenRow.toRowW (OpenLaw.row PySem.Challenge.rw_rankpouch_k82_whole_gaps))) s
noncomputable def bd (i : Nat) : Stmt:=pP.main.body.getD i (.Pass pp0)
noncomputable def em : Value:=SS "rankpouch.errors" 187
noncomputable def mid (w : World) (os : OsState) : SharedT:=stT w os ((bt w).take 3 ++ gl w em [en w "RankError" 206 (.ref 24),en w "NoRow" 231 (.ref 44),en w "NoPlace" 247 (.ref 56),en w "NoPouch" 272 (.ref 75),en w "NoSize" 288 (.ref 87),en w "Wrong" 313 (.ref 106),en w "NoTimes" 329 (.ref 118),en w "Unlike" 345 (.ref 130)] 17 :: (bt w).drop 4 ++ hd4 [nn 2,nn 0,.ref 20,nn 4,nn 0,.ref 33,nn 9,nn 0,.ref 52,nn 11,nn 0,.ref 64,nn 16,nn 0,.ref 83,nn 18,nn 0,.ref 95,nn 23,nn 0,.ref 114,nn 25,nn 0,.ref 126] ++ kR w em "RankError" 2 15 189 [.ref 44,.ref 56,.ref 75,.ref 87,.ref 106,.ref 118,.ref 130] ++ kB w em "NoRow" "at" (inClass (bd 2) 0) 24 4 6 28 207 ++ kA w em "NoPlace" 24 9 47 232 ++ kB w em "NoPouch" "at" (inClass (bd 4) 0) 24 11 13 59 248 ++ kA w em "NoSize" 24 16 78 273 ++ kB w em "Wrong" "at" (inClass (bd 6) 0) 24 18 20 90 289 ++ kA w em "NoTimes" 24 23 109 314 ++ kA w em "Unlike" 24 25 121 330) 133 346
noncomputable def po : Pos:=⟨25,0,26,8⟩
theorem said : OpenLaw.wellSaid PySem.Challenge.rw_rankpouch_k82_whole_gaps = true:=by kernel_rfl
theorem plain : opening pP = plainProg pP.main.scope.names:=by kernel_rfl
theorem fence (s : Shared) : fenceModules? pP s = some s:=by kernel_rfl
theorem pre (w : World) (os : OsState) : topGo treeTable pP w 11 (some (.ref 6)) 12 (boot w os).abs (topStub pP) = some ((sa w os).abs,⟨denote treeTable (c0 pP),c0 pP,pp0,[topFrame pp0]⟩):=by kernel_rfl
theorem blk (w : World) (os : OsState) : segRun treeTable pP w 11 (some (.ref 6)) 1 1 (sa w os).abs (blockOf (behindTheImports pP) (env0 pP) (c0 pP) pp0 [topFrame pp0]) = some (.next,(sa w os).abs,c0 pP,pp0):=by kernel_rfl
theorem one (w : World) (os : OsState) : seg1 pP 1783 w (sa w os) 9 = some (.next,mid w os,c0 pP,po):=by kernel_rfl
theorem tests (w : World) (os : OsState) : (ends pP 6374 w (mid w os) 9 po).map (fits pP (boot_heap w.params)) = some true:=by kernel_rfl
theorem looks (w : World) (os : OsState) : (ends pP 6374 w (mid w os) 9 po).map (fun y=>openSeen kept [Str.ofString "upto_asks",Str.ofString "below_asks",Str.ofString "so_manieth_asks"] (importedModules pP.main.body) seenX true y.abs) = some (openGood kept [Str.ofString "upto_asks",Str.ofString "below_asks",Str.ofString "so_manieth_asks"]):=by kernel_rfl
end HD
open PySem renaming wpAny_bind->aM,wpAny_pure->bS,sizeLine_eq->lE,wpAny_newObj_type->pU,wpAny_mono->pV,codeAny_mono->tN,wpAny_call_entry->tU,wpAny_Call_Name_kw->tV,wpAny_ite_false->vJ,wpAny_holding->vK,wpAny_truthy_bool->zI,wpAny_setField_rec->zJ,wpAny_setState_of->BW,wpAny_field->BX,wpAny_call->BY,wpAny_askSetting->BZ,wpAny_setEntries_of->FC,wpAny_passesOwn->FD,wpAny_callSpecial?_slot->FE,wpAny_fieldsOf->KO,wpAny_attempt->KP,codeAny_builtin->OM,call_meetsIn->OQ,tupleKind_room_in1->RU,plainId_quiet->TC,wpAny_ite_true->ZM,wpAny_isInstance->ZN,wpAny_execs_nil->ZO,fits_of_scanBound->Jv,wpAny_Call_method0_late->Rj
open List renaming map_cons->cV,getElem?_eq_some_iff->dN,getElem?_eq_getElem->dR,mem_cons->eK,mem_map->fZ,mem_cons_of_mem->gJ,getElem?_set_self->gK,getElem?_set_ne->gS,length_cons->iP,size_toArray->jB,mem_of_getElem?->kF,length_map->lB,getElem?_map->lC,getElem?_append_left->mM,sum_cons->nK,mem_singleton->oX,set_set->pR,nodup_cons->qO,mem_append->rH,map_nil->rJ,mem_append_right->tP,pairwise_cons->vD,length_append->vE,map_map->wY,append_nil->wZ,not_mem_nil->yZ,getElem_mem->zA,find?_cons->BJ,eq_nil_of_length_eq_zero->BK,nil_append->EM,map_append->EN,getElem?_append_right->EO,drop_eq_getElem_cons->ER,map_congr_left->JA,lookup_cons->JB,length_set->JC,length_nil->JD,all_eq_true->JE,nodup_append->QB,mem_map_of_mem->QC,getElem?_take->QD,drop_length->QE,any_cons->QF,mem_append_left->YI,getElem?_eq_none->YJ,getElem?_cons_succ->YK,ext_getElem?->YL,any_eq_true->YM,of_mem_zip->Om,mem_filter->Oo,map_set->Oq,filterMap_cons->Ot,cons_append->Ou,all_cons->Ov,take_of_length_le->aeJ,mem_of_find?_eq_some->aeK,length_range->aeL,length_filter_le->aeM,getElem?_reverse->aeN,filter_sublist->aeO,filterMap_map->aeP,append_assoc->aeQ,length_filter_eq_length_iff->aE2
open Ne renaming symm->eM
open PySem.Heap renaming get?_push_of_some->eN,lt_size->eY,get?_push_size->hU,get?_update_other->sP,size_push->JI,get?_update_self->QJ
open Nat renaming ne_of_lt->iB,lt_of_lt_of_le->nA,le_trans->oW,le_refl->vA,zero_add->wX,zero_le->BI,ne_of_gt->IP,le_succ->IQ,lt_succ_self->YC,pow_succ->Nx,lt_succ_of_lt->Ny,lt_or_ge->Nz,lt_of_le_of_lt->Oa,le_of_not_lt->Ob,le_of_lt->Oc
open Option.some renaming inj->kK,injEq->lO
open _root_ renaming if_true->kS,decide_eq_false->oR,decide_eq_true->rC,if_false->rV,or_false->xW,beq_iff_eq->yU,beq_eq_false_iff_ne->yV,decide_eq_true_eq->WB,getElem?_pos->Je,of_decide_eq_true->Wm
open Bool renaming and_eq_true->nN,false_eq_true->RF,false_ne_true->Qv
open List.cons renaming injEq->rK
open PySem.W renaming mg_none_of->rT
open Array renaming length_toList->tT,getElem?_eq_some_iff->RG,getElem?_toList->Qx,getElem?_eq_getElem->Qy,getElem?_eq_none_iff->ae2
open Int renaming zero_add->xB,le_refl->zD,toNat_natCast->EV,le_trans->JH,add_comm->QH,natCast_zero->YR,mul_add->YS,emod_lt_of_pos->YT,le_of_eq->Pd,eq_ofNat_of_zero_le->Pe,emod_nonneg->Pf
open Function renaming comp_def->xC
open Option renaming map_some->EI,map_eq_some_iff->EJ,bind_eq_some_iff->YB,isSome_map->Nu
open PyProof.Rows renaming boot_isinstance->IA,callWith_type1->PY,boot_list->XZ,slot_tuple_getitem->adZ
open PySem.Calls renaming spliced_cons->KL,spliced_nil->RC,callWith_builtin->RD,evalArgs_plain->aeZ
open List.Perm renaming refl->QG
open Prod.mk renaming injEq->YA
open Classical renaming choose_spec->ZJ
open PySem.Around renaming under_plainId->ZL
open PyProof.Rows.F renaming plain_set_update_loop->ad0,entry_set_update_loop->aD2
open Option renaming some->ai,none->ak
open _root_ renaming List->aj,Option->ar,Int->av,Nat->ay,if_pos->a8,if_neg->bb,Bool->bh,Array->bq,absurd->bu,False->cb,beq_eq_false_iff_ne->cc,String->cy,congrArg->c7,Decidable->c9,beq_iff_eq->dy
open PySem renaming Value->ao,Addr->au,Shared->aw,sizeLine->az,Str->a5,starEach->ba,mainGlobals->bc,Program->bf,model->bj,World->bo,Expr->bp,Around->br,Stmt->bt,compareOp->bw,Heap->bx,eval->bz,attributeBase->b0,rawInt->b7,SetTable->b8,Scope->b9,backTo->cg,assignEach->cj,foldedSetIterable->ck,binaryOp->cn,FuncData->cp,Obj->cq,intKind->cu,behindInMarks->cw,Pos->cx,Arguments->cz,bootBuiltins->c2,bindArgs->c3,keywordEach->c5,NameKind->c8,sysModules->da,cLine->de,swapsWith->df,holding->dh,firstArgMember->dm,scanBound->dq,pyNext->du,sliceBounds->d8
open Bool renaming false->aq,true->ax
open PySem.W renaming Frag->bg,findIn->c6,keepIn->di,boot_heap->dr,fnOf->dw,nsIn->dz,emptyDict->d7
open PyProof.Rows renaming envOfC->cv,IntsAre->c4,seqObj->dj,step_dedup->dk,lo1->dn
theorem oIr{α:Sort _}{a:α}{q:Prop}:a=a\/q:=Or.inl rfl
theorem aW{α β j:Sort _}{f:α->β->j}:∀x y,f x y=f x y:=λ_ _=>rfl
theorem dD{n:ay}:n<=n:=vA n
theorem yC{n:av}:n<=n:=zD n
theorem kP{α:Type _}{a:α}{l:aj α}:a∈a::l:=List.mem_cons_self ..
theorem TV{n:ay}:0<=n:=BI n
open PySem.W (Frag OpenLaw callWith_K cellsFrom_some codeHdIn codeIn emptyDict envX findIn fnOf hasDictIn instObj isFn keepIn kia_one kitOne kla_fn kla_obj lookIn makesIn methodCall_KW methodObj mg_of mroIn noTabs nsIn plainGet plainGet_of specialIn tabIn tabObj takerIn takesIn)
namespace L2
open PySem PySem.Spec PyProof.Rows
abbrev Key:=Sum av a5
noncomputable def GO:Key->ao->bh
 |.inl k,v=>Value.isInt k v
 |.inr x,v=>Value.isStrOf x v
noncomputable def ar9(w:bo):Key->av
 |.inl k=>hashInt k
 |.inr x=>hashStr w x
theorem uJ:∀{k:Key} {v:ao},GO k v=ax->(∃i t,k=Sum.inl i/\v=Value.int i t)\/(∃x t,k=Sum.inr x/\v=Value.str x t)
 |.inl i,v,h=>by
  obtain⟨t,e⟩:=Value.isInt_shape (k:=i) (v:=v) h;exact .inl ⟨i,t,rfl,e⟩
 |.inr x,v,h=>by
  obtain⟨t,e⟩:=Value.isStrOf_shape (x:=x) (v:=v) h;exact .inr ⟨x,t,rfl,e⟩
theorem ar8(i:av)(t:Tok):GO (.inl i) (.int i t)=ax:=by simp[GO,Value.isInt]
theorem ar7(x:a5)(t:Tok):GO (.inr x) (.str x t)=ax:=by simp[GO,Value.isStrOf]
theorem ar6(a b:av):decide ((Sum.inl a:Key)=Sum.inl b)=(a==b):=by
 by_cases e:a=b
 ·subst e;simp
 ·have h:¬(Sum.inl a:Key)=Sum.inl b:=λq=>e (Sum.inl.inj q);rw[oR h];exact(yV.mpr e).symm
theorem ar3(a b:a5):decide ((Sum.inr a:Key)=Sum.inr b)=decide (a=b):=by
 by_cases e:a=b
 ·subst e;simp
 ·have h:¬(Sum.inr a:Key)=Sum.inr b:=λq=>e (Sum.inr.inj q);rw[oR h,oR e]
theorem ar5(a:av)(b:a5):decide ((Sum.inl a:Key)=Sum.inr b)=aq:=oR (λq=>nomatch q)
theorem ar4(a:a5)(b:av):decide ((Sum.inr a:Key)=Sum.inl b)=aq:=oR (λq=>nomatch q)
def kI(prog:bf)(w:bo):PySem.KeyKind prog w Key where
 is:=GO
 hash:=ar9 w
 inj:=λv a b ha hb=>by
  rcases uJ ha with⟨i,t,rfl,rfl⟩|⟨x,t,rfl,rfl⟩
  ·rcases uJ hb with⟨j,u,rfl,e⟩|⟨y,u,rfl,e⟩
   ·injection e with q _;rw[q]
   ·exact nomatch e
  ·rcases uJ hb with⟨j,u,rfl,e⟩|⟨y,u,rfl,e⟩
   ·exact nomatch e
   ·injection e with q _;rw[q]
 byValue:=λk v h=>by
  rcases uJ h with⟨i,t,rfl,rfl⟩|⟨x,t,rfl,rfl⟩ <;> rfl
 pyHash:=λhv h=>by
  rcases uJ hv with⟨i,t,rfl,rfl⟩|⟨x,t,rfl,rfl⟩
  ·exact wpAny_pyHash_int h
  ·exact wpAny_pyHash_str h
 eqBool:=λz hv h=>by
  rcases uJ z with⟨i,t,rfl,rfl⟩|⟨x,t,rfl,rfl⟩
  ·rcases uJ hv with⟨j,u,rfl,rfl⟩|⟨y,u,rfl,rfl⟩
   ·rw[ar6]at h;exact wpAny_eqBool_int h
   ·rw[ar5]at h;exact SeqAt.EqAt.int_str i t y u _ _ _ _ h
  ·rcases uJ hv with⟨j,u,rfl,rfl⟩|⟨y,u,rfl,rfl⟩
   ·rw[ar4]at h;exact SeqAt.EqAt.str_int x t j u _ _ _ _ h
   ·rw[ar3]at h;exact wpAny_eqBool_str h
 «strs»:=λk x t v h=>by
  rcases uJ h with⟨i,u,rfl,e⟩|⟨y,u,rfl,e⟩
  ·exact nomatch e
  ·injection e with q _;subst q;cases v <;> rfl
theorem aqU(prog:bf)(w:bo)(i:av)(t:Tok):(kI prog w).is (.inl i) (.int i t)=ax:=ar8 i t
theorem aqT(prog:bf)(w:bo)(x:a5)(t:Tok):(kI prog w).is (.inr x) (.str x t)=ax:=ar7 x t
inductive V where
 |dE|bl (b:bh)|int (i:av)|str (x:a5)|OT (b:bq UInt8)|AY (b:UInt64)|ref (a:au)|ty (n:cy)
 deriving DecidableEq
def RelV:V->ao->Prop
 |.dE,u=>u=Value.none
 |.bl b,u=>u=Value.bool b
 |.int i,u=>∃t,u=Value.int i t
 |.str x,u=>∃t,u=Value.str x t
 |.OT b,u=>∃t,u=Value.bytes b t
 |.AY b,u=>∃t,u=Value.float b t
 |.ref a,u=>u=Value.ref a
 |.ty n,u=>u=Value.type n
abbrev Vals:aj V->aj ao->Prop:=Paired RelV
theorem Vals.length{xs:aj V}{us:aj ao}(r:Vals xs us):xs.length=us.length:=Paired.length r
theorem Vals.get:∀{xs:aj V} {us:aj ao} {i:ay} {x:V},Vals xs us->xs[i]?=ai x->∃u,us[i]?=ai u/\RelV x u
 |_,_,_,_,.nil,e=>by simp at e
 |_,_,0,_,.cons r _,e=>by simp at e;subst e;exact⟨_,rfl,r⟩
 |_,_,i+1,x,.cons _ t,e=>by
  obtain⟨u,h1,h2⟩:=Vals.get (i:=i) (x:=x) t (by simpa using e);exact⟨u,by simpa using h1,h2⟩
theorem Vals.set{x:V}{u:ao}(r:RelV x u):∀{xs:aj V} {us:aj ao} (i:ay),Vals xs us->Vals (xs.set i x) (us.set i u)
 |_,_,_,.nil => .nil
 |_,_,0,.cons _ t => .cons r t
 |_,_,i+1,.cons q t => .cons q (Vals.set r i t)
theorem Vals.append:∀{xs ys:aj V} {us ws:aj ao},Vals xs us->Vals ys ws->Vals (xs++ys) (us++ws)
 |_,_,_,_,.nil,s=>s
 |_,_,_,_,.cons r t,s => .cons r (Vals.append t s)
theorem Vals.take:∀{xs:aj V} {us:aj ao} (n:ay),Vals xs us->Vals (xs.take n) (us.take n)
 |_,_,0,_ => .nil
 |_,_,_+1,.nil => .nil
 |_,_,n+1,.cons r t => .cons r (Vals.take n t)
theorem Vals.drop:∀{xs:aj V} {us:aj ao} (n:ay),Vals xs us->Vals (xs.drop n) (us.drop n)
 |_,_,0,r=>r
 |_,_,_+1,.nil => .nil
 |_,_,n+1,.cons _ t=>Vals.drop n t
def nJ:ar V->ar ao->Prop
 |some v,ai u=>RelV v u
 |none,ak=>True
 |_,_=>cb
def KV{κ:Type}:aj (κ×V)->aj (κ×ao)->Prop:=Paired λ(p:κ×V) (q:κ×ao)=>p.1=q.1/\RelV p.2 q.2
noncomputable def kV:Key->V
 |.inl i => .int i
 |.inr x => .str x
inductive HO where
 |lst (xs:aj V)
 |tup (xs:aj V)
 |dK (kvs:aj (Key×V))|dT (kvs:aj (aj Key×V))
 |set (S:av->bh) (n:ay)
 |ins (C dx:au) (fs:aj (a5×V))
 |own (x:au)
 |xd (fs:aj (a5×V))
 |met (f x:au)
 |Ee (lo hi:av)
 |fO (o:cq) (u:HO)
 |jP (ps:bq ao)
 |ext (φ:bx->Prop)
abbrev Hp:=au->ar HO
noncomputable def upd(H:Hp)(a:au)(o:HO):Hp:=λb=>if b=a then ai o else H b
theorem eX{H:Hp}{a:au}{o:HO}:upd H a o a=ai o:=by unfold upd;rw[a8 rfl]
theorem cD{H:Hp}{a b:au}{o:HO}(h:b≠a):upd H a o b=H b:=by unfold upd;rw[bb h]
theorem MF{H:Hp}{a b:au}{o u:HO}(h:H a=ai o)(h':H b=ai u)(d:o≠u):a≠b:=by
 intro e;subst e;rw[h]at h';exact d (kK h')
theorem jD{H:Hp}{a b:au}{o:HO}(h:H a=ai o)(h':H b=ak):a≠b:=by
 intro e;subst e;rw[h]at h';cases h'
section
variable(P:bf)(w:bo)
def jA(H:Hp)(h:bx)(a:au):HO->Prop
 | .lst xs=>xs.length<=az/\∃(j:aj ao) (n:ay),Vals xs j/\h.get? a=ai {cls:=.type "list",data:=.seq j.toArray n}
 |.tup xs=>xs.length<=az/\∃j:aj ao,Vals xs j/\IsTup h a j.toArray
 |.dK kvs=>kvs.length<=az/\(a==da)=aq/\∃vs,KV kvs vs/\h.DictOf (kI P w) a vs
 |.dT kvs=>kvs.length<=az/\(a==da)=aq/\∃xs:aj (aj Key×au×ao),
   Paired (λ(p:aj Key×V) (q:aj Key×au×ao)=>p.1=q.1/\H q.2.1=ai (.tup (p.1.map kV))/\RelV p.2 q.2.2) kvs xs /\
   ∃o es ep,h.get? a=ai o/\o.ExactDict/\o.data=.dict es ep/\es.toList=xs.map (entryOfKey (tupleKind (kI P w)))/\(xs.map (·.1)).Nodup
 |.set S n=>h.SetOf (cu P w) a S n
 |.ins C dx fs=>H dx=ai (.own a)/\fs.length<=1000/\dx≠a/\h.get? a=ai (instObj C dx) /\
   ∃mA,h.Ns1 dx mA/\(∀f,nJ (fs.lookup f) (mA f))/\PySem.Within mA (fs.map (·.1))
 |.own _=>∃o,h.get? a=ai o
 |.xd fs=>∃mA,h.Ns1 a mA/\∀f,nJ (fs.lookup f) (mA f)
 | .Ee lo hi=>∃t u v,h.get? a=ai {cls:=.type "range",data:=.fields #[.int lo t,.int hi u,.int 1 v]}
 |.fO o u=>h.get? a=ai o/\jA H h a u
 |.jP ps=>h.get? a=ai {cls:=.none,data:=.fields ps}
 |.met f x=>h.get? a=ai (methodObj (.ref f) (.ref x))
 |.ext z=>z h/\(∃o,h.get? a=ai o)/\∀h1 h2:bx,z h1->(∀o,h1.get? a=ai o->h2.get? a=ai o)->z h2
def gL(H:Hp)(h:bx):Prop:=∀a o,H a=ai o->jA P w H h a o
end
section
variable{P:bf}{w:bo}{H H':Hp}{h h':bx}{a:au}{o:HO}
theorem jA.lt(x:jA P w H h a o):a<h.objs.size:=by
 cases o with
 |lst xs=>obtain⟨_,_,_,_,e⟩:=x;exact eY e
 |tup xs=>obtain⟨_,_,_,p⟩:=x;exact p.lt
 |dK j=>obtain⟨_,_,_,_,o,_,_,e,_⟩:=x;exact eY e
 |dT j=>obtain⟨_,_,_,_,o,_,_,e,_⟩:=x;exact eY e
 |set S n=>obtain⟨o,_,_,_,e,_⟩:=x;exact eY e
 |ins C b fs=>obtain⟨_,_,_,e,_⟩:=x;exact eY e
 |own y=>obtain⟨_,e⟩:=x;exact eY e
 |xd fs=>obtain⟨_,⟨_,_,_,e,_⟩,_⟩:=x;exact eY e
 |Ee lo hi=>obtain⟨_,_,_,e⟩:=x;exact eY e
 |fO U u=>obtain⟨e,_⟩:=x;exact eY e
 |jP z=>exact eY (show h.get? a=ai _ from x)
 |met f y=>exact eY (show h.get? a=ai _ from x)
 |ext q=>obtain⟨_,⟨_,e⟩,_⟩:=x;exact eY e
theorem Paired.Fw{α β:Type}{F G:α->β->Prop}:∀{l₁:aj α} {l₂:aj β},Paired F l₁ l₂->(∀a b,F a b->G a b)->Paired G l₁ l₂
 |_,_,.nil,_ => .nil
 |_,_,.cons r t,f => .cons (f _ _ r) (Paired.Fw t f)
theorem jA.oF(x:jA P w H h a o)(k:∀b u,(b=a\/H b=ai (.own a))->h.get? b=ai u->h'.get? b=ai u)
  (D:∀b,H b=ai (.own a)->H' b=ai (.own a)) (B:∀b xs,H b=ai (.tup xs)->H' b=ai (.tup xs)):jA P w H' h' a o:=by
 induction o with
 |lst xs=>obtain⟨z,m,n,r,e⟩:=x;exact⟨z,m,n,r,k _ _ (.inl rfl) e⟩
 |tup xs=>obtain⟨z,m,r,j,e,c⟩:=x;exact⟨z,m,r,j,k _ _ (.inl rfl) e,c⟩
 |dK l=>obtain⟨z,y,A,r,j,es,U,e,c⟩:=x;exact⟨z,y,A,r,j,es,U,k _ _ (.inl rfl) e,c⟩
 |dT l =>
  obtain⟨z,y,xs,r,j,es,U,e,c⟩:=x;exact⟨z,y,xs,Paired.Fw r λp q z=>⟨z.1,B _ _ z.2.1,z.2.2⟩,j,es,U,k _ _ (.inl rfl) e,c⟩
 |set S n=>obtain⟨j,es,U,t,e,c⟩:=x;exact⟨j,es,U,t,k _ _ (.inl rfl) e,c⟩
 |ins C G fs =>
  obtain⟨d,z,ne,e,i,⟨g,es,U,E,c⟩,r⟩:=x;exact⟨D _ d,z,ne,k _ _ (.inl rfl) e,i,⟨g,es,U,k _ _ (.inr d) E,c⟩,r⟩
 |own y=>obtain⟨j,e⟩:=x;exact⟨j,k _ _ (.inl rfl) e⟩
 |xd fs=>obtain⟨i,⟨g,es,U,e,c⟩,r⟩:=x;exact⟨i,⟨g,es,U,k _ _ (.inl rfl) e,c⟩,r⟩
 |Ee lo hi=>obtain⟨t,u,v,e⟩:=x;exact⟨t,u,v,k _ _ (.inl rfl) e⟩
 |fO j u ih=>obtain⟨e,q⟩:=x;exact⟨k _ _ (.inl rfl) e,ih q⟩
 |jP s =>
  have e:h.get? a=ai {cls:=.none,data:=.fields s}:=x;show h'.get? a=ai {cls:=.none,data:=.fields s};exact k a _ (.inl rfl) e
 |met f y =>
  have e:h.get? a=ai (methodObj (.ref f) (.ref y)):=x;show h'.get? a=ai (methodObj (.ref f) (.ref y));exact k a _ (.inl rfl) e
 |ext F=>obtain⟨p,⟨o,e⟩,st⟩:=x;exact⟨st _ _ p λo q=>k _ _ (.inl rfl) q,⟨o,k _ _ (.inl rfl) e⟩,st⟩
theorem gL.lt(x:gL P w H h)(e:H a=ai o):a<h.objs.size:=(x a o e).lt
theorem gL.fresh(x:gL P w H h)(e:h.objs.size<=a):H a=ak:=by
 cases q:H a with
 |none=>rfl
 |some u=>exact bu (nA (x.lt q) e) (Nat.lt_irrefl _)
theorem gL.kept(x:gL P w H h)(k:∀b u,h.get? b=ai u->h'.get? b=ai u):gL P w H h':=λa o e =>
 (x a o e).oF (λb u _ q=>k b u q) (λ_ q=>q) λ_ _ q=>q
theorem gL.laid(x:gL P w H h)(k:∀b u,h.get? b=ai u->h'.get? b=ai u)(j:h.objs.size<=a)(new:jA P w (upd H a o) h' a o):gL P w (upd H a o) h':=λb u e=>by
 have hn:=x.fresh j
 by_cases hb:b=a
 ·subst hb;rw[eX]at e;cases e;exact new
 ·rw[cD hb]at e;exact(x b u e).oF (λc v _ q=>k c v q) (λc q=>by rw[cD (jD q hn)];exact q) λc xs q=>by rw[cD (jD q hn)];exact q
end
def Rd(H:Hp)(a:au)(u:HO):Prop:=H a=ai u\/∃o,H a=ai (.fO o u)
theorem Rd.ok{P:bf}{w:bo}{H:Hp}{h:bx}{a:au}{u:HO}(r:Rd H a u)(x:gL P w H h):jA P w H h a u:=by
 rcases r with r|⟨o,r⟩
 ·exact x a u r
 ·obtain⟨_,q⟩:=x a _ r;exact q
def PZ:ar HO->Prop
 |some (.lst _)=>True
 |some (.dK _)=>True
 |some (.dT _)=>True
 |some (.set _ _)=>True
 |some (.ins _ _ _)=>True
 |some (.ext _)=>True
 |_=>cb
section
variable{P:bf}{w:bo}{H:Hp}{h h':bx}{x e:au}{o':HO}
theorem gL.write(ok:gL P w H h)(j:PZ (H x))(he:e=x\/H e=ai (.own x))(k:∀b u,b≠e->h.get? b=ai u->h'.get? b=ai u)(i:∃u,h'.get? e=ai u)
  (new:jA P w (upd H x o') h' x o'):gL P w (upd H x o') h':=λb u q=>by
 have g:∀c y,H c=ai (.own y)->c≠x:=λc y r z=>by subst z;rw[r]at j;exact j
 have d:∀c xs,H c=ai (.tup xs)->c≠x:=λc xs r z=>by subst z;rw[r]at j;exact j
 by_cases hb:b=x
 ·subst hb;rw[eX]at q;cases q;exact new
 ·rw[cD hb]at q
  by_cases a:b=e
  ·have f:H b=ai (.own x):=by
    rcases he with z|z
    ·exact bu (a.trans z) hb
    ·rw[a];exact z
   rw[q]at f;cases f;obtain⟨v,hv⟩:=i;exact⟨v,by rw[a];exact hv⟩
  ·refine(ok b u q).oF (λc v U r=>k c v ?_ r) (λc r=>by rw[cD (g c b r)];exact r) λc xs r=>by rw[cD (d c xs r)];exact r
   rcases U with rfl|U
   ·exact a
   ·rintro rfl
    rcases he with z|z
    ·exact g c b U z
    ·rw[U]at z;cases z;exact hb rfl
end
structure Un(fs ex:aj au)(H H':Hp)(h h':bx):Prop where
 keep:∀b o,h.get? b=ai o->H b=ak->b∉fs->b∉ex->h'.get? b=ai o
 slot:∀b o,h.get? b=ai o->H b=ak->b∈fs->b∉ex->∃sl,h'.get? b=ai {o with slots:=sl}
 free:∀b o,h.get? b=ai o->H b=ak->b∉ex->H' b=ak
 there:∀b o,h.get? b=ai o->b∉ex->∃o',h'.get? b=ai o'
 oB:∀b xs,H b=ai (.tup xs)->H' b=ai (.tup xs)
 mX:∀b o u,H b=ai (.fO o u)->H' b=ai (.fO o u)
 nQ:∀b ps,H b=ai (.jP ps)->∃more,H' b=ai (.jP (ps++more))
section
variable{fs iY ex ex':aj au}{H H1 H2:Hp}{h h1 h2 h':bx}{a x e:au}{o:HO}
theorem Un.any(u:Un fs ex H H1 h h1){b:au}{j:cq}(q:h.get? b=ai j)(n:H b=ak)(z:b∉ex):∃sl,h1.get? b=ai {j with slots:=sl}:=by
 by_cases hb:b∈fs
 ·exact u.slot b j q n hb z
 ·exact⟨j.slots,u.keep b j q n hb z⟩
theorem Un.trans(a:Un fs ex H H1 h h1)(b:Un fs ex H1 H2 h1 h2):Un fs ex H H2 h h2 where
 keep:=λc j q n d z=>b.keep c j (a.keep c j q n d z) (a.free c j q n z) d z
 slot:=λc j q n d z=>by
  obtain⟨sl,U⟩:=a.slot c j q n d z;obtain⟨l,f⟩:=b.slot c _ U (a.free c j q n z) d z;exact⟨l,f⟩
 free:=λc j q n z=>by
  obtain⟨e,U⟩:=a.there c j q z;exact b.free c e U (a.free c j q n z) z
 there:=λc j q z=>by
  obtain⟨e,U⟩:=a.there c j q z;exact b.there c e U z
 oB:=λc xs q=>b.oB c xs (a.oB c xs q)
 mX:=λc j xs q=>b.mX c j xs (a.mX c j xs q)
 nQ:=λc g q=>by
  obtain⟨k,U⟩:=a.nQ c g q;obtain⟨i,f⟩:=b.nQ c _ U;exact⟨k++i,by rw[f,Array.append_assoc]⟩
theorem Un.kept(k:∀b u,h.get? b=ai u->h'.get? b=ai u):Un fs ex H H h h' :=
 ⟨λb j q _ _ _=>k b j q,λb j q _ _ _=>⟨j.slots,k b j q⟩,λ_ _ _ n _=>n,λb j q _=>⟨j,k b j q⟩,λ_ _ q=>q,λ_ _ _ q=>q,λ_ z q=>⟨#[],by rw[q];simp⟩⟩
theorem Un.refl:Un fs ex H H h h:=Un.kept λ_ _ q=>q
theorem Un.laid(k:∀b u,h.get? b=ai u->h'.get? b=ai u)(j:h.objs.size<=a)(hn:H a=ak):Un fs ex H (upd H a o) h h' where
 keep:=λb u q _ _ _=>k b u q
 slot:=λb u q _ _ _=>⟨u.slots,k b u q⟩
 free:=λb u q n _=>by rw[cD (iB (nA (eY q) j))];exact n
 there:=λb u q _=>⟨u,k b u q⟩
 oB:=λb xs q=>by rw[cD (jD q hn)];exact q
 mX:=λb u xs q=>by rw[cD (jD q hn)];exact q
 nQ:=λb z q=>⟨#[],by rw[cD (jD q hn),q];simp⟩
theorem Un.write(j:PZ (H x))(he:e=x\/H e=ai (.own x))(k:∀b u,b≠e->h.get? b=ai u->h'.get? b=ai u)(c:∃u,h'.get? e=ai u):Un fs ex H (upd H x o) h h':=by
 have U:∀b,H b=ak->b≠x:=λb n z=>by subst z;rw[n]at j;exact j
 have hb:∀b,H b=ak->b≠e:=λb n z=>by
  subst z
  rcases he with r|r
  ·exact U b n r
  ·rw[n]at r;cases r
 have hm:∀b u,H b=ai u->¬PZ (ai u)->b≠x:=λb u q nm z=>by subst z;rw[q]at j;exact nm j
 refine⟨λb u q n _ _=>k b u (hb b n) q,λb u q n _ _=>⟨u.slots,k b u (hb b n) q⟩,λb u q n _=>by rw[cD (U b n)];exact n,λb u q _=>?_,
  λb xs q=>by rw[cD (hm b _ q λz=>z)];exact q,λb u xs q=>by rw[cD (hm b _ q λz=>z)];exact q,λb d q=>⟨#[],by rw[cD (hm b _ q λz=>z),q];simp⟩⟩
 by_cases a:b=e
 ·subst a;exact c
 ·exact⟨u,k b u a q⟩
theorem Un.mono(u:Un fs ex H H1 h h1)(a:∀b∈fs,b∈iY)(U:∀b∈ex,b∈ex'):Un iY ex' H H1 h h1 :=
 ⟨λb j q n hb he=>u.keep b j q n (λz=>hb (a b z)) λz=>he (U b z),λ_ _ q n _ he=>u.any q n λz=>he (U _ z),λb j q n he=>u.free b j q n λz=>he (U b z),λb j q he=>u.there b j q λz=>he (U b z),u.oB,u.mX,u.nQ⟩
end
noncomputable def RV(h:bx)(H:Hp):aj au:=(List.range h.objs.size).filter λa=>(H a).isSome
def wI(h:bx)(H:Hp):bx:=PySem.W.hideAll h (RV h H)
theorem au5(h:bx)(H:Hp):(wI h H).objs.size=h.objs.size:=PySem.W.hideAll_size _ _
theorem au6{h:bx}{H:Hp}{b:au}{o:cq}(e:h.get? b=ai o)(n:H b=ak):(wI h H).get? b=ai o :=
 PySem.W.hideAll_get _ e λhm=>by
  have q:(H b).isSome=ax:=(Oo.mp hm).2;rw[n]at q;simp at q
theorem apC{h:bx}{H:Hp}{b:au}{o:cq}(e:(wI h H).get? b=ai o):h.get? b=ai o/\H b=ak:=by
 have j:h.get? b=ai o:=PySem.W.of_hideAll (RV h H) e;refine⟨j,?_⟩;cases q:H b with
 |none=>rfl
 |some x =>
  have hm:b∈RV h H:=Oo.mpr ⟨List.mem_range.mpr (eY j),by simp[q]⟩;have z:(wI h H).get? b=ak:=PySem.W.hideAll_none (RV h H) hm;rw[z]at e;cases e
structure Mod(K:bg)(mg:a5->ar ao)(base:bx):Prop where
 tG:K.In base
 glob:base.Ns bc mg
 blt:∃mb,base.Ns builtinsNs mb/\∀x:a5,x≠"__name__"->mb x=c2 x
 nolimit:base.NoLimit
structure Cx where
 prog:bf
 w:bo
 K:bg
 mg:a5->ar ao
 base:bx
 A:br
 N:aj a5
 s₀:aw
 H₀:Hp
 env:Env
 outer:aj Env
 stack:aj Env
 ex:aj au
 fn:a5->bh
 calm:bh
 pn:aj (au×cq)
 xe:ao->aw->Prop
noncomputable def jJ(l:aj Env):aj au:=l.filterMap (·.frame)
abbrev Cx.fs(X:Cx):aj au:=jJ X.outer
def PQ(sc:b9)(x:a5):Prop:=sc.names.lookup x=ai .local\/sc.names.lookup x=ai .cell\/sc.names.lookup x=ai .free
def Loc(sc:b9)(x:a5):Prop:=sc.names.lookup x=ai .local\/sc.names.lookup x=ai .cell
def Look(env:Env)(h:bx)(m:a5->ar ao)(x:a5)(u:ao):Prop :=
 (env.kindOf x=ai .local/\m x=ai u)\/((env.kindOf x=ai .cell\/env.kindOf x=ai .free)/\∃c,env.cells.lookup x=ai c/\h.IsCell c (ai u))
structure Cx.Ok(X:Cx):Prop where
 mod:Mod X.K X.mg X.base
 kind:X.env.scope.kind=.function
 glob:X.env.globals=bc
 blt:X.env.builtins=builtinsNs
 above:X.s₀.heap.objs.size<=X.env.locals
 inj:∀x y c,X.env.cells.lookup x=ai c->X.env.cells.lookup y=ai c->x=y
 has:∀x,(X.env.kindOf x=ai .cell\/X.env.kindOf x=ai .free)->∃c,X.env.cells.lookup x=ai c
 HX:∀x c,X.fn x=ax->X.env.cells.lookup x=ai c->X.s₀.heap.objs.size<=c
 hd:X.calm=ax->X.A.handled=ak
 frames:X.A.frames=ai X.stack
 uA:X.stack=X.outer\/(X.stack=X.env::X.outer/\X.env.frame=ai X.env.locals)
 HR:∀b∈X.ex,b≠X.env.locals/\∀x c,X.env.cells.lookup x=ai c->c≠b
 bs:∀b o,X.base.get? b=ai o->X.s₀.heap.get? b=ai o/\X.H₀ b=ak
 rD:X.base.objs.size<=X.s₀.heap.objs.size
 zX:∀b o,X.base.get? b=ai o->b∉X.ex
 DQ:∀b∈X.ex,b∉X.fs
 pN:X.s₀.heap.FunFrames X.base X.outer
 uT:∀b∈X.fs,X.H₀ b=ak
structure Inv(X:Cx)(aa:aj (au×cq))(J:aj (ar V))(H:Hp)(s:aw):Prop where
 ok:X.Ok
 os:s.os=X.s₀.os
 bare:AllBare s.gens
 base:Un X.fs X.ex X.H₀ H X.s₀.heap s.heap
 loc:∃m,s.heap.Ns X.env.locals m/\∀(i:ay) (x:a5) (v:V),X.N[i]?=ai x->J[i]?=ai (ai v)->PQ X.env.scope x->∃u,RelV v u/\Look X.env s.heap m x u
 cell:∀x c,X.env.cells.lookup x=ai c->∃v,s.heap.IsCell c v
 free:H X.env.locals=ak
 nV:∀x c,X.env.cells.lookup x=ai c->H c=ak
 pin:∀p∈X.pn++aa,s.heap.get? p.1=ai p.2/\H p.1=ak/\p.1≠X.env.locals/\p.1∉X.fs/\∀v,p.2.data≠.cell v
 aL:gL X.prog X.w H s.heap
 len:J.length=X.N.length
section
variable{X:Cx}{aa:aj (au×cq)}{J:aj (ar V)}{H H':Hp}{s:aw}{h':bx}
theorem Cx.Ok.ap5(ok:X.Ok){b:au}{o:cq}(e:X.base.get? b=ai o):b∉X.fs:=λhb=>by
 have:=(ok.pN.mem hb).1;rw[e]at this;cases this
theorem Inv.bs(I:Inv X aa J H s):∀b o,X.base.get? b=ai o->s.heap.get? b=ai o/\H b=ak:=λb o e =>
 ⟨I.base.keep b o (I.ok.bs b o e).1 (I.ok.bs b o e).2 (I.ok.ap5 e) (I.ok.zX b o e),I.base.free b o (I.ok.bs b o e).1 (I.ok.bs b o e).2 (I.ok.zX b o e)⟩
theorem Inv.bk(I:Inv X aa J H s):∀b o,X.base.get? b=ai o->s.heap.get? b=ai o:=λb o e=>(I.bs b o e).1
theorem Inv.mod(I:Inv X aa J H s):Mod X.K X.mg X.base:=I.ok.mod
theorem Inv.gG(I:Inv X aa J H s):X.K.In s.heap:=I.ok.mod.tG.keeps I.bk
theorem Inv.nolimit(I:Inv X aa J H s):s.heap.NoLimit:=I.ok.mod.nolimit.keeps I.bk
theorem Inv.fr(I:Inv X aa J H s):∃m,Fr X.base X.env.locals s.heap m :=
 let ⟨m,hn,_⟩:=I.loc
 ⟨m,hn,I.bk,oW I.ok.rD I.ok.above⟩
theorem Inv.lt(I:Inv X aa J H s):X.env.locals<s.heap.objs.size:=let ⟨_,hn,_⟩:=I.loc;hn.lt
theorem Inv.sz(I:Inv X aa J H s):X.s₀.heap.objs.size<=s.heap.objs.size:=oW I.ok.above (Oc I.lt)
theorem Inv.ap3(I:Inv X aa J H s){a:au}(h:s.heap.objs.size<=a):a∉X.fs:=λhb=>by
 obtain⟨_,o,j,_⟩:=I.ok.pN.mem hb;exact bu (nA (eY j) (oW I.sz h)) (Nat.lt_irrefl _)
theorem Inv.DV(I:Inv X aa J H s):∀x c,X.env.cells.lookup x=ai c->c≠X.env.locals:=λx c e z=>by
 obtain⟨v,o,j,hd⟩:=I.cell x c e;obtain⟨m,⟨a,es,b,q,U,_⟩,_⟩:=I.loc;rw[z,q]at j;cases j;rw[U]at hd;cases hd
theorem Inv.pN(I:Inv X aa J H s):s.heap.FunFrames X.base X.outer:=by
 have all:∀(l:aj Env),(∀b∈jJ l,b∈X.fs)->X.s₀.heap.FunFrames X.base l->s.heap.FunFrames X.base l:=by
  intro l
  induction l with
  |nil=>intro _ _;trivial
  |cons env r ih =>
   intro j hl;obtain⟨U,⟨L,o,hf,hn,q,hd⟩,hr⟩:=hl;have hL:L∈X.fs:=j L (by unfold jJ;rw[List.filterMap_cons,hf];exact List.mem_cons_self);obtain⟨sl,e⟩:=I.base.slot L o q (I.ok.uT L hL) hL λz=>I.ok.DQ L z hL;exact⟨U,⟨L,_,hf,hn,e,hd⟩,ih (λb hb=>j b (by unfold jJ;rw[List.filterMap_cons,hf];exact List.mem_cons_of_mem _ hb)) hr⟩
 exact all X.outer (λ_ hb=>hb) I.ok.pN
theorem Inv.stack(I:Inv X aa J H s):s.heap.FunFrames X.base X.stack:=by
 rcases I.ok.uA with e|⟨e,hf⟩
 ·rw[e];exact I.pN
 ·rw[e];obtain⟨m,hn,_⟩:=I.loc;refine .cons (by rw[I.ok.kind];decide) hf hn ?_ I.pN;exact Heap.get?_none_of_le (oW I.ok.rD I.ok.above)
theorem Inv.LJ(I:Inv X aa J H s):∀b∈jJ X.stack,b∈X.env.locals::X.fs:=λb hb=>by
 rcases I.ok.uA with e|⟨e,hf⟩
 ·rw[e]at hb;exact gJ _ hb
 ·rw[e]at hb;unfold jJ at hb;rw[Ot,hf]at hb;exact hb
theorem Inv.Bi(I:Inv X aa J H s):∀b∈jJ X.stack,H b=ak:=λb hb=>by
 rcases eK.mp (I.LJ b hb)with e|hb
 ·rw[e];exact I.free
 ·obtain⟨_,o,j,_⟩:=I.ok.pN.mem hb;exact I.base.free b o j (I.ok.uT b hb) λz=>I.ok.DQ b z hb
theorem Inv.step{g':bq GenState}{t':ay}{d':Drawn}{ch:aj au}(I:Inv X aa J H s)
  (f:∀b∈ch,(b∈X.ex\/X.s₀.heap.objs.size<=b)/\b≠X.env.locals/\(∀x c,X.env.cells.lookup x=ai c->c≠b)/\∀p∈X.pn++aa,p.1≠b)
  (keep:∀b o,b≠X.env.locals->b∉X.fs->b∉ch->s.heap.get? b=ai o->H b=ak->h'.get? b=ai o)
  (slot:∀b o,b≠X.env.locals->b∈X.fs->b∉ch->s.heap.get? b=ai o->H b=ak->∃sl,h'.get? b=ai {o with slots:=sl}) (free:∀b o,b∉ch->s.heap.get? b=ai o->H b=ak->H' b=ak)
  (there:∀b o,b∉ch->s.heap.get? b=ai o->∃o',h'.get? b=ai o')
  (oB:∀b xs,H b=ai (.tup xs)->H' b=ai (.tup xs)) (mX:∀b o u,H b=ai (.fO o u)->H' b=ai (.fO o u)) (nQ:∀b ps,H b=ai (.jP ps)->∃more,H' b=ai (.jP (ps++more)))
  (ns:∀m,s.heap.Ns X.env.locals m->h'.Ns X.env.locals m) (aL:gL X.prog X.w H' h') (F:AllBare g') :
  Inv X aa J H' {s with heap:=h',gens:=g',drawn:=d',toks:=t' }:=by
 have C:∀b o,X.s₀.heap.get? b=ai o->b≠X.env.locals:=λb o e=>iB (nA (eY e) I.ok.above);have t:∀b o,X.s₀.heap.get? b=ai o->b∉X.ex->b∉ch:=λb o e j hb=>by
  rcases(f b hb).1 with z|z
  ·exact j z
  ·exact bu (nA (eY e) z) (Nat.lt_irrefl _)
 have cellK:∀x c,X.env.cells.lookup x=ai c->∀v,s.heap.IsCell c v->h'.IsCell c v:=λx c e v ⟨o,a,hd⟩=>by
  have h:c∉ch:=λz=>(f c z).2.2.1 x c e rfl
  by_cases B:c∈X.fs
  ·obtain⟨sl,q⟩:=slot c o (I.DV x c e) B h a (I.nV x c e);exact⟨_,q,hd⟩
  ·exact⟨o,keep c o (I.DV x c e) B h a (I.nV x c e),hd⟩
 refine⟨I.ok,I.os,F,⟨λb o e n hb j=>?_,λb o e n hb j=>?_,λb o e n j=>?_,λb o e j=>?_,λb xs e=>oB b xs (I.base.oB b xs e),λb o xs e=>mX b o xs (I.base.mX b o xs e),λb ps e=>?_⟩,?_,λx c e=>?_,?_,λx c e=>?_,λp A=>?_,aL,I.len⟩
 ·exact keep b o (C b o e) hb (t b o e j) (I.base.keep b o e n hb j) (I.base.free b o e n j)
 ·obtain⟨sl,U⟩:=I.base.slot b o e n hb j;obtain⟨K,g⟩:=slot b _ (C b o e) hb (t b o e j) U (I.base.free b o e n j);exact⟨K,g⟩
 ·obtain⟨o',U⟩:=I.base.there b o e j;exact free b o' (t b o e j) U (I.base.free b o e n j)
 ·obtain⟨o',U⟩:=I.base.there b o e j;exact there b o' (t b o e j) U
 ·obtain⟨E,U⟩:=I.base.nQ b ps e;obtain⟨D,g⟩:=nQ b _ U;exact⟨E++D,by rw[g,Array.append_assoc]⟩
 ·obtain⟨m,hn,hl⟩:=I.loc;refine⟨m,ns m hn,λi x v U g G=>?_⟩;obtain⟨u,r,l⟩:=hl i x v U g G;refine⟨u,r,?_⟩
  rcases l with l|⟨k,c,e,z⟩
  ·exact .inl l
  ·exact .inr ⟨k,c,e,cellK x c e _ z⟩
 ·obtain⟨v,z⟩:=I.cell x c e;exact⟨v,cellK x c e v z⟩
 ·obtain⟨m,⟨o,_,_,a,_⟩,_⟩:=I.loc;exact free _ o (λz=>(f _ z).2.1 rfl) a I.free
 ·obtain⟨v,o,a,hd⟩:=I.cell x c e;exact free c o (λz=>(f c z).2.2.1 x c e rfl) a (I.nV x c e)
 ·obtain⟨e,n,ne,y,d⟩:=I.pin p A;have h:p.1∉ch:=λz=>(f p.1 z).2.2.2 p A rfl;exact⟨keep p.1 p.2 ne y h e n,free p.1 p.2 h e n,ne,y,d⟩
theorem Inv.un{t':ay}(I:Inv X aa J H s)(u:Un X.fs [] H H' s.heap h')(aL:gL X.prog X.w H' h'):Inv X aa J H' {s with heap:=h',toks:=t' }:=by
 obtain⟨m,⟨o,es,f,q,r⟩,_⟩:=id I.loc;obtain⟨sl,hL⟩:=u.any q I.free (by simp);exact I.step (g':=s.gens) (d':=s.drawn) (ch:=[]) (λ_ z=>nomatch z) (λb o _ hb _ e n=>u.keep b o e n hb (by simp)) (λb o _ hb _ e n=>u.slot b o e n hb (by simp)) (λb o _ e n=>u.free b o e n (by simp)) (λb o _ e=>u.there b o e (by simp)) u.oB u.mX u.nQ (λd hm=>by
  obtain⟨c,eT,a,j,U⟩:=hm;rw[q]at j;cases j;exact⟨_,eT,a,hL,U⟩) aL I.bare
theorem Inv.call{g':bq GenState}{t':ay}{d':Drawn}{ch:aj au}(I:Inv X aa J H s)(u:Un (jJ X.stack) ch H H' s.heap h')(aL:gL X.prog X.w H' h')(f:AllBare g')
  (q:∀b∈ch,(b∈X.ex\/X.s₀.heap.objs.size<=b)/\b≠X.env.locals/\(∀x c,X.env.cells.lookup x=ai c->c≠b)/\∀p∈X.pn++aa,p.1≠b) :
  Inv X aa J H' {s with heap:=h',gens:=g',drawn:=d',toks:=t' }:=by
 obtain⟨m,⟨o,es,k,a,r⟩,_⟩:=id I.loc;obtain⟨sl,hL⟩:=u.any a I.free λz=>(q _ z).2.1 rfl;exact I.step (ch:=ch) q (λb o hL hb j e n=>u.keep b o e n (λz=>(eK.mp (I.LJ b z)).elim hL hb) j) (λb o _ _ j e n=>u.any e n j) (λb o j e n=>u.free b o e n j) (λb o j e=>u.there b o e j) u.oB u.mX u.nQ (λi hm=>by
  obtain⟨h,eT,g,U,d⟩:=hm;rw[a]at U;cases U;exact⟨_,eT,g,hL,d⟩) aL f
theorem Inv.turned{t':ay}{it:au}(I:Inv X aa J H s)(k:∀b o,b≠it->s.heap.get? b=ai o->h'.get? b=ai o)(hn:H it=ak)(hL:it≠X.env.locals)
  (h1:it∈X.ex\/X.s₀.heap.objs.size<=it) (h2:∀x c,X.env.cells.lookup x=ai c->c≠it) (d:∀p∈X.pn++aa,p.1≠it):Inv X aa J H {s with heap:=h',toks:=t' }:=by
 have U:∀b u,H b=ai u->b≠it:=λb u e z=>by rw[z,hn]at e;cases e
 refine I.step (g':=s.gens) (d':=s.drawn) (ch:=[it]) (λb hb=>?_) (λb o _ _ j e _=>k b o (λz=>j (by simp[z])) e) (λb o _ _ j e _=>⟨o.slots,k b o (λz=>j (by simp[z])) e⟩) (λ_ _ _ _ n=>n)
  (λb o j e=>⟨o,k b o (λz=>j (by simp[z])) e⟩) (λ_ _ e=>e) (λ_ _ _ e=>e) (λb g e=>⟨#[],by rw[e];simp⟩) (λm hm=>?_) (λb u e=>?_) I.bare
 ·have e:b=it:=by simpa using hb
  subst e;exact⟨h1,hL,h2,d⟩
 ·obtain⟨o,es,f,a,r⟩:=hm;exact⟨o,es,f,k _ o (eM hL) a,r⟩
 ·refine(I.aL b u e).oF (λc v j q=>k c v ?_ q) (λ_ q=>q) λ_ _ q=>q
  rcases j with z|z
  ·rw[z];exact U b u e
  ·exact U c _ z
theorem Inv.tok(I:Inv X aa J H s)(t:ay):Inv X aa J H {s with toks:=t}:=I.un (h':=s.heap) (t':=t) Un.refl I.aL
theorem Inv.kept{t':ay}(I:Inv X aa J H s)(k:∀b u,s.heap.get? b=ai u->h'.get? b=ai u):Inv X aa J H {s with heap:=h',toks:=t' }:=I.un (Un.kept k) (I.aL.kept k)
theorem Inv.laid{a:au}{o:HO}{t':ay}(I:Inv X aa J H s)(k:∀b u,s.heap.get? b=ai u->h'.get? b=ai u)(j:s.heap.objs.size<=a)(new:jA X.prog X.w (upd H a o) h' a o) :
  Inv X aa J (upd H a o) {s with heap:=h',toks:=t' }:=I.un (Un.laid k j (I.aL.fresh j)) (I.aL.laid k j new)
theorem Inv.write{x e:au}{o:HO}{t':ay}(I:Inv X aa J H s)(j:PZ (H x))(he:e=x\/H e=ai (.own x))(k:∀b u,b≠e->s.heap.get? b=ai u->h'.get? b=ai u)(q:∃u,h'.get? e=ai u)
  (new:jA X.prog X.w (upd H x o) h' x o):Inv X aa J (upd H x o) {s with heap:=h',toks:=t' }:=I.un (Un.write j he k q) (I.aL.write j he k q new)
theorem Inv.Er{j:aj (au×cq)}(I:Inv X aa J H s)(h:∀p∈j,s.heap.get? p.1=ai p.2/\H p.1=ak/\p.1≠X.env.locals/\p.1∉X.fs/\∀v,p.2.data≠.cell v):Inv X j J H s :=
 ⟨I.ok,I.os,I.bare,I.base,I.loc,I.cell,I.free,I.nV,λp q=>(rH.mp q).elim (λz=>I.pin p (YI _ z)) (h p),I.aL,I.len⟩
theorem Wu{N:aj a5}(q:N.Nodup){i j:ay}{x:a5}(a:N[i]?=ai x)(b:N[j]?=ai x):i=j:=by
 obtain⟨h1,U⟩:=dN.mp a;obtain⟨h2,z⟩:=dN.mp b;exact(List.getElem_inj q).mp (U.trans z.symm)
theorem ah1{M:Model}{A:br}{E:ao->aw->Prop}{i:ay}{x:a5}{v:V}{u:ao}{Q:Unit->aw->Prop}(I:Inv X aa J H s)(hN:X.N.Nodup)(hi:X.N[i]?=ai x)(l:Loc X.env.scope x)(r:RelV v u)
  (h:∀s',Inv X aa (J.set i (ai v)) H s'->(∃a,Heap.SameBut a s.heap s'.heap/\(a=X.env.locals\/X.env.cells.lookup x=ai a))->Q () s') (hf:X.fn x=ax\/X.env.scope.names.lookup x=ai .local:=by first|exact .inl rfl|exact .inr rfl|assumption):wpAny M A (storeName X.env x u) Q E s:=by
 obtain⟨m,hn,hl⟩:=id I.loc;have avT:(X.env.scope.kind == .class||(X.env.scope.kind == .module&&X.env.locals != X.env.globals))=aq:=by rw[I.ok.kind];rfl
 have Zr:i<J.length:=by rw[I.len];exact(dN.mp hi).1
 have DV:=I.DV;have tracked:∀{a:au} {h':bx},(∃o,s.heap.get? a=ai o/\H a=ak)->Heap.SameBut a s.heap h'->gL X.prog X.w H h':=λ{a h'} ha U b ob e=>by
  obtain⟨_,_,HC⟩:=ha;refine(I.aL b ob e).oF (λc F g q=>(U.2 c ?_).trans q) (λ_ q=>q) λ_ _ q=>q;rintro rfl
  rcases g with rfl|g
  ·rw[HC]at e;cases e
  ·rw[HC]at g;cases g
 rcases l with B|B
 ·refine wpAny_storeName_local B hn (λh' W U=>?_) avT;obtain⟨oL,_,_,yH,_⟩:=id hn;refine h _ ⟨I.ok,I.os,I.bare,⟨λb o e n hb l=>?_,λb o e n hb l=>?_,I.base.free,λb o e l=>?_,I.base.oB,I.base.mX,I.base.nQ⟩,⟨_,W,λj y K f t e3=>?_⟩,λy c e=>?_,I.free,I.nV,λp T=>?_,tracked ⟨oL,yH,I.free⟩ U,by simpa using I.len⟩ ⟨_,U,.inl rfl⟩
  ·exact(U.2 b (iB (nA (eY e) I.ok.above))).trans (I.base.keep b o e n hb l)
  ·obtain⟨sl,f⟩:=I.base.slot b o e n hb l;exact⟨sl,(U.2 b (iB (nA (eY e) I.ok.above))).trans f⟩
  ·obtain⟨R,f⟩:=I.base.there b o e l;exact⟨R,(U.2 b (iB (nA (eY e) I.ok.above))).trans f⟩
  ·by_cases C:j=i
   ·subst C;rw[hi]at f;cases f;rw[gK Zr]at t;cases t;exact⟨u,r,.inl ⟨B,by simp⟩⟩
   ·rw[gS (eM C)]at t;obtain⟨L,P,q⟩:=hl j y K f t e3;refine⟨L,P,?_⟩
    rcases q with⟨k,e⟩|⟨k,c,e,z⟩
    ·refine .inl ⟨k,?_⟩;have:y≠x:=λe=>C (Wu hN f (e ▸ hi));simp[this,e]
    ·exact .inr ⟨k,c,e,z.sameBut U (DV y c e)⟩
  ·obtain⟨F,z⟩:=I.cell y c e;exact⟨F,z.sameBut U (DV y c e)⟩
  ·obtain⟨e,n,ne,S,d⟩:=I.pin p T;exact⟨(U.2 p.1 ne).trans e,n,ne,S,d⟩
 ·have HE:X.fn x=ax:=by
   rcases hf with z|z
   ·exact z
   ·rw[z]at B;cases B
  obtain⟨c,g⟩:=I.ok.has x (.inl B);obtain⟨F,z⟩:=I.cell x c g;refine wpAny_storeName_cell I.ok.kind B g z (λh' wK U=>?_);obtain⟨oc,NA,auD⟩:=id z;refine h {s with heap:=h' } ⟨I.ok,I.os,I.bare,⟨λb o e n hb l=>?_,λb o e n hb l=>?_,I.base.free,λb o e l=>?_,I.base.oB,I.base.mX,I.base.nQ⟩,⟨m,hn.sameBut U (eM (DV x c g)),λj y K f t e3=>?_⟩,λy G e=>?_,I.free,I.nV,λp T=>?_,tracked ⟨oc,NA,I.nV x c g⟩ U,by simpa using I.len⟩ ⟨c,U,.inr g⟩
  ·exact(U.2 b (iB (nA (eY e) (I.ok.HX x c HE g)))).trans (I.base.keep b o e n hb l)
  ·obtain⟨sl,f⟩:=I.base.slot b o e n hb l;exact⟨sl,(U.2 b (iB (nA (eY e) (I.ok.HX x c HE g)))).trans f⟩
  ·obtain⟨R,f⟩:=I.base.there b o e l;exact⟨R,(U.2 b (iB (nA (eY e) (I.ok.HX x c HE g)))).trans f⟩
  ·by_cases C:j=i
   ·subst C;rw[hi]at f;cases f;rw[gK Zr]at t;cases t;exact⟨u,r,.inr ⟨.inl B,c,g,wK⟩⟩
   ·rw[gS (eM C)]at t;obtain⟨L,P,q⟩:=hl j y K f t e3;refine⟨L,P,?_⟩
    rcases q with q|⟨k,G,e,z'⟩
    ·exact .inl q
    ·refine .inr ⟨k,G,e,z'.sameBut U ?_⟩;rintro rfl;exact C (Wu hN f (I.ok.inj _ _ _ e g ▸ hi))
  ·by_cases D:G=c
   ·subst D;exact⟨_,wK⟩
   ·obtain⟨w2,z2⟩:=I.cell y G e;exact⟨w2,z2.sameBut U D⟩
  ·obtain⟨e,n,ne,S,d⟩:=I.pin p T;refine⟨(U.2 p.1 ?_).trans e,n,ne,S,d⟩;intro q;rw[q,NA]at e;have q':oc=p.2:=kK e;exact d F (by rw[<-q'];exact auD)
theorem Tq{M:Model}{A:br}{E:ao->aw->Prop}{i:ay}{x:a5}{v:V}{u:ao}{Q:Unit->aw->Prop}(I:Inv X aa J H s)(z:X.N.Nodup)(hi:X.N[i]?=ai x)(j:Loc X.env.scope x)(r:RelV v u)
  (h:∀s',Inv X aa (J.set i (ai v)) H s'->Q () s') (q:X.fn x=ax\/X.env.scope.names.lookup x=ai .local:=by first|exact .inl rfl|exact .inr rfl|assumption):wpAny M A (storeName X.env x u) Q E s :=
 ah1 I z hi j r (λs' U _=>h s' U) q
theorem Inv.HW{s':aw}{ch:aj au}(I:Inv X aa J H s)(z:s'.os=s.os)(u:Un (jJ X.stack) ch H H' s.heap s'.heap)(aL:gL X.prog X.w H' s'.heap)(U:AllBare s'.gens)
  (j:∀b∈ch,(b∈X.ex\/X.s₀.heap.objs.size<=b)/\b≠X.env.locals/\(∀x c,X.env.cells.lookup x=ai c->c≠b)/\∀p∈X.pn++aa,p.1≠b):Inv X aa J H' s':=by
 obtain⟨h',g',d',t',q⟩:=s';have e:q=s.os:=z;subst e;exact I.call (g':=g') (t':=t') (d':=d') u aL U j
end
abbrev XK:=ao->ar au->Hp->Prop
abbrev St:=aj (ar V)
abbrev VK:=V->Hp->Prop
abbrev TE:=St->Hp->VK->Prop
abbrev TT:=St->Hp->(bh->Hp->Prop)->Prop
abbrev TA:=St->Hp->(aj V->Hp->Prop)->Prop
structure Ends where
 nx:St->Hp->Prop
 rt:VK
 bk:St->Hp->Prop:=λ_ _=>cb
 ct:St->Hp->Prop:=λ_ _=>cb
abbrev TS:=Ends->St->Hp->Prop
def EP(X:Cx)(aa:aj (au×cq))(J:St)(Q:VK)(u:ao)(s':aw):Prop:=∃v H',Inv X aa J H' s'/\RelV v u/\Q v H'
def TP(X:Cx)(aa:aj (au×cq))(J:St)(Q:bh->Hp->Prop)(b:bh)(s':aw):Prop:=∃H',Inv X aa J H' s'/\Q b H'
def AP(X:Cx)(aa:aj (au×cq))(J:St)(Q:aj V->Hp->Prop)(us:aj ao)(s':aw):Prop:=∃vs H',Inv X aa J H' s'/\Vals vs us/\Q vs H'
def SP(X:Cx)(aa:aj (au×cq))(D:Ends)(f:Flow)(s':aw):Prop :=
 match f with
 |.next=>∃j H',Inv X aa j H' s'/\D.nx j H'
 |.brk=>∃j H',Inv X aa j H' s'/\D.bk j H'
 |.cont=>∃j H',Inv X aa j H' s'/\D.ct j H'
 |.ret u=>∃v j H',Inv X aa j H' s'/\RelV v u/\D.rt v H'
def PE(X:Cx)(e:bp)(t:TE):Prop :=
 ∀(aa:aj (au×cq)) (s:aw) (J:St) (H:Hp) (Q:VK),Inv X aa J H s->t J H Q->wpAny (bj X.prog X.w) X.A (bz e X.env) (EP X aa J Q) X.xe s
def PT(X:Cx)(e:bp)(t:TT):Prop :=
 ∀(aa:aj (au×cq)) (s:aw) (J:St) (H:Hp) (Q:bh->Hp->Prop),Inv X aa J H s->t J H Q->wpAny (bj X.prog X.w) X.A (isTrue e X.env (bz e X.env)) (TP X aa J Q) X.xe s
def PW(X:Cx)(e:bp)(t:TT):Prop :=
 ∀(whole:Sem ao) (aa:aj (au×cq)) (s:aw) (J:St) (H:Hp) (Q:bh->Hp->Prop),Inv X aa J H s->t J H Q->wpAny (bj X.prog X.w) X.A (isTrue e X.env whole) (TP X aa J Q) X.xe s
theorem PW.pt{X:Cx}{e:bp}{t:TT}(h:PW X e t):PT X e t:=h _
def PA(X:Cx)(es:aj bp)(t:TA):Prop :=
 ∀(pos:cx) (aa:aj (au×cq)) (s:aw) (J:St) (H:Hp) (Q:aj V->Hp->Prop),Inv X aa J H s->t J H Q->wpAny (bj X.prog X.w) X.A (spliced (cg pos (ba es X.env))) (AP X aa J Q) X.xe s
def PS(X:Cx)(st:bt)(t:TS):Prop :=
 ∀(aa:aj (au×cq)) (s:aw) (J:St) (H:Hp) (D:Ends),Inv X aa J H s->t D J H->wpAny (bj X.prog X.w) X.A (exec st X.env) (SP X aa D) X.xe s
def sI(X:Cx)(st:aj bt)(t:TS):Prop :=
 ∀(aa:aj (au×cq)) (s:aw) (J:St) (H:Hp) (D:Ends),Inv X aa J H s->t D J H->wpAny (bj X.prog X.w) X.A (execs st X.env) (SP X aa D) X.xe s
theorem bT{α:Type}{t:Sem α}{Q j:α->aw->Prop}{M:Model}{A:br}{E:ao->aw->Prop}{s:aw}(h:wpAny M A t Q E s)(q:∀a s,Q a s->j a s):wpAny M A t j E s:=pV h q λ_ _ x=>x
section
variable{X:Cx}
def Av(i:ay):TE:=λJ H Q=>∃v,J[i]?=ai (ai v)/\Q v H
def tC(v:V):TE:=λ_ H Q=>Q v H
theorem Eu{i:ay}{x:a5}{pos:cx}(a:X.N[i]?=ai x)(hv:PQ X.env.scope x)(hd:(x==("__debug__" : a5))=aq:=by decide)(U:(x==("__classdict__" : a5))=aq:=by decide):PE X (.Name x pos) (Av i):=by
 intro aa s J H Q I h;obtain⟨v,e,h⟩:=h;obtain⟨m,hn,hl⟩:=I.loc;obtain⟨u,r,l⟩:=hl i x v a e hv;have fin:EP X aa J Q u s:=⟨v,H,I,r,h⟩
 rcases l with⟨j,hm⟩|⟨j,c,q,z⟩
 ·exact wpAny_Name (wpAny_loadName_local I.ok.kind j hn hm fin) hd
 ·rcases j with j|j
  ·exact wpAny_Name (wpAny_loadName_cell I.ok.kind j q z fin) hd
  ·exact wpAny_Name (wpAny_loadName_free I.ok.kind j q z fin U) hd
theorem anZ{i j pos}:PE X (.Constant (.int i) j pos) (tC (.int i)):=λ_ _ _ H _ I h=>wpAny_Constant_int ⟨.int i,H,I.tok _,⟨_,rfl⟩,h⟩
theorem aoD{b j pos}:PE X (.Constant (.bool b) j pos) (tC (.bl b)):=λ_ _ _ H _ I h=>Constant_bool ⟨.bl b,H,I,rfl,h⟩
def Gl(X:Cx)(x:a5):Prop:=X.env.kindOf x=ai .globalImplicit
theorem CU{E:ao->aw->Prop}{aa:aj (au×cq)}{s:aw}{J:St}{H:Hp}{x:a5}{u:ao}{pos:cx}{Q:ao->aw->Prop}(I:Inv X aa J H s)(j:Gl X x)(hm:X.mg x=ai u)(h:Q u s)
  (hd:(x==("__debug__" : a5))=aq:=by decide):wpAny (bj X.prog X.w) X.A (bz (.Name x pos) X.env) Q E s :=
 Calls.Name_function_global I.ok.kind j (Calls.loadGlobal_global (by rw[I.ok.glob];exact I.mod.glob.keeps I.bk) hm h) hd
theorem AE{E:ao->aw->Prop}{aa:aj (au×cq)}{s:aw}{J:St}{H:Hp}{x:a5}{u:ao}{pos:cx}{Q:ao->aw->Prop}(I:Inv X aa J H s)(j:Gl X x)(hm:X.mg x=ak)(hv:c2 x=ai u)(h:Q u s)
  (hn:x≠"__name__":=by decide) (hd:(x==("__debug__" : a5))=aq:=by decide):wpAny (bj X.prog X.w) X.A (bz (.Name x pos) X.env) Q E s:=by
 obtain⟨mb,h1,h2⟩:=I.mod.blt;exact Calls.Name_function_global I.ok.kind j (Calls.loadGlobal_builtin (by rw[I.ok.glob];exact I.mod.glob.keeps I.bk) hm (by rw[I.ok.blt];exact h1.keeps I.bk) ((h2 x hn).trans hv) h) hd
theorem Vw{x:a5}{v:V}{u:ao}{pos:cx}(j:Gl X x)(hm:X.mg x=ai u)(r:RelV v u)(hd:(x==("__debug__" : a5))=aq:=by decide):PE X (.Name x pos) (tC v) :=
 λ_ _ _ H _ I h=>CU I j hm ⟨v,H,I,r,h⟩ hd
theorem aoC{x:a5}{v:V}{u:ao}{pos:cx}(j:Gl X x)(hm:X.mg x=ak)(hv:c2 x=ai u)(r:RelV v u)(hn:x≠"__name__":=by decide)(hd:(x==("__debug__" : a5))=aq:=by decide):PE X (.Name x pos) (tC v) :=
 λ_ _ _ H _ I h=>AE I j hm hv ⟨v,H,I,r,h⟩ hn hd
variable{a b:bp}{ta tb:TE}{pos:cx}
def PC(X:Cx)(j:CmpOp)(a b:bp)(t:TE):Prop :=
 ∀(aa:aj (au×cq)) (s:aw) (J:St) (H:Hp) (Q:VK),Inv X aa J H s->t J H Q ->
  wpAny (bj X.prog X.w) X.A (bz a X.env) (λv s₁=>wpAny (bj X.prog X.w) X.A (bz b X.env) (λu s₂=>wpAny (bj X.prog X.w) X.A (bw j v u) (EP X aa J Q) X.xe s₂) X.xe s₁) X.xe s
def tB(t:TE):TT:=λJ H Q=>t J H λx H1=>∃c,x=.bl c/\Q c H1
theorem Vl{j:CmpOp}{t:TE}(h:PC X j a b t)(h1:cw j b=aq:=by first|exact e _ (by decide) (by decide)|rfl):PT X (.Compare a [j] [b] pos) (tB t):=by
 intro aa s J H Q I hw;refine wpAny_isTrue_Compare1 (bT (h aa s J H _ I hw) λv l h1=>bT h1 λu k h2=>bT h2 λc i ⟨x,g,f,z,U⟩=>?_) h1;obtain⟨d,rfl,q⟩:=U;cases z;exact zI ⟨g,f,q⟩
theorem amD{e:bp}{t:TE}(h:PE X e t)(he:∀whole,isTrue e X.env whole=(do let v<-whole;standAt e.pos;dh [v] (truthy v)):=by intro _;rfl):PT X e (tB t):=by
 intro aa s J H Q I hw;refine isTrue_plain (bT (h aa s J H _ I hw) λv b ⟨x,a,U,j,z⟩=>?_) (he _);obtain⟨d,rfl,q⟩:=z;cases j;exact zI ⟨a,U,q⟩
variable{tA SJ:TT}{ae:aj bp}
def ahZ(t u:TT):TT:=λJ H Q=>t J H λc H1=>if c=ax then u J H1 Q else Q aq H1
def tOr(t u:TT):TT:=λJ H Q=>t J H λc H1=>if c=ax then Q ax H1 else u J H1 Q
def ahK(t:TT):TT:=λJ H Q=>t J H λc H1=>Q (!c) H1
theorem pw_and1(ha:PT X a tA):PW X (.BoolOp .And [a] pos) tA:=by
 intro j aa s J H Q I h;refine isTrue_and (bT (ha aa s J H Q I h) λc q e=>?_);cases c with
 |true=>exact isTrue_and_nil e
 |false=>exact e
theorem pw_or1(ha:PT X a tA):PW X (.BoolOp .Or [a] pos) tA:=by
 intro j aa s J H Q I h;refine isTrue_or (bT (ha aa s J H Q I h) λc q e=>?_);cases c with
 |false=>exact isTrue_or_nil e
 |true=>exact e
theorem pw_and(ha:PT X a tA)(hb:PW X (.BoolOp .And (b::ae) pos) SJ):PW X (.BoolOp .And (a::b::ae) pos) (ahZ tA SJ):=by
 intro U aa s J H Q I h;refine isTrue_and (bT (ha aa s J H _ I h) λc d ⟨z,q,j⟩=>?_);cases c with
 |true=>exact hb U aa d J z Q q j
 |false=>exact⟨z,q,j⟩
theorem pw_or(ha:PT X a tA)(hb:PW X (.BoolOp .Or (b::ae) pos) SJ):PW X (.BoolOp .Or (a::b::ae) pos) (tOr tA SJ):=by
 intro U aa s J H Q I h;refine isTrue_or (bT (ha aa s J H _ I h) λc d ⟨z,q,j⟩=>?_);cases c with
 |true=>exact⟨z,q,j⟩
 |false=>exact hb U aa d J z Q q j
theorem amE(ha:PT X a tA):PT X (.UnaryOp .Not a pos) (ahK tA):=by
 intro aa s J H Q I h;exact isTrue_not (ha aa s J H (λc j=>Q (!c) j) I h)
def ahY(ta tb:TE):TE:=λJ H Q=>ta J H λx H1=>∃c,x=.bl c/\if c=ax then tb J H1 Q else Q (.bl aq) H1
def ahI(ta tb:TE):TE:=λJ H Q=>ta J H λx H1=>∃c,x=.bl c/\if c=ax then Q (.bl ax) H1 else tb J H1 Q
theorem anO{j}{t:TE}(h:PE X a t):PE X (.BoolOp j [a] pos) t:=λaa s J H Q I hw=>BoolOp_one (h aa s J H Q I hw)
theorem aoF(ha:PE X a ta)(hb:PE X (.BoolOp .And (b::ae) pos) tb):PE X (.BoolOp .And (a::b::ae) pos) (ahY ta tb):=by
 intro aa s J H Q I h;refine BoolOp_and (bT (ha aa s J H _ I h) λv U ⟨x,z,q,d,j⟩=>?_);obtain⟨c,rfl,j⟩:=j;cases d;refine zI ?_;cases c with
 |true=>exact hb aa U J z Q q j
 |false=>exact⟨.bl aq,z,q,rfl,j⟩
theorem anM(ha:PE X a ta)(hb:PE X (.BoolOp .Or (b::ae) pos) tb):PE X (.BoolOp .Or (a::b::ae) pos) (ahI ta tb):=by
 intro aa s J H Q I h;refine BoolOp_or (bT (ha aa s J H _ I h) λv U ⟨x,z,q,d,j⟩=>?_);obtain⟨c,rfl,j⟩:=j;cases d;refine zI ?_;cases c with
 |false=>exact hb aa U J z Q q j
 |true=>exact⟨.bl ax,z,q,rfl,j⟩
def tIf(t:TT)(ta tb:TE):TE:=λJ H Q=>t J H λc H1=>if c=ax then ta J H1 Q else tb J H1 Q
theorem an0{c:bp}(e:PT X c tA)(ha:PE X a ta)(hb:PE X b tb):PE X (.IfExp c a b pos) (tIf tA ta tb):=by
 intro aa s J H Q I h;refine wpAny_IfExp (bT (e aa s J H _ I h) λd j ⟨U,z,q⟩=>?_);cases d with
 |true=>exact ha aa j J U Q z q
 |false=>exact hb aa j J U Q z q
end
def fE(K:bg)(H:Hp)(a:au)(xs:aj V):Prop :=
 Rd H a (.lst xs) \/
  ∃(o:cq) (j:bq ao) (n:ay),K.lookup a=ai o/\o.cls=.type "list"/\o.dict=ak/\o.data=.seq j n/\j.size<=az/\Vals xs j.toList
def jK(K:bg)(H:Hp)(a:au)(xs:aj V):Prop :=
 Rd H a (.tup xs) \/
  ∃(o:cq) (j:bq ao) (n:ay),K.lookup a=ai o/\o.cls=.type "tuple"/\o.data=.seq j n/\j.size<=az/\Vals xs j.toList
noncomputable def aDY:ao->ar V
 |.none=>ai .dE
 |.bool b=>ai (.bl b)
 |.int i _=>ai (.int i)
 |.str x _=>ai (.str x)
 |.bytes b _=>ai (.OT b)
 |.float b _=>ai (.AY b)
 |.ref a=>ai (.ref a)
 |.type n=>ai (.ty n)
 |_=>ak
theorem RelV.abs{x:V}{u:ao}(r:RelV x u):aDY u=ai x:=by
 cases x with
 |dE=>cases r;rfl
 |bl _=>cases r;rfl
 |int _=>obtain⟨t,rfl⟩:=r;rfl
 |str _=>obtain⟨t,rfl⟩:=r;rfl
 |OT _=>obtain⟨t,rfl⟩:=r;rfl
 |AY _=>obtain⟨t,rfl⟩:=r;rfl
 |ref _=>cases r;rfl
 |ty _=>cases r;rfl
theorem RelV.inj{x y:V}{u:ao}(r:RelV x u)(q:RelV y u):x=y:=kK (r.abs.symm.trans q.abs)
theorem Vals.inj:∀{xs ys:aj V} {us:aj ao},Vals xs us->Vals ys us->xs=ys
 |_,_,_,.nil,.nil=>rfl
 |_,_,_,.cons r t,.cons q j=>by rw[r.inj q,Vals.inj t j]
section
variable{X:Cx}{aa:aj (au×cq)}{J:St}{H:Hp}{s:aw}{a:au}{xs ys:aj V}
theorem fE.of{K:bg}(h:H a=ai (.lst xs)):fE K H a xs:=.inl (.inl h)
theorem jK.of{K:bg}(h:H a=ai (.tup xs)):jK K H a xs:=.inl (.inl h)
theorem Inv.list(I:Inv X aa J H s)(h:fE X.K H a xs):∃j:aj ao,Vals xs j/\PlainL s.heap a j.toArray/\xs.length<=az:=by
 rcases h with h|⟨o,j,n,U,b,hd,q,c,r⟩
 ·obtain⟨z,j,n,r,e⟩:=h.ok I.aL;exact⟨j,r,⟨_,n,e,rfl,rfl,rfl⟩,z⟩
 ·refine⟨j.toList,r,⟨o,n,I.gG a o U,b,hd,by simpa using q⟩,?_⟩;have e:=r.length;simp only[tT]at e;omega
theorem Inv.tuple(I:Inv X aa J H s)(h:jK X.K H a xs):∃j:aj ao,Vals xs j/\IsTup s.heap a j.toArray/\xs.length<=az:=by
 rcases h with h|⟨o,j,n,U,b,q,c,r⟩
 ·obtain⟨z,j,r,p⟩:=h.ok I.aL;exact⟨j,r,p,z⟩
 ·refine⟨j.toList,r,⟨o,I.gG a o U,b,n,by simpa using q⟩,?_⟩;have e:=r.length;simp only[tT]at e;omega
theorem Inv.Gf(I:Inv X aa J H s)(h:fE X.K H a xs)(h':fE X.K H a ys):xs=ys:=by
 obtain⟨b,r,⟨o,n,e,_,_,d⟩,_⟩:=I.list h;obtain⟨j,z,⟨c,f,q,_,_,d'⟩,_⟩:=I.list h';rw[e]at q;cases q;rw[d]at d';injection d' with U _;have:b=j:=by simpa using c7 Array.toList U
 subst this;exact r.inj z
theorem Inv.agQ(I:Inv X aa J H s)(h:jK X.K H a xs)(h':jK X.K H a ys):xs=ys:=by
 obtain⟨b,r,⟨o,e,_,n,d⟩,_⟩:=I.tuple h;obtain⟨j,z,⟨c,q,_,f,d'⟩,_⟩:=I.tuple h';rw[e]at q;cases q;rw[d]at d';injection d' with U _;have:b=j:=by simpa using c7 Array.toList U
 subst this;exact r.inj z
end
noncomputable abbrev Cx.tW(X:Cx)(E:ao->aw->Prop):Cx:={X with xe:=E}
theorem Cx.Ok.tW{X:Cx}(ok:X.Ok)(E:ao->aw->Prop):(X.tW E).Ok :=
 ⟨ok.mod,ok.kind,ok.glob,ok.blt,ok.above,ok.inj,ok.has,ok.HX,ok.hd,ok.frames,ok.uA,ok.HR,ok.bs,ok.rD,ok.zX,ok.DQ,ok.pN,ok.uT⟩
theorem Cx.Ok.xP{X:Cx}{E:ao->aw->Prop}(ok:(X.tW E).Ok):X.Ok :=
 ⟨ok.mod,ok.kind,ok.glob,ok.blt,ok.above,ok.inj,ok.has,ok.HX,ok.hd,ok.frames,ok.uA,ok.HR,ok.bs,ok.rD,ok.zX,ok.DQ,ok.pN,ok.uT⟩
section
variable{X:Cx}{aa:aj (au×cq)}{J:St}{H:Hp}{s:aw}{E:ao->aw->Prop}
theorem Inv.tW(I:Inv X aa J H s)(E:ao->aw->Prop):Inv (X.tW E) aa J H s:=⟨I.ok.tW E,I.os,I.bare,I.base,I.loc,I.cell,I.free,I.nV,I.pin,I.aL,I.len⟩
theorem Inv.xP(I:Inv (X.tW E) aa J H s):Inv X aa J H s:=⟨I.ok.xP,I.os,I.bare,I.base,I.loc,I.cell,I.free,I.nV,I.pin,I.aL,I.len⟩
theorem SP.xP{D:Ends}{f:Flow}{s':aw}(h:SP (X.tW E) aa D f s'):SP X aa D f s':=by
 cases f with
 |next=>obtain⟨j,z,I,q⟩:=h;exact⟨j,z,I.xP,q⟩
 |brk=>obtain⟨j,z,I,q⟩:=h;exact⟨j,z,I.xP,q⟩
 |cont=>obtain⟨j,z,I,q⟩:=h;exact⟨j,z,I.xP,q⟩
 |ret u=>obtain⟨v,j,z,I,r,q⟩:=h;exact⟨v,j,z,I.xP,r,q⟩
end
section
variable{X:Cx}{st:bt}{ae:aj bt}{t u:TS}{e:bp}{te:TE}{pos:cx}
def ahM:TS:=λD J H=>D.nx J H
def Tb(t u:TS):TS:=λD J H=>t {D with nx:=u D} J H
theorem amI:sI X [] ahM:=λ_ _ J H _ I h=>ZO ⟨J,H,I,h⟩
theorem amJ(h1:PS X st t)(h2:sI X ae u):sI X (st::ae) (Tb t u):=by
 intro aa s J H D I h;refine wpAny_execs_cons (bT (h1 aa s J H {D with nx:=u D} I h) λf z q=>?_);cases f with
 |next =>
  obtain⟨j,a,U,q⟩:=q;exact h2 aa z j a D U q
 |ret v=>exact q
 |brk=>exact q
 |cont=>exact q
theorem amH(h1:PS X st t):sI X [st] t:=by
 intro aa s J H D I h;refine wpAny_execs_cons (bT (h1 aa s J H D I h) λf j q=>?_);cases f with
 |next=>exact ZO q
 |ret v=>exact q
 |brk=>exact q
 |cont=>exact q
theorem Inv.quiet{aa:aj (au×cq)}{J:St}{H:Hp}{s:aw}(I:Inv X aa J H s):interactive X.env=aq:=by simp[interactive,I.ok.kind]
def ahS(te:TE):TS:=λD J H=>te J H λ_ H1=>D.nx J H1
theorem amS(he:PE X e te)(q:df e ak pos.line X.env=pure aq:=by rfl):PS X (.Expr e pos) (ahS te):=by
 intro aa s J H D I h;exact wpAny_Expr_any (bT (he aa s J H _ I h) λv a ⟨x,U,z,b,j⟩=>⟨J,U,z,j⟩) I.quiet q
def ahG(te:TE):TS:=λD J H=>te J H D.rt
theorem amN(he:PE X e te):PS X (.Return (ai e) pos) (ahG te):=by
 intro aa s J H D I h;exact wpAny_Return_some (bT (he aa s J H _ I h) λv a ⟨x,U,z,j,q⟩=>⟨x,J,U,z,j,q⟩)
def ahQ(c:TT)(t u:TS):TS:=λD J H=>c J H λb H1=>if b=ax then t D J H1 else u D J H1
theorem amP{c:bp}{a b:aj bt}{tc:TT}(e:PT X c tc)(ha:sI X a t)(hb:sI X b u):PS X (.If c a b pos) (ahQ tc t u):=by
 intro aa s J H D I h;refine wpAny_If (bT (e aa s J H _ I h) λd j ⟨U,z,q⟩=>?_);cases d with
 |true=>exact ha aa j J U D z q
 |false=>exact hb aa j J U D z q
def ahN:TS:=λ_ _ _=>cb
theorem amO:PS X st ahN:=λ_ _ _ _ _ _ h=>h.elim
end
abbrev TG:=V->St->Hp->(St->Hp->Prop)->Prop
abbrev wV:=aj V->St->Hp->(St->Hp->Prop)->Prop
def PG(X:Cx)(target:bp)(t:TG):Prop :=
 ∀(aa:aj (au×cq)) (s:aw) (J:St) (H:Hp) (v:V) (u:ao) (Q:St->Hp->Prop),Inv X aa J H s->RelV v u->t v J H Q ->
  wpAny (bj X.prog X.w) X.A (assign target X.env u) (λ_ s'=>∃j H',Inv X aa j H' s'/\Q j H') X.xe s
def IM(X:Cx)(q:aj bp)(t:wV):Prop :=
 ∀(aa:aj (au×cq)) (s:aw) (J:St) (H:Hp) (vs:aj V) (us:aj ao) (Q:St->Hp->Prop),Inv X aa J H s->Vals vs us->t vs J H Q ->
  wpAny (bj X.prog X.w) X.A (assignInOrder ((cj q X.env).map (·.2)) us) (λ_ s'=>∃j H',Inv X aa j H' s'/\Q j H') X.xe s
abbrev Nt:=V->V->V->Hp->(Hp->Prop)->Prop
def ad2(X:Cx)(t:Nt):Prop :=
 ∀(aa:aj (au×cq)) (s:aw) (J:St) (H:Hp) (o i v:V) (j q u:ao) (Q:Hp->Prop),Inv X aa J H s->RelV o j->RelV i q->RelV v u->t o i v H Q ->
  wpAny (bj X.prog X.w) X.A (setItem j q u) (λ_ s'=>∃H',Inv X aa J H' s'/\Q H') X.xe s
section
variable{X:Cx}{pos:cx}
def Jg(i:ay):TG:=λv J H Q=>Q (J.set i (ai v)) H
theorem Vv{i:ay}{x:a5}(z:X.N.Nodup)(hi:X.N[i]?=ai x)(j:Loc X.env.scope x)(q:X.fn x=ax\/X.env.scope.names.lookup x=ai .local:=by first|exact .inl rfl|exact .inr rfl|assumption):PG X (.Name x pos) (Jg i):=by
 intro aa s J H v u Q I r h;exact wpAny_assign_Name (Tq I z hi j r (λs' U=>⟨_,H,U,h⟩) q)
def ax7:wV:=λvs J H Q=>vs=[]/\Q J H
def ayE(t:TG)(u:wV):wV:=λvs J H Q=>∃v r,vs=v::r/\t v J H λj H'=>u r j H' Q
theorem anE:IM X [] ax7:=by
 intro aa s J H j q Q I r h;obtain⟨e,h⟩:=h;subst e;cases r;exact assignInOrder_nil ⟨J,H,I,h⟩
theorem anF{e:bp}{es:aj bp}{t:TG}{u:wV}(h1:PG X e t)(h2:IM X es u)
  (a:(cj (e::es) X.env).map (·.2)=assign e X.env::(cj es X.env).map (·.2):=by rfl):IM X (e::es) (ayE t u):=by
 intro aa s J H f i Q I r h;obtain⟨v,g,b,h⟩:=h;subst b;cases r with
 |cons r z =>
  rw[a];refine assignInOrder_cons (bT (h1 aa s J H _ _ _ I r h) λ_ q ⟨j,d,c,U⟩=>?_);exact h2 aa q j d _ _ Q c z U
def ax5(K:bg)(n:ay)(t:wV):TG:=λv J H Q=>∃a xs,v=.ref a/\jK K H a xs/\xs.length=n/\t xs J H Q
theorem anG{es:aj bp}{k:ay}{t:wV}{n:ay}(f:X.calm=ax)(h:IM X es t)
  (hn:(cj es X.env).length=n:=by rfl) (z:(cj es X.env).findIdx? (·.1)=ak:=by rfl):PG X (.Tuple es k pos) (ax5 X.K n t):=by
 intro aa s J H v u Q I r hw;obtain⟨a,q,g,d,hl,hw⟩:=hw;subst g;cases r;obtain⟨m,j,c,l⟩:=I.tuple d;refine assign_Tuple_tuple (I.ok.hd f) c (by simp[hn,<-hl,j.length]) z λh' U=>?_;have i:Inv X aa J H {s with heap:=h' }:=I.kept (t':=s.toks) λb o e=>U b o (iB (eY e)) e;exact h aa _ J H q _ Q i (by simpa using j) hw
noncomputable def lJ(to j:TE)(t:Nt):TG:=λv J H Q=>to J H λo H1=>j J H1 λi H2=>t o i v H2 λq=>Q J q
theorem anH{o i:bp}{to z:TE}{t:Nt}(k:PE X o to)(hi:PE X i z)(g:ad2 X t)
  (ha:∀v,assign (.Subscript o i pos) X.env v=(do
   let j<-dh [v] (bz o X.env)
   let q<-dh [v,j] (bz i X.env)
   standAt pos
   dh [v,j,q] (setItem j q v)
   release [v,j,q] []):=by intro _;rfl):PG X (.Subscript o i pos) (lJ to z t):=by
 intro aa s J H v u Q I r h;rw[ha];refine aM (vK (bT (k aa s J H _ I h) λj a ⟨x,A,n,c,f⟩=>?_));refine aM (vK (bT (hi aa a J A _ n f) λq U ⟨y,w,m,b,e⟩=>?_));refine aM (wpAny_standAt (aM (vK (bT (g aa U J w x y v j q u _ m c b r e) λ_ B ⟨p,l,d⟩=>?_))));exact wpAny_release ⟨J,p,l,d⟩
def SK(te:TE)(g:TG):TS:=λD J H=>te J H λx H1=>g x J H1 D.nx
theorem amU{tg e:bp}{te:TE}{g:TG}(he:PE X e te)(b:PG X tg g)(a:swapsWithSole [tg] e pos.line X.env=pure aq:=by rfl)(hw:swappedStores [tg] e X.env=pure ak:=by rfl)
  (h1:(cj [tg] X.env).map (·.2)=[assign tg X.env]:=by rfl):PS X (.Assign [tg] e pos) (SK te g):=by
 intro aa s J H D I h;refine wpAny_Assign_stores (bT (he aa s J H _ I h) λv j ⟨x,d,c,z,U⟩=>?_) a hw;rw[h1];exact bT (b aa j J d x v _ c z U) λ_ f q=>q
theorem amM{i:ay}{x:a5}{e:bp}{te:TE}{pos':cx}(b:X.N.Nodup)(hi:X.N[i]?=ai x)(z:Loc X.env.scope x)(he:PE X e te)(U:df e (ai (.Name x pos')) pos.line X.env=pure aq:=by rfl)(a:X.fn x=ax\/X.env.scope.names.lookup x=ai .local:=by first|exact .inl rfl|exact .inr rfl|assumption) :
  PS X (.Assign [.Name x pos'] e pos) (SK te (Jg i)):=by
 intro aa s J H D I h;refine wpAny_Assign_Name (bT (he aa s J H _ I h) λv k ⟨y,f,d,j,q⟩=>?_) U;exact Tq d b hi z j (λg c=>⟨_,f,c,q⟩) a
def Ta(c:TT)(tb:TS):TS:=λD J H=>∃W:ay->St->Hp->Prop,(∃m,W m J H)/\∀m J H,W m J H ->
 c J H λb H1=>if b=ax then ∃N:St->Hp->Prop,(∀j H',N j H'->∃q,q<m/\W q j H')/\tb {D with nx:=N,ct:=N,bk:=D.nx} J H1 else D.nx J H1
theorem amK{c:bp}{body:aj bt}{tc:TT}{tb:TS}(l:PassesOwn (bj X.prog X.w) X.A X.env X.xe)(E:PT X c tc)(hb:sI X body tb):PS X (.While c body [] pos) (Ta tc tb):=by
 intro aa s J H D I h;obtain⟨W,⟨C,x⟩,turn⟩:=h;refine wpAny_While (codeAny_whileLoop (λn s'=>∃z t,Inv X aa z t s'/\W n z t) ?_ C ⟨J,H,I,x⟩);rintro n B ⟨q,r,F,u⟩;refine FD l (bT (E aa B q r _ F (turn n q r u)) λb y ⟨p,o,d⟩=>?_);cases b with
 |true =>
  obtain⟨N,m,d⟩:=d;rw[a8 rfl];refine FD l (bT (hb aa y q p _ o d) λf G a=>?_);cases f with
  |next =>
   obtain⟨j,U,k,g⟩:=a;obtain⟨i,hm,e⟩:=m j U g;exact⟨i,hm,j,U,k,e⟩
  |cont =>
   obtain⟨j,U,k,g⟩:=a;obtain⟨i,hm,e⟩:=m j U g;exact⟨i,hm,j,U,k,e⟩
  |brk=>exact a
  |ret v=>exact a
 |false =>
  rw[bb Qv];exact ZO ⟨q,p,o,d⟩
end
structure It where
 go:ay->Hp->Prop
 BV:ay->Hp->V->Hp->Prop
 stop:ay->Hp->Prop
def qP(X:Cx)(aa:aj (au×cq))(H:Hp)(b:au):Prop :=
 H b=ak/\b≠X.env.locals/\b∉X.fs/\(b∈X.ex\/X.s₀.heap.objs.size<=b)/\(∀x c,X.env.cells.lookup x=ai c->c≠b)/\∀p∈X.pn++aa,p.1≠b
theorem Inv.uU{X:Cx}{aa:aj (au×cq)}{J:St}{H H':Hp}{s:aw}{b:au}(I:Inv X aa J H s)(hb:s.heap.objs.size<=b)(hn:H' b=ak):qP X aa H' b:=by
 refine⟨hn,IP (nA I.lt hb),I.ap3 hb,.inr (oW I.sz hb),λx c e z=>?_,λp j z=>?_⟩
 ·obtain⟨v,q⟩:=I.cell x c e;exact bu (nA q.lt (by rw[z];exact hb)) (Nat.lt_irrefl _)
 ·exact bu (nA (eY (I.pin p j).1) (by rw[z];exact hb)) (Nat.lt_irrefl _)
structure Turn(P:bf)(w:bo)(K:bg)(tg:bp)(σ:It)(fp:aj au)(it:au)(tn:ay->bx->Prop):Prop where
 mem:it∈fp
 obj:∀i h,tn i h->∀b∈fp,∃o,h.get? b=ai o/\∀v,o.data≠.cell v
 keep:∀i h h',tn i h->(∀b∈fp,∀o,h.get? b=ai o->h'.get? b=ai o)->tn i h'
 item:∀(X:Cx),X.prog=P->X.w=w->X.K=K->X.calm=ax->∀(i:ay) (aa:aj (au×cq)) (s:aw) (J:St) (H:Hp) (E:ao->aw->Prop),Inv X aa J H s->(∀b∈fp,qP X aa H b)->tn i s.heap->σ.go i H ->
  wpAny (bj P w) X.A (du (.ref it)) (λr s1=>∃u,r=ai u /\
   wpAny (bj P w) X.A (letOwnedTupleGo tg (.ref it) u) (λ_ s2=>∃x H',Inv X aa J H' s2/\RelV x u/\σ.BV i H x H'/\tn (i+1) s2.heap/\∀b∈fp,H' b=ak) E s1) E s
 done:∀(X:Cx),X.prog=P->X.w=w->X.K=K->X.calm=ax->∀(i:ay) (aa:aj (au×cq)) (s:aw) (J:St) (H:Hp) (E:ao->aw->Prop),Inv X aa J H s->(∀b∈fp,qP X aa H b)->tn i s.heap->σ.stop i H ->
  wpAny (bj P w) X.A (du (.ref it)) (λr s1=>r=ak/\Inv X aa J H s1) E s
 self:∀(A:br) (i:ay) (s:aw) (Q:ao->aw->Prop) (E:ao->aw->Prop),tn i s.heap->Q (.ref it) s->wpAny (bj P w) A (pyIter (.ref it)) Q E s
abbrev TI:=St->Hp->(It->Hp->Prop)->Prop
def PIE(X:Cx)(aa:aj (au×cq))(J:St)(tg:bp)(R:It->Hp->Prop)(z:ao)(j:aw):Prop :=
 ∃(q:au) (fp:aj au) (tn:ay->bx->Prop) (σ:It) (H':Hp),z=.ref q/\Inv X aa J H' j/\Turn X.prog X.w X.K tg σ fp q tn/\tn 0 j.heap/\(∀b∈fp,qP X aa H' b)/\R σ H'
def PI(X:Cx)(tg iter:bp)(j:TI):Prop :=
 ∀(aa:aj (au×cq)) (s:aw) (J:St) (H:Hp) (R:It->Hp->Prop),Inv X aa J H s->j J H R ->
  wpAny (bj X.prog X.w) X.A (bz iter X.env) (λv q=>wpAny (bj X.prog X.w) X.A (pyIter v) (PIE X aa J tg R) X.xe q) X.xe s
theorem VF{M:Model}{A:br}{E:ao->aw->Prop}{s:aw}{tg:bp}{q:au}{u:ao}{o:cq}{n:cy}{vs:bq ao}{Q:Unit->aw->Prop}(z:s.heap.get? q=ai o)(U:o.cls=.type n)(hd:o.data=.fields vs)
  (hn:["enumerate", "zip", "dict_itemiterator", "dict_reverseitemiterator", "odict_iterator", "itertools.zip_longest", "itertools.pairwise"].contains n=aq) (j:Q () s):wpAny M A (letOwnedTupleGo tg (.ref q) u) Q E s:=by
 unfold letOwnedTupleGo;cases tg <;> first
  |exact bS j
  | (cases u <;> first
    |exact bS j
    | (refine aM (wpAny_load z ?_)
       rw[U,hd];show wpAny M A (if(["enumerate", "zip", "dict_itemiterator", "dict_reverseitemiterator", "odict_iterator", "itertools.zip_longest", "itertools.pairwise"].contains n&&vs[0]? == ai (b7 _))=ax then _ else _) Q E s;rw[bb (by intro h;rw[hn,Bool.false_and]at h;cases h)];exact bS j))
noncomputable def Oz(K:bg)(a:au):It :=
 ⟨λi H=>∃xs x,fE K H a xs/\xs[i]?=ai x,λi H x H'=>H'=H/\∀xs,fE K H a xs->xs[i]?=ai x,λi H=>∃xs,fE K H a xs/\xs.length<=i⟩
noncomputable def Oy(K:bg)(a:au):It :=
 ⟨λi H=>∃xs x,jK K H a xs/\xs[i]?=ai x,λi H x H'=>H'=H/\∀xs,jK K H a xs->xs[i]?=ai x,λi H=>∃xs,jK K H a xs/\xs.length<=i⟩
noncomputable def YO(lo:av)(n:ay):It:=⟨λi _=>i<n,λi H x H'=>H'=H/\x=.int (lo+i),λi _=>n<=i⟩
theorem agM{P:bf}{w:bo}{K:bg}{tg:bp}(a j:au):Turn P w K tg (Oz K a) [j] j (λi h=>h.IsListIter j a i)where
 mem:=by simp
 obj:=λi h st b hb=>by
  have e:b=j:=by simpa using hb
  subst e;obtain⟨o,e,c,d⟩:=st;exact⟨o,e,λv z=>by rw[d]at z;cases z⟩
 keep:=λi h h' st k=>st.at λo e=>k j (by simp) o e
 item:=by
  intro X m hw n D i aa s J H E I U st l;subst m hw n;obtain⟨F,x,q,g⟩:=l;obtain⟨T,f,p,M⟩:=I.list q;obtain⟨u,Q,L⟩:=f.get g;obtain⟨B,A,R,y,t,r⟩:=U j (by simp);refine wpAny_pyNext_list_item st p.isList (x:=u) (by simpa using Q) λh' C G=>?_;have V:Inv X aa J H {s with heap:=h' }:=I.turned (t':=s.toks) (λb o hb e=>(G.2 b hb).trans e) B A y t r;obtain⟨o,e,c,d⟩:=id C;exact⟨u,rfl,VF (s:={s with heap:=h' }) e c d (by decide) ⟨x,H,V,L,⟨rfl,λW N=>by rw[I.Gf N q];exact g⟩,C,λb hb=>(U b hb).1⟩⟩
 done:=by
  intro X m hw n D i aa s J H E I U st l;subst m hw n;obtain⟨F,q,g⟩:=l;obtain⟨T,f,p,M⟩:=I.list q;obtain⟨B,A,R,y,t,r⟩:=U j (by simp);have hl:=f.length;exact wpAny_pyNext_list_end (I.ok.hd D) st p.isList (by simp;omega) λh' S=>⟨rfl,I.turned (t':=s.toks) (λb o hb e=>S b o hb e) B A y t r⟩
 self:=λ_ _ _ _ _ st h=>wpAny_pyIter_listiter st h
theorem agJ{P:bf}{w:bo}{K:bg}{tg:bp}(a j:au):Turn P w K tg (Oy K a) [j] j (λi h=>h.IsTupleIter j a i)where
 mem:=by simp
 obj:=λi h st b hb=>by
  have e:b=j:=by simpa using hb
  subst e;obtain⟨o,e,c,d⟩:=st;exact⟨o,e,λv z=>by rw[d]at z;cases z⟩
 keep:=λi h h' st k=>st.at λo e=>k j (by simp) o e
 item:=by
  intro X m hw n F i aa s J H E I U st l;subst m hw n;obtain⟨G,x,q,g⟩:=l;obtain⟨C,f,p,N⟩:=I.tuple q;obtain⟨u,R,M⟩:=f.get g;obtain⟨B,A,S,y,t,r⟩:=U j (by simp);refine wpAny_pyNext_tuple_item st (show s.heap.IsTuple a C.toArray from p) (x:=u) (by simpa using R) λh' D L=>?_;have V:Inv X aa J H {s with heap:=h' }:=I.turned (t':=s.toks) (λb o hb e=>(L.2 b hb).trans e) B A y t r;obtain⟨o,e,c,d⟩:=id D;exact⟨u,rfl,VF (s:={s with heap:=h' }) e c d (by decide) ⟨x,H,V,M,⟨rfl,λW Q=>by rw[I.agQ Q q];exact g⟩,D,λb hb=>(U b hb).1⟩⟩
 done:=by
  intro X m hw n F i aa s J H E I U st l;subst m hw n;obtain⟨G,q,g⟩:=l;obtain⟨C,f,p,N⟩:=I.tuple q;obtain⟨B,A,S,y,t,r⟩:=U j (by simp);have hl:=f.length;exact wpAny_pyNext_tuple_end (I.ok.hd F) st (show s.heap.IsTuple a C.toArray from p) (by simp;omega) λh' T=>⟨rfl,I.turned (t':=s.toks) (λb o hb e=>T b o hb e) B A y t r⟩
 self:=λ_ _ _ _ _ st h=>wpAny_pyIter_tupleiter st h
theorem agL{P:bf}{w:bo}{K:bg}{tg:bp}(j:au)(lo:av)(n:ay):Turn P w K tg (YO lo n) [j] j (λi h=>IsRangeIter h j (lo+(i:ay)*1) ((n:av)-(i:ay)) 1)where
 mem:=by simp
 obj:=λi h st b hb=>by
  have e:b=j:=by simpa using hb
  subst e;exact⟨_,st,λv z=>by
   have u:Data.fields _=Data.cell v:=z;cases u⟩
 keep:=λi h h' st k=>k j (by simp) _ st
 item:=by
  intro X c hw d a i aa s J H E I q st U;subst c hw d;obtain⟨p,m,y,l,g,f⟩:=q j (by simp);have W:=Walks.range (prog:=X.prog) (w:=X.w) (I.ok.hd a) j lo 1 n;refine W.item i s _ _ U st λv h' tk hv r x=>?_;obtain⟨t,rfl⟩:=hv;have B:Inv X aa J H {s with heap:=h',toks:=tk}:=I.turned (λb o hb e=>x b o (by simpa using hb) e) p m l g f;refine⟨_,rfl,VF (s:={s with heap:=h',toks:=tk}) (n := "range_iterator") r rfl rfl (by decide) ⟨.int (lo+i),H,B,⟨t,?_⟩,⟨rfl,rfl⟩,r,λb hb=>(q b hb).1⟩⟩;rw[Int.mul_one]
 done:=by
  intro X c hw d a i aa s J H E I q st U;subst c hw d;obtain⟨p,m,y,l,g,f⟩:=q j (by simp);exact wpAny_pyNext_range_end (I.ok.hd a) st (by have:n<=i:=U;omega) λh' A=>⟨rfl,I.turned (t':=s.toks) (λb o hb e=>A b o hb e) p m l g f⟩
 self:=λ_ _ _ _ _ st h=>wpAny_pyIter_rangeiter st h
section
variable{X:Cx}{tg:bp}
theorem alA{aa:aj (au×cq)}{J:St}{H:Hp}{s:aw}{R:It->Hp->Prop}{E:ao->aw->Prop}{lo hi:av}{t u v:Tok}{tk:ay}(I:Inv X aa J H s)(h1 : -(2 ^ 62)<=lo)(h2:lo<2 ^ 62)(U : -(2 ^ 62)<=hi)(z:hi<2 ^ 62)
  (q:R (YO lo (hi-lo).toNat) H):wpAny (bj X.prog X.w) X.A (pyIter (.ref s.heap.objs.size)) (PIE X aa J tg R) E {s with heap:=s.heap.push {cls:=.type "range",data:=.fields #[.int lo t,.int hi u,.int 1 v]},toks:=tk}:=by
 refine wpAny_pyIter_range (IsRange.new ..) (small_one h1 h2 U z) ?_;have j:Inv X aa J H {s with heap:=s.heap.push {cls:=.type "range",data:=.fields #[.int lo t,.int hi u,.int 1 v]},toks:=tk}:=I.kept λb o e=>eN _ e;refine⟨(s.heap.push {cls:=.type "range",data:=.fields #[.int lo t,.int hi u,.int 1 v]}).objs.size,[(s.heap.push {cls:=.type "range",data:=.fields #[.int lo t,.int hi u,.int 1 v]}).objs.size],_,_,H,rfl,
  j.kept (t':=tk) λb o e=>eN _ e,agL _ lo (hi-lo).toNat,?_,λb hb=>?_,q⟩
 ·have c:lo+((0:ay):av)*1=lo:=by simp
  have a:(((hi-lo).toNat:ay):av)-((0:ay):av)=Builtin.Range.rangeSize lo hi 1:=by rw[rangeSize_one];split <;> omega
  show IsRangeIter _ _ (lo+((0:ay):av)*1) ((((hi-lo).toNat:ay):av)-((0:ay):av)) 1;rw[c,a];exact hU _ rfl
 ·have e:b=(s.heap.push {cls:=.type "range",data:=.fields #[.int lo t,.int hi u,.int 1 v]}).objs.size:=by simpa using hb
  subst e;exact j.uU dD (j.aL.fresh dD)
def atD(ta:TA):TI:=λJ H R=>ta J H λvs H1=>∃j:av,vs=[.int j]/\-(2 ^ 62)<=j/\j<2 ^ 62/\R (YO 0 j.toNat) H1
theorem anB{a:bp}{ta:TA}{p pos:cx}(f:Gl X "range")(hm:X.mg "range" = ak)(ha:PA X [a] ta)(d:ba [a] X.env=[(aq,bz a X.env)]:=by rfl):PI X tg (.Call (.Name "range" p) [a] [] pos) (atD ta):=by
 intro aa s J H R I h;refine Call_ (AE I f hm boot_range (PY (bT (ha pos aa s J H _ I h) λk l ⟨i,m,g,b,z⟩=>?_) d rfl));obtain⟨j,e,z,c,q⟩:=z;subst e;cases b with
 |cons r U =>
  cases U;obtain⟨t,rfl⟩:=r;exact call_range_1 (alA g (by omega) (by omega) z c (by simpa using q))
def Tc(U:TI)(g:TG)(tb:TS):TS:=λD J H=>U J H λσ H1=>∃W:ay->ay->St->Hp->Prop,(∃m,W 0 m J H1)/\∀i m J H,W i m J H ->
 (σ.stop i H/\D.nx J H)\/(σ.go i H/\∃N:St->Hp->Prop,(∀j H',N j H'->∃z,z<m/\W (i+1) z j H')/\∀x H',σ.BV i H x H'->g x J H' λq H2=>tb {D with nx:=N,ct:=N,bk:=D.nx} q H2)
noncomputable def LX(fp:aj au)(h:bx):aj (au×cq):=fp.filterMap λb=>(h.get? b).map λo=>(b,o)
theorem MI{fp:aj au}{h:bx}{b:au}{o:cq}(hb:b∈fp)(e:h.get? b=ai o):(b,o)∈LX fp h:=List.mem_filterMap.mpr ⟨b,hb,by rw[e];rfl⟩
theorem apB{fp:aj au}{h:bx}{p:au×cq}(j:p∈LX fp h):p.1∈fp/\h.get? p.1=ai p.2:=by
 obtain⟨b,hb,e⟩:=List.mem_filterMap.mp j;cases q:h.get? b with
 |none=>rw[q]at e;cases e
 |some o =>
  rw[q]at e;have z:(b,o)=p:=kK e;subst z;exact⟨hb,q⟩
theorem Inv.pinned{aa:aj (au×cq)}{J:St}{H:Hp}{s:aw}{fp:aj au}(I:Inv X aa J H s)(hf:∀b∈fp,qP X aa H b)(U:∀b∈fp,∃o,s.heap.get? b=ai o/\∀v,o.data≠.cell v):Inv X (aa++LX fp s.heap) J H s :=
 I.Er λp q=>(rH.mp q).elim (λz=>I.pin p (tP _ z)) λz=>by
  obtain⟨hb,e⟩:=apB z;obtain⟨f0,f1,f2,_⟩:=hf p.1 hb;obtain⟨o,j,d⟩:=U p.1 hb;rw[e]at j;cases j;exact⟨e,f0,f1,f2,d⟩
theorem Inv.LB{aa pl:aj (au×cq)}{J:St}{H:Hp}{s:aw}(I:Inv X (aa++pl) J H s):Inv X aa J H s:=I.Er λp j=>I.pin p (tP _ (YI _ j))
theorem amQ{iter:bp}{body:aj bt}{L:TI}{g:TG}{tb:TS}{pos:cx}(p:PassesOwn (bj X.prog X.w) X.A X.env X.xe)(Q:X.calm=ax)(hi:PI X tg iter L)(hg:PG X tg g)(hb:sI X body tb)
  (hs:∀x,ck iter X.env x=pure x:=by intro _;rfl):PS X (.For tg iter body [] pos) (Tc L g tb):=by
 intro aa s J H D I h;refine wpAny_For (bT (hi aa s J H _ I h) λv s1 h1=>bT h1 λGv s2 h2=>?_) hs;obtain⟨it,y,tn,σ,H2,e,I2,T,vT,R,W,⟨m0,w0⟩,turn⟩:=h2;subst e;have K:∀{c:Hp},(∀b∈y,c b=ak)->∀b∈y,qP X aa c b:=λhn b hb=>⟨hn b hb,(R b hb).2⟩
 refine codeAny_forLoop_any (λn s'=>∃i z c,Inv X aa z c s'/\tn i s'.heap/\(∀b∈y,c b=ak)/\W i n z c) ?_ m0 ⟨0,J,H2,I2,vT,λb hb=>(R b hb).1,w0⟩;rintro n P ⟨i,q,B,V,S,t,w3⟩
 rcases turn i n q B w3 with⟨stop,qn⟩|⟨go,N,hN,step⟩
 ·refine FD p (bT (T.done X rfl rfl rfl Q i aa P q B X.xe V (K t) S stop) λr s4 ⟨hr,I4⟩=>?_);subst hr;exact ZO ⟨q,B,I4,qn⟩
 ·refine FD p (bT (T.item X rfl rfl rfl Q i aa P q B X.xe V (K t) S go) λr s4 ⟨u,hr,h4⟩=>?_);subst hr;refine FD p (bT h4 λ_ M zz=>?_);obtain⟨x,H5,I5,r5,y5,G,VP⟩:=zz;have F:=I5.pinned (K VP) (T.obj _ _ G);refine FD p (bT (hg _ M q H5 x u _ F r5 (step x H5 y5)) λ_ s6 ⟨C,H6,I6,q6⟩=>?_);refine FD p (bT (hb _ s6 C H6 _ I6 q6) λf E k=>?_);have again:∀{j:St} {a:Hp},Inv X (aa++LX y M.heap) j a E->N j a->∃m,m<n/\∃i z c,Inv X aa z c E/\tn i E.heap/\(∀b∈y,c b=ak)/\W i m z c:=λ{j a} U l=>by
   obtain⟨m',hm,w7⟩:=hN j a l;refine⟨m',hm,i+1,j,a,U.LB,T.keep _ _ _ G λb hb o e=>(U.pin (b,o) (tP _ (tP _ (MI hb e)))).1,λb hb=>?_,w7⟩;obtain⟨o,e,d⟩:=T.obj _ _ G b hb;exact(U.pin (b,o) (tP _ (tP _ (MI hb e)))).2.1
  cases f with
  |next=>obtain⟨j,a,U,l⟩:=k;exact again U l
  |cont=>obtain⟨j,a,U,l⟩:=k;exact again U l
  |brk=>obtain⟨j,a,U,k⟩:=k;exact⟨j,a,U.LB,k⟩
  |ret v=>obtain⟨x7,j,a,U,r7,k⟩:=k;exact⟨x7,j,a,U.LB,r7,k⟩
end
abbrev R2:=V->V->Hp->VK->Prop
def hJ(X:Cx)(f:ao->ao->Sem ao)(r:R2):Prop :=
 ∀(aa:aj (au×cq)) (s:aw) (J:St) (H:Hp) (x y:V) (v u:ao) (Q:VK),Inv X aa J H s->RelV x v->RelV y u->r x y H Q ->
  wpAny (bj X.prog X.w) X.A (f v u) (EP X aa J Q) X.xe s
def Nd(X:Cx)(f:ao->Sem ao)(r:V->Hp->VK->Prop):Prop :=
 ∀(aa:aj (au×cq)) (s:aw) (J:St) (H:Hp) (x:V) (v:ao) (Q:VK),Inv X aa J H s->RelV x v->r x H Q ->
  wpAny (bj X.prog X.w) X.A (f v) (EP X aa J Q) X.xe s
def pS(X:Cx)(f:ao)(r:aj V->Hp->VK->Prop):Prop :=
 ∀(aa:aj (au×cq)) (s:aw) (J:St) (H:Hp) (xs:aj V) (us:aj ao) (Q:VK),Inv X aa J H s->Vals xs us->r xs H Q ->
  wpAny (bj X.prog X.w) X.A (call f us) (EP X aa J Q) X.xe s
def LD(r:R2)(ta tb:TE):TE:=λJ H Q=>ta J H λx H1=>tb J H1 λy H2=>r x y H2 Q
def tUn(r:V->Hp->VK->Prop)(ta:TE):TE:=λJ H Q=>ta J H λx H1=>r x H1 Q
def rI(C:av->av->Prop)(g:av->av->V):R2:=λx y H Q=>∃i j,x=.int i/\y=.int j/\C i j/\Q (g i j) H
def xT(g:av->av->V):R2:=λx y H Q=>∃i j,x=.int i/\y=.int j/\Q (g i j) H
def rU(g:av->V):V->Hp->VK->Prop:=λx H Q=>∃i,x=.int i/\Q (g i) H
section
variable{X:Cx}{a b c:bp}{ta tb tc:TE}{pos:cx}
theorem Ks(ha:PE X a ta)(hb:PE X b tb){aa:aj (au×cq)}{s:aw}{J:St}{H:Hp}{R:V->V->Hp->Prop}(I:Inv X aa J H s)
  (h:ta J H λx H1=>tb J H1 λy H2=>R x y H2) {Q:ao->aw->Prop} {f:ao->ao->Sem ao}
  (e:∀v u j x y H2,Inv X aa J H2 j->RelV x v->RelV y u->R x y H2->wpAny (bj X.prog X.w) X.A (f v u) Q X.xe j) :
  wpAny (bj X.prog X.w) X.A (bz a X.env) (λv s₁=>wpAny (bj X.prog X.w) X.A (bz b X.env) (λu s₂=>wpAny (bj X.prog X.w) X.A (f v u) Q X.xe s₂) X.xe s₁) X.xe s:=by
 refine bT (ha aa s J H _ I h) λv q ⟨x,H1,i,U,d⟩=>?_;refine bT (hb aa q J H1 _ i d) λu j ⟨y,H2,g,z,c⟩=>?_;exact e v u j x y H2 g U z c
theorem anN{j:Operator}{r:R2}(d:hJ X (cn j) r)(ha:PE X a ta)(hb:PE X b tb):PE X (.BinOp a j b pos) (LD r ta tb):=by
 intro aa s J H Q I h;exact wpAny_BinOp (Ks ha hb I h λv u z x y f e c U q=>d aa z J f x y v u Q e c U q)
theorem anJ{j:UnaryOp}{r:V->Hp->VK->Prop}(b:Nd X (unaryOp j) r)(ha:PE X a ta):PE X (.UnaryOp j a pos) (tUn r ta):=by
 intro aa s J H Q I h;exact UnaryOp_ (bT (ha aa s J H _ I h) λv q ⟨x,d,c,z,U⟩=>b aa q J d x v Q c z U)
theorem MC{f:ao->ao->Sem ao}{C:av->av->Prop}{g:av->av->av}
  (rule:∀(i j:av) (t u:Tok) (s:aw) (Q:ao->aw->Prop) (E:ao->aw->Prop),C i j->Q (.int (g i j) s.toks) {s with toks:=s.toks+1}->wpAny (bj X.prog X.w) X.A (f (.int i t) (.int j u)) Q E s) :
  hJ X f (rI C λi j => .int (g i j)):=by
 intro aa s J H x y v u Q I a U h;obtain⟨i,j,rfl,rfl,b,q⟩:=h;obtain⟨t,rfl⟩:=a;obtain⟨z,rfl⟩:=U;exact rule i j t z s _ _ b ⟨.int (g i j),H,I.tok _,⟨_,rfl⟩,q⟩
theorem Wg{f:ao->ao->Sem ao}{g:av->av->av}
  (rule:∀(i j:av) (t u:Tok) (s:aw) (Q:ao->aw->Prop) (E:ao->aw->Prop),Q (.int (g i j) s.toks) {s with toks:=s.toks+1}->wpAny (bj X.prog X.w) X.A (f (.int i t) (.int j u)) Q E s) :
  hJ X f (xT λi j => .int (g i j)):=by
 intro aa s J H x y v u Q I a U h;obtain⟨i,j,rfl,rfl,q⟩:=h;obtain⟨t,rfl⟩:=a;obtain⟨z,rfl⟩:=U;exact rule i j t z s _ _ ⟨.int (g i j),H,I.tok _,⟨_,rfl⟩,q⟩
theorem TL{f:ao->ao->Sem ao}{g:av->av->bh}
  (rule:∀(i j:av) (t u:Tok) (s:aw) (Q:ao->aw->Prop) (E:ao->aw->Prop),Q (.bool (g i j)) s->wpAny (bj X.prog X.w) X.A (f (.int i t) (.int j u)) Q E s) :
  hJ X f (xT λi j => .bl (g i j)):=by
 intro aa s J H x y v u Q I a U h;obtain⟨i,j,rfl,rfl,q⟩:=h;obtain⟨t,rfl⟩:=a;obtain⟨z,rfl⟩:=U;exact rule i j t z s _ _ ⟨.bl (g i j),H,I,rfl,q⟩
def nM(i j:av):Prop:=0<j/\j<1073741824
def KN(i j:av):Prop:=0<=j/\j<=1000000/\i.natAbs<2 ^ 64
def jV(i j:av):Prop:=(-(2 ^ 64)<i/\i<2 ^ 64)\/(-(2 ^ 64)<j/\j<2 ^ 64)
theorem jV.ok{i j:av}(h:jV i j):IntMulOk i j:=by
 rcases h with⟨h1,h2⟩|⟨h1,h2⟩
 ·exact .of_left (intBits_le_64 h1 h2)
 ·exact .of_right (intBits_le_64 h1 h2)
theorem ao6:hJ X (cn .Add) (xT λi j => .int (i+j)):=Wg λ_ _ _ _ _ _ _ q=>add_int q
theorem aoP:hJ X (cn .Sub) (xT λi j => .int (i-j)):=Wg λ_ _ _ _ _ _ _ q=>sub_int q
theorem aoU:hJ X (cn .Mult) (rI jV λi j => .int (i*j)):=MC λ_ _ _ _ _ _ _ z q=>mul_int q z.ok
theorem ao2:hJ X (cn .FloorDiv) (rI nM λi j => .int (i/j)):=MC λi j _ _ _ _ _ z q=>by
 have h1:(0:av)<j:=z.1;have h2:j<1073741824:=z.2;exact floordiv_int (by omega) (by rw[Int.fdiv_eq_ediv_of_nonneg i (by omega)];exact q) (.inl (PyProof.noPylong_small (by omega)))
theorem aoV:hJ X (cn .Mod) (rI (λ_ j=>0<j) λi j => .int (i%j)):=MC λi j _ _ _ _ _ z q=>by
 have h1:(0:av)<j:=z;exact mod_int' (by omega) (by rw[Int.fmod_eq_emod_of_nonneg i (by omega)];exact q)
theorem aoQ:hJ X (cn .Pow) (rI KN λi j => .int (i ^ j.toNat)):=MC λ_ _ _ _ _ _ _ z q=>pow_int_small z.1 z.2.1 z.2.2 q
theorem unI{f:ao->Sem ao}{g:av->av}
  (rule:∀(i:av) (t:Tok) (s:aw) (Q:ao->aw->Prop) (E:ao->aw->Prop),Q (.int (g i) s.toks) {s with toks:=s.toks+1}->wpAny (bj X.prog X.w) X.A (f (.int i t)) Q E s) :
  Nd X f (rU λi => .int (g i)):=by
 intro aa s J H x v Q I j h;obtain⟨i,rfl,q⟩:=h;obtain⟨t,rfl⟩:=j;exact rule i t s _ _ ⟨.int (g i),H,I.tok _,⟨_,rfl⟩,q⟩
theorem agB:Nd X (unaryOp .USub) (rU λi => .int (-i)):=unI λ_ _ _ _ _ q=>neg_int q
end
theorem azQ{i j:bh}:decide (V.bl i=V.bl j)=(i==j):=by
 rw[Bool.eq_iff_iff];simp
section
variable{X:Cx}{a b c:bp}{ta tb tc:TE}{pos:cx}
theorem aoW:hJ X (bw .Lt) (xT λi j => .bl (decide (i<j))):=TL λ_ _ _ _ _ _ _ q=>lt_int q
theorem aoX:hJ X (bw .LtE) (xT λi j => .bl (decide (i<=j))):=TL λ_ _ _ _ _ _ _ q=>le_int q
theorem aoZ:hJ X (bw .Gt) (xT λi j => .bl (decide (j<i))):=TL λ_ _ _ _ _ _ _ q=>gt_int q
theorem ao0:hJ X (bw .GtE) (xT λi j => .bl (decide (j<=i))):=TL λ_ _ _ _ _ _ _ q=>ge_int q
theorem hJ.or{f:ao->ao->Sem ao}{r U:R2}(h:hJ X f r)(h':hJ X f U):hJ X f (λx y H Q=>r x y H Q\/U x y H Q):=by
 intro aa s J H x y v u Q I z j q
 rcases q with q|q
 ·exact h aa s J H x y v u Q I z j q
 ·exact h' aa s J H x y v u Q I z j q
theorem cO(b:bp){j:CmpOp}(h:j≠.In:=by decide)(h2:j≠.NotIn:=by decide):cw j b=aq:=by
 have z:(j==CmpOp.In)=aq:=by cases j <;> first|rfl|exact bu rfl h
 have q:(j==CmpOp.NotIn)=aq:=by cases j <;> first|rfl|exact bu rfl h2
 cases b <;> simp[cw,z,q]
theorem an8{j:CmpOp}{r:R2}(d:hJ X (bw j) r)(ha:PE X a ta)(hb:PE X b tb)(hm:cw j b=aq):PE X (.Compare a [j] [b] pos) (LD r ta tb):=by
 intro aa s J H Q I h;exact wpAny_Compare1 (Ks ha hb I h λv u z x y f e c U q=>d aa z J f x y v u Q e c U q) hm
def Aw(t:TE):TT:=λJ H Q=>t J H λx H'=>∃k,x=.bl k/\Q k H'
theorem amF{j:CmpOp}{r:R2}(n:hJ X (bw j) r)(ha:PE X a ta)(hb:PE X b tb)(hm:cw j b=aq):PT X (.Compare a [j] [b] pos) (Aw (LD r ta tb)):=by
 intro aa s J H Q I h;refine wpAny_isTrue_Compare1 (bT (ha aa s J H _ I h) λv U ⟨x,B,t,g,m⟩=>bT (hb aa U J B _ t m) λu q ⟨y,A,p,f,l⟩ =>
  bT (n aa q J A x y v u _ p g f l) λc C ⟨z,w,o,d,k,e,i⟩=>?_) hm
 subst e;cases d;exact zI ⟨w,o,i⟩
def Te(r U:R2)(ta tb tc:TE):TE:=λJ H Q=>ta J H λx H1=>tb J H1 λy H2=>r x y H2 λz j=>∃k,z=.bl k /\
 (if k=ax then tc J j λq a=>U y q a Q else Q (.bl aq) j)
theorem amG{q j:CmpOp}{r f:R2}(N:hJ X (bw q) r)(M:hJ X (bw j) f)(ha:PE X a ta)(hb:PE X b tb)(P:PE X c tc)
  (hm:lastMarks [q,j] [b,c]=aq:=by with_unfolding_all rfl):PT X (.Compare a [q,j] [b,c] pos) (Aw (Te r f ta tb tc)):=by
 intro aa s J H Q I h;refine isTrue_chain (bT (ha aa s J H _ I h) λv w ⟨x,H1,I1,D,K⟩=>test_link (bT (hb aa w J H1 _ I1 K) λu t ⟨y,H2,W,U,G⟩ =>
  bT (N aa t J H2 x y v u _ W D U G) λd p ⟨z,l,i,C,k,e,g⟩=>?_)) hm
 subst e;cases C;refine zI ?_;cases k with
 |false =>
  obtain⟨k',S,L⟩:=g;cases S;exact ite_ff ⟨l,i,L⟩
 |true =>
  refine ite_tt (test_last (bT (P aa p J l _ i g) λn o ⟨m,H4,V,B,F⟩=>bT (M aa o J H4 y m u n _ V U B F) λd' s5 zz=>?_));obtain⟨z2,H5,T,A,k2,R,E⟩:=zz;subst R;cases A;exact zI ⟨H5,T,E⟩
theorem MK:(az:ay)<2 ^ 63:=by rw[lE];decide
theorem vals1{x:V}{us:aj ao}(r:Vals [x] us):∃u,us=[u]/\RelV x u:=by
 cases r with
 |cons q j=>cases j;exact⟨_,rfl,q⟩
theorem vals2{x y:V}{us:aj ao}(r:Vals [x,y] us):∃u j,us=[u,j]/\RelV x u/\RelV y j:=by
 cases r with
 |cons a U =>
  cases U with
  |cons z q=>cases q;exact⟨_,_,rfl,a,z⟩
theorem aCS(U:X.calm=ax):pS X (.builtin "max") (λxs H Q=>∃i j,xs=[.int i,.int j]/\Q (.int (if j>i then j else i)) H):=by
 intro aa s J H xs b Q I r h;obtain⟨i,j,rfl,q⟩:=h;obtain⟨u,a,rfl,⟨t,rfl⟩,⟨c,rfl⟩⟩:=vals2 r;refine max_two_ints (I.ok.hd U) λh' tk k=>⟨_,H,I.kept k,?_,q⟩
 by_cases z:j>i
 ·rw[a8 z,a8 z];exact⟨_,rfl⟩
 ·rw[bb z,bb z];exact⟨_,rfl⟩
theorem aCQ(U:X.calm=ax):pS X (.builtin "min") (λxs H Q=>∃i j,xs=[.int i,.int j]/\Q (.int (if j<i then j else i)) H):=by
 intro aa s J H xs b Q I r h;obtain⟨i,j,rfl,q⟩:=h;obtain⟨u,a,rfl,⟨t,rfl⟩,⟨c,rfl⟩⟩:=vals2 r;refine min_two_ints (I.ok.hd U) λh' tk k=>⟨_,H,I.kept k,?_,q⟩
 by_cases z:j<i
 ·rw[a8 z,a8 z];exact⟨_,rfl⟩
 ·rw[bb z,bb z];exact⟨_,rfl⟩
end
structure EK(h:bx)(x dx C:au)(mA:a5->ar ao):Prop where
 obj:h.get? x=ai (instObj C dx)
 ns:h.Ns1 dx mA
 ne:dx≠x
theorem aq8{h:bx}{dx:au}{mA:a5->ar ao}(n:h.Ns1 dx mA):∃od,h.get? dx=ai od/\∀name,lookIn name od=ai (mA name):=by
 obtain⟨o,es,f,U,hd,b,_,hm⟩:=n;refine⟨o,U,λname=>?_⟩;have e:=hm name;unfold nsFind findBy at e;rw[<-Array.find?_toList]at e;unfold lookIn;rw[hd];dsimp only;split
 ·rename_i y q;rw[q]at e;exact c7 ai e
 ·rename_i q;rw[q]at e;have a:es.toList.any (·.refKey)=aq:=by
   rw[List.any_eq_false];intro y j;obtain⟨z,t,d⟩:=b y (Array.mem_toList_iff.mp j);simp[DictEntry.refKey,d]
  have c:¬es.toList.any (·.refKey)=ax:=by rw[a];exact Qv
  rw[bb c];exact c7 ai e
theorem EK.look{h:bx}{x dx C:au}{mA:a5->ar ao}(I:EK h x dx C mA):∃od,PySem.W.InstAt h x (instObj C dx) C (ai od)/\∀name,lookIn name od=ai (mA name) :=
 let ⟨od,j,hl⟩:=aq8 I.ns
 ⟨od,⟨I.obj,rfl,rfl,j⟩,hl⟩
section
variable{prog:bf}{w:bo}{A:br}{E:ao->aw->Prop}{s:aw}{K:bg}{x dx C f:au}{mA:a5->ar ao}{name:a5}{v:ao}
theorem get_map{expr:bh}{Q:ao->aw->Prop}(X:K.In s.heap)(I:EK s.heap x dx C mA)(q:plainGet K C name=ax)(hh:hasDictIn K C=ax)
  (ha:c6 K (.ref C) name=ai ak) (hv:mA name=ai v) (j:PySem.W.handedIn v=ax) (h:Q v {s with toks:=s.toks+1}) :
  wpAny (bj prog w) A (getAttr (.ref x) name expr) Q E s:=by
 obtain⟨z,σ,hl⟩:=I.look;exact PySem.W.get_value X σ (plainGet_of q).1 (PySem.W.findObj_own hh ha rfl (by rw[hl,hv])) j h
theorem ax2{pl:Sem bh}{Q:ao×aj ao->aw->Prop}(X:K.In s.heap)(I:EK s.heap x dx C mA)(j:plainGet K C name=ax)
  (U:c6 K (.ref C) name=ai (ai (.ref f))) (z:isFn K (.ref f)=ax) (hv:mA name=ak) (h:Q (.ref f,[.ref x]) s) :
  wpAny (bj prog w) A (getMethod (.ref x) name pl) Q E s:=by
 obtain⟨q,σ,hl⟩:=I.look;exact PySem.W.method_fn X σ (plainGet_of j).1 (plainGet_of j).2 U (yU.mp z) (by show(lookIn name q).map (·.isSome)=ai aq;rw[hl,hv];rfl) h
theorem aiS{ns:aj a5}{Q:Unit->aw->Prop}(X:K.In s.heap)(I:EK s.heap x dx C mA)
  (f:c6 K (.ref C) "__setattr__" = ai (ai (.builtin "object.__setattr__"))) (g:PySem.W.plainOver K C=ax) (e:takerIn K C name=ai ak) (hh:hasDictIn K C=ax)
  (hw:PySem.Within mA ns) (hsz:ns.length<=az)
  (h:∀h',EK h' x dx C (λy=>if y=name then ai v else mA y)->Heap.SameBut dx s.heap h'->Q () {s with heap:=h',toks:=s.toks+2}) :
  wpAny (bj prog w) A (setAttr (.ref x) name v) Q E s:=by
 obtain⟨n,σ,hl⟩:=I.look;refine PySem.W.set_plain X σ f (PySem.W.osa_open (s:={s with toks:=s.toks+1}) (r:=ak) X σ g e λb=>?_);obtain⟨p,i,m⟩:=PySem.W.any_some hh;have d:s.heap.get? x=ai ⟨.ref C,ai dx,.plain,#[]⟩:=I.obj;refine aM (bS (aM (aM (wpAny_loadPart d (aM (PySem.W.Looks.here (s:={s with toks:=s.toks+1}) (PySem.W.looks_clsIn X i) ?_))))));rw[m];refine bS (a:=ai dx) (aM (bS (aM ?_)));refine wpAny_nsSet1 (s:={s with toks:=s.toks+1}) I.ns λh' c U=>?_;obtain⟨o,k,l,j,q,z⟩:=c.count (PySem.Within.cons name v hw);refine aM (wpAny_lookBehind j (by rw[q];exact pastItsLine_dict (oW z (by rw[iP];omega))) ?_);exact bS (h _ ⟨(U.2 _ (eM I.ne)).trans I.obj,c,I.ne⟩ U)
theorem aq2{R:Result->aw->Prop}{vs:aj ao}{j:aj (a5×ao)}(X:K.In s.heap)(hm:makesIn K C=ax)
  (hi:c6 K (.ref C) "__init__" = ai (ai (.ref f))) (q:PySem.W.typeIn K (.ref f)=ai (.type "function"))
  (h:codeAny (bj prog w) (A.under (.builtin "type.__call__" ⟨.ref C::vs,j⟩)) (.call (.ref f) ⟨.ref (s.heap.objs.size+1)::vs,j⟩) (PySem.W.InitBack (s.heap.objs.size+1) R)
   {s with heap:=(s.heap.push d7).push (instObj C s.heap.objs.size)}) :
  codeAny (bj prog w) A (.call (.ref C) ⟨vs,j⟩) R s:=by
 obtain⟨hh,g,d,t,os⟩:=s;exact PySem.W.make_core (PySem.W.makes_of X hm) (PySem.W.looks_findIn X hi) (λself=>PySem.W.bind_fn X self q) (.inl rfl) h
end
noncomputable def jY(f:a5)(v:V):aj (a5×V)->aj (a5×V)
 |[]=>[(f,v)]
 |(g,x)::r=>if g=f then(g,v)::r else(g,x)::jY f v r
theorem Xi(f g:a5)(v:V):∀fs:aj (a5×V),(jY f v fs).lookup g=if g=f then ai v else fs.lookup g
 |[]=>by
  show List.lookup g [(f,v)]=_
  by_cases h:g=f
  ·have hb:(g==f)=ax:=yU.mpr h;simp only[List.lookup,hb,a8 h]
  ·have hb:(g==f)=aq:=yV.mpr h;simp only[List.lookup,hb,bb h]
 |(k,x)::r=>by
  have ih:=Xi f g v r;rw[show jY f v ((k,x)::r)=(if k=f then(k,v)::r else(k,x)::jY f v r)from rfl]
  by_cases j:k=f
  ·rw[a8 j]
   by_cases h:g=k
   ·have hb:(g==k)=ax:=yU.mpr h;simp only[List.lookup,hb,a8 (h.trans j)]
   ·have hb:(g==k)=aq:=yV.mpr h;simp only[List.lookup,hb,bb (λe:g=f=>h (e.trans j.symm))]
  ·rw[bb j]
   by_cases h:g=k
   ·have hb:(g==k)=ax:=yU.mpr h;simp only[List.lookup,hb,bb (λe:g=f=>j (h.symm.trans e))]
   ·have hb:(g==k)=aq:=yV.mpr h;simp only[List.lookup,hb];exact ih
theorem Gm(f:a5)(v:V):∀fs:aj (a5×V),f∈(jY f v fs).map (·.1)/\∀g,g∈fs.map (·.1)->g∈(jY f v fs).map (·.1)
 |[]=>⟨by simp[jY],λg h=>by simp at h⟩
 |(k,x)::r=>by
  obtain⟨z,q⟩:=Gm f v r;rw[show jY f v ((k,x)::r)=(if k=f then(k,v)::r else(k,x)::jY f v r)from rfl]
  by_cases j:k=f
  ·rw[a8 j];subst j;exact⟨by simp,λg h=>by simpa using h⟩
  ·rw[bb j];refine⟨?_,λg h=>?_⟩
   ·rw[cV];exact gJ _ z
   ·rw[cV]at h ⊢
    rcases eK.mp h with e|e
    ·exact eK.mpr (.inl e)
    ·exact gJ _ (q g e)
theorem Xu(f:a5)(v:V):∀fs:aj (a5×V),(jY f v fs).length<=fs.length+1
 |[]=>by simp[jY]
 |(k,x)::r=>by
  have ih:=Xu f v r;rw[show jY f v ((k,x)::r)=(if k=f then(k,v)::r else(k,x)::jY f v r)from rfl]
  by_cases j:k=f
  ·rw[a8 j,iP,iP];omega
  ·rw[bb j,iP,iP];omega
theorem nJ.some_of{v:V}{o:ar ao}(r:nJ (ai v) o):∃u,o=ai u/\RelV v u:=by
 cases o with
 |none=>exact(show cb from r).elim
 |some u=>exact⟨u,rfl,r⟩
theorem nJ.none_of{o:ar ao}(r:nJ ak o):o=ak:=by
 cases o with
 |none=>rfl
 |some u=>exact(show cb from r).elim
theorem aaM{v:V}{u:ao}(r:RelV v u):PySem.W.handedIn u=ax:=by
 cases v with
 |dE=>cases(show u=Value.none from r);rfl
 |bl b=>cases(show u=Value.bool b from r);rfl
 |int i=>obtain⟨t,e⟩:=(show ∃t,u=Value.int i t from r);cases e;rfl
 |str x=>obtain⟨t,e⟩:=(show ∃t,u=Value.str x t from r);cases e;rfl
 |OT b=>obtain⟨t,e⟩:=(show ∃t,u=Value.bytes b t from r);cases e;rfl
 |AY b=>obtain⟨t,e⟩:=(show ∃t,u=Value.float b t from r);cases e;rfl
 |ref a=>cases(show u=Value.ref a from r);rfl
 |ty n=>cases(show u=Value.type n from r);rfl
section
variable{P:bf}{w:bo}{H H':Hp}{h h':bx}{a C dx:au}{fs iY:aj (a5×V)}
theorem UI(aL:gL P w H h)(e:H a=ai (.ins C dx fs)):∃mA,EK h a dx C mA/\(∀f,nJ (fs.lookup f) (mA f))/\PySem.Within mA (fs.map (·.1))/\fs.length<=1000/\H dx=ai (.own a):=by
 obtain⟨d,z,ne,j,mA,n,r,q⟩:=(show jA P w H h a (.ins C dx fs)from aL a _ e);exact⟨mA,⟨j,n,ne⟩,r,q,z,d⟩
end
structure nL(K:bg)(C:au):Prop where
 pg:plainGet K C Str.empty=ax
 hd:hasDictIn K C=ax
 po:PySem.W.plainOver K C=ax
 sa:c6 K (.ref C) "__setattr__" = ai (ai (.builtin "object.__setattr__"))
theorem nL.get{K:bg}{C:au}(c:nL K C)(f:a5):plainGet K C f=ax:=c.pg
def EL(K:bg)(C:au)(f:a5):Prop:=c6 K (.ref C) f=ai ak
theorem EL.ag9{K:bg}{C:au}{f:a5}(n:EL K C f):takerIn K C f=ai ak:=by
 unfold takerIn;rw[show c6 K (.ref C) f=ai ak from n];rfl
structure Meth(K:bg)(C:au)(m:a5)(f:au):Prop where
 at_:c6 K (.ref C) m=ai (ai (.ref f))
 fn:isFn K (.ref f)=ax
 kp:di K (.ref f)=ax
section
variable{X:Cx}{aa:aj (au×cq)}{J:St}{H:Hp}{s:aw}{a C dx:au}{fs:aj (a5×V)}{f:a5}{v:V}{A:br}{E:ao->aw->Prop}
theorem ax0{b:bh}{Q:ao->aw->Prop}(I:Inv X aa J H s)(e:H a=ai (.ins C dx fs))(c:nL X.K C)(n:EL X.K C f)(l:fs.lookup f=ai v)
  (h:∀u s',Inv X aa J H s'->RelV v u->Q u s'):wpAny (bj X.prog X.w) A (getAttr (.ref a) f b) Q E s:=by
 obtain⟨q,ι,r,_,_,_⟩:=UI I.aL e;obtain⟨u,z,j⟩:=nJ.some_of (v:=v) (o:=q f) (by rw[<-l];exact r f);exact get_map I.gG ι (c.get f) c.hd n z (aaM j) (h u _ (I.tok _) j)
theorem aaZ{m:a5}{g:au}{pl:Sem bh}{Q:ao×aj ao->aw->Prop}(I:Inv X aa J H s)(e:H a=ai (.ins C dx fs))(c:nL X.K C)(k:Meth X.K C m g)(l:fs.lookup m=ak)
  (h:Q (.ref g,[.ref a]) s):wpAny (bj X.prog X.w) A (getMethod (.ref a) m pl) Q E s:=by
 obtain⟨j,ι,r,_,_,_⟩:=UI I.aL e;have hn:j m=ak:=nJ.none_of (by rw[<-l];exact r m);exact ax2 I.gG ι (c.get m) k.at_ k.fn hn h
theorem aiQ{y:V}{u:ao}{Q:Unit->aw->Prop}(I:Inv X aa J H s)(e:H a=ai (.ins C dx fs))(c:nL X.K C)(n:EL X.K C f)(hl:fs.length<1000)(l:RelV y u)
  (h:∀s',Inv X aa J (upd H a (.ins C dx (jY f y fs))) s'->Q () s'):wpAny (bj X.prog X.w) A (setAttr (.ref a) f u) Q E s:=by
 obtain⟨d,ι,r,U,_,i⟩:=UI I.aL e;have m:(fs.map (·.1)).length<=az:=by rw[lB,lE];omega
 refine aiS I.gG ι c.sa c.po n.ag9 c.hd U m λh' j k=>h _ ?_;have hd:∃o,h'.get? dx=ai o:=let ⟨o,_,_,t,_⟩:=j.ns; ⟨o,t⟩;refine I.write (x:=a) (e:=dx) (by rw[e];exact True.intro) (.inr i) (λb q hb z=>(k.2 b hb).trans z) hd ?_;refine⟨by rw[cD ι.ne];exact i,?_,ι.ne,j.obj,_,j.ns,λg=>?_,λg p=>?_⟩
 ·have:=Xu f y fs;omega
 ·show nJ ((jY f y fs).lookup g) (if g=f then ai u else d g);rw[Xi]
  by_cases q:g=f
  ·rw[a8 q,a8 q];exact l
  ·rw[bb q,bb q];exact r g
 ·by_cases q:g=f
  ·rw[q];exact(Gm f y fs).1
  ·refine(Gm f y fs).2 g (U g λz=>p ?_);show(if g=f then ai u else d g)=ak;rw[bb q];exact z
theorem Inv.made(I:Inv X aa J H s):Inv X aa J (upd (upd H s.heap.objs.size (.own (s.heap.objs.size+1))) (s.heap.objs.size+1) (.ins C s.heap.objs.size []))
  {s with heap:=(s.heap.push d7).push (instObj C s.heap.objs.size)}:=by
 have j:(s.heap.push d7).get? s.heap.objs.size=ai d7:=hU s.heap rfl;have c:((s.heap.push d7).push (instObj C s.heap.objs.size)).get? (s.heap.objs.size+1)=ai (instObj C s.heap.objs.size):=by
  have:=hU (s.heap.push d7) (o:=instObj C s.heap.objs.size) rfl;rwa[JI]at this
 have U:(s.heap.push d7).Ns s.heap.objs.size (λ_=>ak):=⟨d7,#[],_,j,rfl,(λe he=>bu he (by simp)),λ_=>rfl⟩;have d:=I.laid (a:=s.heap.objs.size) (o:=.own (s.heap.objs.size+1)) (h':=s.heap.push d7) (t':=s.toks) (λb u q=>eN _ q) dD ⟨_,j⟩;refine d.laid (a:=s.heap.objs.size+1) (o:=.ins C s.heap.objs.size []) (t':=s.toks) (λb u q=>eN _ q) (Nat.le_of_eq (JI _ _)) ?_;have ne:s.heap.objs.size≠s.heap.objs.size+1:=iB (YC _);refine⟨by rw[cD ne,eX],BI _,ne,c,λ_=>ak,(Heap.Ns1.of_empty U).at λo q=>eN _ q,λ_=>True.intro,λy z=>bu rfl z⟩
theorem aDF{prog:bf}{w:bo}{env:Env}{e:bp}{f:a5}{pos:cx}{s:aw}{Q:ao->aw->Prop}(hb:b0 e f env (bz e env)=bz e env)
  (h:wpAny (bj prog w) A (bz e env) (λo s₁=>wpAny (bj prog w) A (getAttr o f ax) Q E s₁) E s):wpAny (bj prog w) A (bz (.Attribute e f pos) env) Q E s :=
 Attribute_any_ h (by rw[arm_eval_Attribute,hb])
end
def LG(K:bg)(ta:TE)(f:a5):TE:=λJ H Q=>ta J H λx H1=>∃a C dx fs v,x=.ref a/\H1 a=ai (.ins C dx fs)/\nL K C/\EL K C f/\fs.lookup f=ai v/\Q v H1
def akV(K:bg)(ta tv:TE)(f:a5):TS:=λD J H=>tv J H λy H1=>ta J H1 λx H2=>∃a C dx fs,x=.ref a/\H2 a=ai (.ins C dx fs)/\nL K C/\EL K C f/\fs.length<1000 /\
 D.nx J (upd H2 a (.ins C dx (jY f y fs)))
section
variable{X:Cx}{o e value:bp}{f:a5}{pos pos' agU:cx}{ta tv:TE}
theorem LY(he:PE X e ta)(hb:b0 e f X.env (bz e X.env)=bz e X.env):PE X (.Attribute e f pos) (LG X.K ta f):=by
 intro aa s J H Q I h;refine aDF hb (bT (he aa s J H _ I h) λu m zz=>?_);obtain⟨x,g,d,j,a,C,o,fs,v,ex,U,c,n,l,q⟩:=zz;subst ex;obtain rfl:u=Value.ref a:=j;exact ax0 d U c n l λi k b z=>⟨v,g,b,z,q⟩
theorem amR(ha:PE X o ta)(hv:PE X value tv)(e:df value (ai (.Attribute o f pos')) pos.line X.env=pure aq):PS X (.Assign [.Attribute o f pos'] value pos) (akV X.K ta tv f):=by
 intro aa s J H D I h;refine plainObj_wpAny_Assign_Attribute (bT (hv aa s J H _ I h) λu j ⟨y,p,m,z,q⟩=>bT (ha aa j J p _ m q) λd t zz=>?_) e;obtain⟨x,w,k,U,a,C,v,fs,ex,g,c,n,l,b⟩:=zz;subst ex;obtain rfl:d=Value.ref a:=U;exact aiQ k g c n l z λr i=>⟨J,_,i,b⟩
end
section
variable{X:Cx}{aa:aj (au×cq)}{J:St}{H:Hp}{s:aw}{A:br}{E:ao->aw->Prop}{Q:ao->aw->Prop}{c:ao}{b:bh}
inductive rE(K:bg)(H:Hp):V->ao->Prop where
 | dE:rE K H .dE (.type "NoneType")
 | bl (x:bh):rE K H (.bl x) (.type "bool")
 | int (i:av):rE K H (.int i) (.type "int")
 | str (x:a5):rE K H (.str x) (.type "str")
 | AY (x:UInt64):rE K H (.AY x) (.type "float")
 | lst {a:au} {xs:aj V} (e:H a=ai (.lst xs)):rE K H (.ref a) (.type "list")
 | fO {a:au} {o:cq} {xs:aj V} (e:H a=ai (.fO o (.lst xs))):rE K H (.ref a) (.type "list")
 | tup {a:au} {xs:aj V} (e:H a=ai (.tup xs)):rE K H (.ref a) (.type "tuple")
 | dK {a:au} {kvs:aj (Key×V)} (e:H a=ai (.dK kvs)):rE K H (.ref a) (.type "dict")
 | dT {a:au} {kvs:aj (aj Key×V)} (e:H a=ai (.dT kvs)):rE K H (.ref a) (.type "dict")
 | ins {a C dx:au} {fs:aj (a5×V)} (e:H a=ai (.ins C dx fs)) (cl:nL K C) (ha:c6 K (.ref C) "__class__" = ai (ai (.builtin "object.__class__")))
   (hn:specialIn K (.builtin "object.__class__") "__get__" = ai (ai (.builtin "getset_descriptor.__get__"))) (Za:takesIn K (.builtin "object.__class__")=ai ax)
   (hm:mroIn K C (.type "object")=ai ax):rE K H (.ref a) (.ref C)
theorem asW{x:V}{u t:ao}(I:Inv X aa J H s)(j:RelV x u)(ty:rE X.K H x t)(e:kitOne X.K t c=ai b)(h:∀tk,Q (.bool b) {s with toks:=tk}) :
  wpAny (bj X.prog X.w) A (call (.builtin "isinstance") [u,c]) Q E s:=by
 cases ty with
 |dE=>cases(show u=Value.none from j);exact kia_one PySem.W.kitx_none I.gG True.intro e (λz=>nomatch z) h
 |bl y=>cases(show u=Value.bool y from j);exact kia_one PySem.W.kitx_bool I.gG True.intro e (λz=>nomatch z) h
 |int i=>obtain⟨t,q⟩:=(show ∃t,u=Value.int i t from j);cases q;exact kia_one PySem.W.kitx_int I.gG True.intro e (λz=>nomatch z) h
 |str y=>obtain⟨t,q⟩:=(show ∃t,u=Value.str y t from j);cases q;exact kia_one PySem.W.kitx_str I.gG True.intro e (λz=>nomatch z) h
 |AY y=>obtain⟨t,q⟩:=(show ∃t,u=Value.float y t from j);cases q;exact kia_one PySem.W.kitx_float I.gG True.intro e (λz=>nomatch z) h
 | @lst a f U =>
  cases(show u=Value.ref a from j);obtain⟨_,_,n,_,h1⟩:=(show jA X.prog X.w H s.heap a (.lst f)from I.aL a _ U);exact kia_one PySem.W.kitx_list I.gG ⟨_,h1,rfl⟩ e (λz=>nomatch z) h
 | @fO a g f U =>
  cases(show u=Value.ref a from j);obtain⟨_,_,_,n,_,h1⟩:=(show jA X.prog X.w H s.heap a (.fO g (.lst f))from I.aL a _ U);exact kia_one PySem.W.kitx_list I.gG ⟨_,h1,rfl⟩ e (λz=>nomatch z) h
 | @tup a f U =>
  cases(show u=Value.ref a from j);obtain⟨_,_,_,p⟩:=(show jA X.prog X.w H s.heap a (.tup f)from I.aL a _ U);obtain⟨o,h1,h2,_⟩:=p;exact kia_one PySem.W.kitx_tuple I.gG ⟨o,h1,h2⟩ e (λz=>nomatch z) h
 | @dK a d U =>
  cases(show u=Value.ref a from j);obtain⟨_,_,m,_,p⟩:=(show jA X.prog X.w H s.heap a (.dK d)from I.aL a _ U);obtain⟨o,es,k,h1,h2,_⟩:=p;exact kia_one PySem.W.kitx_dict I.gG ⟨o,h1,h2.1⟩ e (λz=>nomatch z) h
 | @dT a d U =>
  cases(show u=Value.ref a from j);obtain⟨_,_,f,_,o,es,k,h1,h2,_⟩:=(show jA X.prog X.w H s.heap a (.dT d)from I.aL a _ U);exact kia_one PySem.W.kitx_dict I.gG ⟨o,h1,h2.1⟩ e (λz=>nomatch z) h
 | @ins a C B fs U cl ha hn l hm =>
  cases(show u=Value.ref a from j);obtain⟨v,ι,_⟩:=UI I.aL U;obtain⟨r,σ,_⟩:=ι.look;exact kia_one (PySem.W.kitx_own (cl.get _) cl.hd ha hn l hm) I.gG σ e (λz=>nomatch z) h
end
structure cZ(k:ay)(A:br):Prop where
 hd:A.handled=ak
 dp:A.depth+3*k+5<recursionLimit
 un:A.units+16*k+200<de
theorem cZ.mono{j k:ay}{A:br}(r:cZ k A)(h:j<=k):cZ j A:=⟨r.hd,by have:=r.dp;omega,by have:=r.un;omega⟩
theorem cZ.deeper{k:ay}{A:br}(r:cZ (k+1) A)(env:Env):cZ k (A.deeper env) :=
 ⟨r.hd,by have:=r.dp;show A.depth+1+3*k+5<_;omega,by have:=r.un;show A.units+3+16*k+200<_;omega⟩
theorem aq3{A:br}{C:au}{us:aj ao}{j:aj (a5×ao)}:(A.under (.builtin "type.__call__" ⟨.ref C::us,j⟩)).depth=A.depth+1:=by
 first|rfl|simp[Around.under,Code.weight,Code.isCreation,Code.isGuard,Code.isCaller,Code.frames,Code.isFrame,guardIds]
theorem aq1{A:br}{C:au}{us:aj ao}{j:aj (a5×ao)}:(A.under (.builtin "type.__call__" ⟨.ref C::us,j⟩)).units=A.units+1:=by
 first|rfl|simp[Around.under,Code.cUnits,Code.frames,Code.isFrame]
theorem cZ.make{k:ay}{A:br}(r:cZ (k+1) A)(C:au)(us:aj ao)(kw:aj (a5×ao)):cZ k (A.under (.builtin "type.__call__" ⟨.ref C::us,kw⟩)) :=
 ⟨r.hd,by have:=r.dp;rw[aq3];omega,by have:=r.un;rw[aq1];omega⟩
theorem cZ.depth{k:ay}{A:br}(r:cZ k A):A.depth<recursionLimit:=by have:=r.dp;omega
theorem cZ.units{k:ay}{A:br}(r:cZ k A):A.units+64<de:=by have:=r.un;omega
def LF:TA:=λ_ H Q=>Q [] H
def LH(ta:TE)(j:TA):TA:=λJ H Q=>ta J H λx H1=>j J H1 λxs H2=>Q (x::xs) H2
section
variable{X:Cx}{e:bp}{es:aj bp}{te:TE}{t:TA}{pos:cx}
theorem CO:PA X [] LF:=λ_ _ _ _ H Q I h=>RC ⟨[],H,I,.nil,h⟩
theorem zW(ha:PE X e te)(hr:PA X es t)(c:ba (e::es) X.env=(aq,bz e X.env)::ba es X.env:=by rfl):PA X (e::es) (LH te t):=by
 intro pos aa s J H Q I h;rw[c];show wpAny _ _ (spliced ((aq,bz e X.env)::cg pos (ba es X.env))) _ _ s;refine KL (bT (ha aa s J H _ I h) λu q ⟨x,i,f,U,b⟩=>?_);exact bT (hr pos aa q J i _ f b) λk l ⟨j,g,d,z,a⟩=>⟨x::j,g,d,.cons U z,a⟩
def ahE(t:TA):TE:=λJ H Q=>t J H λxs H1=>xs.length<=az/\∀p,H1 p=ak->Q (.ref p) (upd H1 p (.tup xs))
def ahP(t:TA):TE:=λJ H Q=>t J H λxs H1=>xs.length<=az/\∀p,H1 p=ak->Q (.ref p) (upd H1 p (.lst xs))
theorem anK{d}(h:PA X es t):PE X (.Tuple es d pos) (ahE t):=by
 intro aa s J H Q I g;refine wpAny_Tuple_spliced (bT (h pos aa s J H _ I g) λf j ⟨c,a,U,r,z,q⟩=>⟨by rw[<-r.length];exact z,?_⟩);have i:a j.heap.objs.size=ak:=U.aL.fresh dD;refine⟨.ref j.heap.objs.size,upd a j.heap.objs.size (.tup c),U.laid (t':=j.toks) (λb u e=>eN _ e) dD ?_,rfl,q _ i⟩;exact⟨z,f,r,⟨_,hU _ rfl,rfl,_,rfl⟩⟩
theorem anS(h:PA X es t):PE X (.List es pos) (ahP t):=by
 intro aa s J H Q I f;refine wpAny_List_spliced (bT (h pos aa s J H _ I f) λd j ⟨c,a,U,r,z,q⟩=>⟨by rw[<-r.length];exact z,?_⟩);have g:a j.heap.objs.size=ak:=U.aL.fresh dD;refine⟨.ref j.heap.objs.size,upd a j.heap.objs.size (.lst c),U.laid (t':=j.toks) (λb u e=>eN _ e) dD ?_,rfl,q _ g⟩;exact⟨z,d,0,r,hU _ rfl⟩
end
abbrev Sp:=aj V->Hp->VK->XK->Prop
abbrev qT:=aj Env->Hp->aw->XK->ao->aw->Prop
structure zF(P:bf)(w:bo)(K:bg)(mg:a5->ar ao)(base:bx)(A:br)(outer:aj Env)(s:aw)(H:Hp):Prop where
 frames:A.frames=ai outer
 mod:Mod K mg base
 bs:∀b o,base.get? b=ai o->s.heap.get? b=ai o/\H b=ak
 rD:base.objs.size<=s.heap.objs.size
 pN:s.heap.FunFrames base outer
 uT:∀b∈jJ outer,H b=ak
 aL:gL P w H s.heap
 bare:AllBare s.gens
def CE(outer:aj Env)(P:bf)(w:bo)(H:Hp)(s:aw)(Q:VK)(u:ao)(s':aw):Prop :=
 ∃v H',s'.os=s.os/\AllBare s'.gens/\Un (jJ outer) [] H H' s.heap s'.heap/\gL P w H' s'.heap/\RelV v u/\Q v H'
def CR(CX:qT)(outer:aj Env)(P:bf)(w:bo)(H:Hp)(s:aw)(Q:VK)(E:XK)(r:Result)(s':aw):Prop :=
 match r with
 |.ok (.ret u)=>CE outer P w H s Q u s'
 |.ok _=>cb
 |.error e=>CX outer H s E e s'
structure iQ(P:bf)(w:bo)(K:bg)(mg:a5->ar ao)(base:bx)(CX:qT)(k:ay)(f:au)(fd:cp)(ps:aj a5)(sp:Sp):Prop where
 len:∀vs H Q E,sp vs H Q E->vs.length=ps.length
 run:∀(A:br) (outer:aj Env) (s:aw) (H:Hp) (args:Args) (us:aj ao) (vs:aj V) (Q:VK) (E:XK),cZ k A->zF P w K mg base A outer s H->BindsTo s fd args (ps.zip us)->Vals vs us->sp vs H Q E ->
  codeAny (bj P w) A (.call (.ref f) args) (CR CX outer P w H s Q E) s
theorem iQ.mono{P:bf}{w:bo}{K:bg}{mg:a5->ar ao}{base:bx}{CX:qT}{j k:ay}{f:au}{fd:cp}{ps:aj a5}{sp:Sp}(F:iQ P w K mg base CX j f fd ps sp)(h:j<=k) :
  iQ P w K mg base CX k f fd ps sp:=⟨F.len,λA outer s H args us q Q E hr=>F.run A outer s H args us q Q E (hr.mono h)⟩
theorem iQ.imp{P:bf}{w:bo}{K:bg}{mg:a5->ar ao}{base:bx}{CX:qT}{k:ay}{f:au}{fd:cp}{ps:aj a5}{sp j:Sp}(F:iQ P w K mg base CX k f fd ps sp)
  (h:∀vs H Q E,j vs H Q E->sp vs H Q E):iQ P w K mg base CX k f fd ps j :=
 ⟨λvs H Q E q=>F.len vs H Q E (h _ _ _ _ q),λA outer s H args us vs Q E hr he hb hv z=>F.run A outer s H args us vs Q E hr he hb hv (h _ _ _ _ z)⟩
theorem zF.make{P:bf}{w:bo}{K:bg}{mg:a5->ar ao}{base:bx}{A:br}{outer:aj Env}{s:aw}{H:Hp}(e:zF P w K mg base A outer s H)(C:au)(us:aj ao)(kw:aj (a5×ao)) :
  zF P w K mg base (A.under (.builtin "type.__call__" ⟨.ref C::us,kw⟩)) outer s H:=⟨by first|exact e.frames|(simpa[Around.under,Code.envs,Code.isFrame,pushEnvs]using e.frames),e.mod,e.bs,e.rD,e.pN,e.uT,e.aL,e.bare⟩
section
variable{X:Cx}{aa:aj (au×cq)}{J:St}{H:Hp}{s s':aw}
theorem Inv.DR(I:Inv X aa J H s):zF X.prog X.w X.K X.mg X.base X.A X.stack s H :=
 ⟨I.ok.frames,I.ok.mod,I.bs,oW I.ok.rD I.sz,I.stack,I.Bi,I.aL,I.bare⟩
theorem Inv.after{Q:VK}{u:ao}(I:Inv X aa J H s)(h:CE X.stack X.prog X.w H s Q u s'):EP X aa J Q u s':=by
 obtain⟨v,j,os,bare,un,aL,r,q⟩:=h;obtain⟨hh,g,d,t,Ey⟩:=s';obtain rfl:Ey=s.os:=os;exact⟨v,j,I.call (h':=hh) (g':=g) (d':=d) (t':=t) (ch:=[]) un aL bare (λb z=>bu z (by simp)),r,q⟩
end
def Tg(sp:Sp)(dvs:aj V)(E:XK)(t:TA):TE:=λJ H Q=>t J H λvs H1=>sp (vs++dvs) H1 Q E
def ahO(C:au)(sp:Sp)(dvs:aj V)(E:XK)(t:TA):TE:=λJ H Q=>t J H λvs H1=>∀x dx,H1 x=ak->H1 dx=ak->dx≠x ->
 sp (.ref x::(vs++dvs)) (upd (upd H1 dx (.own x)) x (.ins C dx [])) (λv H2=>v=.dE/\Q (.ref x) H2) E
def Binds(K:bg)(fd:cp)(ps:aj a5)(ds:aj ao):Prop :=
 ∀(s:aw) (us:aj ao),K.In s.heap->(us++ds).length=ps.length->BindsTo s fd ⟨us,[]⟩ (ps.zip (us++ds))
theorem Binds.all{K:bg}{fd:cp}{ps:aj a5}(h:∀us:aj ao,us.length=ps.length->c3 fd ⟨us,[]⟩=pure (ps.zip us)):Binds K fd ps []:=λs us _ hl=>by
 rw[wZ]at hl ⊢;exact .of_eq (h us hl)
def Passes(CX:qT)(X:Cx)(E:XK):Prop:=∀(aa:aj (au×cq)) (J:St) (H:Hp) (s:aw) (e:ao) (s':aw),Inv X aa J H s->CX X.stack H s E e s'->X.xe e s'
section
variable{X:Cx}{CX:qT}{k:ay}{f C:au}{fd:cp}{ps:aj a5}{sp:Sp}{dvs:aj V}{ds:aj ao}{E:XK}{x m:a5}{p pos af:cx}{e o:bp}{es:aj bp}{ta:TE}{t:TA}
theorem ak1{aa:aj (au×cq)}{J:St}{H:Hp}{s:aw}{Q:VK}{us:aj ao}{vs:aj V}(F:iQ X.prog X.w X.K X.mg X.base CX k f fd ps sp)(hr:cZ k X.A)(hb:Binds X.K fd ps ds)(hd:Vals dvs ds)(z:Passes CX X E)
  (I:Inv X aa J H s) (r:Vals vs us) (h:sp (vs++dvs) H Q E):wpAny (bj X.prog X.w) X.A (call (.ref f) us) (EP X aa J Q) X.xe s:=by
 have q:Vals (vs++dvs) (us++ds):=r.append hd;have hl:(us++ds).length=ps.length:=by rw[<-q.length];exact F.len _ _ _ _ h
 refine BY (tN (F.run X.A X.stack s H ⟨us,[]⟩ (us++ds) (vs++dvs) Q E hr I.DR (hb s us I.gG hl) q h) λr s' j=>?_);cases r with
 |error e=>exact z aa J H s e s' I j
 |ok fl =>
  cases fl with
  |ret u=>exact I.after j
  |next=>exact False.elim j
  |brk=>exact False.elim j
  |cont=>exact False.elim j
theorem aoA(F:iQ X.prog X.w X.K X.mg X.base CX k f fd ps sp)(hr:cZ k X.A)(a:Gl X x)(hm:X.mg x=ai (.ref f))(U:di X.K (.ref f)=ax)(hb:Binds X.K fd ps ds)(hd:Vals dvs ds)(z:Passes CX X E)
  (ha:PA X (e::es) t) (b:(x==("__debug__" : a5))=aq:=by decide) (he:ba (e::es) X.env=(aq,bz e X.env)::ba es X.env:=by rfl) (c:(cg pos (ba es X.env)).any (·.1)=aq:=by rfl) :
  PE X (.Call (.Name x p) (e::es) [] pos) (Tg sp dvs E t):=by
 intro aa s J H Q I h;refine tV (CU I a hm ?_ b);refine callWith_K (h₀:=X.base) I.ok.mod.tG U (bT (ha pos aa s J H _ I h) λg i ⟨d,l,j,r,q⟩=>⟨j.gG,?_⟩) he c;exact ak1 F hr hb hd z j r q
structure Mk(K:bg)(C f:au):Prop where
 makes:makesIn K C=ax
 init:c6 K (.ref C) "__init__" = ai (ai (.ref f))
 fn:isFn K (.ref f)=ax
 kp:di K (.ref C)=ax
theorem ak0{aa:aj (au×cq)}{J:St}{H:Hp}{s:aw}{Q:VK}{us:aj ao}{vs:aj V}(M:Mk X.K C f)(F:iQ X.prog X.w X.K X.mg X.base CX k f fd ps sp)(hr:cZ (k+1) X.A)(hb:Binds X.K fd ps ds)(hd:Vals dvs ds)
  (c:Passes CX X E) (I:Inv X aa J H s) (r:Vals vs us)
  (h:∀x dx,H x=ak->H dx=ak->dx≠x->sp (.ref x::(vs++dvs)) (upd (upd H dx (.own x)) x (.ins C dx [])) (λv H2=>v=.dE/\Q (.ref x) H2) E) :
  wpAny (bj X.prog X.w) X.A (call (.ref C) us) (EP X aa J Q) X.xe s:=by
 have U:=h (s.heap.objs.size+1) s.heap.objs.size (I.aL.fresh (IQ _)) (I.aL.fresh dD) (iB (YC _));have q:=Inv.made (C:=C) I;have z:Vals (V.ref (s.heap.objs.size+1)::(vs++dvs)) (Value.ref (s.heap.objs.size+1)::(us++ds)):=.cons rfl (r.append hd);have hl:(Value.ref (s.heap.objs.size+1)::us++ds).length=ps.length:=by
  have e:=z.length;rw[F.len _ _ _ _ U]at e;exact e.symm
 refine BY (aq2 (f:=f) I.gG M.makes M.init (yU.mp M.fn) (tN (F.run _ X.stack _ _ ⟨Value.ref (s.heap.objs.size+1)::us,[]⟩ (Value.ref (s.heap.objs.size+1)::(us++ds)) _ _ E (hr.make C us [])
  (q.DR.make C us []) (hb _ (Value.ref (s.heap.objs.size+1)::us) q.gG hl) z U) λr s' j=>?_))
 cases r with
 |error e=>exact c aa J _ _ e s' q j
 |ok fl =>
  cases fl with
  |ret u =>
   obtain⟨v,i,g,a,d,b⟩:=q.after j;subst d;exact⟨a,⟨V.ref (s.heap.objs.size+1),i,g,rfl,b⟩⟩
  |next=>exact False.elim j
  |brk=>exact False.elim j
  |cont=>exact False.elim j
theorem anR(M:Mk X.K C f)(F:iQ X.prog X.w X.K X.mg X.base CX k f fd ps sp)(hr:cZ (k+1) X.A)(U:Gl X x)(hm:X.mg x=ai (.ref C))(hb:Binds X.K fd ps ds)(hd:Vals dvs ds)(z:Passes CX X E)
  (ha:PA X (e::es) t) (a:(x==("__debug__" : a5))=aq:=by decide) (he:ba (e::es) X.env=(aq,bz e X.env)::ba es X.env:=by rfl) (b:(cg pos (ba es X.env)).any (·.1)=aq:=by rfl) :
  PE X (.Call (.Name x p) (e::es) [] pos) (ahO C sp dvs E t):=by
 intro aa s J H Q I h;refine tV (CU I U hm ?_ a);refine callWith_K (h₀:=X.base) I.ok.mod.tG M.kp (bT (ha pos aa s J H _ I h) λd g ⟨c,i,j,r,q⟩=>⟨j.gG,?_⟩) he b;exact ak0 M F hr hb hd z j r q
end
structure cM(N P:aj a5)(sc:b9):Prop where
 kind:sc.kind=.function
 co:sc.isCoroutine=aq
 gen:sc.isGenerator=aq
 nd:N.Nodup
 pre:N.take P.length=P
 par:∀x∈P,sc.names.lookup x=ai .local\/sc.names.lookup x=ai .cell
 ap4:∀y∈sc.names,y.2≠.free
theorem acC{kindOf:a5->ar c8}{x:a5}:∀{binds:aj (a5×ao)} {m:a5->ar ao},(∀v,(x,v)∉binds)->bindL kindOf binds m x=m x
 |[],_,_=>rfl
 |(n,v)::r,m,h=>by
  unfold bindL;rw[acC λw hw=>h w (gJ _ hw)];split
  ·have:x≠n:=by rintro rfl;exact h v List.mem_cons_self
   simp[this]
  ·rfl
theorem acE{kindOf:a5->ar c8}{x:a5}:∀{binds:aj (a5×ao)} {m:a5->ar ao},(∀v,(x,v)∉binds)->bindC kindOf binds m x=m x
 |[],_,_=>rfl
 |(n,v)::r,m,h=>by
  unfold bindC;rw[acE λw hw=>h w (gJ _ hw)];split
  ·rfl
  ·have:x≠n:=by rintro rfl;exact h v List.mem_cons_self
   simp[this]
theorem acD{kindOf:a5->ar c8}{x:a5}{v:ao}:∀{P:aj a5} {vs:aj ao} {i:ay} {m:a5->ar ao},P.Nodup->P[i]?=ai x->vs[i]?=ai v->kindOf x=ai .local ->
  bindL kindOf (P.zip vs) m x=ai v
 |[],_,_,_,_,h,_,_=>by simp at h
 |_::_,[],_,_,_,_,h,_=>by simp at h
 |p::P,w::vs,0,m,nd,h1,h2,j=>by
  simp at h1 h2;subst h1;subst h2;show bindL kindOf ((p,w)::P.zip vs) m p=_;unfold bindL;rw[acC λv hv=>(qO.mp nd).1 (Om hv).1,a8 j];simp
 |p::P,w::vs,i+1,m,nd,h1,h2,j=>by
  show bindL kindOf ((p,w)::P.zip vs) m x=_;unfold bindL;exact acD (i:=i) (qO.mp nd).2 (by simpa using h1) (by simpa using h2) j
theorem acF{kindOf:a5->ar c8}{x:a5}{v:ao}:∀{P:aj a5} {vs:aj ao} {i:ay} {m:a5->ar ao},P.Nodup->P[i]?=ai x->vs[i]?=ai v->kindOf x≠ai .local ->
  bindC kindOf (P.zip vs) m x=ai v
 |[],_,_,_,_,h,_,_=>by simp at h
 |_::_,[],_,_,_,_,h,_=>by simp at h
 |p::P,w::vs,0,m,nd,h1,h2,j=>by
  simp at h1 h2;subst h1;subst h2;show bindC kindOf ((p,w)::P.zip vs) m p=_;unfold bindC;rw[acE λv hv=>(qO.mp nd).1 (Om hv).1,bb j];simp
 |p::P,w::vs,i+1,m,nd,h1,h2,j=>by
  show bindC kindOf ((p,w)::P.zip vs) m x=_;unfold bindC;exact acF (i:=i) (qO.mp nd).2 (by simpa using h1) (by simpa using h2) j
noncomputable def start(N:aj a5)(vs:aj V):St:=vs.map ai++List.replicate (N.length-vs.length) ak
noncomputable def tM(CX:qT)(P:bf)(w:bo)(K:bg)(mg:a5->ar ao)(base:bx)(N:aj a5)(qual:a5)(scope:b9)(f:au)(j:ao)(A:br)(outer:aj Env)(s:aw)(H:Hp)(E:XK):Cx where
 prog:=P
 w:=w
 K:=K
 mg:=mg
 base:=base
 A:=A.deeper (cv qual scope s.heap.objs.size f j)
 N:=N
 s₀:=s
 H₀:=H
 env:=cv qual scope s.heap.objs.size f j
 outer:=outer
 stack:=cv qual scope s.heap.objs.size f j::outer
 ex:=[]
 calm:=ax
 fn:=λ_=>ax
 pn:=[]
 xe:=λe s'=>wpAny (bj P w) (A.deeper (cv qual scope s.heap.objs.size f j)) (leaving (cv qual scope s.heap.objs.size f j) e) (λ_ q=>CX outer H s E e q) (λz q=>CX outer H s E z q) s'
theorem ab8{sc:b9}{n:ay}{x:a5}(h:sc.names.lookup x=ai .cell):∃c,(cellsFrom n sc.names []).lookup x=ai c:=by
 have q:=cellsFrom_some sc.names n [] (.inl h);exact Option.isSome_iff_exists.mp q
theorem Yi{CX:qT}{P:bf}{w:bo}{K:bg}{mg:a5->ar ao}{base:bx}{N ps:aj a5}{qual:a5}{scope:b9}{f:au}{g:ao}{A:br}{outer:aj Env}{s m:aw}{H:Hp}{E:XK}{us:aj ao}{vs:aj V}
  (S:cM N ps scope) (hd:A.handled=ak) (j:zF P w K mg base A outer s H) (hl:vs.length=ps.length) (r:Vals vs us)
  (x:InCallC s s.heap.objs.size (bindL (cv qual scope s.heap.objs.size f g).kindOf (ps.zip us) λ_=>ak) (cellsFrom (s.heap.objs.size+1) scope.names []) (bindC (cv qual scope s.heap.objs.size f g).kindOf (ps.zip us) λ_=>ak) m) :
  Inv (tM CX P w K mg base N qual scope f g A outer s H E) [] (start N vs) H m:=by
 have F:ps.length<=N.length:=by have:=c7 List.length S.pre;rw[List.length_take]at this;omega
 obtain⟨h1,tk,rfl,t⟩:=x.done;have l:∀b:au,b∉(tM CX P w K mg base N qual scope f g A outer s H E).ex:=λb z=>bu (show b∈([]:aj au)from z) (by simp);refine⟨⟨j.mod,S.kind,rfl,rfl,vA _,λy z c h1 h2=>?_,λy U=>?_,λy c _ h=>?_,λ_=>hd,Around.frames_deeper j.frames,.inr ⟨rfl,rfl⟩,λb z=>bu z (l b),j.bs,j.rD,λb _ _=>l b,λb z=>bu z (l b),j.pN,j.uT⟩,
  rfl,j.bare,Un.kept t,⟨_,x.toInCall.ns,λi y v h1 h2 D=>?_⟩,λy c h=>⟨_,x.cell y c h⟩,j.aL.fresh dD,λy c h=>?_,λp d=>bu (show p∈([]:aj (au×cq))from d) (by simp),j.aL.kept t,?_⟩
 ·exact name_of_addr x.apart (PySem.mem_of_lookup h1) (PySem.mem_of_lookup h2)
 ·have U:scope.names.lookup y=ai .cell\/scope.names.lookup y=ai .free:=U
  rcases U with U|U
  ·exact ab8 U
  ·exact bu rfl (S.ap4 _ (PySem.mem_of_lookup U))
 ·exact Oc (x.above y c (PySem.mem_of_lookup h))
 ·have hi:i<vs.length:=by
   unfold start at h2
   by_cases hi:i<vs.length
   ·exact hi
   ·rw[EO (by simpa using hi)]at h2;rw[List.getElem?_replicate]at h2;split at h2 <;> cases h2
  have ha:vs[i]?=ai v:=by
   unfold start at h2;rw[mM (by simpa using hi),lC]at h2;cases e:vs[i]? with
   |none=>rw[e]at h2;cases h2
   |some a=>rw[e]at h2;cases h2;rfl
  obtain⟨u,o,C⟩:=r.get ha;have d:ps[i]?=ai y:=by
   rw[<-S.pre,List.getElem?_take_of_lt (by omega)];exact h1
  have B:ps.Nodup:=by rw[<-S.pre];exact S.nd.sublist (List.take_sublist _ _)
  refine⟨u,C,?_⟩
  rcases S.par y (kF d)with k|k
  ·exact .inl ⟨k,acD B d o k⟩
  ·obtain⟨c,e⟩:=ab8 (n:=s.heap.objs.size+1) k;refine .inr ⟨.inl k,c,e,?_⟩;have q:=x.cell y c e;rw[acF B d o (by show scope.names.lookup y≠_;rw[k];decide)]at q;exact q
 ·exact j.aL.fresh (Oc (x.above y c (PySem.mem_of_lookup h)))
 ·unfold start;show _=N.length;rw[vE,lB,List.length_replicate];omega
theorem VQ{CX:qT}{P:bf}{w:bo}{K:bg}{mg:a5->ar ao}{base:bx}{k:ay}{f:au}{name qual:a5}{params:cz}{body:aj bt}{scope:b9}{i kV doc g z ct B:ao}{l od:ar au}
  {G:bq (ar ao)} {N ps:aj a5} {sp:Sp} (C:K.lookup f=ai ⟨B,od,.func (dw name qual params body scope i kV doc g l z ct),G⟩) (F:codeIn K z qual=ax) (S:cM N ps scope)
  (len:∀vs H Q E,sp vs H Q E->vs.length=ps.length)
  (D:∀(A:br) (outer:aj Env) (s:aw) (H:Hp) (vs:aj V) (Q:VK) (E:XK),cZ k (A.deeper (cv qual scope s.heap.objs.size f z))->sp vs H Q E ->
   ∃t,sI (tM CX P w K mg base N qual scope f z A outer s H E) body t/\t {nx:=λ_ H'=>Q .dE H',rt:=Q} (start N vs) H) :
  iQ P w K mg base CX (k+1) f (dw name qual params body scope i kV doc g l z ct) ps sp:=by
 refine⟨len,λA outer s H args p vs Q E hr a hb r h=>?_⟩;have hl:=len _ _ _ _ h;have m:K.In s.heap:=a.mod.tG.keeps λb o e=>(a.bs b o e).1;have lim:s.heap.NoLimit:=a.mod.nolimit.keeps λb o e=>(a.bs b o e).1;have T:∀y∈ps.zip p,scope.names.lookup y.1=ai .local\/(scope.names.lookup y.1=ai .cell/\((cellsFrom (s.heap.objs.size+1) scope.names []).lookup y.1).isSome=ax):=λ⟨n,v⟩ L=>by
  rcases S.par n (Om L).1 with q|q
  ·exact .inl q
  ·exact .inr ⟨q,cellsFrom_some _ _ _ (.inl q)⟩
 refine codeAny_call_function hr.depth (m _ _ C) rfl S.co S.gen rfl (PySem.W.codeRec_of m F) (hb _ _ _ _ ?_);refine wpAny_newFunctionEnv_cells S.kind T λenv he d x=>?_;subst he;refine⟨lim.keeps x.toInCall.keep,codeAny_func ?_⟩;obtain⟨t,M,R⟩:=D A outer s H vs Q E (hr.deeper _) h;have I:Inv (tM CX P w K mg base N qual scope f z A outer s H E) [] (start N vs) H d:=Yi S hr.hd a hl r x;refine pV (M [] d (start N vs) H _ I R) (λfl s' U=>?_) λe s' U=>U;have fin:∀{j:St} {H':Hp} {v:V} {u:ao},Inv (tM CX P w K mg base N qual scope f z A outer s H E) [] j H' s'->RelV v u->Q v H'->CE outer P w H s Q u s' :=
  λ{j H' v u} σ c q=>⟨v,H',σ.os,σ.bare,σ.base,σ.aL,c,q⟩
 cases fl with
 |ret u =>
  obtain⟨v,j,H',σ,c,q⟩:=U;exact fin σ c q
 |next =>
  obtain⟨j,H',σ,q⟩:=U;exact fin (v:=V.dE) (u:=Value.none) σ rfl q
 |brk =>
  obtain⟨_,_,_,q⟩:=U;exact False.elim q
 |cont =>
  obtain⟨_,_,_,q⟩:=U;exact False.elim q
section
variable{X:Cx}{x:a5}{p pos:cx}{e:bp}{es:aj bp}{t:TA}{id T:cy}{r:aj V->Hp->VK->Prop}
def Bd(r:aj V->Hp->VK->Prop)(t:TA):TE:=λJ H Q=>t J H λvs H1=>r vs H1 Q
theorem Ew(c:pS X (.builtin id) r)(b:Gl X x)(hm:X.mg x=ak)(hv:c2 x=ai (.builtin id))(ha:PA X (e::es) t)(hn:x≠"__name__":=by decide)(d:(x==("__debug__" : a5))=aq:=by decide)
  (he:ba (e::es) X.env=(aq,bz e X.env)::ba es X.env:=by rfl) (f:(cg pos (ba es X.env)).any (·.1)=aq:=by rfl):PE X (.Call (.Name x p) (e::es) [] pos) (Bd r t):=by
 intro aa s J H Q I h;refine tV (AE I b hm hv ?_ hn d);exact PyProof.Rows.callWith_builtin1 (bT (ha pos aa s J H _ I h) λq z ⟨j,i,g,U,a⟩=>c aa z J i j q Q g U a) he f
theorem Vx(c:pS X (.type T) r)(b:Gl X x)(hm:X.mg x=ak)(hv:c2 x=ai (.type T))(ha:PA X (e::es) t)(hn:x≠"__name__":=by decide)(d:(x==("__debug__" : a5))=aq:=by decide)
  (he:ba (e::es) X.env=(aq,bz e X.env)::ba es X.env:=by rfl) (f:(cg pos (ba es X.env)).any (·.1)=aq:=by rfl):PE X (.Call (.Name x p) (e::es) [] pos) (Bd r t):=by
 intro aa s J H Q I h;refine tV (AE I b hm hv ?_ hn d);exact PY (bT (ha pos aa s J H _ I h) λq z ⟨j,i,g,U,a⟩=>c aa z J i j q Q g U a) he f
end
end L2
namespace HT
open PySem PyProof.Rows
section
variable{prog:bf}{w:bo}{A:br}{E:ao->aw->Prop}{s:aw}
theorem aCJ{t b:au}{vs j:aj ao}{Q:ao->aw->Prop}(h:IsTup s.heap t vs.toArray)(hb:IsTup s.heap b j.toArray)(hv:vs≠[])
  (h1:j=[]->Q (.ref t) s) (h2:j≠[]->Q (.ref s.heap.objs.size) {s with heap:=s.heap.push {cls:=.type "tuple",data:=.seq (vs++j).toArray} })
  (hsz:vs.length+j.length<=az):wpAny (bj prog w) A (cn .Add (.ref t) (.ref b)) Q E s:=by
 obtain⟨⟨cls,f,data,sl⟩,U,d,n,hd⟩:=id h;obtain⟨⟨i,q,data2,g⟩,z,a,c,hd2⟩:=id hb;simp only at d hd a hd2;subst d hd a hd2;have e:vs.toArray++j.toArray=(vs++j).toArray:=by simp
 by_cases hw:j=[]
 ·exact concat_meets ⟨_,U,rfl⟩ ⟨_,z,rfl⟩ noFill_tuple_add seq_tuple_add PySem.F.slot_tuple_add PySem.F.entry_tuple_add (PySem.F.args_tuple_add_2 _ _)
   (tuple_addW1 t b vs.toArray j.toArray n c f q sl g (by simpa using hv) (by simp[hw])) ⟨U,z,h1 hw⟩
 ·refine concat_meets ⟨_,U,rfl⟩ ⟨_,z,rfl⟩ noFill_tuple_add seq_tuple_add PySem.F.slot_tuple_add PySem.F.entry_tuple_add (PySem.F.args_tuple_add_2 _ _)
   (tuple_addW2 t b vs.toArray j.toArray n c f q sl g (by simpa using hv) (by simpa using hw) (by rw[jB,jB];exact hsz)) ⟨U,z,?_⟩
  rw[e];exact h2 hw
noncomputable def dU(n d:ay):ar av->ay
 |none=>d
 |some v=>if v<0 then(v+(n:av)).toNat else min v.toNat n
theorem akT(n d:ay):dU n d ak=d:=rfl
theorem Eb(n d k:ay):dU n d (ai (k:av))=min k n:=by
 show(if(k:av)<0 then((k:av)+(n:av)).toNat else min (k:av).toNat n)=min k n;rw[bb (by omega),EV]
theorem akU(n d:ay)(hd:d<=n)(o:ar av):dU n d o<=n:=by
 cases o with
 |none=>exact hd
 |some v =>
  show(if v<0 then(v+(n:av)).toNat else min v.toNat n)<=n
  by_cases hv:v<0
  ·rw[a8 hv];omega
  ·rw[bb hv];exact Nat.min_le_right _ _
theorem abZ(v:av)(n d:ay):(if v<0 then max (v+(n:av)) 0 else min v (n:av))=((dU n d (ai v):ay):av):=by
 show(if v<0 then max (v+(n:av)) 0 else min v (n:av))=(((if v<0 then(v+(n:av)).toNat else min v.toNat n):ay):av)
 by_cases hv:v<0
 ·simp only[a8 hv];omega
 ·simp only[bb hv];omega
theorem aDU(lo hi:ar av)(n:ay):Builtin.Slice.sliceAdjust lo hi 1 (n:av)=(((dU n 0 lo:ay):av),((dU n n hi:ay):av)):=by
 have h1:¬((1:av)<0):=by omega
 unfold Builtin.Slice.sliceAdjust;simp only[h1,rV];refine Prod.ext ?_ ?_
 ·cases lo with
  |none=>rfl
  |some v=>exact abZ v n 0
 ·cases hi with
  |none=>rfl
  |some v=>exact abZ v n n
theorem am3(i j:ay):Builtin.Slice.slicePlaces (i:av) (j:av) 1=j-i:=by
 unfold Builtin.Slice.slicePlaces;have h1:(1:av)>0:=by omega
 simp only[h1,kS,Int.ediv_one];split <;> omega
theorem Uc{v:ao}{o:ar av}{Q:ar av->aw->Prop}(p:IsPart v o)(h:Q o s):wpAny (bj prog w) A (Builtin.Slice.slicePartIndex v) Q E s:=by
 cases p with
 |none=>exact slicePart_none h
 |int i t=>exact slicePart_int h
theorem aiA{sl:au}{q j:ao}{lo hi:ar av}{n:ay}{Q:av×av×ay->aw->Prop}(b:s.heap.IsSliceOf sl q j .none)(pl:IsPart q lo)(a:IsPart j hi)
  (h:Q (((dU n 0 lo:ay):av),1,dU n n hi-dU n 0 lo) s):wpAny (bj prog w) A (Builtin.Slice.sliceApplied (.ref sl) (pure (n:av))) Q E s:=by
 obtain⟨os,U,c,z⟩:=id b;unfold Builtin.Slice.sliceApplied Builtin.Slice.sliceFields;refine aM (aM (BX U z (x:=q) rfl (aM (BX U z (x:=j) rfl (aM (BX U z (x:=.none) rfl (bS ?_)))))));refine aM (slicePart_none ?_);show wpAny _ _ (if((1:av)==0)=ax then _ else _) _ _ s;rw[bb (by decide)];refine aM (Uc pl (aM (Uc a (aM (bS ?_)))));show wpAny _ _ (match Builtin.Slice.sliceAdjust lo hi 1 (n:av)with|(lo,hi)=>pure (lo,(1:av),Builtin.Slice.slicePlaces lo hi 1)) _ _ s;rw[aDU lo hi n];show wpAny _ _ (pure (((dU n 0 lo:ay):av),(1:av),Builtin.Slice.slicePlaces ((dU n 0 lo:ay):av) ((dU n n hi:ay):av) 1)) _ _ s;rw[am3];exact bS h
theorem am8(xs:bq ao)(i k:ay):((List.range k).filterMap λ(m:ay)=>xs[((i:av)+(m:av)*1).toNat]?).toArray=((xs.toList.drop i).take k).toArray:=by
 have e:(λ(m:ay)=>xs[((i:av)+(m:av)*1).toNat]?)=λm=>xs[i+m]?:=by
  funext m;have:((i:av)+(m:av)*1).toNat=i+m:=by omega
  rw[this]
 rw[e];have:=pick_run xs i k;rw[aeP]at this;have j:((λx=>xs[x]?) ∘ λx=>i+x)=λm=>xs[i+m]?:=rfl;rw[j]at this;rw[this]
theorem ax4{t sl:au}{items:bq ao}{a U:ao}{lo hi:ar av}{Q:ao->aw->Prop}(j:IsTup s.heap t items)(b:s.heap.IsSliceOf sl a U .none)(pl:IsPart a lo)(d:IsPart U hi)
  (hw:¬(dU items.size 0 lo=0/\dU items.size items.size hi=items.size))
  (h:Q (.ref s.heap.objs.size) {s with heap:=s.heap.push {cls:=.type "tuple",data:=.seq ((items.toList.drop (dU items.size 0 lo)).take (dU items.size items.size hi-dU items.size 0 lo)).toArray} })
  (hsz:items.size<=az):wpAny (bj prog w) A (getItem (.ref t) (.ref sl)) Q E s:=by
 have z:sizeOk (.seq ((items.toList.drop (dU items.size 0 lo)).take (dU items.size items.size hi-dU items.size 0 lo)).toArray):=by
  show((items.toList.drop (dU items.size 0 lo)).take (dU items.size items.size hi-dU items.size 0 lo)).toArray.size<=az;rw[jB,List.length_take,List.length_drop,tT];omega
 have n:dU items.size items.size hi<=items.size:=akU _ _ dD hi;obtain⟨os,e,f,l⟩:=id b;have g:s.TypeIs (.ref sl) "slice":=⟨os,e,f⟩;unfold getItem
 try with_reducible refine vK ?_
 first|refine aM (bS ?_)|skip
 refine aM (wpAny_sequenceKey j.typeIs (by decide) ?_);refine aM (FE (name:=Str.ofString "__getitem__") j.typeIs adZ
  (tU adZ j.typeIs entry_tuple_getitem ?_ (args_tuple_getitem _ _)))
 show wpAny _ _ (Builtin.Tuple.tupleItemsOf (.ref t) >>= _) _ _ s;refine aM (tupleItemsOf_ j ?_);refine aM (wpAny_typeOf g ?_);rw[a8 (by decide)];refine aM (aiA b pl d ?_);have c:¬((((dU items.size 0 lo:ay):av)==0&&(1:av)==1&&(dU items.size items.size hi-dU items.size 0 lo)==items.size)=ax):=by
  intro q;rw[nN,nN]at q;have k:((dU items.size 0 lo:ay):av)=0:=eq_of_beq q.1.1;have i:dU items.size items.size hi-dU items.size 0 lo=items.size:=eq_of_beq q.2;exact hw ⟨by omega,by omega⟩
 show wpAny _ _ (if(((dU items.size 0 lo:ay):av)==0&&(1:av)==1&&(dU items.size items.size hi-dU items.size 0 lo)==items.size)=ax then _ else _) _ _ s;rw[bb c,am8]
 first
  |exact aM (m:=Builtin.Tuple.tupleExact _) (pU (bS ⟨_,rfl,bS h⟩) z)
  |exact aM (m:=Builtin.Tuple.tupleExact _) (pU (aM (bS (bS ⟨_,rfl,bS h⟩))) z)
  |exact aM (aM (m:=Builtin.Tuple.tupleExact _) (pU (bS (bS ⟨_,rfl,bS h⟩)) z))
  |exact aM (aM (m:=Builtin.Tuple.tupleExact _) (pU (bS ⟨_,rfl,bS h⟩) z))
end
end HT
namespace L2
open PySem PySem.Spec PyProof.Rows
abbrev TO:=St->Hp->(ar av->Hp->Prop)->Prop
def PO(X:Cx)(e:ar bp)(t:TO):Prop :=
 ∀(aa:aj (au×cq)) (s:aw) (J:St) (H:Hp) (Q:ar av->Hp->Prop),Inv X aa J H s->t J H Q ->
  wpAny (bj X.prog X.w) X.A (evalPart e X.env) (λu s'=>∃o H',Inv X aa J H' s'/\IsPart u o/\Q o H') X.xe s
def ahL:TO:=λ_ H Q=>Q ak H
def ahH(t:TE):TO:=λJ H Q=>t J H λx H1=>∃i,x=.int i/\Q (ai i) H1
theorem intsAre_of{ns:aj av}:∀{us:aj ao},Vals (ns.map V.int) us->c4 us ns:=by
 induction ns with
 |nil=>intro us r;rw[rJ]at r;cases r;exact .nil
 |cons n ns ih =>
  intro us r;rw[cV]at r;cases r with
  |cons q j =>
   obtain⟨t,e⟩:=q;subst e;exact .cons n t (ih j)
section
variable{X:Cx}{e:bp}{te:TE}{lo hi:ar bp}{tl th:TO}{pos p2:cx}
theorem amZ:PO X ak ahL:=by
 intro aa s J H Q I h;rw[evalPart_none];exact bS ⟨ak,H,I,.none,h⟩
theorem amY(h:PE X e te):PO X (ai e) (ahH te):=by
 intro aa s J H Q I hw;rw[evalPart_some];refine bT (h aa s J H _ I hw) λu b ⟨x,a,U,j,z⟩=>?_;obtain⟨i,rfl,q⟩:=z;obtain⟨t,rfl⟩:=j;exact⟨ai i,a,U,.int i t,q⟩
def EH(X:Cx)(r:V->ar av->ar av->Hp->VK->Prop):Prop :=
 ∀(aa:aj (au×cq)) (s:aw) (J:St) (H:Hp) (x:V) (v q j:ao) (lo hi:ar av) (sl:au) (Q:VK),Inv X aa J H s->RelV x v->s.heap.IsSliceOf sl q j .none->IsPart q lo->IsPart j hi->r x lo hi H Q ->
  ∃T id,typeLookup (.type T) "__getitem__" = pure (ai (.builtin id))/\s.TypeIs v T/\wpAny (bj X.prog X.w) X.A (getItem v (.ref sl)) (EP X aa J Q) X.xe s
theorem EH.or{r a:V->ar av->ar av->Hp->VK->Prop}(h:EH X r)(h':EH X a):EH X (λx lo hi H Q=>r x lo hi H Q\/a x lo hi H Q):=by
 intro aa s J H x v z j lo hi sl Q I U b pl pu q
 rcases q with q|q
 ·exact h aa s J H x v z j lo hi sl Q I U b pl pu q
 ·exact h' aa s J H x v z j lo hi sl Q I U b pl pu q
def tSl(r:V->ar av->ar av->Hp->VK->Prop)(te:TE)(tl th:TO):TE:=λJ H Q=>te J H λx H1=>tl J H1 λl H2=>th J H2 λu j=>r x l u j Q
theorem anL{r:V->ar av->ar av->Hp->VK->Prop}(hr:EH X r)(he:PE X e te)(hl:PO X lo tl)(n:PO X hi th):PE X (.Subscript e (.Slice lo hi ak p2) pos) (tSl r te tl th):=by
 intro aa s J H Q I h;refine Subscript_ (bT (he aa s J H _ I h) λv d ⟨x,E,C,f,k⟩=>?_);refine wpAny_Slice (bT (hl aa d J E _ C k) λU c ⟨l,D,B,pl,i⟩=>bT (n aa c J D _ B i) λz j ⟨u,a,y,m,g⟩=>?_);rw[evalPart_none];refine bS ?_;have t:Inv X aa J a {j with heap:=j.heap.push {cls:=.type "slice",data:=.fields #[U,z,.none]} }:=y.kept (t':=j.toks) λb F q=>eN _ q;obtain⟨T,id,hT,o,p⟩:=hr aa {j with heap:=j.heap.push {cls:=.type "slice",data:=.fields #[U,z,.none]} } J a x v U z l u j.heap.objs.size Q t f (Heap.IsSliceOf.new ..) pl m g;show wpAny (bj X.prog X.w) X.A (subscriptTail e (.Slice lo hi ak p2) v (.ref j.heap.objs.size)) (EP X aa J Q) X.xe {j with heap:=j.heap.push {cls:=.type "slice",data:=.fields #[U,z,.none]} };exact tail_any (ops:=[.ref j.heap.objs.size,v]) o hT p (by with_unfolding_all rfl)
def BD(xs:aj V)(lo hi:ar av):aj V:=(xs.drop (HT.dU xs.length 0 lo)).take (HT.dU xs.length xs.length hi-HT.dU xs.length 0 lo)
theorem abV(xs:aj V)(lo hi:ar av):(BD xs lo hi).length<=xs.length:=by
 unfold BD;rw[List.length_take,List.length_drop];omega
def alC(K:bg):V->ar av->ar av->Hp->VK->Prop:=λx lo hi H Q=>∃a xs,x=.ref a/\jK K H a xs /\
 ¬(HT.dU xs.length 0 lo=0/\HT.dU xs.length xs.length hi=xs.length)/\∀p,H p=ak->Q (.ref p) (upd H p (.tup (BD xs lo hi)))
theorem aiF:EH X (alC X.K):=by
 intro aa s J H x v k i lo hi sl Q I c f pl d h;obtain⟨a,j,rfl,e,hw,q⟩:=h;cases c;obtain⟨g,r,U,z⟩:=I.tuple e;have hlen:g.toArray.size=j.length:=by rw[jB];exact r.length.symm
 refine⟨"tuple",_,adZ.lookup,U.typeIs,?_⟩;refine HT.ax4 U f pl d (by rw[hlen];exact hw) ?_ (by rw[hlen];exact z);rw[hlen];refine⟨.ref s.heap.objs.size,_,I.laid (t':=s.toks) (o:=.tup (BD j lo hi)) (λb l q=>eN _ q) dD ?_,rfl,q _ (I.aL.fresh dD)⟩;exact⟨oW (abV j lo hi) z,_,(r.drop (HT.dU j.length 0 lo)).take (HT.dU j.length j.length hi-HT.dU j.length 0 lo),IsTup.new _ _⟩
def alH(K:bg):R2:=λx y H Q=>∃a b xs ys,x=.ref a/\y=.ref b/\jK K H a xs/\jK K H b ys/\xs≠[]/\xs.length+ys.length<=az /\
 (ys=[]->Q (.ref a) H)/\(ys≠[]->∀p,H p=ak->Q (.ref p) (upd H p (.tup (xs++ys))))
theorem Vals.Fo{xs:aj V}{us:aj ao}(r:Vals xs us):us=[]<->xs=[]:=by
 cases r with
 |nil=>simp
 |cons _ _=>simp
theorem ao4:hJ X (cn .Add) (alH X.K):=by
 intro aa s J H x y v u Q I g f h;obtain⟨a,b,e,d,rfl,rfl,ha,hb,n,c,k,i⟩:=h;cases g;cases f;obtain⟨r,U,m,_⟩:=I.tuple ha;obtain⟨t,j,l,_⟩:=I.tuple hb;refine HT.aCJ m l (λz=>n (U.Fo.mp z)) (λz=>⟨.ref a,H,I,rfl,k (j.Fo.mp z)⟩) (λz=>?_) (by rw[<-U.length,<-j.length];exact c);refine⟨.ref s.heap.objs.size,_,I.laid (t':=s.toks) (o:=.tup (e++d)) (λb p q=>eN _ q) dD ?_,rfl,i (λw=>z (j.Fo.mpr w)) _ (I.aL.fresh dD)⟩;exact⟨by rw[vE];exact c,_,U.append j,IsTup.new _ _⟩
end
noncomputable def pJ(n:ay)(i:av):ar ay:=if 0<=i then(if i<n then ai i.toNat else ak)else if -(n:av)<=i then ai (i+n).toNat else ak
def eU{α:Type}(xs:aj α)(i:av):ar α:=(pJ xs.length i).bind λj=>xs[j]?
theorem Yd{n:ay}{i:av}{j:ay}(h:pJ n i=ai j):seqIndex? i n=ai j/\j<n/\-(n:av)<=i/\i<n:=by
 unfold pJ at h
 by_cases q:0<=i
 ·rw[a8 q]at h
  by_cases h1:i<n
  ·rw[a8 h1]at h;have e:i.toNat=j:=kK h;exact⟨by rw[seqIndex_of q h1,e],by omega,by omega,h1⟩
  ·rw[bb h1]at h;cases h
 ·rw[bb q]at h
  by_cases h1 : -(n:av)<=i
  ·rw[a8 h1]at h;have e:(i+n).toNat=j:=kK h;exact⟨by rw[seqIndex_neg (by omega) h1,e],by omega,h1,by omega⟩
  ·rw[bb h1]at h;cases h
theorem Mx{α:Type}{xs:aj α}{i:av}{v:α}(h:eU xs i=ai v):∃j,seqIndex? i xs.length=ai j/\xs[j]?=ai v/\j<xs.length/\-(xs.length:av)<=i/\i<xs.length:=by
 unfold eU at h;cases e:pJ xs.length i with
 |none=>rw[e]at h;cases h
 |some j =>
  rw[e]at h;obtain⟨h1,h2,z,q⟩:=Yd e;exact⟨j,h1,h,h2,z,q⟩
theorem aDH{α:Type}(xs:aj α)(v:α):eU (xs++[v]) (-1)=ai v:=by
 have hl:(xs++[v]).length=xs.length+1:=by simp
 have e:pJ (xs++[v]).length (-1)=ai xs.length:=by
  unfold pJ;rw[hl,bb (by decide),a8 (by omega)];congr 1;omega
 unfold eU;rw[e];show(xs++[v])[xs.length]?=ai v;simp
def ad1(b:bp):Prop:=∀o i,subscripted b aq o i=operate [o,i] (getItem o i)
def zC(X:Cx)(r:R2):Prop :=
 ∀(value slice:bp) (aa:aj (au×cq)) (s:aw) (J:St) (H:Hp) (x y:V) (v u:ao) (Q:VK),Inv X aa J H s->RelV x v->RelV y u->r x y H Q ->
  subscripted slice aq v u=operate [v,u] (getItem v u)->wpAny (bj X.prog X.w) X.A (subscriptTail value slice v u) (EP X aa J Q) X.xe s
def MtR(X:Cx)(id:cy)(r:V->aj V->Hp->VK->Prop):Prop :=
 ∀(aa:aj (au×cq)) (s:aw) (J:St) (H:Hp) (x:V) (xs:aj V) (v:ao) (us:aj ao) (Q:VK),Inv X aa J H s->RelV x v->Vals xs us->r x xs H Q ->
  wpAny (bj X.prog X.w) X.A (call (.builtin id) (v::us)) (EP X aa J Q) X.xe s
section
variable{X:Cx}{a b:bp}{ta tb:TE}{pos:cx}
theorem zC.or{r U:R2}(h:zC X r)(h':zC X U):zC X (λx y H Q=>r x y H Q\/U x y H Q):=by
 intro value slice aa s J H x y v u Q I z j q a
 rcases q with q|q
 ·exact h value slice aa s J H x y v u Q I z j q a
 ·exact h' value slice aa s J H x y v u Q I z j q a
theorem anY{r:R2}(hr:zC X r)(ha:PE X a ta)(hb:PE X b tb)(c:ad1 b):PE X (.Subscript a b pos) (LD r ta tb):=by
 intro aa s J H Q I h;exact Subscript_ (Ks ha hb I h λv u j x y e d U z q=>hr a b aa j J e x y v u Q d U z q (c _ _))
def Uu(K:bg):R2:=λx y H Q=>∃p xs i v,x=.ref p/\y=.int i/\fE K H p xs/\eU xs i=ai v/\Q v H
def Us(K:bg):R2:=λx y H Q=>∃p xs i v,x=.ref p/\y=.int i/\jK K H p xs/\eU xs i=ai v/\Q v H
def Ut:R2:=λx y H Q=>∃z i c,x=.str z/\y=.int i/\z.length<=az/\eU z.cps.toList i=ai c/\Q (.str ⟨#[c]⟩) H
theorem asK:zC X (Uu X.K):=by
 intro value slice aa s J H x y v u Q I e d h a;obtain⟨p,n,i,z,rfl,rfl,g,he,q⟩:=h;cases e;obtain⟨t,rfl⟩:=d;obtain⟨m,r,pl,o⟩:=I.list g;obtain⟨j,h1,h2,A,l,k⟩:=Mx he;obtain⟨w,c,f⟩:=r.get h2;have hl:=r.length;have hn:=MK;have fin:EP X aa J Q w s:=⟨z,H,I,f,q⟩
 by_cases b:0<=i
 ·have U:i.toNat=j:=by
   rw[seqIndex_of b k]at h1;exact kK h1
  exact item_listR pl.isList b (by omega) (by rw[U];simpa using c) fin a
 ·have U:(i+(m.toArray.size:av)).toNat=j:=by
   rw[seqIndex_neg (by omega) l]at h1;rw[jB,<-hl];exact kK h1
  exact subscriptTail_builtinR (x:=w) pl.isList.typeIs slot_list_getitem.lookup
   (wpAny_getItem_list_neg (Q:=λr s'=>r=w/\EP X aa J Q r s') pl.isList (by omega) (by rw[jB] <;> omega) (by omega) (by rw[U];simpa using c) ⟨rfl,fin⟩) a
theorem asH:zC X (Us X.K):=by
 intro value slice aa s J H x y v u Q I a U h c;obtain⟨p,f,i,z,rfl,rfl,d,he,q⟩:=h;cases a;obtain⟨t,rfl⟩:=U;obtain⟨n,r,pl,g⟩:=I.tuple d;obtain⟨j,h1,h2,m,l,k⟩:=Mx he;obtain⟨w,e,b⟩:=r.get h2;have hl:=r.length;have hn:=MK;have fin:EP X aa J Q w s:=⟨z,H,I,b,q⟩;exact subscriptTail_builtinR (x:=w) pl.typeIs slot_tuple_getitem.lookup
  (getItem_tuple (j:=j) (Q:=λr s'=>r=w/\EP X aa J Q r s') pl (by omega) (by omega) (by rw[jB,<-hl];exact h1) (by simpa using e) ⟨rfl,fin⟩) c
theorem asI:zC X Ut:=by
 intro value slice aa s J H x y v u Q I a U h b;obtain⟨z,i,c,rfl,rfl,l,he,q⟩:=h;obtain⟨t,rfl⟩:=a;obtain⟨k,rfl⟩:=U;obtain⟨j,h1,h2,m,e,d⟩:=Mx he;have hl:z.cps.toList.length=z.length:=by simp[Str.length]
 rw[hl]at h1 e d;have hn:=MK;exact tail_any (typeIs_str s z t) slot_str_getitem.lookup (getItem_str (c:=c) (by
  have g:decide (i < -(2 ^ 63:av))=aq:=oR (by omega);have f:decide (i>=2 ^ 63)=aq:=oR (by omega);rw[g,f,Bool.or_false]) (by rw[h1];simpa using h2) ⟨.str ⟨#[c]⟩,H,I.tok _,⟨_,rfl⟩,q⟩) b
def rIx(K:bg):R2:=λx y H Q=>Uu K x y H Q\/Us K x y H Q\/Ut x y H Q
theorem asJ:zC X (rIx X.K):=asK.or (asH.or asI)
theorem aqZ(q:aj ao)(n j:ay)(u:ao):Obj.mapSeq (·.setIfInBounds j u) {cls:=.type "list",data:=.seq q.toArray n}={cls:=.type "list",data:=.seq (q.set j u).toArray n}:=by
 simp[Obj.mapSeq]
theorem Inv.lst{aa:aj (au×cq)}{J:St}{H:Hp}{s:aw}{p:au}{xs:aj V}(I:Inv X aa J H s)(h:H p=ai (.lst xs)) :
  ∃(j:aj ao) (n:ay),Vals xs j/\s.heap.get? p=ai {cls:=.type "list",data:=.seq j.toArray n}/\xs.length<=az:=by
 obtain⟨z,j,n,r,e⟩:=I.aL p _ h;exact⟨j,n,r,e,z⟩
theorem Inv.aq7{aa:aj (au×cq)}{J:St}{H:Hp}{s:aw}{p:au}{xs ys:aj V}{z its':aj ao}{n j:ay}{f:cq->cq}(I:Inv X aa J H s)(h:H p=ai (.lst xs))
  (U:s.heap.get? p=ai {cls:=.type "list",data:=.seq z.toArray n}) (hf:f {cls:=.type "list",data:=.seq z.toArray n}={cls:=.type "list",data:=.seq its'.toArray j}) (r:Vals ys its') (hz:ys.length<=az) (t:ay) :
  Inv X aa J (upd H p (.lst ys)) {s with heap:=s.heap.update p f,toks:=t}:=by
 have e:(s.heap.update p f).get? p=ai {cls:=.type "list",data:=.seq its'.toArray j}:=by
  rw[QJ f U (by rw[hf] <;> rfl),hf]
 refine I.write (x:=p) (e:=p) (by rw[h];trivial) (.inl rfl) (λb u hb q=>(sP _ _ (eM hb)).trans q) ⟨_,e⟩ ?_;exact⟨hz,its',j,r,e⟩
def alE:V->V->V->Hp->(Hp->Prop)->Prop:=λo i v H Q=>∃p xs k j,o=.ref p/\i=.int k/\H p=ai (.lst xs)/\pJ xs.length k=ai j/\Q (upd H p (.lst (xs.set j v)))
theorem set_list:ad2 X alE:=by
 intro aa s J H o i v A B u Q I m w l h;obtain⟨p,g,k,j,rfl,rfl,a,y,q⟩:=h;cases m;obtain⟨t,rfl⟩:=w;obtain⟨e,n,r,z,x⟩:=I.lst a;obtain⟨h1,h2,c,b⟩:=Yd y;have hl:=r.length;have hn:=MK;have f:Inv X aa J (upd H p (.lst (g.set j v))) {s with heap:=s.heap.update p (Obj.mapSeq (·.setIfInBounds j u))} :=
  I.aq7 a z (aqZ e n j u) (r.set l j) (by rw[JC];exact x) s.toks
 by_cases d:0<=k
 ·have U:k.toNat=j:=by
   rw[seqIndex_of d b]at h1;exact kK h1
  exact PySem.W.ki_setAt z d (by omega) (by rw[jB,<-hl];exact b) (by rw[U];exact⟨_,f,q⟩)
 ·have U:(k+(e.toArray.size:av)).toNat=j:=by
   rw[seqIndex_neg (by omega) c]at h1;rw[jB,<-hl];exact kK h1
  exact PySem.W.ki_setBack z (by omega) (by rw[jB,<-hl];exact c) (by omega) (by rw[U];exact⟨_,f,q⟩)
theorem ah8(lo hi:ar av)(n:ay):(d8 lo hi ak n).1=((HT.dU n 0 lo:ay):av)/\(d8 lo hi ak n).2.1=((HT.dU n n hi:ay):av)/\(d8 lo hi ak n).2.2=1:=by
 refine⟨?_,?_,rfl⟩
 ·cases lo with
  |none=>simp[d8,HT.dU]
  |some i =>
   simp only[d8,HT.dU,Option.getD_none,show(1:av)>0 by decide,kS]
   by_cases h:i<0
   ·simp only[h,kS] <;> omega
   ·simp only[h,rV] <;> omega
 ·cases hi with
  |none=>simp[d8,HT.dU]
  |some i =>
   simp only[d8,HT.dU,Option.getD_none,show(1:av)>0 by decide,kS]
   by_cases h:i<0
   ·simp only[h,kS] <;> omega
   ·simp only[h,rV] <;> omega
theorem ah9(j:aj ao)(lo hi:ar av):slicePick j.toArray lo hi ak=((j.drop (HT.dU j.length 0 lo)).take (HT.dU j.length j.length hi-HT.dU j.length 0 lo)).toArray:=by
 obtain⟨h1,h2,q⟩:=ah8 lo hi j.toArray.size;unfold slicePick;rw[h1,h2,q];simp only[sliceRange_one,pick_run,jB] <;> rfl
def alD(K:bg):V->ar av->ar av->Hp->VK->Prop:=λx lo hi H Q=>∃a xs,x=.ref a/\fE K H a xs/\∀p,H p=ak->Q (.ref p) (upd H p (.lst (BD xs lo hi)))
theorem aiG:EH X (alD X.K):=by
 intro aa s J H x v i g lo hi sl Q I U f pl c h;obtain⟨a,j,rfl,e,q⟩:=h;cases U;obtain⟨l,r,z,d⟩:=I.list e;have hlen:=r.length;refine⟨"list",_,slot_list_getitem.lookup,z.isList.typeIs,?_⟩;refine wpAny_getItem_list_slice z.isList f pl c .none (by simp) ?_ (by rw[jB] <;> omega);rw[ah9,<-hlen];refine⟨.ref s.heap.objs.size,_,I.laid (t':=s.toks) (o:=.lst (BD j lo hi)) (λb k q=>eN _ q) dD ?_,rfl,q _ (I.aL.fresh dD)⟩;exact⟨oW (abV j lo hi) d,_,0,(r.drop (HT.dU j.length 0 lo)).take (HT.dU j.length j.length hi-HT.dU j.length 0 lo),hU _ rfl⟩
theorem aCU:pS X (.builtin "len") (λxs H Q=>∃p ys,xs=[.ref p]/\(fE X.K H p ys\/jK X.K H p ys)/\Q (.int ys.length) H):=by
 intro aa s J H xs c Q I r h;obtain⟨p,ys,rfl,j,q⟩:=h;obtain⟨u,rfl,U⟩:=vals1 r;cases U;have hn:=MK
 rcases j with j|j
 ·obtain⟨b,z,pl,a⟩:=I.list j;have hlen:=z.length;exact Calls.call_len_list pl.isList (by simp only[jB] <;> omega) ⟨.int ys.length,H,I.tok _,⟨s.toks+1,by rw[jB,hlen]⟩,q⟩
 ·obtain⟨b,z,pl,a⟩:=I.tuple j;have hlen:=z.length;exact len_tuple pl (by simp only[jB] <;> omega) ⟨.int ys.length,H,I.tok _,⟨s.toks+1,by rw[jB,hlen]⟩,q⟩
theorem aCT:pS X (.type "list") (λxs H Q=>∃p ys,xs=[.ref p]/\(fE X.K H p ys\/jK X.K H p ys)/\∀l,H l=ak->Q (.ref l) (upd H l (.lst ys))):=by
 intro aa s J H xs k Q I r h;obtain⟨p,ys,rfl,c,q⟩:=h;obtain⟨u,rfl,i⟩:=vals1 r;cases i;have fin:∀(j:aj ao),Vals ys j->ys.length<=az->∀(h':bx) (U:ay),(∀b g,s.heap.get? b=ai g->h'.get? b=ai g) ->
   h'.get? s.heap.objs.size=ai {cls:=.type "list",dict:=ak,data:=.seq j.toArray U,slots:=#[]}->EP X aa J Q (.ref s.heap.objs.size) {s with heap:=h' }:=λj z a h' U kp e =>
  ⟨.ref s.heap.objs.size,_,I.laid (t':=s.toks) kp dD (show jA X.prog X.w _ h' _ (.lst ys)from⟨a,j,U,z,e⟩),rfl,q _ (I.aL.fresh dD)⟩
 rcases c with c|c
 ·obtain⟨j,z,pl,a⟩:=I.list c;have hlen:=z.length;obtain⟨o,d,f,n,hd⟩:=pl.isList;exact call_list_seq p (.inl rfl) d f hd (λh' U kp e=>fin j z a h' U kp e) (by simp only[jB] <;> omega)
 ·obtain⟨j,z,pl,a⟩:=I.tuple c;have hlen:=z.length;obtain⟨o,d,f,n,hd⟩:=pl;exact call_list_seq p (.inr rfl) d f hd (λh' U kp e=>fin j z a h' U kp e) (by simp only[jB] <;> omega)
def Ap(K:bg)(T:cy)(x:V)(H:Hp):Prop:=match x with
 |.str _=>T = "str"
 |.int _=>T = "int"
 | .ref p=>(T = "list"/\∃xs,fE K H p xs)\/(T = "tuple"/\∃o,K.lookup p=ai o/\o.cls=.type "tuple"/\o.dict=ak) \/
   (T = "dict"/\((∃kvs,H p=ai (.dK kvs))\/∃kvs,H p=ai (.dT kvs)))\/(T = "set"/\∃S n,H p=ai (.set S n))
 |_=>cb
theorem agG{aa:aj (au×cq)}{J:St}{H:Hp}{s:aw}{T:cy}{x:V}{v:ao}(I:Inv X aa J H s)(r:RelV x v)(ty:Ap X.K T x H) :
  s.TypeIs v T/\∀a,v=.ref a->∃b,s.heap.get? a=ai b/\b.dict=ak:=by
 cases x with
 |str z =>
  obtain⟨t,rfl⟩:=r;cases(show T = "str" from ty);exact⟨typeIs_str s z t,λ_ e=>nomatch e⟩
 |int i =>
  obtain⟨t,rfl⟩:=r;cases(show T = "int" from ty);exact⟨typeIs_int s i t,λ_ e=>nomatch e⟩
 |ref p =>
  cases r
  rcases ty with⟨rfl,g,d⟩|⟨rfl,o,j,f,hd⟩|⟨rfl,j⟩|⟨rfl,S,n,j⟩
  ·obtain⟨h,_,pl,_⟩:=I.list d;refine⟨pl.isList.typeIs,λa e=>?_⟩;cases e;obtain⟨o,n,e,c,hd,_⟩:=pl;exact⟨o,e,hd⟩
  ·refine⟨⟨o,I.gG p o j,f⟩,λa e=>?_⟩;cases e;exact⟨o,I.gG _ o j,hd⟩
  ·have z:∃o,s.heap.get? p=ai o/\o.ExactDict:=by
    rcases j with⟨q,j⟩|⟨q,j⟩
    ·obtain⟨_,_,_,_,o,_,_,e,ex,_⟩:=I.aL p _ j;exact⟨o,e,ex⟩
    ·obtain⟨_,_,_,_,o,_,_,e,ex,_⟩:=I.aL p _ j;exact⟨o,e,ex⟩
   obtain⟨o,e,ex⟩:=z;refine⟨⟨o,e,ex.1⟩,λa U=>?_⟩;cases U;exact⟨o,e,ex.2.1⟩
  ·obtain⟨o,_,_,_,e,ex,_⟩:=I.aL p _ j;refine⟨⟨o,e,ex.1⟩,λa U=>?_⟩;cases U;exact⟨o,e,ex.2.1⟩
 |_=>exact False.elim ty
def tBM(K:bg)(T:cy)(r:V->aj V->Hp->VK->Prop)(to:TE)(t:TA):TE:=λJ H Q=>to J H λx H1=>Ap K T x H1/\t J H1 λxs H2=>r x xs H2 Q
variable{o e:bp}{es:aj bp}{to:TE}{t:TA}{name:a5}{af kX:cx}{T id:cy}{r:V->aj V->Hp->VK->Prop}
theorem aoB(l:PlainAttrs T)(slot:Slot T name id)(y:typeOf (.builtin id)=pure (.type "method_descriptor"))(hm:MtR X id r)(n:PE X o to)(ha:PA X (e::es) t)
  (f:b0 o name X.env (bz o X.env)=bz o X.env:=by rfl)
  (u:((cg kX (ba (e::es) X.env)).all (λx=>!x.1)&&(backToKw kX (c5 [] X.env)).all (λx=>x.1.isSome)
   && decide ((e::es).length+([]:aj Keyword).length+(if([]:aj Keyword).isEmpty then 0 else 1)<30))=ax:=by rfl)
  (g:(af.endLine==kX.line)=ax:=by rfl) (m:ba (e::es) X.env=(aq,bz e X.env)::ba es X.env:=by rfl) (w:(cg kX (ba es X.env)).any (·.1)=aq:=by rfl) :
  PE X (.Call (.Attribute o name af) (e::es) [] kX) (tBM X.K T r to t):=by
 intro aa s J H Q I h;refine wpAny_Call_method_late f u g rfl (bT (n aa s J H _ I h) λv c ⟨x,B,z,j,ty,k⟩=>?_);obtain⟨h1,h2⟩:=agG z j ty;refine⟨T,id,l,slot,y,h1,h2,?_⟩;have q:=ha kX aa c J B _ z k;rw[m]at q ⊢;refine RD (by show(aq||(cg kX (ba es X.env)).any (·.1))=aq;rw[w] <;> rfl) (aeZ ?_);exact bT q λa b ⟨U,A,p,d,i⟩=>hm aa b J A x U v a Q p j d i
end
def MtM(X:Cx)(id:cy)(r:V->aj V->Hp->VK->Prop):Prop :=
 ∀(aa:aj (au×cq)) (s:aw) (J:St) (H:Hp) (x:V) (xs:aj V) (v:ao) (us:aj ao) (Q:VK),Inv X aa J H s->RelV x v->Vals xs us->r x xs H Q ->
  wpAny (bj X.prog X.w) X.A (call (.builtin id) (v::us)) (EP X aa J Q) X.xe s
theorem Vals.one:∀{x:V} {us:aj ao},Vals [x] us->∃u,us=[u]/\RelV x u
 |_,_,.cons r .nil=>⟨_,rfl,r⟩
section
variable{X:Cx}{aa:aj (au×cq)}{J:St}{H:Hp}{s:aw}{l b:au}{xs ys zs:aj V}
theorem Inv.Fz{j its':aj ao}{n:ay}{f:bq ao->bq ao}{t':ay}(I:Inv X aa J H s)(U:H l=ai (.lst xs))
  (e:s.heap.get? l=ai {cls:=.type "list",data:=.seq j.toArray n}) (hf:f j.toArray=its'.toArray) (hv:Vals ys its') (hz:ys.length<=az) :
  Inv X aa J (upd H l (.lst ys)) {s with heap:=s.heap.update l (Obj.mapSeq f),toks:=t' }:=by
 have q:=PySem.IsL.update e f;rw[hf]at q;refine I.write (x:=l) (e:=l) (by rw[U];exact trivial) (.inl rfl) (λa u hb z=>(sP s.heap (Obj.mapSeq f) (eM hb)).trans z) ⟨_,q⟩ ?_;exact⟨hz,its',_,hv,q⟩
theorem Inv.aq9{j:aj ao}{t':ay}(I:Inv X aa J H s)(hv:Vals ys j)(hz:ys.length<=az) :
  Inv X aa J (upd H s.heap.objs.size (.lst ys)) {s with heap:=s.heap.push {cls:=.type "list",data:=.seq j.toArray},toks:=t' } :=
 I.laid (λ_ _ q=>eN _ q) dD ⟨hz,j,0,hv,hU _ rfl⟩
theorem Inv.fresh(I:Inv X aa J H s):H s.heap.objs.size=ak:=I.aL.fresh dD
theorem Inv.GJ(I:Inv X aa J H s)(q:H l=ai (.lst xs)):xs.length<=az/\∃(j:aj ao) (n:ay),Vals xs j/\xs.length=j.length/\s.heap.get? l=ai {cls:=.type "list",data:=.seq j.toArray n}:=by
 obtain⟨z,j,n,r,e⟩:=I.aL l _ q;exact⟨z,j,n,r,r.length,e⟩
theorem ap1{n:ay}(h:n<=az):Builtin.List.listTooLong n=aq:=by
 unfold Builtin.List.listTooLong;exact oR (by omega)
end
section
variable{X:Cx}
def Uy:V->aj V->Hp->VK->Prop:=λx vs H Q=>∃l xs y,x=.ref l/\vs=[y]/\H l=ai (.lst xs)/\xs.length<az/\Q .dE (upd H l (.lst (xs++[y])))
theorem zZ:MtM X "list.append" Uy:=by
 intro aa s J H x f v g Q I a b h;obtain⟨l,d,y,rfl,rfl,j,i,q⟩:=h;cases a;obtain⟨u,rfl,c⟩:=b.one;obtain⟨z,U,n,r,hl,e⟩:=I.GJ j;refine call_meets F.slot_list_append ⟨_,e,rfl⟩ F.entry_list_append (F.args_list_append_2 _ _) (PySem.list_append l U.toArray n u (by rw[jB];omega)) ⟨e,?_⟩;refine⟨.dE,_,I.Fz (its':=U++[u]) j e (by simp) (r.append (.cons c .nil)) ?_,rfl,q⟩;rw[vE,List.length_singleton];omega
def Uw:V->aj V->Hp->VK->Prop:=λx vs H Q=>∃l b xs zs,x=.ref l/\vs=[.ref b]/\H l=ai (.lst xs)/\H b=ai (.lst zs)/\xs.length+zs.length<=az/\Q .dE (upd H l (.lst (xs++zs)))
theorem aqP:MtM X "list.extend" Uw:=by
 intro aa s J H x A v B Q I f g h;obtain⟨l,b,y,t,rfl,rfl,d,o,D,q⟩:=h;cases f;obtain⟨u,rfl,i⟩:=g.one;cases i;obtain⟨z,j,n,r,hl,e⟩:=I.GJ d;obtain⟨w,U,m,k,C,p⟩:=I.GJ o;have a:j.toArray.size+U.toArray.size<=az:=by rw[jB,jB];omega
 have c:¬(!j.toArray.isEmpty&&Builtin.List.listTooLong (j.toArray.size+U.toArray.size))=ax:=by
  rw[ap1 a,Bool.and_false];exact Qv
 refine call_meets F.slot_list_extend ⟨_,e,rfl⟩ F.entry_list_extend (F.args_list_extend_2 _ _)
  (AutoSeq1.list_extend_list_list_0 l j.toArray n b U.toArray m c (by rw[jB];omega) (by omega)) ⟨e,p,?_⟩
 refine⟨.dE,_,I.Fz (its':=j++U) d e (by simp) (r.append k) ?_,rfl,q⟩;rw[vE];omega
def Ux:R2:=λx y H Q=>∃l b xs zs,x=.ref l/\y=.ref b/\H l=ai (.lst xs)/\H b=ai (.lst zs)/\xs.length+zs.length<=az/\∀p,H p=ak->Q (.ref p) (upd H p (.lst (xs++zs)))
theorem ao5:hJ X (cn .Add) Ux:=by
 intro aa s J H x y v u Q I c a h;obtain⟨l,b,p,m,rfl,rfl,f,g,A,q⟩:=h;cases c;cases a;obtain⟨z,j,n,r,hl,e⟩:=I.GJ f;obtain⟨o,U,t,d,w,k⟩:=I.GJ g;refine PySem.P.add_list e k ?_ (by rw[jB,jB];omega);have i:j.toArray++U.toArray=(j++U).toArray:=by simp
 rw[i];exact⟨.ref _,_,I.aq9 (t':=s.toks) (r.append d) (by rw[vE];omega),rfl,q _ I.fresh⟩
end
section
variable{κ:Type} [DecidableEq κ]
noncomputable def kN(kvs:aj (κ×V))(k:κ):ar V:=(kvs.find? λj=>decide (j.1=k)).map (·.2)
noncomputable def putK(kvs:aj (κ×V))(k:κ)(v:V):aj (κ×V) :=
 if(kvs.any λj=>decide (j.1=k))=ax then kvs.map (λj=>if j.1=k then(j.1,v)else j)else kvs++[(k,v)]
noncomputable def sA(kvs:aj (κ×V))(k:κ):aj (κ×V):=kvs.filter λj=>decide (j.1≠k)
theorem Ac{p:κ×V}{r:aj (κ×V)}{k:κ}(e:p.1=k):kN (p::r) k=ai p.2:=by simp[kN,BJ,e]
theorem Ad{p:κ×V}{r:aj (κ×V)}{k:κ}(e:¬p.1=k):kN (p::r) k=kN r k:=by simp[kN,BJ,e]
theorem Ry(k:κ):∀kvs:aj (κ×V),(kvs.any λj=>decide (j.1=k))=(kN kvs k).isSome
 |[]=>rfl
 |p::r=>by
  rw[QF]
  by_cases e:p.1=k
  ·simp only[Ac e,rC e,Bool.true_or,Option.isSome_some]
  ·rw[Ad e,oR e,Bool.false_or];exact Ry k r
theorem Xs(kvs:aj (κ×V))(k:κ)(v:V):(putK kvs k v).length<=kvs.length+1:=by
 unfold putK;split
 ·rw[lB];omega
 ·rw[vE,iP,JD];omega
theorem nJ.MN{o:ar V}{u:ar ao}(r:nJ o u):o.isSome=u.isSome:=by
 cases o with
 |none=>cases u with
  |none=>rfl
  |some _=>exact(show cb from r).elim
 |some _=>cases u with
  |none=>exact(show cb from r).elim
  |some _=>rfl
theorem nJ.getD{o:ar V}{u:ar ao}{d:V}{d':ao}(r:nJ o u)(j:RelV d d'):RelV (o.getD d) (u.getD d'):=by
 cases o with
 |none=>cases u with
  |none=>exact j
  |some _=>exact(show cb from r).elim
 |some _=>cases u with
  |none=>exact(show cb from r).elim
  |some _=>exact r
theorem KV.val{kvs:aj (κ×V)}{vs:aj (κ×ao)}(r:KV kvs vs)(k:κ):nJ (kN kvs k) (valueAt vs k):=by
 unfold KV at r
 induction r with
 |nil=>exact True.intro
 | @cons p q a j h t ih =>
  obtain⟨h1,h2⟩:=h
  by_cases e:p.1=k
  ·have U:q.1=k:=h1.symm.trans e;have b:valueAt (q::j) k=ai q.2:=by simp[valueAt,BJ,U]
   rw[Ac e,b];exact h2
  ·have U:¬q.1=k:=λz=>e (h1.trans z);have b:valueAt (q::j) k=valueAt j k:=by simp[valueAt,BJ,U]
   rw[Ad e,b];exact ih
theorem KV.any{kvs:aj (κ×V)}{vs:aj (κ×ao)}(r:KV kvs vs)(k:κ):(kvs.any λj=>decide (j.1=k))=vs.any λj=>decide (j.1=k):=by
 unfold KV at r
 induction r with
 |nil=>rfl
 |cons h t ih=>rw[QF,QF,ih,h.1]
theorem KV.Eg{kvs:aj (κ×V)}{vs:aj (κ×ao)}(r:KV kvs vs)(k:κ){y:V}{u:ao}(U:RelV y u) :
  KV (kvs.map λj=>if j.1=k then(j.1,y)else j) (vs.map λj=>if j.1=k then(j.1,u)else j):=by
 unfold KV at r ⊢
 induction r with
 |nil=>exact .nil
 | @cons p q b a h t ih =>
  rw[cV,cV];refine .cons ?_ ih;obtain⟨h1,h2⟩:=h
  by_cases e:p.1=k
  ·rw[a8 e,a8 (h1.symm.trans e)];exact⟨h1,U⟩
  ·rw[bb e,bb (λz=>e (h1.trans z))];exact⟨h1,h2⟩
theorem KV.put{kvs:aj (κ×V)}{vs:aj (κ×ao)}(r:KV kvs vs)(k:κ){y:V}{u:ao}(j:RelV y u):KV (putK kvs k y) (stored vs k u):=by
 unfold putK stored;rw[r.any k]
 by_cases e:(vs.any λq=>decide (q.1=k))=ax
 ·rw[a8 e,a8 e];exact r.Eg k j
 ·rw[bb e,bb e];exact Paired.snoc r ⟨rfl,j⟩
theorem KV.drop{kvs:aj (κ×V)}{vs:aj (κ×ao)}(r:KV kvs vs)(k:κ):KV (sA kvs k) (without vs k):=by
 unfold KV at r ⊢;unfold sA without
 induction r with
 |nil=>exact .nil
 | @cons p q c U h t ih =>
  obtain⟨h1,h2⟩:=h;rw[List.filter_cons,List.filter_cons]
  by_cases e:p.1=k
  ·have a:¬decide (p.1≠k)=ax:=by simp[e]
   have b:¬decide (q.1≠k)=ax:=by simp[h1.symm.trans e]
   rw[bb a,bb b];exact ih
  ·have j:¬q.1=k:=λz=>e (h1.trans z);have a:decide (p.1≠k)=ax:=by simp[e]
   have b:decide (q.1≠k)=ax:=by simp[j]
   rw[a8 a,a8 b];exact .cons ⟨h1,h2⟩ ih
theorem KV.keys{kvs:aj (κ×V)}{vs:aj (κ×ao)}(r:KV kvs vs):kvs.map (·.1)=vs.map (·.1):=by
 unfold KV at r
 induction r with
 |nil=>rfl
 |cons h t ih=>rw[cV,cV,ih,h.1]
theorem KV.length{kvs:aj (κ×V)}{vs:aj (κ×ao)}(r:KV kvs vs):kvs.length=vs.length:=Paired.length r
theorem azE(kvs:aj (κ×V))(k:κ):(sA kvs k).length<=kvs.length:=aeM _ _
end
theorem CW{P:bf}{w:bo}{k:Key}{u:ao}(r:RelV (kV k) u):(kI P w).is k u=ax:=by
 cases k with
 |inl i=>obtain⟨t,e⟩:=(show ∃t,u=Value.int i t from r);subst e;exact aqU P w i t
 |inr x=>obtain⟨t,e⟩:=(show ∃t,u=Value.str x t from r);subst e;exact aqT P w x t
theorem Ye{P:bf}{w:bo}:∀{j:aj Key} {us:aj ao},Vals (j.map kV) us->ItemsAre (kI P w) j us
 |[],_,r=>by rw[rJ]at r;cases r;exact .nil
 |k::j,_,r=>by
  rw[cV]at r;cases r with
  |cons h t=>exact .cons (CW h) (Ye t)
abbrev KT(H:Hp):aj (aj Key×V)->aj (aj Key×au×ao)->Prop:=Paired λp q=>p.1=q.1/\H q.2.1=ai (.tup (p.1.map kV))/\RelV p.2 q.2.2
theorem KT.val{H:Hp}{kvs:aj (aj Key×V)}{xs:aj (aj Key×au×ao)}(r:KT H kvs xs)(k:aj Key):nJ (kN kvs k) ((atKey xs k).map (·.2)):=by
 induction r with
 |nil=>exact True.intro
 | @cons p q a j h t ih =>
  obtain⟨h1,_,h2⟩:=h
  by_cases e:p.1=k
  ·have U:q.1=k:=h1.symm.trans e;have b:atKey (q::j) k=ai q.2:=by simp[atKey,BJ,U]
   rw[Ac e,b];exact h2
  ·have U:¬q.1=k:=λz=>e (h1.trans z);have b:atKey (q::j) k=atKey j k:=by simp[atKey,BJ,U]
   rw[Ad e,b];exact ih
theorem KT.Eg{H:Hp}{kvs:aj (aj Key×V)}{xs:aj (aj Key×au×ao)}(r:KT H kvs xs)(k:aj Key){y:V}{u:ao}(U:RelV y u) :
  KT H (kvs.map λj=>if j.1=k then(j.1,y)else j) (xs.map (putAt k u)):=by
 induction r with
 |nil=>exact .nil
 | @cons p q c b h t ih =>
  rw[cV,cV];refine .cons ?_ ih;obtain⟨h1,h2,a⟩:=h;unfold putAt
  by_cases e:p.1=k
  ·rw[a8 e,a8 (h1.symm.trans e)];exact⟨h1,h2,U⟩
  ·rw[bb e,bb (λz=>e (h1.trans z))];exact⟨h1,h2,a⟩
theorem KT.put{H:Hp}{kvs:aj (aj Key×V)}{xs:aj (aj Key×au×ao)}(r:KT H kvs xs)(k:aj Key){b:au}{y:V}{u:ao}(hb:H b=ai (.tup (k.map kV)))(j:RelV y u) :
  KT H (putK kvs k y) (storedH xs k b u):=by
 have e:(kvs.any λz=>decide (z.1=k))=(atKey xs k).isSome:=by
  rw[Ry,(r.val k).MN,Nu]
 unfold putK storedH;rw[e]
 by_cases q:(atKey xs k).isSome=ax
 ·rw[a8 q,a8 q];exact r.Eg k j
 ·rw[bb q,bb q];exact Paired.snoc r ⟨rfl,hb,j⟩
theorem KT.keeps{H H':Hp}{kvs:aj (aj Key×V)}{xs:aj (aj Key×au×ao)}(r:KT H kvs xs)(j:∀b ys,H b=ai (.tup ys)->H' b=ai (.tup ys)):KT H' kvs xs :=
 Paired.Fw r λ_ _ z=>⟨z.1,j _ _ z.2.1,z.2.2⟩
section
variable{P:bf}{w:bo}{H:Hp}{h:bx}{a:au}
theorem Uq{u:HO}(ok:gL P w H h)(e:Rd H a u):jA P w H h a u:=e.ok ok
theorem BA{kvs:aj (Key×V)}(ok:gL P w H h)(e:Rd H a (.dK kvs)):kvs.length<=az/\(a==da)=aq/\∃vs,KV kvs vs/\h.DictOf (kI P w) a vs :=
 show jA P w H h a (.dK kvs)from Uq ok e
theorem HV{kvs:aj (Key×V)}(ok:gL P w H h)(e:H a=ai (.dK kvs)):kvs.length<=az/\(a==da)=aq/\∃vs,KV kvs vs/\h.DictOf (kI P w) a vs:=BA ok (.inl e)
theorem GN{j:aj Key}(ok:gL P w H h)(e:H a=ai (.tup (j.map kV))):(tupleKind (kI P w)).is h j a:=by
 obtain⟨_,z,r,o,h1,h2,n,q⟩:=(show jA P w H h a (.tup (j.map kV))from ok a _ e);exact⟨o,z.toArray,n,h1,h2,q,by simpa using Ye r⟩
theorem DS{kvs:aj (aj Key×V)}(ok:gL P w H h)(e:Rd H a (.dT kvs)):kvs.length<=az/\(a==da)=aq /\
  ∃xs,KT H kvs xs/\h.DictOfH (tupleKind (kI P w)) a xs:=by
 obtain⟨z,y,xs,r,o,es,f,h1,h2,d,c,b⟩:=(show jA P w H h a (.dT kvs)from Uq ok e);refine⟨z,y,xs,r,o,es,f,h1,h2,d,c,λx j=>?_,b⟩;have all:∀{l:aj (aj Key×V)} {m:aj (aj Key×au×ao)},KT H l m->∀x∈m,(tupleKind (kI P w)).is h x.1 x.2.1:=by
  intro l m q
  induction q with
  |nil=>intro x j;exact nomatch j
  | @cons p q i g U t ih =>
   intro x j
   rcases eK.mp j with e|j
   ·subst e;exact GN ok (by rw[<-U.1];exact U.2.1)
   ·exact ih x j
 exact all r x j
theorem azD{kvs:aj (aj Key×V)}(ok:gL P w H h)(e:H a=ai (.dT kvs)):kvs.length<=az/\(a==da)=aq /\
  ∃xs,KT H kvs xs/\h.DictOfH (tupleKind (kI P w)) a xs:=DS ok (.inl e)
end
def nZ(H:Hp)(a:au)(y:V)(r:ar V):Prop :=
 (∃kvs k,Rd H a (.dK kvs)/\y=kV k/\r=kN kvs k)\/∃kvs k b,Rd H a (.dT kvs)/\y=.ref b/\H b=ai (.tup (k.map kV))/\r=kN kvs k
def RB(H:Hp)(a:au)(y v:V)(H':Hp):Prop :=
 (∃kvs k,H a=ai (.dK kvs)/\y=kV k/\kvs.length<az/\H'=upd H a (.dK (putK kvs k v))) \/
 ∃kvs k b,H a=ai (.dT kvs)/\y=.ref b/\H b=ai (.tup (k.map kV))/\kvs.length<az/\H'=upd H a (.dT (putK kvs k v))
theorem nZ.k{H:Hp}{a:au}{kvs:aj (Key×V)}{k:Key}(e:H a=ai (.dK kvs)):nZ H a (kV k) (kN kvs k):=.inl ⟨kvs,k,.inl e,rfl,rfl⟩
theorem RB.k{H:Hp}{a:au}{kvs:aj (Key×V)}{k:Key}{v:V}(e:H a=ai (.dK kvs))(hl:kvs.length<az):RB H a (kV k) v (upd H a (.dK (putK kvs k v))):=.inl ⟨kvs,k,e,rfl,hl,rfl⟩
section
variable{X:Cx}{aa:aj (au×cq)}{J:St}{H:Hp}{s:aw}{a:au}{y v:V}{u r:ao}{o:ar V}{A:br}{E:ao->aw->Prop}
theorem Inv.big(I:Inv X aa J H s):da<s.heap.objs.size:=by
 have h:bc<s.heap.objs.size:=(I.mod.glob.keeps I.bk).lt;exact Nat.lt_trans (by decide) h
theorem aAP{Q:ao->aw->Prop}(r:A.units+1<de)(I:Inv X aa J H s)(g:nZ H a y (ai v))(f:RelV y u)(h:∀j s',Inv X aa J H s'->RelV v j->Q j s') :
  wpAny (bj X.prog X.w) A (getItem (.ref a) u) Q E s:=by
 rcases g with⟨U,k,e,c,l⟩|⟨U,k,b,e,c,x,l⟩
 ·subst c;obtain⟨z,hd,m,rel,d⟩:=BA I.aL e;obtain⟨j,hw,q⟩:=nJ.some_of (v:=v) (o:=valueAt m k) (by rw[l];exact rel.val k);exact wpAny_getItem_of (CW f) d.mapOf hw (h j _ (I.tok _) q)
 ·subst c;cases(show u=Value.ref b from f);obtain⟨z,hd,i,rel,d⟩:=DS I.aL e;obtain⟨j,hw,q⟩:=nJ.some_of (v:=v) (o:=(atKey i k).map (·.2)) (by rw[l];exact rel.val k);obtain⟨p,t,n⟩:=EJ.mp hw;refine wpAny_getItem_heap (RU r) (GN I.aL x) d t ?_;rw[n];exact h j _ (I.tok _) q
theorem aAJ{Q:ao->aw->Prop}(f:A.units+1<de)(I:Inv X aa J H s)(g:nZ H a y o)(d:RelV y u)(h:∀s',Inv X aa J H s'->Q (.bool o.isSome) s') :
  wpAny (bj X.prog X.w) A (bw .In u (.ref a)) Q E s:=by
 rcases g with⟨j,k,e,U,l⟩|⟨j,k,b,e,U,i,l⟩
 ·subst U;obtain⟨z,hd,n,rel,c⟩:=BA I.aL e;refine wpAny_in_of (CW d) hd c.mapOf ?_;rw[<-(rel.val k).MN,<-l];exact h _ (I.tok _)
 ·subst U;cases(show u=Value.ref b from d);obtain⟨z,hd,m,rel,c⟩:=DS I.aL e;refine wpAny_in_heap (RU f) (GN I.aL i) hd c ?_;have q:=(rel.val k).MN;rw[Nu]at q;rw[<-q,<-l];exact h _ (I.tok _)
theorem az7{Q:ao->aw->Prop}(f:A.units+1<de)(I:Inv X aa J H s)(g:nZ H a y o)(d:RelV y u)(h:∀s',Inv X aa J H s'->Q (.bool (!o.isSome)) s') :
  wpAny (bj X.prog X.w) A (bw .NotIn u (.ref a)) Q E s:=by
 rcases g with⟨j,k,e,U,l⟩|⟨j,k,b,e,U,i,l⟩
 ·subst U;obtain⟨z,hd,n,rel,c⟩:=BA I.aL e;refine wpAny_notIn_of (CW d) hd c.mapOf ?_;rw[<-(rel.val k).MN,<-l];exact h _ (I.tok _)
 ·subst U;cases(show u=Value.ref b from d);obtain⟨z,hd,m,rel,c⟩:=DS I.aL e;refine wpAny_notIn_heap (RU f) (GN I.aL i) hd c ?_;have q:=(rel.val k).MN;rw[Nu]at q;rw[<-q,<-l];exact h _ (I.tok _)
theorem Kj{h':bx}{t':ay}{j:HO}(I:Inv X aa J H s)(U:PZ (H a))(c:Heap.SameBut a s.heap h')(he:∃q,h'.get? a=ai q)(new:jA X.prog X.w (upd H a j) h' a j) :
  Inv X aa J (upd H a j) {s with heap:=h',toks:=t' } :=
 I.write (x:=a) (e:=a) U (.inl rfl) (λb q hb z=>(c.2 b hb).trans z) he new
theorem abQ{P:bf}{w:bo}{H':Hp}{h':bx}{kvs:aj (Key×V)}{vs:aj (Key×ao)}(z:kvs.length<=az)(hd:(a==da)=aq)(rel:KV kvs vs)(j:h'.DictOf (kI P w) a vs) :
  jA P w H' h' a (.dK kvs):=⟨z,hd,vs,rel,j⟩
theorem az2{H':Hp}{Q:Unit->aw->Prop}(F:A.units+1<de)(I:Inv X aa J H s)(g:RB H a y v H')(p:RelV y u)(t:RelV v r)(h:∀s',Inv X aa J H' s'->Q () s') :
  wpAny (bj X.prog X.w) A (setItem (.ref a) u r) Q E s:=by
 rcases g with⟨j,k,e,m,l,n⟩|⟨j,k,b,e,m,B,l,n⟩
 ·subst m n;obtain⟨z,hd,D,rel,o⟩:=HV I.aL e;have f:D.length<=az:=by rw[<-rel.length];exact z
  have hl:(putK j k v).length<=az:=by have:=Xs j k v;omega
  refine wpAny_setItem_pairs (hsz:=f) (CW p) o λh' d i=>h _ ?_;have he:∃q,h'.get? a=ai q:=let ⟨q,_,_,U,_⟩:=d; ⟨q,U⟩;exact Kj I (by rw[e];exact True.intro) i he (abQ hl hd (rel.put k t) d)
 ·subst m n;cases(show u=Value.ref b from p);obtain⟨z,hd,C,rel,o⟩:=azD I.aL e;have f:C.length<=az:=by rw[<-Paired.length rel];exact z
  have hl:(putK j k v).length<=az:=by have:=Xs j k v;omega
  refine wpAny_setItem_heap (hsz:=f) (RU F) (GN I.aL B) o λh' d i=>h _ ?_;obtain⟨q,es,M,U,h2,L,K,_,G⟩:=d;refine Kj I (by rw[e];exact True.intro) i ⟨q,U⟩ ⟨hl,hd,_,(rel.put k B t).keeps λc N x=>?_,q,es,M,U,h2,L,K,G⟩;rw[cD (MF x e (λz=>nomatch z))];exact x
end
section
variable{X:Cx}{aa:aj (au×cq)}{J:St}{H:Hp}{s:aw}{a:au}{kvs:aj (Key×V)}{k:Key}{u:ao}{A:br}{E:ao->aw->Prop}
theorem az3{v:V}{more:aj ao}{Q:ao->aw->Prop}(I:Inv X aa J H s)(e:H a=ai (.dK kvs))(U:RelV (kV k) u)(l:kN kvs k=ai v)(hm:more=[]\/∃x,more=[x])
  (h:∀j s',Inv X aa J (upd H a (.dK (sA kvs k))) s'->RelV v j->Q j s'):wpAny (bj X.prog X.w) A (call (.builtin "dict.pop") (.ref a::u::more)) Q E s:=by
 obtain⟨z,hd,b,rel,c⟩:=HV I.aL e;obtain⟨j,hw,f⟩:=nJ.some_of (v:=v) (o:=valueAt b k) (by rw[<-l];exact rel.val k);have n:(keyPart u).isSome=ax:=by
  cases k with
  |inl i=>obtain⟨t,q⟩:=(show ∃t,u=Value.int i t from U);subst q;rfl
  |inr x=>obtain⟨t,q⟩:=(show ∃t,u=Value.str x t from U);subst q;rfl
 have ha:argsOk "dict.pop" ⟨.ref a::u::more,[]⟩:=by
  rcases hm with q|⟨x,q⟩
  ·subst q;exact PySem.F.args_dict_pop_2 _ _
  ·subst q;exact PySem.F.args_dict_pop_3 _ _ _
 refine OQ PySem.F.slot_dict_pop c.typeIs PySem.F.entry_dict_pop ha (meets_dict_pop_there (kI X.prog X.w) a (CW U) more hm n)
  ⟨b,j,c,by rw[<-rel.length];exact z,hw,λh' d g=>h j _ ?_ f⟩
 have he:∃q,h'.get? a=ai q:=let ⟨q,_,_,m,_⟩:=d; ⟨q,m⟩;exact Kj I (by rw[e];exact True.intro) g he (abQ (oW (azE kvs k) z) hd (rel.drop k) d)
theorem aAF{Q:ao->aw->Prop}(I:Inv X aa J H s)(e:Rd H a (.dK kvs))(h:∀t s',Inv X aa J H s'->Q (.int kvs.length t) s'):wpAny (bj X.prog X.w) A (call (.builtin "len") [.ref a]) Q E s:=by
 obtain⟨z,hd,q,rel,j⟩:=BA I.aL e;refine call_len_dict hd j (by rw[<-rel.length];rw[lE]at z;omega) ?_;rw[<-rel.length];exact h _ _ (I.tok _)
end
def Nw(i:bp):Prop:=∀j q,subscripted i aq j q=operate [j,q] (getItem j q)
theorem ah0{prog:bf}{w:bo}{A:br}{E:ao->aw->Prop}{s:aw}{env:Env}{value slice:bp}{pos:cx}{T id:cy}{Q:ao->aw->Prop}
  (hl:typeLookup (.type T) "__getitem__" = pure (ai (.builtin id))) (a:Nw slice)
  (h:wpAny (bj prog w) A (bz value env) (λo s₁=>wpAny (bj prog w) A (bz slice env) (λi s₂=>s₂.TypeIs o T/\wpAny (bj prog w) A (getItem o i) Q E s₂) E s₁) E s) :
  wpAny (bj prog w) A (bz (.Subscript value slice pos) env) Q E s:=by
 refine Subscript_ (pV h (λo s₁ U=>pV U (λi s₂ j=>?_) λ_ _ x=>x) λ_ _ x=>x);obtain⟨hT,j⟩:=j;unfold subscriptTail;refine aM ?_;rw[getitemInPython_of_ne hT.not_modules];refine aM (wpAny_specialOf hT hl ?_);have fin:wpAny (bj prog w) A (subscripted slice aq o i) (λr q=>wpAny (bj prog w) A (letTemporaryGo value o r >>= λ_=>pure r) Q E q) E s₂:=by
  rw[a o i];exact wpAny_operating (pV j (λr q z=>aM (wpAny_letTemporaryGo (bS z))) λ_ _ x=>x)
 first
  |exact bS (aM fin)
  |exact aM (bS (aM fin))
  |exact aM fin
theorem azM{X:Cx}{aa:aj (au×cq)}{J:St}{H:Hp}{s:aw}{a:au}{y:V}{o:ar V}(I:Inv X aa J H s)(g:nZ H a y o):s.TypeIs (.ref a) "dict":=by
 rcases g with⟨j,k,e,_,_⟩|⟨j,k,b,e,_,_,_⟩
 ·obtain⟨_,_,U,_,q⟩:=BA I.aL e;exact q.typeIs
 ·obtain⟨_,_,z,_,q⟩:=DS I.aL e;exact q.typeIs
def ahW(td ty:TE):TE:=λJ H Q=>td J H λx H1=>ty J H1 λy H2=>∃a v,x=.ref a/\nZ H2 a y (ai v)/\Q v H2
def Ba(ty td:TE):TE:=λJ H Q=>ty J H λy H1=>td J H1 λx H2=>∃a o,x=.ref a/\nZ H2 a y o/\Q (.bl o.isSome) H2
def Az(ty td:TE):TE:=λJ H Q=>ty J H λy H1=>td J H1 λx H2=>∃a o,x=.ref a/\nZ H2 a y o/\Q (.bl (!o.isSome)) H2
def akW(td ty tv:TE):TS:=λD J H=>tv J H λv H1=>td J H1 λx H2=>ty J H2 λy q=>∃a j,x=.ref a/\RB q a y v j/\D.nx J j
section
variable{X:Cx}{o i e value:bp}{pos pos' agU:cx}{td ty tv:TE}
theorem an4(e:X.A.units+1<de)(k:PE X o td)(hi:PE X i ty)(f:Nw i):PE X (.Subscript o i pos) (ahW td ty):=by
 intro aa s J H Q I h;refine ah0 PySem.F.slot_dict_getitem.lookup f (bT (k aa s J H _ I h) λu q ⟨x,p,m,U,c⟩=>bT (hi aa q J p _ m c) λB w zz=>?_);obtain⟨y,n,j,z,a,v,ex,g,b⟩:=zz;subst ex;obtain rfl:u=Value.ref a:=U;exact⟨azM j g,aAP e j g z λr t l d=>⟨v,n,l,d,b⟩⟩
theorem aoH(d:X.A.units+1<de)(hi:PE X i ty)(e:PE X o td):PC X .In i o (Ba ty td):=by
 intro aa s J H Q I h;refine bT (hi aa s J H _ I h) λt j ⟨y,n,l,q,b⟩=>bT (e aa j J n _ l b) λu r zz=>?_;obtain⟨x,m,k,z,a,c,ex,g,U⟩:=zz;subst ex;obtain rfl:u=Value.ref a:=z;exact aAJ d k g q λp f=>⟨.bl c.isSome,m,f,rfl,U⟩
theorem aoG(d:X.A.units+1<de)(hi:PE X i ty)(e:PE X o td):PC X .NotIn i o (Az ty td):=by
 intro aa s J H Q I h;refine bT (hi aa s J H _ I h) λt j ⟨y,n,l,q,b⟩=>bT (e aa j J n _ l b) λu r zz=>?_;obtain⟨x,m,k,z,a,c,ex,g,U⟩:=zz;subst ex;obtain rfl:u=Value.ref a:=z;exact az7 d k g q λp f=>⟨.bl (!c.isSome),m,f,rfl,U⟩
theorem amT(f:X.A.units+1<de)(l:PE X o td)(hi:PE X i ty)(hv:PE X value tv)(k:df value (ai (.Subscript o i pos')) pos.line X.env=pure aq) :
  PS X (.Assign [.Subscript o i pos'] value pos) (akW td ty tv):=by
 intro aa s J H D I h;refine wpAny_Assign_Subscript (bT (hv aa s J H _ I h) λr q ⟨v,C,t,b,e⟩=>bT (l aa q J C _ t e) λu j ⟨x,B,p,U,d⟩=>bT (hi aa j J B _ p d) λG F zz=>?_) k;obtain⟨y,K,n,z,a,w,ex,g,c⟩:=zz;subst ex;obtain rfl:u=Value.ref a:=U;exact az2 f n g z b λE m=>⟨J,w,m,c⟩
end
theorem azK{P:bf}{w:bo}{H:Hp}(h:bx)(hb:da<h.objs.size):jA P w H (h.push {cls:=.type "dict",data:=.dict #[]}) h.objs.size (.dK []) :=
 ⟨BI _,yV.mpr (eM (iB hb)),[],.nil,Heap.DictOf.new h⟩
def ahU:TE:=λ_ H Q=>∀p,H p=ak->Q (.ref p) (upd H p (.dK []))
section
variable{X:Cx}{pos:cx}
theorem an2:PE X (.Dict [] [] pos) ahU:=λaa s J H Q I h =>
 wpAny_Dict_empty ⟨.ref s.heap.objs.size,_,I.laid (a:=s.heap.objs.size) (o:=.dK []) (t':=s.toks) (λ_ _ q=>eN _ q) dD (azK s.heap I.big),rfl,h _ (I.aL.fresh dD)⟩
end
def aqY(kvs more:aj (Key×V)):aj (Key×V):=more.foldl (λacc j=>putK acc j.1 j.2) kvs
theorem KV.merge:∀{more:aj (Key×V)} {rs:aj (Key×ao)} {kvs:aj (Key×V)} {vs:aj (Key×ao)},KV more rs->KV kvs vs->KV (aqY kvs more) (merged vs rs):=by
 intro more rs kvs vs r;unfold KV at r
 induction r generalizing kvs vs with
 |nil=>intro q;exact q
 | @cons p q U z h t ih =>
  intro j;have e:KV (putK kvs p.1 p.2) (stored vs q.1 q.2):=by
   have:=j.put p.1 h.2;rw[<-h.1];exact this
  exact ih e
structure M1(X:Cx)(o:bp)(m:a5)(af:cx)(e:bp)(kX:cx):Prop where
 base:b0 o m X.env (bz o X.env)=bz o X.env
 Jx:((cg kX (ba [e] X.env)).all (λx=>!x.1)&&(backToKw kX (c5 [] X.env)).all (λx=>x.1.isSome)
  && decide (([e]:aj bp).length+([]:aj Keyword).length+(if([]:aj Keyword).isEmpty then 0 else 1)<30))=ax
 line:(af.endLine==kX.line)=ax
 trees:cg kX (ba [e] X.env)=[(aq,bz e X.env)]
structure M2(X:Cx)(o:bp)(m:a5)(af:cx)(e f:bp)(kX:cx):Prop where
 base:b0 o m X.env (bz o X.env)=bz o X.env
 Jx:((cg kX (ba [e,f] X.env)).all (λx=>!x.1)&&(backToKw kX (c5 [] X.env)).all (λx=>x.1.isSome)
  && decide (([e,f]:aj bp).length+([]:aj Keyword).length+(if([]:aj Keyword).isEmpty then 0 else 1)<30))=ax
 line:(af.endLine==kX.line)=ax
 trees:cg kX (ba [e,f] X.env)=[(aq,bz e X.env),(aq,bz f X.env)]
def Pc(H:Hp)(a:au):Prop:=(∃kvs,Rd H a (.dK kvs))\/∃kvs,Rd H a (.dT kvs)
theorem MQ{X:Cx}{aa:aj (au×cq)}{J:St}{H:Hp}{s:aw}{a:au}(I:Inv X aa J H s)(d:Pc H a) :
  s.TypeIs (.ref a) "dict"/\(∀b,Value.ref a=.ref b->∃j,s.heap.get? b=ai j/\j.dict=ak)/\(a==da)=aq:=by
 rcases d with⟨U,e⟩|⟨U,e⟩
 ·obtain⟨_,hd,f,_,z⟩:=BA I.aL e;refine⟨z.typeIs,λb q=>?_,hd⟩;cases q;obtain⟨j,_,_,h1,h2,_⟩:=z;exact⟨j,h1,h2.2.1⟩
 ·obtain⟨_,hd,c,_,z⟩:=DS I.aL e;refine⟨z.typeIs,λb q=>?_,hd⟩;cases q;obtain⟨j,_,_,h1,h2,_⟩:=z;exact⟨j,h1,h2.2.1⟩
section
variable{X:Cx}{aa:aj (au×cq)}{J:St}{H:Hp}{s:aw}{a:au}{y d:V}{u r:ao}{o:ar V}{A:br}{E:ao->aw->Prop}
theorem aAQ{Q:ao->aw->Prop}(n:A.units+1<de)(I:Inv X aa J H s)(g:nZ H a y o)(f:RelV y u)(i:RelV d r)(h:∀c s',Inv X aa J H s'->RelV (o.getD d) c->Q c s') :
  wpAny (bj X.prog X.w) A (call (.builtin "dict.get") [.ref a,u,r]) Q E s:=by
 rcases g with⟨q,k,e,U,l⟩|⟨q,k,b,e,U,p,l⟩
 ·subst U;obtain⟨z,hd,t,rel,j⟩:=BA I.aL e;refine OQ PySem.F.slot_dict_get j.typeIs PySem.F.entry_dict_get (PySem.F.args_dict_get_3 _ _ _) (meets_dict_get_default (kI X.prog X.w) a (CW f) hd r) ⟨_,j.mapOf,h _ _ (I.tok _) ?_⟩;rw[l];exact(rel.val k).getD i
 ·subst U;cases(show u=Value.ref b from f);obtain⟨z,hd,m,rel,j⟩:=DS I.aL e;refine OQ PySem.F.slot_dict_get j.typeIs PySem.F.entry_dict_get (PySem.F.args_dict_get_3 _ _ _) (meetsH_dict_get_default (tupleKind (kI X.prog X.w)) a b hd r) ⟨RU n,k,m,GN I.aL p,j,h _ _ (I.tok _) ?_⟩;rw[l];exact(rel.val k).getD i
end
def ahV(td ty tx:TE):TE:=λJ H Q=>td J H λx H1=>∃a,x=.ref a/\Pc H1 a/\ty J H1 λy H2=>tx J H2 λz j=>∃o,nZ j a y o/\Q (o.getD z) j
def ahT(td ty:TE):TE:=λJ H Q=>td J H λx H1=>∃a,x=.ref a/\Pc H1 a/\ty J H1 λy H2=>∃kvs k v,H2 a=ai (.dK kvs)/\y=kV k/\kN kvs k=ai v/\Q v (upd H2 a (.dK (sA kvs k)))
section
variable{X:Cx}{o e f:bp}{af kX:cx}{td ty tx:TE}
theorem an3(t:X.A.units+1<de)(v:PE X o td)(he:PE X e ty)(w:PE X f tx)(m:M2 X o "get" af e f kX):PE X (.Call (.Attribute o "get" af) [e,f] [] kX) (ahV td ty tx):=by
 intro aa s J H Q I h;refine wpAny_Call_method m.base m.Jx m.line PySem.F.plainAttrs_dict PySem.F.slot_dict_get PySem.F.type_dict_get (bT (v aa s J H _ I h) λu b zz=>?_);obtain⟨x,K,j,k,a,ex,d,p⟩:=zz;subst ex;obtain rfl:u=Value.ref a:=k;obtain⟨t1,q,_⟩:=MQ j d;refine⟨t1,q,?_⟩;rw[m.trees];refine RD rfl (aeZ (KL (bT (he aa b J K _ j p) λR U ⟨y,G,D,i,n⟩ =>
  KL (bT (w aa U J G _ D n) λS N ⟨z,E,C,c,P,g,l⟩=>RC ?_))))
 exact aAQ t C g i c λL M B r=>⟨_,E,B,r,l⟩
theorem an1(n:PE X o td)(he:PE X e ty)(m:M1 X o "pop" af e kX):PE X (.Call (.Attribute o "pop" af) [e] [] kX) (ahT td ty):=by
 intro aa s J H Q I h;refine wpAny_Call_method m.base m.Jx m.line PySem.F.plainAttrs_dict PySem.F.slot_dict_pop PySem.F.type_dict_pop (bT (n aa s J H _ I h) λu z zz=>?_);obtain⟨x,A,j,b,a,ex,d,f⟩:=zz;subst ex;obtain rfl:u=Value.ref a:=b;obtain⟨t1,q,_⟩:=MQ j d;refine⟨t1,q,?_⟩;rw[m.trees];refine RD rfl (aeZ (KL (bT (he aa z J A _ j f) λE D ⟨y,G,w,U,i,k,v,r,p,l,c⟩=>RC ?_)));subst p;exact az3 w r U l (.inl rfl) λB C t g=>⟨v,_,t,g,c⟩
end
end L2
namespace Att
open PySem PySem.W PySem.Calls PyProof.Rows
theorem as0{P:Params}{h:bx}:∀(ns:aj av) (vs:aj ao),WellAll P h vs (ns.map WData.int)->c4 vs ns:=by
 intro ns
 induction ns with
 |nil =>
  intro vs w;rw[rJ]at w;cases w;exact .nil
 |cons n ns ih =>
  intro vs w;rw[cV]at w;cases w with
  |cons a b =>
   cases a;exact .cons _ _ (ih _ b)
theorem aiY{l:OpenLaw}{n:ay}(hn:l.most=ai n){P:Params}{h:bx}{args:aj WData}{vals:aj ao}
  (c:l.row.toRowW.claim.pre args=ax) (m:WellAll P h vals args) :
  ∃a vs ns,vals=[Value.ref a]/\args=[WData.list (ns.map WData.int)]/\h.get? a=ai {cls:=.type "list",data:=.seq vs.toArray}/\c4 vs ns/\ns.length<=n:=by
 have U:WShape.hasAll [] args [.list .int]=ax:=(pre_splitW c).1;have b:l.pre.holds [] {args:=args}=ax:=(pre_splitW c).2;obtain⟨d,r,rfl,h1,h2⟩:=hasAllW_cons U;obtain rfl:=hasAllW_nil h2;obtain⟨o,rfl,k⟩:=hasW_list h1;obtain⟨ns,rfl⟩:=items_int k;have hlen:ns.length<=n:=by
  unfold OpenLaw.pre at b;have z:(WTm.not (.lt (.lit (.int (n:av))) (.len (.arg 0)))).holds [] {args:=[.list (ns.map .int)]}=ax:=by
   have z:=(holds_andW b).1;rw[hn]at z;exact z
  have j:=condW_of z (w_not (w_lt w_lit (w_len_list (w_arg rfl))));rw[lB]at j;refine Ob λq=>?_;have g:(n:av)<((ns.length:ay):av):=by omega
  first
   |(rw[rC g]at j;exact bu j (by decide))
   |(simp at j;omega)
 cases m with
 |cons f e =>
  cases e;cases f with
  |list i hall=>exact⟨_,_,ns,rfl,rfl,i,as0 ns _ hall,hlen⟩
theorem amW(l:OpenLaw)(args:aj WData):l.row.toRowW.claim.post args (.bool ax) args=ax :=
 postW_of (r:=l.row.toRowW) (X:=(ax==ax))
  (show WShape.has [] (.bool ax) .bool=ax by first|rfl|decide|simp[WShape.has,WShape.arms,WShape.armsAll])
  (show(WTm.eq .res (.lit (.bool ax))).value [] {args:=args,res:=ai (.bool ax),after:=args}=ai (.bool (ax==ax))from w_eq_bool (w_res rfl) w_lit) rfl
theorem aDG{l:OpenLaw}{n:ay}{q:bf}{loose:aj a5}{XP:(a5->ar ao)->bx->Prop}{YP:bo->bx->Prop}{d:DefRec}
  (hn:l.most=ai n) (u:d.params.defaults=[])
  (call:∀(w:bo) (s₀ s₁:aw) (mg mb:a5->ar ao) (fa:au) (o:cq) (z j doc:ao) (a:au) (vs:aj ao) (ns:aj av),
   Ground q loose [] XP w s₀ mg mb s₁.heap->YP w s₁.heap ->
   s₁.heap.get? fa=ai o->o.data=.func (docDef d.name d.params d.body d.scope z j doc)->s₁.heap.CodeRec j d.name->mg d.name=ai (.ref fa) ->
   s₁.heap.get? a=ai {cls:=.type "list",data:=.seq vs.toArray}->c4 vs ns->ns.length<=n->s₁.gens=#[] ->
   codeAny (bj l.prog w) callerA (.call (.ref fa) ⟨[.ref a],[]⟩) (λr s'=>r=.ok (.ret (.bool ax))/\OldK s₁.heap s'.heap/\s'.os=s₁.os/\AllBare s'.gens) s₁) :
  WalkO q loose XP YP l.row.toRowW d [] (λf vs=>PySem.call f vs):=by
 intro w s₀ s₁ mg mb G ρ fa o z j doc p kV g hd b U v i args vals A t s c x h;obtain rfl:p=.none:=Dflts.none U u;obtain rfl:kV=.none:=Dflts.noKw U;obtain⟨a,vs,ns,rfl,rfl,y,hints,hlen⟩:=aiY hn t x;refine enter_call (tN (call w s₀ s₁ mg mb fa o z j doc a vs ns G ρ g (fd_plain hd) b v y hints hlen i) λr s' e=>?_);obtain⟨rfl,h2,m,k⟩:=e;exact⟨.inl ⟨.bool ax,.bool ax,[],rfl,λ_=>rfl,.bool ax,amW l _,λ_=>⟨List.Pairwise.nil,λ_ hm=>(nomatch hm)⟩⟩,h2,m,k⟩
section
variable{prog:bf}{w:bo}{A:br}{E:ao->aw->Prop}{s:aw}{K:bg}
noncomputable def ledger(h:bx)(L d:au):aj (au×cq):=(List.range h.objs.size).filterMap λa=>if a=L\/a=d then ak else(h.get? a).map λo=>(a,o)
end
end Att
namespace L2
open PySem PySem.Spec PyProof.Rows
theorem RP:∀{vs:aj ao} {ns:aj av},c4 vs ns->Vals (ns.map V.int) vs
 |_,_,.nil => .nil
 |_,_,.cons n t h => .cons ⟨t,rfl⟩ (RP h)
noncomputable def inClass(s:bt)(j:ay):bt:=match s with
 |.ClassDef _ _ _ body _ _ _ _ _ _ _=>body.getD j (.Pass ⟨0,0,0,0⟩)
 |_ => .Pass ⟨0,0,0,0⟩
noncomputable def iZ(s:bt):cz:=match s with
 |.FunctionDef _ a _ _ _ _ _ _ _ _=>a
 |_=>{posonlyargs:=[],args:=[],vararg:=ak,kwonlyargs:=[],kw_defaults:=[],kwarg:=ak,defaults:=[]}
noncomputable def fI(s:bt):aj bt:=match s with
 |.FunctionDef _ _ b _ _ _ _ _ _ _=>b
 |_=>[]
noncomputable def bC(s:bt):b9:=match s with
 |.FunctionDef _ _ _ _ _ _ sc _ _ _=>sc
 |_=>{kind:=.function,names:=[],isGenerator:=aq,isCoroutine:=aq}
abbrev BU:qT:=λ_ _ _ _ _ _=>cb
abbrev E0:XK:=λ_ _ _=>cb
theorem Vy{X:Cx}:Passes BU X E0:=λ_ _ _ _ _ _ _ h=>h.elim
structure tQ(K:bg)(x qual:a5)(st:bt)(f:au)(fd:cp):Prop where
 ex:∃(oc:ao) (od:ar au) (kV doc pm:ao) (an:ar au) (bI ct:ao) (iL:bq (ar ao)),
  fd=dw x qual (iZ st) (fI st) (bC st) .none kV doc pm an bI ct/\K.lookup f=ai ⟨oc,od,.func fd,iL⟩/\codeIn K bI qual=ax
 kp:di K (.ref f)=ax
section
variable{P:bf}{w:bo}{K:bg}{mg:a5->ar ao}{base:bx}
theorem tQ.binds{x qual:a5}{st:bt}{f:au}{fd:cp}{ps:aj a5}(F:tQ K x qual st f fd)
  (h:∀(kV doc pm:ao) (an:ar au) (j ct:ao) (us:aj ao),us.length=ps.length->c3 (dw x qual (iZ st) (fI st) (bC st) .none kV doc pm an j ct) ⟨us,[]⟩=pure (ps.zip us)):Binds K fd ps []:=by
 obtain⟨z,q,kV,doc,pm,an,j,ct,b,rfl,U,a⟩:=F.ex;exact .all (h kV doc pm an j ct)
theorem OE{x qual:a5}{st:bt}{f:au}{U:ao}{od z:ar au}{a:bq (ar ao)}{kV doc q j ct:ao}(l:K.lookup f=ai ⟨U,od,.func (dw x qual (iZ st) (fI st) (bC st) .none kV doc q z j ct),a⟩)
  (c:codeIn K j qual=ax) (k:di K (.ref f)=ax):tQ K x qual st f (dw x qual (iZ st) (fI st) (bC st) .none kV doc q z j ct):=⟨⟨U,od,kV,doc,q,z,j,ct,a,rfl,l,c⟩,k⟩
end
section
variable{X:Cx}
theorem aCV:pS X (.builtin "len") (λxs H Q=>∃a kvs,xs=[V.ref a]/\H a=ai (.dK kvs)/\Q (.int kvs.length) H):=by
 intro aa s J H xs U Q I r h;obtain⟨a,kvs,rfl,ha,q⟩:=h;obtain⟨u,rfl,j⟩:=vals1 r;cases j;exact aAF I (.inl ha) λt s' z=>⟨.int kvs.length,H,z,⟨t,rfl⟩,q⟩
end
def oV(H H':Hp):Prop:=∀b o,H b=ai o->H' b=ai o
theorem oV.refl(H:Hp):oV H H:=λ_ _ h=>h
theorem oV.trans{H H1 H2:Hp}(a:oV H H1)(b:oV H1 H2):oV H H2:=λc o h=>b c o (a c o h)
theorem oV.seq{K:bg}{H H':Hp}{a:au}{xs:aj V}(e:oV H H')(h:fE K H a xs):fE K H' a xs:=by
 rcases h with(h|⟨o,h⟩)|h
 ·exact .inl (.inl (e _ _ h))
 ·exact .inl (.inr ⟨o,e _ _ h⟩)
 ·exact .inr h
theorem Kk(env:Env):∀(names:aj (a5×c8)) (cs:aj (a5×au)),(∀y∈names,y.2=.free->∃c,env.cells.lookup y.1=ai c) ->
  ∃cl,(forIn names cs (λ(x:a5×c8) (cs:aj (a5×au))=>(match x with|(name,kind)=>if(kind==NameKind.free)=ax then(do let c<-cellOf env name;pure (ForInStep.yield ((name,c)::cs)))else pure (ForInStep.yield cs))):Sem (aj (a5×au)))=pure cl /\
   (∀x c,cl.lookup x=ai c->cs.lookup x=ai c\/env.cells.lookup x=ai c)/\(∀y∈names,y.2=.free->∃c,cl.lookup y.1=ai c)/\(∀x c,cs.lookup x=ai c->∃c',cl.lookup x=ai c')
 |[],cs,_=>⟨cs,rfl,λ_ _ h => .inl h,λ_ h=>(nomatch h),λ_ c h=>⟨c,h⟩⟩
 |(n,k)::r,cs,h=>by
  by_cases f:k=.free
  ·subst f;obtain⟨c,g⟩:=h (n,.free) kP rfl;obtain⟨cl,e,h1,h2,U⟩:=Kk env r ((n,c)::cs) λy j=>h y (gJ _ j);refine⟨cl,?_,λx d hd=>?_,λy j b=>?_,λx d hd=>?_⟩
   ·rw[List.forIn_cons];simp only[beq_self_eq_true,kS,cellOf,g,pure_bind];exact e
   ·rcases h1 x d hd with q|q
    ·rw[JB]at q;split at q
     ·rename_i a;have i:x=n:=by simpa using a
      subst i;exact .inr (g.trans q)
     ·exact .inl q
    ·exact .inr q
   ·rcases eK.mp j with z|z
    ·subst z;exact U n c (by simp)
    ·exact h2 y z b
   ·by_cases a:x=n
    ·subst a;exact U x c (by simp)
    ·have hb:(x==n)=aq:=by simpa using a
     exact U x d (by rw[JB,hb];exact hd)
  ·obtain⟨cl,e,h1,h2,U⟩:=Kk env r cs λy j=>h y (gJ _ j);have hb:(k==NameKind.free)=aq:=by simpa using f
   refine⟨cl,?_,h1,λy j b=>?_,U⟩
   ·rw[List.forIn_cons];simp only[hb,RF,rV,pure_bind];exact e
   ·rcases eK.mp j with z|z
    ·subst z;exact bu b f
    ·exact h2 y z b
theorem abY{scope:b9}{env:Env}(h:∀y∈scope.names,y.2=.free->∃c,env.cells.lookup y.1=ai c) :
  ∃cl,closureFor scope env=pure cl/\(∀x c,cl.lookup x=ai c->env.cells.lookup x=ai c)/\∀y∈scope.names,y.2=.free->∃c,cl.lookup y.1=ai c:=by
 obtain⟨cl,e,h1,h2,_⟩:=Kk env scope.names [] h;refine⟨cl,?_,λx c j=>(h1 x c j).resolve_left (by simp),h2⟩;unfold closureFor;refine Eq.trans (c7 (λm=>m >>= λcs=>pure cs) e) ?_;rfl
section
variable{prog:bf}{w:bo}{A:br}{R:Result->aw->Prop}{s:aw}
theorem aB5{elt target iter:bp}{ifs:aj bp}{scope:b9}{pos:cx}{g acc:ao}{env:Env}(I:ay->aw->Prop)
  (turn:∀n s,I n s->wpAny (bj prog w) A (du g) (λr s₁=>match r with
   |none=>R (.ok .next) s₁
   | some v=>wpAny (bj prog w) A (letOwnedTupleGo target g v) (λ_ i=>wpAny (bj prog w) A (assign target env v) (λ_ s₂ =>
     wpAny (bj prog w) A (forIn ifs ax λc r=>if r=ax then do let ok<-isTrue c env (bz c env);pure (ForInStep.yield ok)else pure (ForInStep.yield r)) (λok j =>
      if ok=ax then wpAny (bj prog w) A (bz elt env) (λx z =>
       wpAny (bj prog w) A (call (.builtin "list.append") [acc,x]) (λ_ q=>∃m,m<n/\I m q) (λ_ _=>cb) z) (λ_ _=>cb) j
      else ∃m,m<n/\I m j) (λ_ _=>cb) s₂) (λ_ _=>cb) i) (λ_ _=>cb) s₁) (λ_ _=>cb) s)
  (n:ay) (h:I n s) :
  codeAny (bj prog w) A (.compLoop (.ListComp elt [⟨target,iter,ifs,0⟩] scope pos) 0 g acc env) R s:=by
 refine codeAny_loop rfl I (λn s k=>?_) n h;show wpAny _ A ((compTurn (.ListComp elt [⟨target,iter,ifs,0⟩] scope pos) 0 g acc env).onRaise (λx=>do noteFrame x env;theTreesLotGoes x)) _ _ s;refine wpAny_noted ?_;rw[compTurn_list];refine aM (wpAny_standAt (aM (pV (turn n s k) (λr s₁ a=>?_) λ_ _ h'=>h'.elim)));cases r with
 |none=>exact bS a
 |some v =>
  refine aM (pV a (λ_ i b=>?_) λ_ _ h'=>h'.elim);refine aM (pV b (λ_ s₂ f=>aM (pV f (λok j U=>?_) λ_ _ h'=>h'.elim)) λ_ _ h'=>h'.elim);cases ok with
  |false=>exact bS ⟨rfl,U⟩
  |true =>
   exact aM (aM (pV U (λx z e=>aM (pV e (λ_ q d=>bS (bS ⟨rfl,d⟩)) λ_ _ h'=>h'.elim)) λ_ _ h'=>h'.elim))
end
def IL(X:Cx)(ifs:aj bp)(t:TT):Prop :=
 ∀(aa:aj (au×cq)) (s:aw) (J:St) (H:Hp) (Q:bh->Hp->Prop),Inv X aa J H s->t J H Q ->
  wpAny (bj X.prog X.w) X.A (forIn ifs ax λc r=>if r=ax then do let ok<-isTrue c X.env (bz c X.env);pure (ForInStep.yield ok)else pure (ForInStep.yield r)) (TP X aa J Q) X.xe s
def ahC:TT:=λ_ H Q=>Q ax H
theorem am7{X:Cx}:IL X [] ahC:=λ_ _ _ H _ I h=>wpAny_tests_nil ⟨H,I,h⟩
noncomputable def iN(X:Cx)(scope:b9)(q:aj a5)(js:aj ay)(cl:aj (a5×au))(C:au)(s:aw)(H:Hp)(fp:aj au):Cx :=
 {X with N:=q++js.map (λj=>X.N.getD j Str.empty),s₀:=s,H₀:=H,env:=compEnvC scope cl C X.env,outer:=X.stack,ex:=fp,fn:=λ_=>aq,xe:=λ_ _=>cb}
noncomputable def AF(q:aj a5)(js:aj ay)(J:St):St:=q.map (λ_=>ak)++js.map (λj=>(J[j]?).join)
noncomputable def gk(env:Env)(n:a5)(k:c8):c8:=if(k==NameKind.free&&env.scope.kind == .function&&env.kindOf n==ai .cell)=ax then .cell else k
theorem Uo(env:Env)(names:aj (a5×c8)):(names.map λ(n,k)=>if(k==NameKind.free&&env.scope.kind == .function&&env.kindOf n==ai .cell)then(n,NameKind.cell)else(n,k))=names.map λp=>(p.1,gk env p.1 p.2):=by
 refine JA λp _=>?_;obtain⟨n,k⟩:=p;show(if(k==NameKind.free&&env.scope.kind == .function&&env.kindOf n==ai .cell)=ax then(n,NameKind.cell)else(n,k))=(n,gk env n k);unfold gk;split <;> rfl
theorem Ga(env:Env)(x:a5):∀names:aj (a5×c8),(names.map λp=>(p.1,gk env p.1 p.2)).lookup x=(names.lookup x).map (gk env x)
 |[]=>rfl
 |(n,k)::r=>by
  rw[cV];cases j:x==n with
  |true =>
   have e:x=n:=by simpa using j
   subst e;rw[JB,JB];simp
  |false =>
   rw[JB,JB];simp only[j];exact Ga env x r
theorem lookup_mem{x:a5}{k:c8}:∀{names:aj (a5×c8)},names.lookup x=ai k->(x,k)∈names
 |[],h=>by simp at h
 |(n,q)::r,h=>by
  rw[JB]at h;cases j:x==n with
  |true =>
   have e:x=n:=by simpa using j
   subst e;simp only[beq_self_eq_true]at h;cases h;exact List.mem_cons_self ..
  |false =>
   simp only[j]at h;exact gJ _ (lookup_mem h)
theorem Gb{env:Env}{names:aj (a5×c8)}{x:a5}(h:names.lookup x=ai .free) :
  (names.map λ(n,k)=>if(k==NameKind.free&&env.scope.kind == .function&&env.kindOf n==ai .cell)then(n,NameKind.cell)else(n,k)).lookup x=ai .cell \/
  (names.map λ(n,k)=>if(k==NameKind.free&&env.scope.kind == .function&&env.kindOf n==ai .cell)then(n,NameKind.cell)else(n,k)).lookup x=ai .free:=by
 rw[Uo,Ga,h];show ai (gk env x .free)=ai .cell\/ai (gk env x .free)=ai .free;unfold gk;split
 ·exact .inl rfl
 ·exact .inr rfl
theorem Eh{env:Env}{names:aj (a5×c8)}{x:a5}(U:∀y∈names,y.2≠.cell)
  (h:(names.map λ(n,k)=>if(k==NameKind.free&&env.scope.kind == .function&&env.kindOf n==ai .cell)then(n,NameKind.cell)else(n,k)).lookup x=ai .cell \/
   (names.map λ(n,k)=>if(k==NameKind.free&&env.scope.kind == .function&&env.kindOf n==ai .cell)then(n,NameKind.cell)else(n,k)).lookup x=ai .free):(x,NameKind.free)∈names:=by
 rw[Uo,Ga]at h;cases e:names.lookup x with
 |none=>rw[e]at h;rcases h with h|h <;> cases h
 |some k =>
  have hm:=lookup_mem e
  by_cases j:k=.free
  ·rw[j]at hm;exact hm
  ·rw[e]at h;have q:gk env x k=k:=by
    unfold gk;have hb:(k==NameKind.free)=aq:=by simpa using j
    rw[hb];rfl
   have h':gk env x k=.cell\/gk env x k=.free:=h.imp (λz=>kK z) λz=>kK z;rw[q]at h'
   rcases h' with z|z
   ·exact bu z (U _ hm)
   ·exact bu z j
structure zB(X:Cx)(scope:b9)(ls:aj a5)(js:aj ay):Prop where
 kind:scope.kind=.function
 cell:∀y∈scope.names,y.2≠.cell
 names:∀y∈scope.names,y.2=.local->scope.names.lookup y.1=ai .local
 free:∀y∈scope.names,y.2=.free->X.env.kindOf y.1=ai .cell\/X.env.kindOf y.1=ai .free
 WD:∀j∈js,∃x,X.N[j]?=ai x/\scope.names.lookup x=ai .free
section
variable{X:Cx}{aa:aj (au×cq)}{J:St}{H:Hp}{s:aw}
theorem arO{scope:b9}{j:aj a5}{js:aj ay}{cl:aj (a5×au)}{C:au}{fp:aj au}(L:zB X scope j js)(I:Inv X aa J H s)
  (h1:∀x c,cl.lookup x=ai c->X.env.cells.lookup x=ai c) (h2:∀y∈scope.names,y.2=.free->∃c,cl.lookup y.1=ai c)
  {s':aw} {H':Hp} (U:s'.heap.objs.size<=C) (bs:∀b o,X.base.get? b=ai o->s'.heap.get? b=ai o/\H' b=ak) (rD:X.base.objs.size<=s'.heap.objs.size)
  (pN:s'.heap.FunFrames X.base X.stack) (uT:∀b∈jJ X.stack,H' b=ak)
  (HR:∀b∈fp,b≠C/\∀x c,X.env.cells.lookup x=ai c->c≠b) (zX:∀b o,X.base.get? b=ai o->b∉fp) (DQ:∀b∈fp,b∉jJ X.stack) :
  (iN X scope j js cl C s' H' fp).Ok where
 mod:=I.ok.mod
 kind:=L.kind
 glob:=I.ok.glob
 blt:=I.ok.blt
 above:=U
 inj:=λx y c a b=>I.ok.inj x y c (h1 x c a) (h1 y c b)
 has:=λx q=>h2 (x,.free) (Eh (env:=X.env) L.cell q) rfl
 HX:=λx c z=>by cases z
 hd:=I.ok.hd
 frames:=I.ok.frames
 uA:=.inl rfl
 HR:=λb hb=>⟨(HR b hb).1,λx c e=>(HR b hb).2 x c (h1 x c e)⟩
 bs:=bs
 rD:=rD
 zX:=zX
 DQ:=DQ
 pN:=pN
 uT:=uT
theorem arL{z:aj a5}{js:aj ay}{i:ay}{v:V}(h:(AF z js J)[i]?=ai (ai v)):∃k j,i=z.length+k/\js[k]?=ai j/\J[j]?=ai (ai v):=by
 unfold AF at h
 by_cases hi:i<z.length
 ·rw[mM (by simpa using hi),lC]at h;cases e:z[i]? with
  |none=>rw[e]at h;cases h
  |some y=>rw[e]at h;cases h
 ·rw[EO (by simpa using Ob hi),lC,lB]at h;cases e:js[i-z.length]? with
  |none=>rw[e]at h;cases h
  |some j =>
   rw[e]at h;refine⟨i-z.length,j,by omega,e,?_⟩;have h':(J[j]?).join=ai v:=kK h;cases q:J[j]? with
   |none=>rw[q]at h';cases h'
   |some o =>
    rw[q]at h';exact c7 ai h'
def LcR(d:aj a5)(js:aj ay)(g:TG)(tc:TT)(te:TE)(J:St)(Q:VK)(σ:It)(H1:Hp):Prop:=∀D,H1 D=ak ->
 ∃W:ay->ay->St->Hp->Prop,(∃m,W 0 m (AF d js J) (upd H1 D (.lst [])))/\∀i m z H',W i m z H' ->
  (σ.stop i H'/\Q (.ref D) H')\/(σ.go i H'/\∃N:St->Hp->Prop,(∀q H2,N q H2->∃U,U<m/\W (i+1) U q H2) /\
   ∀x H2,σ.BV i H' x H2->g x z H2 λj e=>tc j e λc b=>if c=ax then te j b λy a=>∃ys,a D=ai (.lst ys)/\ys.length<az/\N j (upd a D (.lst (ys++[y])))else N j b)
def SI(q:aj a5)(js:aj ay)(j:TI)(g:TG)(tc:TT)(te:TE):TE:=λJ H Q=>j J H (LcR q js g tc te J Q)
theorem Xx{elt tg iter:bp}{ifs:aj bp}{scope:b9}{pos amV:cx}{B:aj a5}{js:aj ay}{wi:TI}{g:TG}{tc:TT}{te:TE}{use:ar (ao->Sem Unit)}{R:ao->aw->Prop}{Q:V->Hp->Prop}(hc:X.calm=ax)(L:zB X scope B js)(hi:PI X tg iter wi)
  (hb:∀cl C s H fp,PG (iN X scope B js cl C s H fp) tg g/\IL (iN X scope B js cl C s H fp) ifs tc/\PE (iN X scope B js cl C s H fp) elt te)
  (hs:∀x,ck iter X.env x=pure x) (I:Inv X aa J H s) (h:SI B js wi g tc te J H Q)
  (fin:∀d C S s6 m,Inv X aa J S s6->qP X aa S C->s6.heap.Ns C m->Q (.ref d) S->compPost (bj X.prog X.w) X.A X.xe use R (.ref d) C (.ok .next) s6) :
  wpAny (bj X.prog X.w) X.A (comprehension (.ListComp elt [⟨tg,iter,ifs,0⟩] scope pos) scope X.env amV (newList []) aq (bz iter X.env) use) R X.xe s:=by
 obtain⟨cl,gW,mK,lX⟩:=abY (scope:=scope) (env:=X.env) λy hy hf=>I.ok.has y.1 (L.free y hy hf);refine wpAny_comprehension_free rfl hs gW L.kind L.names (bT (hi aa s J H _ I h) λv s1 h1=>bT h1 λGv U h2=>?_);obtain⟨it,fp,tn,σ,t,e,I2,T,vT,D,h2⟩:=h2;subst e;refine pU (wpAny_newFunctionEnv L.cell (by intro y hy;simp at hy) (λf Hl He=>?_) L.kind);dsimp only at Hl He ⊢;generalize Iv:U.heap.push {cls:=.type "list",dict:=ak,data:=.seq ([]:aj ao).toArray}=a at Hl He ⊢;have hCz:a.objs.size=U.heap.objs.size+1:=by rw[<-Iv,JI]
 have hD0:t U.heap.objs.size=ak:=I2.aL.fresh dD;have hC0:t a.objs.size=ak:=I2.aL.fresh (by omega);have hDC:U.heap.objs.size≠a.objs.size:=by omega
 have axN:a.get? U.heap.objs.size=ai {cls:=.type "list",dict:=ak,data:=.seq ([]:aj ao).toArray}:=by rw[<-Iv];exact hU _ rfl
 have Gr:∀b o,U.heap.get? b=ai o->a.get? b=ai o:=λb o e=>by rw[<-Iv];exact eN _ e
 have E:Inv X aa J (upd t U.heap.objs.size (.lst [])) {U with heap:=a,toks:=U.toks} :=
  I2.laid (t':=U.toks) Gr dD (show jA X.prog X.w _ a _ (.lst [])from⟨by simp,[],0,.nil,axN⟩)
 have Gs:∀b o,a.get? b=ai o->f.get? b=ai o:=λb o e=>(He.2 b (iB (eY e))).trans (eN _ e);have I4:Inv X aa J (upd t U.heap.objs.size (.lst [])) {U with heap:=f,toks:=U.toks+0}:=E.kept (h':=f) (t':=U.toks+0) Gs;generalize hT:(t,(⟨tg,iter,ifs,0⟩:Comprehension))=asF;clear hT asF;have Jt:∀b∈fp,b<U.heap.objs.size:=λb hb=>by
  obtain⟨o,e,_⟩:=T.obj 0 _ vT b hb;exact eY e
 have fpD:U.heap.objs.size∉fp:=λz=>Nat.lt_irrefl _ (Jt _ z);have fpC:∀b∈fp,b≠a.objs.size:=λb hb=>iB (by rw[hCz];exact Ny (Jt b hb));have okC:(iN X scope B js cl a.objs.size {U with heap:=a} (upd t U.heap.objs.size (.lst [])) fp).Ok:=by
  refine arO L E mK lX dD E.bs (oW E.ok.rD E.sz) E.stack E.Bi (λb hb=>⟨fpC b hb,(D b hb).2.2.2.2.1⟩) (λb o e hb=>?_) (λb hb z=>?_)
  ·rcases(D b hb).2.2.2.1 with q|q
   ·exact I2.ok.zX b o e q
   ·exact bu (nA (eY (I2.ok.bs b o e).1) q) (Nat.lt_irrefl _)
  ·rcases eK.mp (E.LJ b z)with q|q
   ·exact(D b hb).2.1 q
   ·exact(D b hb).2.2.1 q
 have IC:Inv (iN X scope B js cl a.objs.size {U with heap:=a} (upd t U.heap.objs.size (.lst [])) fp) [] (AF B js J) (upd t U.heap.objs.size (.lst [])) {U with heap:=f,toks:=U.toks+0}:=by
  refine⟨okC,rfl,I4.bare,Un.kept Gs,⟨_,Hl,λi x v e1 e2 e3=>?_⟩,λx c e=>I4.cell x c (mK x c e),?_,λx c e=>I4.nV x c (mK x c e),λp hp=>?_,I4.aL,?_⟩
  ·obtain⟨k,j,pL,hj,hσ⟩:=arL e2;obtain⟨y,hy,Gy⟩:=L.WD j (kF hj);have CY:x=y:=by
    have wQ:(B++js.map (λj=>X.N.getD j Str.empty))[i]?=ai x:=e1;rw[pL,EO (Nat.le_add_right ..),Nat.add_sub_cancel_left,lC,hj]at wQ;have Kg:X.N.getD j Str.empty=x:=kK wQ;rw[<-Kg,List.getD_eq_getElem?_getD,hy];rfl
   subst CY;have Zp:X.env.kindOf x=ai .cell\/X.env.kindOf x=ai .free:=by
    have hm:(x,NameKind.free)∈scope.names:=by
     have q:=Eh (env:=X.env) L.cell (Gb (env:=X.env) Gy);exact q
    exact L.free _ hm rfl
   obtain⟨m,hn,hl⟩:=I4.loc;obtain⟨u,r,l⟩:=hl j x v hy hσ (Zp.elim (λz => .inr (.inl z)) λz => .inr (.inr z));refine⟨u,r,.inr ⟨Gb (env:=X.env) Gy,?_⟩⟩
   rcases l with⟨kl,_⟩|⟨_,c,wK,z⟩
   ·rcases Zp with q|q
    ·rw[q]at kl;cases kl
    ·rw[q]at kl;cases kl
   ·have hm:(x,NameKind.free)∈scope.names:=Eh (env:=X.env) L.cell (Gb (env:=X.env) Gy);obtain⟨c',aaH⟩:=lX _ hm rfl;have:=mK _ _ aaH;rw[wK]at this;cases this;exact⟨c,aaH,z⟩
  ·show upd t U.heap.objs.size (.lst []) a.objs.size=ak;rw[cD (eM hDC)];exact hC0
  ·have AK:p∈X.pn:=by simpa[iN]using hp
   obtain⟨e,n,ne,nf,d⟩:=I4.pin p (YI _ AK);obtain⟨e3,_⟩:=E.pin p (YI _ AK);refine⟨e,n,?_,λz=>?_,d⟩
   ·exact iB (eY e3)
   ·rcases eK.mp (E.LJ p.1 z)with q|q
    ·exact ne q
    ·exact nf q
  ·simp[AF,iN]
 obtain⟨Ik,hbI,hbE⟩:=hb cl a.objs.size {U with heap:=a} (upd t U.heap.objs.size (.lst [])) fp;obtain⟨W,⟨m0,w0⟩,turn⟩:=h2 U.heap.objs.size hD0;have Tt:tn 0 f:=T.keep _ _ _ vT λb hb o e=>Gs b o (Gr b o e);have fO:∀{M:Hp},(∀b∈fp,M b=ak)->∀b∈fp,qP (iN X scope B js cl a.objs.size {U with heap:=a} (upd t U.heap.objs.size (.lst [])) fp) [] M b:=λhn b hb=>by
  refine⟨hn b hb,fpC b hb,λz=>?_,.inl hb,λx c e=>(D b hb).2.2.2.2.1 x c (mK x c e),λp hp=>?_⟩
  ·rcases eK.mp (E.LJ b z)with q|q
   ·exact(D b hb).2.1 q
   ·exact(D b hb).2.2.1 q
  ·have AK:p∈X.pn:=by simpa[iN]using hp
   exact(D b hb).2.2.2.2.2 p (YI _ AK)
 have fr0:∀b∈fp,(upd t U.heap.objs.size (.lst [])) b=ak:=λb hb=>by
  rw[cD (show b≠U.heap.objs.size from iB (Jt b hb))];exact(D b hb).1
 have loop:∀s4:aw,s4={U with heap:=f,toks:=U.toks+0} ->
   codeAny (bj X.prog X.w) X.A (.compLoop (.ListComp elt [⟨tg,iter,ifs,0⟩] scope pos) 0 (.ref it) (.ref U.heap.objs.size) (compEnvC scope cl a.objs.size X.env))
    (compPost (bj X.prog X.w) X.A X.xe use R (.ref U.heap.objs.size) a.objs.size) s4:=by
  rintro s4 rfl;refine aB5 (λn s'=>∃i K M,Inv (iN X scope B js cl a.objs.size {U with heap:=a} (upd t U.heap.objs.size (.lst [])) fp) [] K M s'/\tn i s'.heap/\(∀b∈fp,M b=ak)/\W i n K M) ?_ m0 ⟨0,_,_,IC,Tt,fr0,w0⟩;rintro n s5 ⟨i,P,S,I5,FX,VP,w5⟩
  rcases turn i n P S w5 with⟨stop,qn⟩|⟨go,N,hN,step⟩
  ·refine bT (T.done (iN X scope B js cl a.objs.size {U with heap:=a} (upd t U.heap.objs.size (.lst [])) fp) rfl rfl rfl hc i [] s5 P S _ I5 (fO VP) FX stop) λr s6 ⟨hr,I6⟩=>?_;subst hr;obtain⟨m6,Hm,_⟩:=I6.loc;have un1:Un (jJ X.stack) fp (upd t U.heap.objs.size (.lst [])) S a s6.heap:=I6.base;have un:=(Un.laid Gr dD hD0).trans un1;exact fin _ _ _ _ _ (I2.HW (s':=s6) (ch:=fp) I6.os un I6.aL I6.bare λb hb=>⟨(D b hb).2.2.2.1,(D b hb).2.1,(D b hb).2.2.2.2.1,(D b hb).2.2.2.2.2⟩) (E.uU dD I6.free) Hm qn
  ·refine bT (T.item (iN X scope B js cl a.objs.size {U with heap:=a} (upd t U.heap.objs.size (.lst [])) fp) rfl rfl rfl hc i [] s5 P S _ I5 (fO VP) FX go) λr s6 ⟨u,hr,h6⟩=>?_;subst hr;refine bT h6 λ_ s7 zz=>?_;obtain⟨x,H7,I7,r7,y7,Bk,fr7⟩:=zz;have I7':=I7.pinned (fO fr7) (T.obj _ _ Bk);refine bT (Ik _ s7 P H7 x u _ I7' r7 (step x H7 y7)) λ_ s8 ⟨J8,H8,I8,q8⟩=>?_;refine bT (hbI _ s8 J8 H8 _ I8 q8) λok s9 ⟨H9,I9,q9⟩=>?_;have again:∀{G:St} {Ha:Hp} {sa:aw},Inv (iN X scope B js cl a.objs.size {U with heap:=a} (upd t U.heap.objs.size (.lst [])) fp) ([]++LX fp s7.heap) G Ha sa->N G Ha ->
     ∃m,m<n/\∃i K M,Inv (iN X scope B js cl a.objs.size {U with heap:=a} (upd t U.heap.objs.size (.lst [])) fp) [] K M sa/\tn i sa.heap/\(∀b∈fp,M b=ak)/\W i m K M:=λ{G Ha sa} Ia na=>by
    obtain⟨m',hm,wa⟩:=hN G Ha na;refine⟨m',hm,i+1,G,Ha,Ia.LB,T.keep _ _ _ Bk λb hb o e=>(Ia.pin (b,o) (tP _ (tP _ (MI hb e)))).1,λb hb=>?_,wa⟩;obtain⟨o,e,d⟩:=T.obj _ _ Bk b hb;exact(Ia.pin (b,o) (tP _ (tP _ (MI hb e)))).2.1
   cases ok with
   |false=>exact again I9 q9
   |true =>
    refine bT (hbE _ s9 J8 H9 _ I9 q9) λy s10 zz=>?_;obtain⟨z,H10,I10,r10,ys,hD,fF,nn⟩:=zz;obtain⟨zz,bB,k,r,hl,e⟩:=I10.GJ hD;refine call_meets F.slot_list_append ⟨_,e,rfl⟩ F.entry_list_append (F.args_list_append_2 _ _) (PySem.list_append U.heap.objs.size bB.toArray k y (by rw[jB];omega)) ⟨e,?_⟩;refine again (I10.Fz (its':=bB++[y]) (t':=s10.toks) hD e ?_ (r.append (.cons r10 .nil)) ?_) nn
    ·simp
    ·simp;omega
 exact codeAny_compStart_list (loop _ rfl) (T.self _ 0 _ _ _ Tt (loop _ rfl))
theorem Inv.back{C:au}{h':bx}(I:Inv X aa J H s)(f:qP X aa H C)(j:Heap.SameBut C s.heap h'):Inv X aa J H {s with heap:=h' }:=by
 have ne1:∀b,b∉[C]->b≠C:=λb hb z=>hb (by rw[z];exact List.mem_singleton_self _);have U:Un (jJ X.stack) [C] H H s.heap h':=⟨λb o e n a x=>(j.2 b (ne1 b x)).trans e,λb o e n a x=>⟨o.slots,(j.2 b (ne1 b x)).trans e⟩,λ_ _ _ n _=>n,λb o e x=>⟨o,(j.2 b (ne1 b x)).trans e⟩,λ_ _ q=>q,λ_ _ _ q=>q,λ_ h q=>⟨#[],by rw[q];simp⟩⟩;have g:gL X.prog X.w H h':=λb o e=>by
  refine(I.aL b o e).oF (λc u d q=>(j.2 c ?_).trans q) (λ_ q=>q) λ_ _ q=>q;rintro rfl
  rcases d with z|z
  ·subst z;rw[f.1]at e;cases e
  ·rw[f.1]at z;cases z
 exact I.HW (s':={s with heap:=h' }) (ch:=[C]) rfl U g I.bare λb hb=>by
  rw[oX.mp hb];exact⟨f.2.2.2.1,f.2.1,f.2.2.2.2.1,f.2.2.2.2.2⟩
theorem anV{elt tg iter:bp}{ifs:aj bp}{scope:b9}{pos:cx}{j:aj a5}{js:aj ay}{z:TI}{g:TG}{tc:TT}{te:TE}(b:X.calm=ax)(L:zB X scope j js)(hi:PI X tg iter z)
  (hb:∀cl C s H fp,PG (iN X scope j js cl C s H fp) tg g/\IL (iN X scope j js cl C s H fp) ifs tc/\PE (iN X scope j js cl C s H fp) elt te)
  (a:∀x,ck iter X.env x=pure x:=by intro _;rfl):PE X (.ListComp elt [⟨tg,iter,ifs,0⟩] scope pos) (SI j js z g tc te):=by
 intro aa s J H Q I h;rw[eval_ListComp];exact Xx b L hi hb a I h λd C e i m c f hn q=>⟨m,hn,λh' U=>⟨.ref d,e,c.back f U,rfl,q⟩⟩
end
section
variable{X:Cx}
theorem aCK(f:X.calm=ax):pS X (.builtin "sum") (λxs H Q=>∃(a:au) (ns:aj av),xs=[.ref a]/\fE X.K H a (ns.map V.int)/\Q (.int ns.sum) H):=by
 intro aa s J H xs g Q I r h;obtain⟨a,ns,rfl,c,q⟩:=h;obtain⟨u,rfl,b⟩:=vals1 r;cases b;obtain⟨j,U,pl,i⟩:=I.list c;have hi:c4 j ns:=intsAre_of U;obtain⟨xs,z⟩:=hi.allInts.items;have hl:s.heap.IsList a (intItems xs):=z ▸ pl.isList;refine sum_intListG (I.ok.hd f) hl λh' tk t' d=>?_;have e:preSum (numAt xs) xs.size=ns.sum:=by
  rw[preSum_eq,aeJ (by simp),<-nums_intItems,<-z,show j.toArray.toList=j from rfl,hi.numsOf]
 exact⟨.int ns.sum,H,I.kept (t':=tk) d,⟨t',by rw[e]⟩,q⟩
theorem aCW:pS X (.builtin "isinstance") (λxs H Q=>∃x n t b,xs=[x,.ty n]/\rE X.K H x t/\kitOne X.K t (.type n)=ai b/\Q (.bl b) H):=by
 intro aa s J H xs U Q I r h;obtain⟨x,n,t,b,rfl,ty,e,q⟩:=h;obtain⟨u,v,rfl,z,j⟩:=vals2 r;cases j;exact asW I z ty e λtk=>⟨.bl b,H,I.tok tk,rfl,q⟩
end
inductive Dt where
 |int (i:av)|bl (b:bh)|str (x:a5)|dE|tup (ds:aj Dt)|lst (ds:aj Dt)
def Den(K:bg)(H:Hp):ay->V->Dt->Prop
 |_,v,.int j=>v=.int j
 |_,v,.bl b=>v=.bl b
 |_,v,.str x=>v=.str x
 |_,v,.dE=>v=.dE
 |0,_,.tup _=>cb
 |0,_,.lst _=>cb
 |n+1,v,.tup ds=>∃a xs,v=.ref a/\jK K H a xs/\Paired (Den K H n) xs ds
 |n+1,v,.lst ds=>∃a xs,v=.ref a/\fE K H a xs/\Paired (Den K H n) xs ds
structure HasFn(K:bg)(mg:a5->ar ao)(x:a5)(st:bt):Prop where
 ex:∃f fd,mg x=ai (.ref f)/\tQ K x x st f fd
theorem fR{K:bg}{h:bx}{mg:a5->ar ao}{x:a5}{st:bt}{f:au}{z:ao}{od b:ar au}{U:bq (ar ao)}{kV doc q j ct:ao}(X:K.In h)(G:h.Ns bc mg)
  (a:dz K bc x=ai (ai (.ref f))) (l:K.lookup f=ai ⟨z,od,.func (dw x x (iZ st) (fI st) (bC st) .none kV doc q b j ct),U⟩)
  (c:codeIn K j x=ax) (k:di K (.ref f)=ax):HasFn K mg x st:=⟨⟨f,_,mg_of X G a,OE l c k⟩⟩
structure Def(P:bf)(w:bo)(K:bg)(mg:a5->ar ao)(base:bx)(x:a5)(k:ay)(ps:aj a5)(sp:Sp):Prop where
 ex:∃f fd,iQ P w K mg base BU k f fd ps sp/\mg x=ai (.ref f)/\di K (.ref f)=ax/\Binds K fd ps []
theorem an7{X:Cx}{k:ay}{x:a5}{ps:aj a5}{sp:Sp}{e:bp}{es:aj bp}{t:TA}{p pos:cx}(D:Def X.prog X.w X.K X.mg X.base x k ps sp)(hr:cZ k X.A)(q:Gl X x)(ha:PA X (e::es) t)
  (z:(x==("__debug__" : a5))=aq:=by decide) (he:ba (e::es) X.env=(aq,bz e X.env)::ba es X.env:=by rfl) (U:(cg pos (ba es X.env)).any (·.1)=aq:=by rfl) :
  PE X (.Call (.Name x p) (e::es) [] pos) (Tg sp [] E0 t):=by
 obtain⟨f,a,F,hm,j,hb⟩:=D.ex;exact aoA F hr q hm j hb .nil Vy ha z he U
theorem oV.new{H:Hp}{p:au}{o:HO}(h:H p=ak):oV H (upd H p o):=λb u e=>by rw[cD (jD e h)];exact e
def aE5(K:bg)(H:Hp)(v:V)(ns:aj av):Prop:=∃p,v=.ref p/\jK K H p (ns.map V.int)
def Rows(K:bg)(H:Hp)(xs:aj V)(rs:aj (aj av)):Prop:=Paired (aE5 K H) xs rs
def aDZ(h₀ h:bx)(H:Hp)(x:au)(vs:bq ao):Prop :=
 ∃T q j,vs[1]?=ai (.ref T)/\T≠x/\h₀.get? T=ak/\H T=ak/\h.get? T=ai q/\q.data=.fields j/\3<j.size
def oY(h₀ h:bx)(H:Hp)(x:au)(cls:ao)(dx:ar au)(tb:bh):Prop :=
 h₀.get? x=ak/\H x=ak/\∃j vs,h.get? x=ai j/\j.cls=cls/\j.dict=dx/\j.data=.fields vs/\1<vs.size/\((tb=aq/\vs[1]?=ai .none)\/aDZ h₀ h H x vs)
theorem oY.any{h₀ h:bx}{H:Hp}{x:au}{cls:ao}{dx:ar au}{tb:bh}(e:oY h₀ h H x cls dx tb):oY h₀ h H x cls dx aq:=by
 obtain⟨a,b,q,j,i,g,f,d,c,U⟩:=e;exact⟨a,b,q,j,i,g,f,d,c,U.imp (λz=>⟨rfl,z.2⟩) id⟩
structure wU(X:Cx):Prop where
 uA:X.stack=X.env::X.outer
 OF:X.env.frame=ai X.env.locals
 pn:X.pn=[]
theorem wU.mem{X:Cx}(t:wU X){b:au}:b∈jJ X.stack<->b=X.env.locals\/b∈X.fs:=by
 rw[t.uA];unfold jJ;rw[Ot,t.OF];exact eK
section
variable{X:Cx}{J:St}{H:Hp}{s:aw}
theorem Inv.Ej{h':bx}{ch:aj au}(I:Inv X [] J H s)(t:wU X)(w:∀b∈ch,X.s₀.heap.get? b=ak/\H b=ak/\∃o vs,s.heap.get? b=ai o/\o.data=.fields vs)
  (keep:∀b o,b∉jJ X.stack->b∉ch->s.heap.get? b=ai o->h'.get? b=ai o) (slot:∀b o,b∈jJ X.stack->s.heap.get? b=ai o->∃sl,h'.get? b=ai {o with slots:=sl}) :
  Inv X [] J H {s with heap:=h' }:=by
 have D:∀c v,s.heap.IsCell c v->c∉ch:=λc v ⟨o,U,hd⟩ j=>by
  obtain⟨_,_,A,vs,e,d⟩:=w c j;rw[U]at e;cases e;rw[hd]at d;cases d
 have any:∀b o,b∉ch->s.heap.get? b=ai o->∃sl,h'.get? b=ai {o with slots:=sl}:=λb o j e=>by
  by_cases hb:b∈jJ X.stack
  ·exact slot b o hb e
  ·exact⟨o.slots,keep b o hb j e⟩
 have cellK:∀c v,s.heap.IsCell c v->h'.IsCell c v:=λc v z=>by
  obtain⟨o,U,hd⟩:=id z;obtain⟨sl,e⟩:=any c o (D c v z) U;exact⟨_,e,hd⟩
 have old:∀b o,X.s₀.heap.get? b=ai o->b≠X.env.locals/\b∉ch:=λb o e =>
  ⟨iB (nA (eY e) I.ok.above),λj=>by rw[(w b j).1]at e;cases e⟩
 have B:∀b,b≠X.env.locals->b∉X.fs->b∉jJ X.stack:=λb h1 h2 z=>(t.mem.mp z).elim h1 h2;refine⟨I.ok,I.os,I.bare,⟨λb o e n hb a=>?_,λb o e n hb a=>?_,I.base.free,λb o e a=>?_,I.base.oB,I.base.mX,I.base.nQ⟩,?_,λx c e=>?_,I.free,I.nV,λp E=>?_,λb u e=>?_,I.len⟩
 ·exact keep b o (B b (old b o e).1 hb) (old b o e).2 (I.base.keep b o e n hb a)
 ·obtain⟨sl,h⟩:=I.base.slot b o e n hb a;obtain⟨M,g⟩:=any b _ (old b o e).2 h;exact⟨M,g⟩
 ·obtain⟨A,h⟩:=I.base.there b o e a;obtain⟨sl,g⟩:=any b A (old b o e).2 h;exact⟨_,g⟩
 ·obtain⟨m,hn,hl⟩:=I.loc;obtain⟨o,es,G,U,hd,r⟩:=id hn;have C:X.env.locals∉ch:=λj=>by
   obtain⟨_,_,A,vs,e,d⟩:=w _ j;rw[U]at e;cases e;rw[hd]at d;cases d
  obtain⟨sl,e⟩:=any _ o C U;refine⟨m,⟨_,es,G,e,hd,r⟩,λi x v h g L=>?_⟩;obtain⟨u,F,l⟩:=hl i x v h g L;refine⟨u,F,?_⟩
  rcases l with l|⟨k,c,K,z⟩
  ·exact .inl l
  ·exact .inr ⟨k,c,K,cellK c _ z⟩
 ·obtain⟨v,z⟩:=I.cell x c e;exact⟨v,cellK c v z⟩
 ·rw[t.pn]at E;simp at E
 ·refine(I.aL b u e).oF (λc v j q=>keep c v ?_ ?_ q) (λ_ q=>q) λ_ _ q=>q
  ·intro z;have f:=I.Bi c z
   rcases j with y|y
   ·rw[y,e]at f;cases f
   ·rw[y]at f;cases f
  ·intro z;have f:=(w c z).2.1
   rcases j with y|y
   ·rw[y,e]at f;cases f
   ·rw[y]at f;cases f
variable{M:Model}{E:ao->aw->Prop}{x:au}{cls:ao}{dx:ar au}
theorem oY.Fn(I:Inv X [] J H s){b:au}{o:cq}{vs:bq ao}(e:s.heap.get? b=ai o)(d:o.data=.fields vs):b∉jJ X.stack:=λhm=>by
 obtain⟨_,z,q,j⟩:=I.stack.mem hm;rw[e]at q;cases q;exact j vs d
theorem abL(I:Inv X [] J H s)(t:wU X){j:cq}{vs:bq ao}{head:ao}{m:bh}{Q:Unit->aw->Prop}(u:X.s₀.heap.get? x=ak)(v:H x=ak)(he:s.heap.get? x=ai j)(hd:j.data=.fields vs)(hsz:1<vs.size)
  (q:∀h',Inv X [] J H {s with heap:=h' }->oY X.s₀.heap h' H x j.cls j.dict ax->Q () {s with heap:=h' }) :
  wpAny M X.A (do let a<-frameOf X.env;let pl<-entryPlaceOf X.env.locals m;let b<-EntryCells.newEntry head a .none (b7 X.env.locals) .none pl;setField (.ref x) 1 b) Q E s:=by
 have L:X.A.frames=ai (X.env::X.outer):=by rw[<-t.uA];exact I.ok.frames
 have hl:s.heap.FunFrames X.base (X.env::X.outer):=by rw[<-t.uA];exact I.stack
 have gV:x∉jJ X.stack:=oY.Fn I he hd;have p:(X.env::X.outer).filterMap (·.frame)=jJ X.stack:=by rw[t.uA];rfl
 refine aM (wpAny_frameOf_fun L hl t.OF λh1 U=>aM (wpAny_entryPlaceOf λpl C=>?_));rw[p]at U;unfold EntryCells.newEntry;unfold newFields;refine aM (pU ?_ (C.sizeOk5 _ _ _ _ _));have g:h1.get? x=ai j:=(U.2.1 x gV).trans he;generalize w:({cls:=.type "traceback",dict:=ak,data:=.fields ([head,.ref X.env.locals,.none,b7 X.env.locals,.none]++(if pl.isEmpty then List.replicate 6 Value.none else pl)).toArray}:cq)=to;have k:∃h,to.data=.fields h/\3<h.size:=⟨_,by rw[<-w],by simp only[jB,vE,iP,JD];omega⟩;have i:to.isFreed=aq:=by rw[<-w];rfl
 have f:(h1.push to).get? x=ai j:=eN _ g;have r:h1.objs.size≠x:=IP (eY g);refine wpAny_setField f hd hsz ?_;have y:=Obj.data_mapFields hd (·.setIfInBounds 1 (Value.ref h1.objs.size));have l:=QJ (Obj.mapFields (·.setIfInBounds 1 (Value.ref h1.objs.size))) f (Obj.isFreed_of_fields y);have n:=(sP (h1.push to) (Obj.mapFields (·.setIfInBounds 1 (Value.ref h1.objs.size))) (eM r)).trans (hU h1 i);have kp:∀b o,b≠x->h1.get? b=ai o->((h1.push to).update x (Obj.mapFields (·.setIfInBounds 1 (Value.ref h1.objs.size)))).get? b=ai o:=λb o hb e =>
  (sP _ _ (eM hb)).trans (eN _ e)
 have N:X.s₀.heap.get? h1.objs.size=ak:=by
  cases e:X.s₀.heap.get? h1.objs.size with
  |none=>rfl
  |some o =>
   have h2:=nA (eY e) I.sz;rw[U.1]at h2;exact bu h2 (Nat.lt_irrefl _)
 have P:H h1.objs.size=ak:=by rw[U.1];exact I.aL.fresh dD
 refine q _ (I.Ej t (ch:=[x]) (λb hb=>?_) (λb o hb B e=>?_) λb o hb e=>?_) ⟨u,v,_,_,l,Obj.cls_mapFields _ _,?_,y,by simpa using hsz,.inr ⟨h1.objs.size,to,?_⟩⟩
 ·rw[oX.mp hb];exact⟨u,v,j,vs,he,hd⟩
 ·exact kp b o (λz=>B (by rw[z];exact oX.mpr rfl)) ((U.2.1 b hb).trans e)
 ·obtain⟨sl,D⟩:=U.2.2 b o e;exact⟨sl,kp b _ (λz=>gV (z ▸ hb)) D⟩
 ·obtain⟨c,d,F,sl⟩:=j;cases F <;> rfl
 ·obtain⟨h,K,G⟩:=k;exact⟨h,by simp[hsz],r,N,P,n,K,G⟩
theorem Ws(I:Inv X [] J H s)(t:wU X){tb:bh}{Q:Unit->aw->Prop}(e:oY X.s₀.heap s.heap H x cls dx tb)
  (q:∀h',Inv X [] J H {s with heap:=h' }->oY X.s₀.heap h' H x cls dx ax->Q () {s with heap:=h' }):wpAny M X.A (noteFrame (.ref x) X.env) Q E s:=by
 obtain⟨c,d,r,p,he,rfl,rfl,hd,j,v⟩:=id e;unfold noteFrame;simp only[t.OF]
 rcases v with⟨_,h1⟩|⟨T,l,a,h1,k,m,n,hT,U,h⟩
 ·refine aM (BX he hd h1 ?_);rw[bb (by decide)];exact abL I t c d he hd j q
 ·refine aM (BX he hd h1 ?_);rw[a8 (show(Value.ref T != Value.none)=ax from by simp)];obtain⟨f,g⟩:∃f,a[3]?=ai f:=⟨a[3],Qy h⟩;refine aM (BX hT U g ?_)
  by_cases hb:(f==b7 X.env.locals)=ax
  ·rw[a8 hb];exact bS (q s.heap I ⟨c,d,r,p,he,rfl,rfl,hd,j,.inr ⟨T,l,a,h1,k,m,n,hT,U,h⟩⟩)
  ·rw[bb hb];refine aM (wpAny_setField hT U h ?_);have i:∀b,b≠T->(s.heap.update T (Obj.mapFields (·.setIfInBounds 3 Value.none))).get? b=s.heap.get? b:=λb hb=>sP _ _ (eM hb);have w:T∉jJ X.stack:=oY.Fn I hT U;have y:Inv X [] J H {s with heap:=s.heap.update T (Obj.mapFields (·.setIfInBounds 3 Value.none))}:=I.Ej t (ch:=[T]) (λb hb=>by
    rw[oX.mp hb];exact⟨m,n,l,a,hT,U⟩) (λb o _ u e=>(i b (λz=>u (by rw[z];exact oX.mpr rfl))).trans e) λb o hb e=>⟨o.slots,(i b (λz=>w (z ▸ hb))).trans e⟩
   exact abL y t c d ((i x (eM k)).trans he) hd j q
theorem abB{A:br}(I:Inv X [] J H s)(t:wU X){fo:ar au}{Q:Unit->aw->Prop}(e:oY X.s₀.heap s.heap H x cls dx ax)
  (q:∀h',Inv X [] J H {s with heap:=h' }->oY X.s₀.heap h' H x cls dx ax->Q () {s with heap:=h' }):wpAny M A (setFlight (.ref x) fo) Q E s:=by
 obtain⟨l,m,r,n,he,rfl,rfl,hd,U,w⟩:=id e
 rcases w with⟨z,_⟩|⟨T,u,p,h1,c,i,k,hT,j,d⟩
 ·cases z
 unfold setFlight;refine aM (BX he hd h1 ?_);rw[a8 (show(Value.ref T != Value.none)=ax from by simp)];refine wpAny_setField hT j d ?_;generalize (fo.elim Value.none λf=>b7 f)=g;have a:∀b,b≠T->(s.heap.update T (Obj.mapFields (·.setIfInBounds 3 g))).get? b=s.heap.get? b:=λb hb=>sP _ _ (eM hb);have y:T∉jJ X.stack:=oY.Fn I hT j;have h:=Obj.data_mapFields j (·.setIfInBounds 3 g);refine q _ (I.Ej t (ch:=[T]) (λb hb=>?_) (λb o _ v e=>(a b (λz=>v (by rw[z];exact oX.mpr rfl))).trans e) λb o hb e=>⟨o.slots,(a b (λz=>y (z ▸ hb))).trans e⟩)
  ⟨l,m,r,n,(a x (eM c)).trans he,rfl,rfl,hd,U,.inr ⟨T,_,_,h1,c,i,k,QJ _ hT (Obj.isFreed_of_fields h),h,by simpa using d⟩⟩
 rw[oX.mp hb];exact⟨i,k,u,p,hT,j⟩
end
abbrev WX:=St->ao->ar au->Hp->Prop
def XE(X:Cx)(W:WX):ao->aw->Prop:=λe s'=>∃J H' x cls dx,e=.ref x/\Inv X [] J H' s'/\oY X.s₀.heap s'.heap H' x cls dx aq/\W J cls dx H'
section
variable{X:Cx}
theorem aoI(t:wU X){W:WX}:PassesOwn (bj X.prog X.w) X.A X.env (XE X W):=by
 rintro e s' ⟨J,h,x,cls,c,rfl,I,ex,w⟩;unfold notedBy;refine Ws I t ex λh1 g j=>?_;unfold cameBackBy;obtain⟨k,l,p,m,he,s,a,hd,U,d⟩:=id j
 rcases d with⟨z,_⟩|⟨T,r,o,q,i,v,y,hT,n,u⟩
 ·cases z
 refine aM (BX he hd q ?_);rw[bb (show ¬((Value.ref T==Value.none)=ax)from by simp)];exact abB g t j λh2 f b=>⟨J,h,x,cls,c,rfl,f,b.any,w⟩
def oZ(P:bf)(w:bo):qT:=λouter H s E e s'=>∃x cls dx H',e=.ref x/\s'.os=s.os/\AllBare s'.gens/\Un (jJ outer) [] H H' s.heap s'.heap/\gL P w H' s'.heap/\oY s.heap s'.heap H' x cls dx ax/\E cls dx H'
end
structure qL(X:Cx)(W:WX):Prop where
 top:wU X
 ex:X.ex=[]
 to:∀e s',XE X W e s'->X.xe e s'
 passes:PassesOwn (bj X.prog X.w) X.A X.env X.xe
theorem qL.of{X:Cx}(t:wU X)(j:X.ex=[])(W:WX):qL (X.tW (XE X W)) W where
 top:=⟨t.uA,t.OF,t.pn⟩
 ex:=j
 to:=λe s' ⟨J,z,x,cls,q,a,I,b,c⟩=>⟨J,z,x,cls,q,a,I.xP,b,c⟩
 passes:=aoI t
theorem Inv.Es{X:Cx}{aa:aj (au×cq)}{J:St}{H:Hp}{s:aw}(I:Inv X aa J H s):Inv X [] J H s:=I.Er λp j=>bu j (by simp)
theorem Inv.first{X:Cx}{aa:aj (au×cq)}{J:St}{H:Hp}{s:aw}(I:Inv X aa J H s)(q:X.ex=[]){b:au}(h:s.heap.get? b=ak):X.s₀.heap.get? b=ak:=by
 cases e:X.s₀.heap.get? b with
 |none=>rfl
 |some o =>
  obtain⟨z,j⟩:=I.base.there b o e (by rw[q];simp);rw[h]at j;cases j
theorem oY.first{X:Cx}{aa:aj (au×cq)}{J:St}{H H':Hp}{s:aw}{h':bx}{x:au}{cls:ao}{dx:ar au}{tb:bh}(I:Inv X aa J H s)(j:X.ex=[])(e:oY s.heap h' H' x cls dx tb) :
  oY X.s₀.heap h' H' x cls dx tb:=by
 obtain⟨a,b,U,q,t,r,p,o,n,m⟩:=e;refine⟨I.first j a,b,U,q,t,r,p,o,n,m.imp id λ⟨T,c,z,l,k,i,h,g,f,d⟩=>⟨T,c,z,l,k,I.first j i,h,g,f,d⟩⟩
section
variable{P:bf}{w:bo}{K:bg}{mg:a5->ar ao}{base:bx}
abbrev nX(P:bf)(w:bo)(K:bg)(mg:a5->ar ao)(base:bx)(N:aj a5)(qual:a5)(scope:b9)(f:au)(j:ao)(A:br)(outer:aj Env)(s:aw)(H:Hp)(E:XK):Cx :=
 (tM (oZ P w) P w K mg base N qual scope f j A outer s H E).tW (XE (tM (oZ P w) P w K mg base N qual scope f j A outer s H E) λ_=>E)
theorem Ar{CX:qT}{N:aj a5}{qual:a5}{scope:b9}{f:au}{j:ao}{A:br}{outer:aj Env}{s:aw}{H:Hp}{E:XK}:wU (tM CX P w K mg base N qual scope f j A outer s H E):=⟨rfl,rfl,rfl⟩
theorem bE{N:aj a5}{qual:a5}{scope:b9}{f:au}{j:ao}{A:br}{outer:aj Env}{s:aw}{H:Hp}{E:XK}:qL (nX P w K mg base N qual scope f j A outer s H E) (λ_=>E):=qL.of Ar rfl _
theorem ML{N:aj a5}{qual:a5}{scope:b9}{f:au}{z:ao}{A:br}{outer:aj Env}{s:aw}{H:Hp}{E:XK}{st:aj bt}{t:TS}(h:sI (nX P w K mg base N qual scope f z A outer s H E) st t) :
  sI (tM (oZ P w) P w K mg base N qual scope f z A outer s H E) st t:=by
 intro aa a J m D I hw;refine pV (h aa a J m D (I.tW _) hw) (λ_ _ q=>q.xP) λe s' b=>?_;obtain⟨U,n,x,cls,i,rfl,l,ex,q⟩:=b;show wpAny _ _ (leaving _ _) _ _ _;unfold leaving;refine aM (Ws (E:=λg o=>oZ P w outer H s E g o) l Ar ex λh1 k d=>?_);refine abB k Ar d λh2 j c=>?_;exact⟨x,cls,i,n,rfl,j.os,j.bare,j.base,j.aL,c,q⟩
structure JY(P:bf)(w:bo)(K:bg)(mg:a5->ar ao)(base:bx)(x:a5)(k:ay)(ps:aj a5)(sp:Sp):Prop where
 ex:∃f fd,iQ P w K mg base (oZ P w) k f fd ps sp/\mg x=ai (.ref f)/\di K (.ref f)=ax/\Binds K fd ps []
end
section
variable{X:Cx}{W:WX}{x:a5}{p pos np kX:cx}{e:bp}{es:aj bp}{t:TA}
def Bc(sp:Sp)(W:WX)(t:TA):TE:=λJ H Q=>t J H λvs H1=>sp vs H1 Q λcls dx H'=>W J cls dx H'
theorem an6{k:ay}{ps:aj a5}{sp:Sp}(T:qL X W)(D:JY X.prog X.w X.K X.mg X.base x k ps sp)(hr:cZ k X.A)(n:Gl X x)(ha:PA X (e::es) t)
  (o:(x==("__debug__" : a5))=aq:=by decide) (he:ba (e::es) X.env=(aq,bz e X.env)::ba es X.env:=by rfl) (v:(cg pos (ba es X.env)).any (·.1)=aq:=by rfl) :
  PE X (.Call (.Name x p) (e::es) [] pos) (Bc sp W t):=by
 obtain⟨f,G,F,hm,m,hb⟩:=D.ex;intro aa s J H Q I h;refine tV (CU I n hm ?_ o);refine callWith_K (h₀:=X.base) I.ok.mod.tG m (bT (ha pos aa s J H _ I h) λc d ⟨i,C,j,r,q⟩=>⟨j.gG,?_⟩) he v;have hl:c.length=ps.length:=by rw[<-r.length];exact F.len _ _ _ _ q
 have g:=hb d c j.gG (by rw[wZ];exact hl);rw[wZ]at g;refine BY (tN (F.run X.A X.stack d C ⟨c,[]⟩ c i Q _ hr j.DR g r q) λr s' U=>?_);cases r with
 |error L =>
  obtain⟨a,cls,y,E,rfl,os,bare,un,aL,ex,l⟩:=U;have B:=(j.HW os un aL bare (λb z=>bu z (by simp))).Es;exact T.to _ _ ⟨J,E,a,cls,y,rfl,B,(ex.first j T.ex).any,l⟩
 |ok fl =>
  cases fl with
  |ret u=>exact j.after U
  |next=>exact False.elim U
  |brk=>exact False.elim U
  |cont=>exact False.elim U
end
abbrev TH:=au->ao->ar au->TS
noncomputable def UD(scope sc:b9)(N:aj a5)(js:aj ay):bh :=
 scope.kind == .function&&(scope.names.all λy=>y.2 != .cell&&(y.2 != .local||scope.names.lookup y.1==ai .local)&&(y.2 != .free||(sc.names.lookup y.1==ai .cell||sc.names.lookup y.1==ai .free))) &&
 js.all λj=>match N[j]? with
  |some x=>scope.names.lookup x==ai .free
  |none=>aq
theorem zB.of{X:Cx}{scope:b9}{ls:aj a5}{js:aj ay}(sc:b9)(N:aj a5)(b:X.env.scope=sc)(d:X.N=N)(ok:UD scope sc N js=ax):zB X scope ls js:=by
 unfold UD at ok;rw[nN,nN]at ok;obtain⟨⟨h1,h2⟩,a⟩:=ok;rw[JE]at h2 a;refine⟨by simpa using h1,λy z=>?_,λy z hl=>?_,λy z hf=>?_,λj c=>?_⟩
 ·have q:=h2 y z;rw[nN,nN]at q;simpa using q.1.1
 ·have q:=h2 y z;rw[nN,nN]at q;simpa[hl]using q.1.2
 ·have q:=h2 y z;rw[nN,nN]at q;have U:=q.2;rw[hf]at U;unfold Env.kindOf;rw[b];simpa using U
 ·have q:=a j c;rw[d];cases e:N[j]? with
  |none=>rw[e]at q;cases q
  |some x=>rw[e]at q;exact⟨x,rfl,by simpa using q⟩
section
variable{X:Cx}
theorem aCM(T:X.calm=ax):pS X (.builtin "sorted") (λxs H Q=>∃d kvs U,xs=[.ref d]/\H d=ai (.dK kvs)/\kvs.map (·.1)=U.map Sum.inl/\U.length<64 /\
  ∀(ms:aj av) (l:au),ms.Perm U->ms.Pairwise (· <= ·)->H l=ak->Q (.ref l) (upd H l (.lst (ms.map V.int)))):=by
 intro aa s J H xs a Q I r h;obtain⟨d,kvs,U,rfl,hd,E,Iy,q⟩:=h;obtain⟨u,rfl,M⟩:=vals1 r;cases M;obtain⟨z,lo,y,rel,dd⟩:=HV I.aL hd;obtain⟨ep,P⟩:=dd.dictAt;have C:y.length=U.length:=by
  rw[<-rel.length,<-lB (f:=(·.1)),E,lB]
 have R:(64:ay)<=az:=by decide
 refine Calls.call_function_entry kind_sorted plain_sorted entry_sorted (args_sorted1 _) ?_;unfold Builtin.«sorted»;refine aM (m:=checkCount "sorted" 1 1 _) (bS ?_);refine aM (PySem.W.kdu_collect (A:=X.A.in1) (PySem.W.kdl_dict (knd:=kI X.prog X.w) (kvs:=y) (ep:=ep) lo) (I.ok.hd T) P (by omega) λh' tk acc Hr D=>?_);have hl:acc.toList.length=U.length:=by rw[tT,D.1,C]
 have hI:c4 acc.toList U:=by
  refine intsAre_of (ns:=U) ?_;have key:∀(js:aj av) (a:aj ao),a.length=js.length->(∀(i:ay) (v:ao),a[i]?=ai v->∃(j:av) (t:Tok),js[i]?=ai j/\v=Value.int j t)->Vals (js.map V.int) a:=by
   intro js
   induction js with
   |nil=>intro a hl _;cases a with
    |nil=>exact .nil
    |cons _ _=>simp at hl
   |cons j js ih =>
    intro a hl hv;cases a with
    |nil=>simp at hl
    |cons v a =>
     obtain⟨j',t,g,c⟩:=hv 0 v rfl;cases g;exact .cons ⟨t,c⟩ (ih a (by simpa using hl) λi w hw=>hv (i+1) w (by simpa using hw))
  refine key U acc.toList hl λi v hv=>?_;obtain⟨k,x,g,c⟩:=D.2 i v (by rw[<-Qx];exact hv);have n:(y.map (·.1))[i]?=ai k:=by rw[lC,g];rfl
  rw[<-rel.keys,E,lC]at n;cases F:U[i]? with
  |none=>rw[F]at n;cases n
  |some j =>
   rw[F]at n;have e5:(Sum.inl j:Key)=k:=kK n;subst e5
   rcases uJ (k:=Sum.inl j) (v:=v) c with⟨i',t,B,N⟩|⟨_,_,B,_⟩
   ·cases B;exact⟨j,t,rfl,N⟩
   ·cases B
 refine aM (wpAny_newList ?_ (by rw[hl];omega));have p:(h'.push (dj "list" acc.toList.toArray 0)).get? h'.objs.size=ai (dj "list" acc.toList.toArray 0):=hU _ rfl;refine aM (vK (tU slot_list_sort ⟨_,p,rfl⟩ entry_list_sort (list_sort_tree p hI (by omega) λab o a1 G a3=>⟨_,rfl,?_⟩) (args_list_sort _)));refine bS ⟨_,rfl,?_⟩;have K:Inv X aa J H {s with heap:=h',toks:=tk}:=I.kept Hr;have S:H h'.objs.size=ak:=K.aL.fresh dD;obtain⟨g,CZ⟩:∃g,((h'.push (dj "list" acc.toList.toArray 0)).update h'.objs.size (Obj.mapSeq λ_=>#[])).get? h'.objs.size=ai (dj "list" #[] g):=⟨_,get?_update_seq p (λ_=>#[])⟩;have L:=eN (dj "list" #[] 0) (eN (dj "tuple" acc.toList.toArray 0) CZ);obtain⟨c,Hk⟩:∃c,(sortedHeap (h'.push (dj "list" acc.toList.toArray 0)) h'.objs.size acc.toList ab).get? h'.objs.size=ai (dj "list" ab c):=⟨_,get?_update_seq L (λ_=>ab)⟩;have kp:∀b u,h'.get? b=ai u->(sortedHeap (h'.push (dj "list" acc.toList.toArray 0)) h'.objs.size acc.toList ab).get? b=ai u:=λb u e=>by
  have hb:b≠h'.objs.size:=iB (eY e);unfold sortedHeap;exact(sP _ _ (eM hb)).trans (eN _ (eN _ ((sP _ _ (eM hb)).trans (eN _ e))))
 have hv:Vals (o.map V.int) ab.toList:=RP a1;have GX:o.length=U.length:=G.length_eq;refine⟨.ref h'.objs.size,upd H h'.objs.size (.lst (o.map V.int)),K.laid (t':=tk) kp dD ?_,rfl,q o _ G a3 S⟩;exact⟨by rw[lB];omega,ab.toList,c,hv,Hk⟩
end
end L2
namespace V2
open PySem PySem.Spec PyProof.Rows L2
inductive A where
 |int (i:av)|bl (b:bh)|str (x:a5)|dE|ty (n:cy)|adr (p:au)|OG (p d:au) (f:a5) (i:av)|gl (x:a5)|dZ (ns:aj av)
 |tup (ds:aj A)|lst (ds:aj A)|aJ (k:ay)
inductive Fd where
 |val (a:A)|lst (ds:aj A)|bH (kvs:aj (Key×A))
@[simp] noncomputable def Fd.own:Fd->bh
 |.val _=>aq
 |_=>ax
inductive Cell where
 |lst (ds:aj A)|bH (kvs:aj (Key×A))|ins (cls:a5) (fs:aj (a5×Fd))|tab (x:a5) (pos:cx) (qual:a5)|dead
@[simp] def Cell.noOwn:Cell->bh
 |.ins _ fs=>fs.all λp=>!p.2.own
 |_=>ax
structure Exc where
 cls:a5
 fs:aj (a5×A)
inductive Rs(α:Type)where
 |ok (a:α)|exc (x:Exc)
abbrev aH:=aj Cell
abbrev Ev:=aj (ar A)
abbrev Mo(α:Type):=aH->ar (Rs α×aH)
@[simp] noncomputable def ret{α:Type}(a:α):Mo α:=λZ=>ai (.ok a,Z)
@[simp] noncomputable def mb{α β:Type}(m:Mo α)(k:α->Mo β):Mo β:=λZ =>
 match m Z with
 |some (.ok a,Z1)=>k a Z1
 |some (.exc x,Z1)=>ai (.exc x,Z1)
 |none=>ak
@[simp] noncomputable def stuck{α:Type}:Mo α:=λ_=>ak
@[simp] noncomputable def need{α:Type}(o:ar α):Mo α:=λZ=>o.map λa=>(.ok a,Z)
@[simp] noncomputable def oS(p:Prop) [c9 p]:Mo Unit:=λZ=>if p then ai (.ok (),Z)else ak
mutual
def Den(K:bg)(G:Hp)(O:aj au):V->A->Prop
 |v,.int j=>v=.int j
 |v,.bl b=>v=.bl b
 |v,.str x=>v=.str x
 |v,.dE=>v=.dE
 |v,.ty n=>v=.ty n
 |v,.adr p=>v=.ref p
 |v,.OG p d f i=>v=.ref p/\G d=ai (.xd [(f,.int i)])
 |v,.gl x=>∃C,dz K bc x=ai (ai (.ref C))/\v=.ref C
 |v,.dZ ns=>∃a,v=.ref a/\fE K G a (ns.map V.int)
 |v,.tup ds=>∃a xs,v=.ref a/\G a=ai (.tup xs)/\bJ K G O xs ds
 |v,.lst ds=>∃a xs,v=.ref a/\G a=ai (.lst xs)/\bJ K G O xs ds
 |v,.aJ k=>∃a,v=.ref a/\O[k]?=ai a
def bJ(K:bg)(G:Hp)(O:aj au):aj V->aj A->Prop
 |xs,[]=>xs=[]
 |xs,d::ds=>∃x r,xs=x::r/\Den K G O x d/\bJ K G O r ds
end
structure Ext(G:Hp)(O:aj au)(G':Hp)(O':aj au):Prop where
 same:oV G G'
 pre:∀(k:ay) (a:au),O[k]?=ai a->O'[k]?=ai a
theorem Ext.refl(G:Hp)(O:aj au):Ext G O G O:=⟨oV.refl _,λ_ _ h=>h⟩
theorem Ext.trans{G U z:Hp}{O q j:aj au}(a:Ext G O U q)(b:Ext U q z j):Ext G O z j:=⟨a.same.trans b.same,λk x h=>b.pre k x (a.pre k x h)⟩
section
variable{K:bg}{G G':Hp}{O O':aj au}
mutual
theorem Den.ext(e:Ext G O G' O'):∀{v:V} {d:A},Den K G O v d->Den K G' O' v d
 |_,.int _,h=>by simpa only[Den]using h
 |_,.bl _,h=>by simpa only[Den]using h
 |_,.str _,h=>by simpa only[Den]using h
 |_,.dE,h=>by simpa only[Den]using h
 |_,.ty _,h=>by simpa only[Den]using h
 |_,.adr _,h=>by simpa only[Den]using h
 |_,.OG _ _ _ _,h=>by
  simp only[Den]at h ⊢;exact⟨h.1,e.same _ _ h.2⟩
 |_,.gl _,h=>by simpa only[Den]using h
 |_,.dZ _,h=>by
  simp only[Den]at h ⊢;obtain⟨a,h1,h2⟩:=h;exact⟨a,h1,e.same.seq h2⟩
 |_,.tup ds,h=>by
  simp only[Den]at h ⊢;obtain⟨a,xs,h1,h2,j⟩:=h;exact⟨a,xs,h1,e.same _ _ h2,bJ.ext e j⟩
 |_,.lst ds,h=>by
  simp only[Den]at h ⊢;obtain⟨a,xs,h1,h2,j⟩:=h;exact⟨a,xs,h1,e.same _ _ h2,bJ.ext e j⟩
 |_,.aJ k,h=>by
  simp only[Den]at h ⊢;obtain⟨a,h1,h2⟩:=h;exact⟨a,h1,e.pre _ _ h2⟩
theorem bJ.ext(e:Ext G O G' O'):∀{xs:aj V} {ds:aj A},bJ K G O xs ds->bJ K G' O' xs ds
 |_,[],h=>by simpa only[bJ]using h
 |_,d::ds,h=>by
  simp only[bJ]at h ⊢;obtain⟨x,r,h1,h2,j⟩:=h;exact⟨x,r,h1,Den.ext e h2,bJ.ext e j⟩
end
theorem tL{xs:aj V}:bJ K G O xs []<->xs=[]:=by simp only[bJ]
theorem bJ.length:∀{xs:aj V} {ds:aj A},bJ K G O xs ds->xs.length=ds.length
 |_,[],h=>by simp only[bJ]at h;subst h;rfl
 |_,d::ds,h=>by
  simp only[bJ]at h;obtain⟨x,r,rfl,h2,j⟩:=h;simp only[iP,bJ.length j]
theorem bJ.nil:bJ K G O [] []:=by simp only[bJ]
theorem bJ.cons{x:V}{xs:aj V}{d:A}{ds:aj A}(h:Den K G O x d)(t:bJ K G O xs ds):bJ K G O (x::xs) (d::ds):=by
 simp only[bJ];exact⟨x,xs,rfl,h,t⟩
theorem bJ.nP{xs:aj V}{d:A}{ds:aj A}(h:bJ K G O xs (d::ds)):∃x r,xs=x::r/\Den K G O x d/\bJ K G O r ds:=by simpa only[bJ]using h
theorem bJ.get:∀{xs:aj V} {ds:aj A} {i:ay} {d:A},bJ K G O xs ds->ds[i]?=ai d->∃x,xs[i]?=ai x/\Den K G O x d
 |_,[],_,_,_,e=>by simp at e
 |_,_::_,0,_,h,e=>by
  obtain⟨x,r,rfl,h2,j⟩:=h.nP;simp at e;subst e;exact⟨x,rfl,h2⟩
 |_,_::_,i+1,_,h,e=>by
  obtain⟨x,r,rfl,h2,j⟩:=h.nP;simp at e;obtain⟨y,z,q⟩:=bJ.get j e;exact⟨y,by simpa using z,q⟩
theorem bJ.append:∀{xs ys:aj V} {ds es:aj A},bJ K G O xs ds->bJ K G O ys es->bJ K G O (xs++ys) (ds++es)
 |_,_,[],_,h,t=>by rw[tL]at h;subst h;exact t
 |_,_,d::ds,_,h,t=>by
  obtain⟨x,r,rfl,h2,j⟩:=h.nP;exact .cons h2 (bJ.append j t)
theorem bJ.take:∀{xs:aj V} {ds:aj A} (n:ay),bJ K G O xs ds->bJ K G O (xs.take n) (ds.take n)
 |_,_,0,_=>by simpa using bJ.nil
 |_,[],n+1,h=>by rw[tL]at h;subst h;exact bJ.nil
 |_,d::ds,n+1,h=>by
  obtain⟨x,r,rfl,h2,j⟩:=h.nP;exact .cons h2 (bJ.take n j)
theorem bJ.drop:∀{xs:aj V} {ds:aj A} (n:ay),bJ K G O xs ds->bJ K G O (xs.drop n) (ds.drop n)
 |_,_,0,h=>by simpa using h
 |_,[],n+1,h=>by rw[tL]at h;subst h;exact bJ.nil
 |_,d::ds,n+1,h=>by
  obtain⟨x,r,rfl,h2,j⟩:=h.nP;exact bJ.drop n j
theorem bJ.set{x:V}{d:A}(q:Den K G O x d):∀{xs:aj V} {ds:aj A} (n:ay),bJ K G O xs ds->bJ K G O (xs.set n x) (ds.set n d)
 |_,[],n,h=>by rw[tL]at h;subst h;exact bJ.nil
 |_,e::ds,0,h=>by
  obtain⟨y,r,rfl,h2,j⟩:=h.nP;exact .cons q j
 |_,e::ds,n+1,h=>by
  obtain⟨y,r,rfl,h2,j⟩:=h.nP;exact .cons h2 (bJ.set q n j)
theorem OL:∀(ns:aj av),bJ K G O (ns.map V.int) (ns.map A.int)
 |[] => .nil
 |n::ns => .cons (by simp only[Den]) (OL ns)
end
def aD0(K:bg)(G H:Hp)(a:au)(x:a5)(pos:cx)(qual:a5):Prop :=
 G a=ak/\(∃c,tabIn K x=ai (c,a))/\∃ps,H a=ai (.jP ps)/\TriplesOk ps.toList /\
  (codeAmong pos ps.toList=ak\/∃c' j vs t,codeAmong pos ps.toList=ai (.ref c')/\G c'=ai (.fO j (.own 0))/\j.data=.fields vs/\vs[1]?=ai (.str qual t))
def kL(K:bg)(G:Hp)(O:aj au)(H:Hp)(v:V):Fd->Prop
 |.val a=>Den K G O v a
 |.lst ds=>∃b xs,v=.ref b/\G b=ak/\b∉O/\H b=ai (.lst xs)/\bJ K G O xs ds
 |.bH kvs=>∃b,∃j:aj (Key×V),v=.ref b/\G b=ak/\b∉O/\H b=ai (.dK j)/\j.map (·.1)=kvs.map (·.1)/\bJ K G O (j.map (·.2)) (kvs.map (·.2))
def kG(K:bg)(G:Hp)(O:aj au)(H:Hp):aj (a5×V)->aj (a5×Fd)->Prop
 |[],[]=>True
 |(f,v)::j,(g,d)::fs=>f=g/\kL K G O H v d/\kG K G O H j fs
 |_,_=>cb
def sS(K:bg)(G:Hp)(O:aj au)(H:Hp)(a:au):Cell->Prop
 |.lst ds=>G a=ak/\∃xs,H a=ai (.lst xs)/\bJ K G O xs ds
 |.bH kvs=>G a=ak/\∃j:aj (Key×V),H a=ai (.dK j)/\j.map (·.1)=kvs.map (·.1)/\bJ K G O (j.map (·.2)) (kvs.map (·.2))
 |.ins cls fs=>G a=ak/\∃C dx,∃j:aj (a5×V),dz K bc cls=ai (ai (.ref C))/\H a=ai (.ins C dx j)/\kG K G O H j fs
 |.tab x pos qual=>aD0 K G H a x pos qual
 |.dead=>True
def kE(H:Hp)(O:aj au)(Z:aH)(k i:ay)(b:au):Prop:=∃a cls fs C dx j g h fd,O[k]?=ai a/\Z[k]?=ai (.ins cls fs)/\H a=ai (.ins C dx j)/\fs[i]?=ai (g,fd)/\fd.own=ax/\j[i]?=ai (h,.ref b)
structure Wd(K:bg)(G:Hp)(O:aj au)(Z:aH)(H:Hp):Prop where
 sub:oV G H
 inj:O.Nodup
 len:O.length=Z.length
 live:∀a∈O,∃o,H a=ai o
 aJ:∀(k:ay) (c:Cell) (a:au),Z[k]?=ai c->O[k]?=ai a->sS K G O H a c
 sep:∀(b:au) (k i k' i':ay),kE H O Z k i b->kE H O Z k' i' b->k=k'/\i=i'
section
variable{K:bg}{G G' H H':Hp}{O O':aj au}{Z:aH}{a p:au}
theorem kL.mono{v:V}{fd:Fd}(h:kL K G O H v fd)(e:Ext G O G' O')(f:∀b o,b∉O->G b=ak->H b=ai o->b∉O'/\G' b=ak/\H' b=ai o):kL K G' O' H' v fd:=by
 cases fd with
 |val a=>exact Den.ext e h
 |lst ds =>
  obtain⟨b,xs,h1,h2,d,c,U⟩:=h;obtain⟨z,q,j⟩:=f b _ d h2 c;exact⟨b,xs,h1,q,z,j,U.ext e⟩
 |bH g =>
  obtain⟨b,ws,h1,h2,d,c,U,i⟩:=h;obtain⟨z,q,j⟩:=f b _ d h2 c;exact⟨b,ws,h1,q,z,j,U,i.ext e⟩
theorem kG.map{j:bg}{G' H':Hp}{O':aj au}(f:∀v fd,kL K G O H v fd->kL j G' O' H' v fd):∀{ws:aj (a5×V)} {fs:aj (a5×Fd)},kG K G O H ws fs->kG j G' O' H' ws fs
 |[],[],_=>trivial
 |(_,_)::_,(_,_)::_,h=>⟨h.1,f _ _ h.2.1,kG.map f h.2.2⟩
 |[],_::_,h=>h.elim
 |_::_,[],h=>h.elim
theorem sS.mono{c:Cell}(h:sS K G O H a c)(e:Ext G O G' O')(j:G' a=G a)(hh:H' a=H a)(n:∀b o,b∉O->G b=ak->H b=ai o->b∉O'/\G' b=ak/\H' b=ai o):sS K G' O' H' a c:=by
 cases c with
 |lst ds=>obtain⟨g,xs,h1,h2⟩:=h;exact⟨j.trans g,xs,hh.trans h1,h2.ext e⟩
 |bH m=>obtain⟨g,ws,h1,h2,z⟩:=h;exact⟨j.trans g,ws,hh.trans h1,h2,z.ext e⟩
 |ins cls fs=>obtain⟨g,C,r,ws,h0,h1,h2⟩:=h;exact⟨j.trans g,C,r,ws,h0,hh.trans h1,h2.map λ_ _ q=>q.mono e n⟩
 |tab x pos qual =>
  obtain⟨g,p,k,h1,h2,z⟩:=h;exact⟨j.trans g,p,k,hh.trans h1,h2,z.imp id λ⟨s,l,U,t,i,f,d⟩=>⟨s,l,U,t,i,e.same _ _ f,d⟩⟩
 |dead=>trivial
theorem Wd.addr(w:Wd K G O Z H){k:ay}{c:Cell}(h:Z[k]?=ai c):∃a,O[k]?=ai a:=by
 have j:=(dN.mp h).1;exact⟨O[k]'(by rw[w.len];exact j),dR _⟩
theorem Wd.ne(w:Wd K G O Z H)(j:H p=ak)(ha:a∈O):a≠p:=by
 obtain⟨o,q⟩:=w.live a ha;exact jD q j
theorem Wd.oN(w:Wd K G O Z H)(j:H p=ak):G p=ak:=by
 cases e:G p with
 |none=>rfl
 |some o=>rw[w.sub _ _ e]at j;cases j
theorem kE.to{k i:ay}{b:au}{O':aj au}{Z Z':aH}(h:kE H O Z k i b)(h1:∀a,O[k]?=ai a->O'[k]?=ai a/\∀o,H a=ai o->H' a=ai o)(h2:∀cls fs,Z[k]?=ai (.ins cls fs)->Z'[k]?=ai (.ins cls fs)):kE H' O' Z' k i b:=by
 obtain⟨a,cls,fs,C,e,ws,g,h',fd,j,d,c,U,z,q⟩:=h;exact⟨a,cls,fs,C,e,ws,g,h',fd,(h1 a j).1,h2 _ _ d,(h1 a j).2 _ c,U,z,q⟩
theorem kE.no{k i:ay}{b:au}{c:Cell}(h:kE H O Z k i b)(U:Z[k]?=ai c)(hn:c.noOwn=ax):cb:=by
 obtain⟨a,cls,fs,C,l,ws,g,h',fd,f,j,e,z,q,d⟩:=h;rw[U]at j;cases j;simp only[Cell.noOwn,JE]at hn;have:=hn _ (kF z);simp only[]at this;rw[q]at this;cases this
theorem Wd.grow(w:Wd K G O Z H)(s:oV H H'):Wd K G O Z H' where
 sub:=w.sub.trans s
 inj:=w.inj
 len:=w.len
 live:=λa ha=>let ⟨o,j⟩:=w.live a ha; ⟨o,s _ _ j⟩
 aJ:=λk c a h1 h2=>by
  have q:=w.aJ k c a h1 h2;cases c with
  |lst ds=>obtain⟨g,xs,h1,h2⟩:=q;exact⟨g,xs,s _ _ h1,h2⟩
  |bH e=>obtain⟨g,ws,h1,h2,n⟩:=q;exact⟨g,ws,s _ _ h1,h2,n⟩
  |ins cls fs=>obtain⟨g,C,p,ws,h0,h1,h2⟩:=q;exact⟨g,C,p,ws,h0,s _ _ h1,h2.map λ_ _ q=>q.mono (Ext.refl _ _) λb o x y z=>⟨x,y,s _ _ z⟩⟩
  |tab x pos qual =>
   obtain⟨g,m,d,h1,h2⟩:=q;exact⟨g,m,d,s _ _ h1,h2⟩
  |dead=>trivial
 sep:=λb k i f l h1 h2=>by
  have back:∀{k i},kE H' O Z k i b->kE H O Z k i b:=λh=>h.to (λa ha=>⟨ha,λo j=>by
   obtain⟨r,U⟩:=w.live a (kF ha);have:=s _ _ U;rw[j]at this;cases this;exact U⟩) λ_ _ q=>q
  exact w.sep b k i f l (back h1) (back h2)
theorem GD{α:Type}:∀{l:aj α} {i j:ay} {x:α},l.Nodup->l[i]?=ai x->l[j]?=ai x->i=j
 |[],_,_,_,_,h,_=>by simp at h
 |y::l,0,0,_,_,_,_=>rfl
 |y::l,0,j+1,x,n,h1,h2=>by
  simp at h1 h2;subst h1;exact bu (kF h2) (qO.mp n).1
 |y::l,i+1,0,x,n,h1,h2=>by
  simp at h1 h2;subst h2;exact bu (kF h1) (qO.mp n).1
 |y::l,i+1,j+1,x,n,h1,h2=>by
  simp at h1 h2;rw[GD (qO.mp n).2 h1 h2]
theorem GH{α:Type}{l:aj α}{k:ay}{x:α}(h:l[k]?=ai x):x∈l:=kF h
theorem Ext.new(j:G p=ak)(o:HO):Ext G O (upd G p o) O:=⟨oV.new j,λ_ _ h=>h⟩
theorem Wd.new(w:Wd K G O Z H)(j:H p=ak)(o:HO):Wd K (upd G p o) O Z (upd H p o)where
 sub:=λb u h=>by
  by_cases e:b=p
  ·subst e;rw[eX]at h ⊢;exact h
  ·rw[cD e]at h ⊢;exact w.sub _ _ h
 inj:=w.inj
 len:=w.len
 live:=λa ha=>by rw[cD (w.ne j ha)];exact w.live a ha
 aJ:=λk c a h1 h2=>by
  have n:=w.ne j (GH h2);exact(w.aJ k c a h1 h2).mono (Ext.new (w.oN j) o) (cD n) (cD n) λb u x y z=>by
   have nb:b≠p:=jD z j;exact⟨x,by rw[cD nb];exact y,by rw[cD nb];exact z⟩
 sep:=λb k i U d h1 h2=>by
  have back:∀{k i},kE (upd H p o) O Z k i b->kE H O Z k i b:=λh=>h.to (λa ha=>⟨ha,λu f=>by rwa[cD (w.ne j (kF ha))]at f⟩) λ_ _ q=>q;exact w.sep b k i U d (back h1) (back h2)
theorem Ext.cell(x:au):Ext G O G (O++[x]):=⟨oV.refl _,λk a h=>by
 rw[mM (dN.mp h).1];exact h⟩
theorem Wd.cell(w:Wd K G O Z H)(j:H p=ak){o:HO}{c:Cell}(A:sS K G (O++[p]) (upd H p o) p c)(m:c.noOwn=ax:=by rfl):Wd K G (O++[p]) (Z++[c]) (upd H p o)where
 sub:=λb u h=>by
  have e:b≠p:=λe=>by subst e;rw[w.sub _ _ h]at j;cases j
  rw[cD e];exact w.sub _ _ h
 inj:=by
  rw[QB];exact⟨w.inj,by simp,λa ha b hb=>by simp at hb;subst hb;exact w.ne j ha⟩
 len:=by simp[w.len]
 live:=λa ha=>by
  rcases rH.mp ha with h|h
  ·rw[cD (w.ne j h)];exact w.live a h
  ·simp at h;subst h;exact⟨o,eX⟩
 aJ:=λk D a h1 h2=>by
  by_cases q:k<O.length
  ·rw[mM q]at h2;rw[mM (by rw[<-w.len];exact q)]at h1;exact(w.aJ k D a h1 h2).mono (Ext.cell p) rfl (cD (w.ne j (GH h2))) λb u x y z=>by
    have nb:b≠p:=jD z j;exact⟨by simp[x,nb],y,by rw[cD nb];exact z⟩
  ·have f:k=O.length:=by
    have:=(dN.mp h2).1;simp at this;omega
   subst f;simp at h2;subst h2;rw[w.len]at h1;simp at h1;subst h1;exact A
 sep:=λb k i t v h1 h2=>by
  have back:∀{k i},kE (upd H p o) (O++[p]) (Z++[c]) k i b->kE H O Z k i b:=λ{k i} h=>by
   have h0:=h;obtain⟨a,cls,fs,C,B,ws,g,h',fd,d,U,l,s,r,n⟩:=h
   by_cases q:k<Z.length
   ·rw[mM q]at U;rw[mM (by rw[w.len];exact q)]at d;rw[cD (w.ne j (GH d))]at l;exact⟨a,cls,fs,C,B,ws,g,h',fd,d,U,l,s,r,n⟩
   ·have f:k=Z.length:=by
     have:=(dN.mp U).1;simp at this;omega
    subst f;exact(h0.no (by simp) m).elim
  exact w.sep b k i t v (back h1) (back h2)
theorem Wd.put(w:Wd K G O Z H){k:ay}{c:Cell}{o:HO}(U:O[k]?=ai a)(A:G a=ak)(B:sS K G O (upd H a o) a c)(n:c.noOwn=ax:=by rfl):Wd K G O (Z.set k c) (upd H a o)where
 sub:=λb u h=>by
  have e:b≠a:=λe=>by subst e;rw[A]at h;cases h
  rw[cD e];exact w.sub _ _ h
 inj:=w.inj
 len:=by rw[JC];exact w.len
 live:=λb hb=>by
  by_cases e:b=a
  ·subst e;exact⟨o,eX⟩
  ·rw[cD e];exact w.live b hb
 aJ:=λj E b h1 h2=>by
  by_cases q:j=k
  ·subst q;rw[U]at h2;cases h2;have hl:j<Z.length:=by rw[<-w.len];exact(dN.mp U).1
   rw[gK hl]at h1;cases h1;exact B
  ·rw[gS (eM q)]at h1;have gV:b≠a:=λe=>by
    subst e;exact q (GD w.inj h2 U)
   exact(w.aJ j E b h1 h2).mono (Ext.refl _ _) rfl (cD gV) λb u x y z=>by
    have nb:b≠a:=λe=>by subst e;exact x (GH U)
    exact⟨x,y,by rw[cD nb];exact z⟩
 sep:=λb j i t v h1 h2=>by
  have back:∀{j i},kE (upd H a o) O (Z.set k c) j i b->kE H O Z j i b:=λ{j i} h=>by
   have h0:=h;obtain⟨m,cls,fs,C,D,ws,g,h',fd,l,f,d,s,r,p⟩:=h
   by_cases q:j=k
   ·subst q;have hl:j<Z.length:=by rw[<-w.len];exact(dN.mp U).1
    exact(h0.no (by rw[gK hl]) n).elim
   ·rw[gS (eM q)]at f;have gV:m≠a:=λe=>by subst e;exact q (GD w.inj l U)
    rw[cD gV]at d;exact⟨m,cls,fs,C,D,ws,g,h',fd,l,f,d,s,r,p⟩
  exact w.sep b j i t v (back h1) (back h2)
theorem Wd.freeze(w:Wd K G O Z H){k:ay}{o:HO}(U:O[k]?=ai a)(t:G a=ak)(s:H a=ai o):Wd K (upd G a o) O (Z.set k .dead) H where
 sub:=λb u h=>by
  by_cases e:b=a
  ·subst e;rw[eX]at h;cases h;exact s
  ·rw[cD e]at h;exact w.sub _ _ h
 inj:=w.inj
 len:=by rw[JC];exact w.len
 live:=w.live
 aJ:=λj A b h1 h2=>by
  by_cases q:j=k
  ·subst q;have hl:j<Z.length:=by rw[<-w.len];exact(dN.mp U).1
   rw[gK hl]at h1;cases h1;trivial
  ·rw[gS (eM q)]at h1;have gV:b≠a:=λe=>by
    subst e;exact q (GD w.inj h2 U)
   exact(w.aJ j A b h1 h2).mono (Ext.new t o) (cD gV) rfl λb u x y z=>by
    have nb:b≠a:=λe=>by subst e;exact x (GH U)
    exact⟨x,by rw[cD nb];exact y,z⟩
 sep:=λb j i p r h1 h2=>by
  have back:∀{j i},kE H O (Z.set k .dead) j i b->kE H O Z j i b:=λ{j i} h=>by
   have h0:=h;obtain⟨B,cls,fs,C,v,ws,g,h',fd,n,c,m,l,f,d⟩:=h
   by_cases q:j=k
   ·subst q;have hl:j<Z.length:=by rw[<-w.len];exact(dN.mp U).1
    exact(h0.no (by rw[gK hl]) rfl).elim
   ·rw[gS (eM q)]at c;exact⟨B,cls,fs,C,v,ws,g,h',fd,n,c,m,l,f,d⟩
  exact w.sep b j i p r (back h1) (back h2)
end
def iH(K:bg)(G:Hp)(O:aj au)(J:L2.St)(Y:Ev):Prop:=J.length=Y.length/\∀(i:ay) (d:A),Y[i]?=ai (ai d)->∃v,J[i]?=ai (ai v)/\Den K G O v d
theorem iH.ext{K:bg}{G G':Hp}{O O':aj au}{J:L2.St}{Y:Ev}(r:iH K G O J Y)(e:Ext G O G' O'):iH K G' O' J Y:=⟨r.1,λi d h=>let ⟨v,h1,h2⟩:=r.2 i d h; ⟨v,h1,h2.ext e⟩⟩
theorem iH.set{K:bg}{G:Hp}{O:aj au}{J:L2.St}{Y:Ev}(r:iH K G O J Y)(j:ay){v:V}{d:A}(h:Den K G O v d):iH K G O (J.set j (ai v)) (Y.set j (ai d)):=by
 refine⟨by rw[JC,JC];exact r.1,λi e he=>?_⟩
 by_cases q:i=j
 ·subst q;have hl:i<Y.length:=by
   have:=(dN.mp he).1;rwa[JC]at this
  rw[gK hl]at he;cases he;exact⟨v,gK (by rw[r.1];exact hl),h⟩
 ·rw[gS (eM q)]at he ⊢;exact r.2 i e he
def aeW(K:bg)(G:Hp)(O:aj au)(H:Hp)(x:Exc)(cls:ao)(dx:ar au):Prop :=
 (∃C,dz K bc x.cls=ai (ai (.ref C))/\cls=.ref C)/\((x.fs=[]/\dx=ak)\/∃d f i,dx=ai d/\x.fs=[(f,.int i)]/\G d=ai (.xd [(f,.int i)]))
abbrev Rl(α β:Type):=Hp->aj au->β->α->Prop
def cA{α β:Type}(K:bg)(rel:Rl α β)(W:WX)(G:Hp)(O:aj au)(J:L2.St)(Q:β->Hp->Prop):ar (Rs α×aH)->Prop
 |some (.ok a,Z')=>∀v H' G' O',Ext G O G' O'->Wd K G' O' Z' H'->rel G' O' v a->Q v H'
 |some (.exc x,Z')=>∀cls dx H' G' O',Ext G O G' O'->Wd K G' O' Z' H'->aeW K G' O' H' x cls dx->W J cls dx H'
 |none=>cb
theorem cA.ext{α β:Type}{K:bg}{rel:Rl α β}{W:WX}{G c:Hp}{O q:aj au}{J:L2.St}{Q:β->Hp->Prop}{r:ar (Rs α×aH)}(h:cA K rel W G O J Q r)(e:Ext G O c q):cA K rel W c q J Q r:=by
 match r,h with
 |some (.ok a,z),h=>exact λv U b j x w d=>h v U b j (e.trans x) w d
 |some (.exc x,z),h=>exact λcls f U b j x w d=>h cls f U b j (e.trans x) w d
theorem cA.mb{α β U z:Type}{K:bg}{rel:Rl α β}{b:Rl U z}{W:WX}{G:Hp}{O:aj au}{J:L2.St}{Q:z->Hp->Prop}{Q1:β->Hp->Prop}{m:Mo α}{k:α->Mo U}{Z:aH}(h:cA K b W G O J Q (mb m k Z))
  (c:∀a Z1 v H1 q j,Ext G O q j->Wd K q j Z1 H1->rel q j v a->cA K b W q j J Q (k a Z1)->Q1 v H1):cA K rel W G O J Q1 (m Z):=by
 unfold V2.mb at h
 revert h
 generalize m Z=r;intro h
 match r,h with
 |some (.ok a,Z1),h=>exact λv H1 q j x w d=>c a Z1 v H1 q j x w d (cA.ext h x)
 |some (.exc x,Z1),h=>exact h
theorem cA.need{α β j:Type}{K:bg}{q:Rl α β}{W:WX}{G:Hp}{O:aj au}{J:L2.St}{Q:β->Hp->Prop}{o:ar j}{k:j->Mo α}{Z:aH}(h:cA K q W G O J Q (V2.mb (need o) k Z)):∃a,o=ai a/\cA K q W G O J Q (k a Z):=by
 cases o with
 |none=>exact False.elim h
 |some a=>exact⟨a,rfl,h⟩
theorem cA.oS{α β:Type}{K:bg}{q:Rl α β}{W:WX}{G:Hp}{O:aj au}{J:L2.St}{Q:β->Hp->Prop}{p:Prop} [c9 p]{k:Unit->Mo α}{Z:aH}(h:cA K q W G O J Q (V2.mb (oS p) k Z)):p/\cA K q W G O J Q (k () Z):=by
 unfold V2.mb V2.oS at h
 by_cases j:p
 ·rw[a8 j]at h;exact⟨j,h⟩
 ·rw[bb j]at h;exact False.elim h
def fJ{α β:Type}(K:bg)(rel:Rl α β)(W:WX)(t:L2.St->Hp->(β->Hp->Prop)->Prop)(f:Ev->Mo α):Prop :=
 ∀G O Z H J Y Q,Wd K G O Z H->iH K G O J Y->cA K rel W G O J Q (f Y Z)->t J H Q
def CK:Rl bh bh:=λ_ _ b c=>b=c
def VE(X:Cx)(W:WX)(e:bp)(f:Ev->Mo A):Prop:=∃t,PE X e t/\fJ X.K (Den X.K) W t f
def VT(X:Cx)(W:WX)(e:bp)(f:Ev->Mo bh):Prop:=∃t,PT X e t/\fJ X.K CK W t f
def VW(X:Cx)(W:WX)(e:bp)(f:Ev->Mo bh):Prop:=∃t,PW X e t/\fJ X.K CK W t f
def VA(X:Cx)(W:WX)(es:aj bp)(f:Ev->Mo (aj A)):Prop:=∃t,PA X es t/\fJ X.K (bJ X.K) W t f
end V2
namespace V2
open PySem PySem.Spec PyProof.Rows L2
section
variable{K:bg}{G H:Hp}{O:aj au}{Z:aH}{v:V}{a:A}
noncomputable def eL(Z:aH):A->ar (aj A)
 |.lst ds=>ai ds
 |.dZ ns=>ai (ns.map A.int)
 |.aJ k=>match Z[k]? with
  |some (.lst ds)=>ai ds
  |_=>ak
 |_=>ak
def fB(Z:aH):A->ar (aj A)
 |.tup ds=>ai ds
 |a=>eL Z a
theorem qY(w:Wd K G O Z H)(d:Den K G O v a){ds:aj A}(h:eL Z a=ai ds):∃p xs,v=.ref p/\fE K H p xs/\bJ K G O xs ds:=by
 cases a with
 |lst es =>
  simp only[eL,lO]at h;subst h;simp only[Den]at d;obtain⟨p,xs,h1,h2,j⟩:=d;exact⟨p,xs,h1,fE.of (w.sub _ _ h2),j⟩
 |dZ ns =>
  simp only[eL,lO]at h;subst h;simp only[Den]at d;obtain⟨p,h1,h2⟩:=d;exact⟨p,_,h1,w.sub.seq h2,OL ns⟩
 |aJ k =>
  simp only[eL]at h;cases e:Z[k]? with
  |none=>rw[e]at h;cases h
  |some c =>
   rw[e]at h;cases c with
   |lst es =>
    simp only[lO]at h;subst h;simp only[Den]at d;obtain⟨p,h1,h2⟩:=d;obtain⟨g,xs,j,q⟩:=w.aJ k _ p e h2;exact⟨p,xs,h1,fE.of j,q⟩
   |_=>cases h
 |_=>simp[eL]at h
theorem SQ(w:Wd K G O Z H)(d:Den K G O v a){ds:aj A}(h:fB Z a=ai ds):∃p xs,v=.ref p/\(fE K H p xs\/jK K H p xs)/\bJ K G O xs ds:=by
 cases a with
 |tup es =>
  simp only[fB,lO]at h;subst h;simp only[Den]at d;obtain⟨p,xs,h1,h2,j⟩:=d;exact⟨p,xs,h1,.inr (jK.of (w.sub _ _ h2)),j⟩
 |_ =>
  obtain⟨p,xs,h1,h2,j⟩:=qY w d h;exact⟨p,xs,h1,.inl h2,j⟩
theorem Vo(w:Wd K G O Z H)(d:Den K G O v a){ds:aj A}(h:eL Z a=ai ds)(q:∀ns,a≠.dZ ns):∃p xs,v=.ref p/\H p=ai (.lst xs)/\bJ K G O xs ds:=by
 cases a with
 |lst es =>
  simp only[eL,lO]at h;subst h;simp only[Den]at d;obtain⟨p,xs,h1,h2,j⟩:=d;exact⟨p,xs,h1,w.sub _ _ h2,j⟩
 |dZ ns=>exact bu rfl (q ns)
 |aJ k =>
  simp only[eL]at h;cases e:Z[k]? with
  |none=>rw[e]at h;cases h
  |some c =>
   rw[e]at h;cases c with
   |lst es =>
    simp only[lO]at h;subst h;simp only[Den]at d;obtain⟨p,h1,h2⟩:=d;obtain⟨g,xs,j,z⟩:=w.aJ k _ p e h2;exact⟨p,xs,h1,j,z⟩
   |_=>cases h
 |_=>simp[eL]at h
end
@[simp] noncomputable def jR(c:bh)(ds:aj A):Mo A:=λZ=>if c then ai (.ok (.aJ Z.length),Z++[.lst ds])else ai (.ok (.lst ds),Z)
section
variable{K:bg}{G H:Hp}{O:aj au}{Z:aH}{W:WX}{J:L2.St}{Q:VK}
theorem AA{c:bh}{ds:aj A}{xs:aj V}{p:au}(w:Wd K G O Z H)(j:H p=ak)(d:bJ K G O xs ds)(h:cA K (Den K) W G O J Q (jR c ds Z)):Q (.ref p) (upd H p (.lst xs)):=by
 cases c with
 |true =>
  refine h _ _ G (O++[p]) (Ext.cell p) (w.cell j ⟨w.oN j,xs,eX,d.ext (Ext.cell p)⟩) ?_;simp only[Den];exact⟨p,rfl,by rw[<-w.len];simp⟩
 |false =>
  refine h _ _ _ _ (Ext.new (w.oN j) (.lst xs)) (w.new j _) ?_;simp only[Den];exact⟨p,xs,rfl,eX,d.ext (Ext.new (w.oN j) _)⟩
@[simp] def Fs(ds:aj A):Mo A:=ret (.tup ds)
theorem Fq{ds:aj A}{xs:aj V}{p:au}(w:Wd K G O Z H)(j:H p=ak)(d:bJ K G O xs ds)(h:cA K (Den K) W G O J Q (Fs ds Z)):Q (.ref p) (upd H p (.tup xs)):=by
 refine h _ _ _ _ (Ext.new (w.oN j) (.tup xs)) (w.new j _) ?_;simp only[Den];exact⟨p,xs,rfl,eX,d.ext (Ext.new (w.oN j) _)⟩
theorem jX{α β:Type}{rel:Rl α β}{Q:β->Hp->Prop}{a:α}{b:β}(w:Wd K G O Z H)(d:rel G O b a)(h:cA K rel W G O J Q (ret a Z)):Q b H:=h b H G O (Ext.refl _ _) w d
end
section
variable{X:Cx}{W:WX}{e a b:bp}{es:aj bp}{pos:cx}{fa fb:Ev->Mo A}{fs:Ev->Mo (aj A)}
@[simp] def dA(i:ay):Ev->Mo A:=λY=>need (Y[i]?).join
theorem join_some{α:Type}{o:ar (ar α)}{x:α}(h:o.join=ai x):o=ai (ai x):=by
 cases o with
 |none=>cases h
 |some y=>cases y with
  |none=>cases h
  |some z=>cases h;rfl
theorem aiI{K:bg}{i:ay}:fJ K (Den K) W (Av i) (dA i):=by
 intro G q z H J j Q w r h;unfold dA need at h;cases e:(j[i]?).join with
 |none=>rw[e]at h;exact False.elim h
 |some d =>
  rw[e]at h;obtain⟨v,h1,h2⟩:=r.2 i d (join_some e);exact⟨v,h1,h v H G q (Ext.refl _ _) w h2⟩
theorem vv(i:ay){x:a5}(q:X.N[i]?=ai x:=by rfl)(hv:PQ X.env.scope x:=by first|exact Or.inl rfl|exact Or.inr (Or.inl rfl)|exact Or.inr (Or.inr rfl))(hd:(x==("__debug__" : a5))=aq:=by decide)
  (j:(x==("__classdict__" : a5))=aq:=by decide):VE X W (.Name x pos) (dA i):=⟨_,Eu q hv hd j,aiI⟩
@[simp] noncomputable def vO(i:ay):Ev->Mo A:=λY Z=>match (Y[i]?).join with
 |some (.aJ k)=>match Z[k]? with
  |some (.lst ds)=>ai (.ok (.lst ds),Z.set k .dead)
  |_=>ak
 |_=>ak
theorem aiK{K:bg}{i:ay}:fJ K (Den K) W (Av i) (vO i):=by
 intro G a b H J U Q w r h;unfold vO at h;cases e:(U[i]?).join with
 |none=>rw[e]at h;exact False.elim h
 |some d =>
  rw[e]at h;cases d with
  |aJ k =>
   simp only at h;cases j:b[k]? with
   |none=>rw[j]at h;exact False.elim h
   |some c =>
    rw[j]at h;cases c with
    |lst ds =>
     obtain⟨v,h1,h2⟩:=r.2 i _ (join_some e);simp only[Den]at h2;obtain⟨p,rfl,z⟩:=h2;obtain⟨g,q,l,f⟩:=w.aJ k _ p j z;refine⟨_,h1,h _ H (upd G p (.lst q)) a (Ext.new g _) (w.freeze z g l) ?_⟩;simp only[Den];exact⟨p,q,rfl,eX,f.ext (Ext.new g _)⟩
    |_=>exact False.elim h
  |_=>exact False.elim h
theorem vf(i:ay){x:a5}(q:X.N[i]?=ai x:=by rfl)(hv:PQ X.env.scope x:=by first|exact Or.inl rfl|exact Or.inr (Or.inl rfl)|exact Or.inr (Or.inr rfl))(hd:(x==("__debug__" : a5))=aq:=by decide)
  (j:(x==("__classdict__" : a5))=aq:=by decide):VE X W (.Name x pos) (vO i):=⟨_,Eu q hv hd j,aiK⟩
theorem LQ{K:bg}{v:V}{d:A}(h:∀G O,Den K G O v d):fJ K (Den K) W (tC v) (λ_=>ret d):=λG O _ _ _ _ _ w _ q=>jX w (h G O) q
theorem aG{i:av}{j}:VE X W (.Constant (.int i) j pos) (λ_=>ret (.int i)):=⟨_,anZ,LQ λ_ _=>by simp only[Den]⟩
theorem iS{i:bh}{j}:VE X W (.Constant (.bool i) j pos) (λ_=>ret (.bl i)):=⟨_,aoD,LQ λ_ _=>by simp only[Den]⟩
theorem afU{x:a5}{p:au}(j:Gl X x)(hm:X.mg x=ai (.ref p))(q:dz X.K bc x=ai (ai (.ref p)))(hd:(x==("__debug__" : a5))=aq:=by decide):VE X W (.Name x pos) (λ_=>ret (.gl x)) :=
 ⟨_,Vw (v:=.ref p) j hm rfl hd,LQ λ_ _=>by simp only[Den];exact⟨p,q,rfl⟩⟩
theorem Rr{x:a5}{i:av}(j:Gl X x)(hm:∃t,X.mg x=ai (.int i t))(hd:(x==("__debug__" : a5))=aq:=by decide):VE X W (.Name x pos) (λ_=>ret (.int i)):=by
 obtain⟨t,hm⟩:=hm;exact⟨_,Vw (v:=.int i) j hm ⟨t,rfl⟩ hd,LQ λ_ _=>by simp only[Den]⟩
theorem FH{x:a5}{n:cy}(j:Gl X x)(hm:X.mg x=ak)(hv:c2 x=ai (.type n))(hn:x≠"__name__":=by decide)(hd:(x==("__debug__" : a5))=aq:=by decide):VE X W (.Name x pos) (λ_=>ret (.ty n)) :=
 ⟨_,aoC (v:=.ty n) j hm hv rfl hn hd,LQ λ_ _=>by simp only[Den]⟩
theorem aN:VA X W [] (λ_=>ret []):=⟨_,CO,λ_ _ _ _ _ _ _ w _ q=>jX w .nil q⟩
@[simp] def aC(f:Ev->Mo A)(g:Ev->Mo (aj A)):Ev->Mo (aj A):=λY=>mb (f Y) λx=>mb (g Y) λxs=>ret (x::xs)
theorem aE(h1:VE X W e fa)(h2:VA X W es fs)(o:ba (e::es) X.env=(aq,bz e X.env)::ba es X.env:=by rfl):VA X W (e::es) (aC fa fs):=by
 obtain⟨t,n,l⟩:=h1;obtain⟨u,m,k⟩:=h2;refine⟨_,zW n m o,λG a c H J z Q w r h=>?_⟩;refine l G a c H J z _ w r (cA.mb h λx q v y A j f i s h1=>?_);refine k A j q y J z _ i (r.ext f) (cA.mb h1 λB b C D E U d g p h2=>?_);exact jX g (.cons (s.ext d) p) h2
@[simp] def mQ(g:Ev->Mo (aj A)):Ev->Mo A:=λY=>mb (g Y) λxs=>mb (oS (xs.length<=az)) λ_=>Fs xs
theorem pC{k}(h:VA X W es fs):VE X W (.Tuple es k pos) (mQ fs):=by
 obtain⟨t,p,s⟩:=h;refine⟨_,anK p,λG U b H J q Q w r h=>?_⟩;refine s G U b H J q _ w r (cA.mb h λe a g i l z f c j h1=>?_);obtain⟨hl,h2⟩:=cA.oS h1;exact⟨by rw[j.length];exact hl,λp d=>Fq c d j h2⟩
@[simp] def eQ(c:bh)(g:Ev->Mo (aj A)):Ev->Mo A:=λY=>mb (g Y) λxs=>mb (oS (xs.length<=az)) λ_=>jR c xs
theorem iR(c:bh)(h:VA X W es fs):VE X W (.List es pos) (eQ c fs):=by
 obtain⟨t,p,s⟩:=h;refine⟨_,anS p,λG U b H J q Q w r h=>?_⟩;refine s G U b H J q _ w r (cA.mb h λf a i k l z g d j h1=>?_);obtain⟨hl,h2⟩:=cA.oS h1;exact⟨by rw[j.length];exact hl,λp e=>AA d e j h2⟩
def sJ(K:bg)(W:WX)(r:R2)(g:A->A->Mo A):Prop :=
 ∀G O Z H J x y a b Q,Wd K G O Z H->Den K G O x a->Den K G O y b->cA K (Den K) W G O J Q (g a b Z)->r x y H Q
def lA(X:Cx)(W:WX)(f:ao->ao->Sem ao)(g:A->A->Mo A):Prop:=∃r,hJ X f r/\sJ X.K W r g
@[simp] def aA(g:A->A->Mo A)(f h:Ev->Mo A):Ev->Mo A:=λY=>mb (f Y) λx=>mb (h Y) λy=>g x y
theorem SR{K:bg}{r:R2}{g:A->A->Mo A}{ta tb:TE}(l:sJ K W r g)(h1:fJ K (Den K) W ta fa)(h2:fJ K (Den K) W tb fb):fJ K (Den K) W (LD r ta tb) (aA g fa fb):=by
 intro G c d H J b Q w q h;refine h1 G c d H J b _ w q (cA.mb h λx a v p t z f k n h1=>?_);refine h2 t z a p J b _ k (q.ext f) (cA.mb h1 λy U u o s j e i m h2=>?_);exact l s j U o J v u x y Q i (n.ext e) m h2
theorem aY{j:Operator}{g:A->A->Mo A}(f:lA X W (cn j) g)(ha:VE X W a fa)(hb:VE X W b fb):VE X W (.BinOp a j b pos) (aA g fa fb):=by
 obtain⟨r,e,d⟩:=f;obtain⟨t,c,z⟩:=ha;obtain⟨u,U,q⟩:=hb;exact⟨_,anN e c U,SR d z q⟩
@[simp] def gI(C:av->av->Prop) [∀i j,c9 (C i j)](g:av->av->A):A->A->Mo A
 |.int i,.int j=>mb (oS (C i j)) λ_=>ret (g i j)
 |_,_=>stuck
theorem MB{K:bg}{C:av->av->Prop} [∀i j,c9 (C i j)]{g:av->av->V}{g':av->av->A}(U:∀G O i j,Den K G O (g i j) (g' i j)):sJ K W (rI C g) (gI C g'):=by
 intro G O d H J x y a b Q w z q h;cases a with
 |int i =>
  cases b with
  |int j =>
   simp only[Den]at z q;obtain⟨c,h2⟩:=cA.oS h;exact⟨i,j,z,q,c,jX w (U _ _ _ _) h2⟩
  |_=>exact False.elim h
 |_=>exact False.elim h
@[simp] def HM(g:av->av->A):A->A->Mo A
 |.int i,.int j=>ret (g i j)
 |_,_=>stuck
theorem MA{K:bg}{g:av->av->V}{g':av->av->A}(U:∀G O i j,Den K G O (g i j) (g' i j)):sJ K W (xT g) (HM g'):=by
 intro G O c H J x y a b Q w z q h;cases a with
 |int i =>
  cases b with
  |int j =>
   simp only[Den]at z q;exact⟨i,j,z,q,jX w (U _ _ _ _) h⟩
  |_=>exact False.elim h
 |_=>exact False.elim h
instance:∀i j,c9 (jV i j):=λi j=>by unfold jV;infer_instance
instance:∀i j,c9 (nM i j):=λi j=>by unfold nM;infer_instance
instance:∀i j,c9 (KN i j):=λi j=>by unfold KN;infer_instance
@[simp] def lJ:=HM λi j => .int (i-j)
@[simp] def gY:=gI jV λi j => .int (i*j)
@[simp] def jI:=gI nM λi j => .int (i/j)
@[simp] def fS:=gI (λ_ j=>0<j) λi j => .int (i%j)
@[simp] def OC:=gI KN λi j => .int (i ^ j.toNat)
theorem nR:lA X W (cn .Sub) lJ:=⟨_,aoP,MA λ_ _ _ _=>by simp only[Den]⟩
theorem mS:lA X W (cn .Mult) gY:=⟨_,aoU,MB λ_ _ _ _=>by simp only[Den]⟩
theorem pH:lA X W (cn .FloorDiv) jI:=⟨_,ao2,MB λ_ _ _ _=>by simp only[Den]⟩
theorem jQ:lA X W (cn .Mod) fS:=⟨_,aoV,MB λ_ _ _ _=>by simp only[Den]⟩
theorem TM:lA X W (cn .Pow) OC:=⟨_,aoQ,MB λ_ _ _ _=>by simp only[Den]⟩
@[simp] noncomputable def MO:A->bh
 |.dZ _=>ax
 |_=>aq
theorem Wt{a:A}(h:MO a=aq):∀ns,a≠.dZ ns:=λns e=>by subst e;cases h
@[simp] def Jp(c:bh)(a b:A):Mo A:=λZ=>match eL Z a,eL Z b with
  |some xs,ai ys=>if MO a||MO b||decide (az<xs.length+ys.length)then ak else jR c (xs++ys) Z
  |_,_=>ak
@[simp] def HQ(c:bh):A->A->Mo A
 |.int i,.int j=>ret (.int (i+j))
 |.tup xs,.tup ys=>mb (oS (0<xs.length/\xs.length+ys.length<=az)) λ_=>Fs (xs++ys)
 |a,b=>Jp c a b
theorem aoO{K:bg}{c:bh}:sJ K W Ux (Jp c):=by
 intro G o U H J x y a b Q w n m h;unfold Jp at h
 match j:eL U a,z:eL U b with
 |none,_=>rw[j]at h;exact False.elim h
 |some d,ak=>rw[j,z]at h;exact False.elim h
 |some d,ai g =>
  rw[j,z]at h;simp only at h
  by_cases hb:(MO a||MO b||decide (az<d.length+g.length))=ax
  ·rw[a8 hb]at h;exact False.elim h
  ·rw[bb hb]at h;simp only[Bool.or_eq_true,WB,not_or,Bool.not_eq_true]at hb;obtain⟨p,k,rfl,h2,f⟩:=Vo w n j (Wt hb.1.1);obtain⟨q,i,rfl,l,e⟩:=Vo w m z (Wt hb.1.2);exact⟨p,q,k,i,rfl,rfl,h2,l,by rw[f.length,e.length];omega,λr hr=>AA w hr (f.append e) h⟩
theorem dI(c:bh):lA X W (cn .Add) (HQ c):=by
 refine⟨_,ao6.or (ao5.or ao4),?_⟩;intro G g i H J x y a b Q w z j h;unfold HQ at h;split at h
 ·simp only[Den]at z j;exact .inl ⟨_,_,z,j,jX w (by simp only[Den]) h⟩
 ·rename_i o n;simp only[Den]at z j;obtain⟨p,f,rfl,h2,U⟩:=z;obtain⟨q,k,rfl,l,d⟩:=j;obtain⟨⟨s,m⟩,h⟩:=cA.oS h;refine .inr (.inr ⟨p,q,f,k,rfl,rfl,jK.of (w.sub _ _ h2),jK.of (w.sub _ _ l),?_,by rw[U.length,d.length];exact m,λe=>?_,λ_ r hr=>Fq w hr (U.append d) h⟩)
  ·intro e;subst e;have:=U.length;simp at this;omega
  ·subst e;refine jX w ?_ h;simp only[Den];exact⟨p,f,rfl,h2,by simpa using U.append d⟩
 ·exact .inr (.inl (aoO G g i H J x y _ _ Q w z j h))
end
noncomputable def dW:ay->A->bh
 |_,.int _=>ax
 |_,.bl _=>ax
 |_,.dE=>ax
 |_,.str x=>PyData.canLay0 (.str x)
 |n+1,.tup ds=>ds.all (dW n)
 |n+1,.lst ds=>ds.all (dW n)
 |_,_=>aq
noncomputable def wO(f:A->A->bh):aj A->aj A->bh
 |[],[]=>ax
 |x::xs,y::ys=>f x y&&wO f xs ys
 |_,_=>aq
def gD:ay->A->A->bh
 |_,.int i,.int j=>i==j
 |_,.bl i,.bl j=>i==j
 |_,.bl i,.int j=>(if i then 1 else 0)==j
 |_,.int i,.bl j=>i==(if j then 1 else 0)
 |_,.dE,.dE=>ax
 |_,.str x,.str y=>x==y
 |n+1,.tup xs,.tup ys=>wO (gD n) xs ys
 |n+1,.lst xs,.lst ys=>wO (gD n) xs ys
 |_,_,_=>aq
noncomputable def toPy:ay->A->PyData
 |_,.int i => .int i
 |_,.bl i => .bool i
 |_,.str x => .str x
 |n+1,.tup ds => .tuple (ds.map (toPy n))
 |n+1,.lst ds => .list (ds.map (toPy n))
 |_,_ => .none
theorem WE:∀(ds:aj A) (n:ay),(∀d∈ds,dW n d=ax->PyData.canLay0 (toPy n d)=ax)->ds.all (dW n)=ax->PyData.canLayAll0 (ds.map (toPy n))=ax
 |[],_,_,_=>rfl
 |d::ds,n,ih,h=>by
  simp only[Ov,nN]at h;simp only[cV,PyData.canLayAll0,nN];exact⟨ih d kP h.1,WE ds n (λe he=>ih e (gJ _ he)) h.2⟩
theorem zM:∀(n:ay) (a:A),dW n a=ax->PyData.canLay0 (toPy n a)=ax:=by
 intro n
 induction n with
 |zero=>intro a h;cases a <;> first|rfl|exact h|cases h
 |succ n ih =>
  intro a h;cases a with
  |tup ds=>exact WE ds n (λd _=>ih d) h
  |lst ds=>exact WE ds n (λd _=>ih d) h
  |str x=>exact h
  |int i=>rfl
  |bl b=>rfl
  |dE=>rfl
  |_=>cases h
theorem Ki:∀(ds:aj A) (n:ay),(∀d∈ds,(toPy n d).depth<=n)->PyData.depthAll (ds.map (toPy n))<=n
 |[],_,_=>BI _
 |d::ds,n,ih=>by
  simp only[cV,PyData.depthAll];exact Nat.max_le.mpr ⟨ih d kP,Ki ds n λe he=>ih e (gJ _ he)⟩
theorem RZ:∀(n:ay) (a:A),(toPy n a).depth<=n:=by
 intro n
 induction n with
 |zero=>intro a;cases a <;> exact vA _
 |succ n ih =>
  intro a;cases a with
  |tup ds=>exact Nat.succ_le_succ (Ki ds n λd _=>ih d)
  |lst ds=>exact Nat.succ_le_succ (Ki ds n λd _=>ih d)
  |_=>exact BI _
theorem abH:∀(xs ys:aj A) (n:ay),(∀x∈xs,∀y∈ys,PyData.eqv (toPy n x) (toPy n y)=gD n x y)->PyData.eqvAll (xs.map (toPy n)) (ys.map (toPy n))=wO (gD n) xs ys
 |[],[],_,_=>rfl
 |[],_::_,_,_=>rfl
 |_::_,[],_,_=>rfl
 |x::xs,y::ys,n,ih=>by
  simp only[cV,PyData.eqvAll,wO];rw[ih x kP y kP,abH xs ys n λa ha b hb=>ih a (gJ _ ha) b (gJ _ hb)]
theorem RY:∀(n:ay) (a b:A),dW n a=ax->dW n b=ax->PyData.eqv (toPy n a) (toPy n b)=gD n a b:=by
 intro n
 induction n with
 |zero=>intro a b ha hb;cases a <;> cases b <;> first|rfl|(simp[dW]at ha;done)|(simp[dW]at hb;done)
 |succ n ih =>
  intro a b ha hb;have lst:∀q j:aj A,q.all (dW n)=ax->j.all (dW n)=ax->PyData.eqvAll (q.map (toPy n)) (j.map (toPy n))=wO (gD n) q j:=λq j h1 h2 =>
   abH q j n λx U y z=>ih x y (JE.mp h1 x U) (JE.mp h2 y z)
  cases a <;> cases b <;> first|rfl|(simp[dW]at ha;done)|(simp[dW]at hb;done)|exact lst _ _ ha hb
section
variable{X:Cx}{aa:aj (au×cq)}{J:L2.St}{H:Hp}{s:aw}{O:aj au}
theorem readsAll(n:ay)(ih:∀(v:V) (u:ao) (a:A),dW n a=ax->Den X.K H O v a->RelV v u->∃as,Reads s.heap u (toPy n a) as) :
  ∀(ds:aj A) (xs:aj V) (us:aj ao),ds.all (dW n)=ax->bJ X.K H O xs ds->Vals xs us->∃as,ReadsAll s.heap us (ds.map (toPy n)) as
 |[],xs,us,_,d,r=>by
  rw[tL]at d;subst d;cases r;exact⟨_,.nil⟩
 |a::ds,xs,us,h,d,r=>by
  obtain⟨x,t,rfl,c,b⟩:=d.nP;simp only[Ov,nN]at h;cases r with
  |cons q j =>
   obtain⟨as,U⟩:=ih _ _ _ h.1 c q;obtain⟨bs,z⟩:=readsAll n ih ds _ _ h.2 b j;exact⟨_,.cons U z⟩
theorem CL(I:Inv X aa J H s):∀(n:ay) (v:V) (u:ao) (a:A),dW n a=ax->Den X.K H O v a->RelV v u->∃as,Reads s.heap u (toPy n a) as:=by
 intro n
 induction n with
 |zero =>
  intro v u a h d r;cases a with
  |int i=>simp only[Den]at d;subst d;obtain⟨t,rfl⟩:=r;exact⟨_,.int i t⟩
  |bl b=>simp only[Den]at d;subst d;cases r;exact⟨_,.bool b⟩
  |str x=>simp only[Den]at d;subst d;obtain⟨t,rfl⟩:=r;exact⟨_,.str x t⟩
  |dE=>simp only[Den]at d;subst d;cases r;exact⟨_,.none⟩
  |_=>cases h
 |succ n ih =>
  intro v u a h d r;cases a with
  |int i=>simp only[Den]at d;subst d;obtain⟨t,rfl⟩:=r;exact⟨_,.int i t⟩
  |bl b=>simp only[Den]at d;subst d;cases r;exact⟨_,.bool b⟩
  |str x=>simp only[Den]at d;subst d;obtain⟨t,rfl⟩:=r;exact⟨_,.str x t⟩
  |dE=>simp only[Den]at d;subst d;cases r;exact⟨_,.none⟩
  |tup ds =>
   simp only[Den]at d;obtain⟨p,z,rfl,h2,f⟩:=d;cases r;obtain⟨j,U,pl,g⟩:=I.tuple (jK.of h2);obtain⟨as,q⟩:=readsAll n ih ds z j h f U;obtain⟨o,c,e,m,hd⟩:=(show s.heap.IsTuple p j.toArray from pl);exact⟨_,.tuple c e hd (by simpa using q)⟩
  |lst ds =>
   simp only[Den]at d;obtain⟨p,z,rfl,h2,f⟩:=d;cases r;obtain⟨j,U,pl,g⟩:=I.list (fE.of h2);obtain⟨as,q⟩:=readsAll n ih ds z j h f U;obtain⟨o,c,e,m,hd⟩:=pl.isList;exact⟨_,.list c e hd (by simpa using q)⟩
  |_=>cases h
end
def Ek(K:bg)(neg:bh):R2:=λx y H Q=>∃O a b,dW 8 a=ax/\dW 8 b=ax/\Den K H O x a/\Den K H O y b/\Q (.bl (if neg then !gD 8 a b else gD 8 a b)) H
theorem ao3{X:Cx}(g:X.A.units+64<de):hJ X (bw .Eq) (Ek X.K aq):=by
 intro aa s J H x y v u Q I z j h;obtain⟨f,a,b,h1,h2,e,d,q⟩:=h;obtain⟨k,c⟩:=CL I 8 x v a h1 e z;obtain⟨bs,U⟩:=CL I 8 y u b h2 d j;have i:=RZ 8 a;refine SeqAt.compareEq_reads c U (zM 8 a h1) (zM 8 b h2) (by omega) ?_;rw[RY 8 a b h1 h2];exact⟨.bl (gD 8 a b),H,I,rfl,q⟩
theorem aoT{X:Cx}(g:X.A.units+64<de):hJ X (bw .NotEq) (Ek X.K ax):=by
 intro aa s J H x y v u Q I z j h;obtain⟨f,a,b,h1,h2,e,d,q⟩:=h;obtain⟨k,c⟩:=CL I 8 x v a h1 e z;obtain⟨bs,U⟩:=CL I 8 y u b h2 d j;have i:=RZ 8 a;refine SeqAt.compareNe_reads c U (zM 8 a h1) (zM 8 b h2) (by omega) ?_;rw[RY 8 a b h1 h2];exact⟨.bl (!gD 8 a b),H,I,rfl,q⟩
noncomputable def vY(f:A->ar A):aj A->ar (aj A)
 |[]=>ai []
 |x::xs=>match f x,vY f xs with
  |some y,ai ys=>ai (y::ys)
  |_,_=>ak
def res(Z:aH):ay->A->ar A
 |0,a=>if dW 8 a=ax then ai a else ak
 |n+1,a=>if dW 8 a=ax then ai a else match a with
  |.tup ds=>(vY (res Z n) ds).map .tup
  |.lst ds=>(vY (res Z n) ds).map .lst
  |.aJ k=>match Z[k]? with
   |some (.lst ds)=>(vY (res Z n) ds).map .lst
   |_=>ak
  |_=>ak
section
variable{K:bg}{G H:Hp}{O:aj au}{Z:aH}
theorem Wd.abF(w:Wd K G O Z H):Ext G O H O:=⟨w.sub,λ_ _ h=>h⟩
theorem TY{f:A->ar A}(ih:∀v a b,Den K G O v a->f a=ai b->Den K H O v b):∀(ds es:aj A) (xs:aj V),bJ K G O xs ds->vY f ds=ai es->bJ K H O xs es
 |[],es,xs,d,h=>by
  simp only[vY,lO]at h;subst h;rw[tL]at d ⊢;exact d
 |a::ds,es,xs,d,h=>by
  obtain⟨x,t,rfl,c,U⟩:=d.nP;simp only[vY]at h;split at h
  ·rename_i y j z q;cases h;exact .cons (ih _ _ _ c z) (TY ih ds j t U q)
  ·cases h
theorem SY(w:Wd K G O Z H):∀(n:ay) (v:V) (a b:A),Den K G O v a->res Z n a=ai b->Den K H O v b:=by
 intro n
 induction n with
 |zero =>
  intro v a b d h;simp only[res]at h;split at h
  ·cases h;exact d.ext w.abF
  ·cases h
 |succ n ih =>
  intro v a b d h;simp only[res]at h;split at h
  ·cases h;exact d.ext w.abF
  ·split at h
   ·rename_i ds _;simp only[EJ]at h;obtain⟨es,h1,rfl⟩:=h;simp only[Den]at d ⊢;obtain⟨p,j,U,z,q⟩:=d;exact⟨p,j,U,w.sub _ _ z,TY ih ds es j q h1⟩
   ·rename_i ds _;simp only[EJ]at h;obtain⟨es,h1,rfl⟩:=h;simp only[Den]at d ⊢;obtain⟨p,j,U,z,q⟩:=d;exact⟨p,j,U,w.sub _ _ z,TY ih ds es j q h1⟩
   ·rename_i k _;split at h
    ·rename_i ds e;simp only[EJ]at h;obtain⟨es,h1,rfl⟩:=h;simp only[Den]at d ⊢;obtain⟨p,U,z⟩:=d;obtain⟨g,j,q,c⟩:=w.aJ k _ p e z;exact⟨p,j,U,q,TY ih ds es j c h1⟩
    ·cases h
   ·cases h
end
def uR(neg:bh)(a b:A):Mo A:=λZ=>match res Z 6 a,res Z 6 b with
 |some x,ai y=>if(dW 8 x&&dW 8 y)=ax then ai (.ok (.bl (if neg then !gD 8 x y else gD 8 x y)),Z)else ak
 |_,_=>ak
def iX:=uR aq
def kW:=uR ax
section
variable{X:Cx}{W:WX}{e a b c:bp}{pos:cx}{fa fb fc:Ev->Mo A}{ta tb:Ev->Mo bh}
theorem Wf{K:bg}{neg:bh}:sJ K W (Ek K neg) (uR neg):=by
 intro G q g H J x y a b Q w f e h;unfold uR at h;split at h
 ·rename_i U z d c;split at h
  ·rename_i j;rw[nN]at j;exact⟨q,U,z,j.1,j.2,SY w 6 x a U f d,SY w 6 y b z e c,h _ H G q (Ext.refl _ _) w (by simp only[Den])⟩
  ·exact False.elim h
 ·exact False.elim h
theorem lU(j:X.A.units+64<de):lA X W (bw .Eq) iX:=⟨_,ao3 j,Wf⟩
theorem rS(j:X.A.units+64<de):lA X W (bw .NotEq) kW:=⟨_,aoT j,Wf⟩
@[simp] def kB:=HM λi j => .bl (decide (i<j))
@[simp] def oO:=HM λi j => .bl (decide (i<=j))
@[simp] def rY:=HM λi j => .bl (decide (j<i))
@[simp] def Jl:=HM λi j => .bl (decide (j<=i))
theorem mT:lA X W (bw .Lt) kB:=⟨_,aoW,MA λ_ _ _ _=>by simp only[Den]⟩
theorem qA:lA X W (bw .LtE) oO:=⟨_,aoX,MA λ_ _ _ _=>by simp only[Den]⟩
theorem uG:lA X W (bw .Gt) rY:=⟨_,aoZ,MA λ_ _ _ _=>by simp only[Den]⟩
theorem Wq:lA X W (bw .GtE) Jl:=⟨_,ao0,MA λ_ _ _ _=>by simp only[Den]⟩
noncomputable def MP:A->ar bh
 |.dE=>ai ax
 |_=>ai aq
@[simp] def HN:A->Mo bh
 |.bl b=>ret b
 |_=>stuck
@[simp] def bL(f:Ev->Mo A):Ev->Mo bh:=λY=>mb (f Y) HN
theorem LP{K:bg}{t:TE}(h:fJ K (Den K) W t fa):fJ K CK W (Aw t) (bL fa):=by
 intro G a d H J z Q w r q;refine h G a d H J z _ w r (cA.mb q λx c v g i U f e j h1=>?_);cases x with
 |bl b=>simp only[Den]at j;exact⟨b,j,jX e rfl h1⟩
 |_=>exact False.elim h1
theorem pD{j:CmpOp}{g:A->A->Mo A}(f:lA X W (bw j) g)(ha:VE X W a fa)(hb:VE X W b fb)(hm:cw j b=aq):VE X W (.Compare a [j] [b] pos) (aA g fa fb):=by
 obtain⟨r,e,d⟩:=f;obtain⟨t,c,z⟩:=ha;obtain⟨u,U,q⟩:=hb;exact⟨_,an8 e c U hm,SR d z q⟩
theorem dO{j:CmpOp}{g:A->A->Mo A}(f:lA X W (bw j) g)(ha:VE X W a fa)(hb:VE X W b fb)(hm:cw j b=aq):VT X W (.Compare a [j] [b] pos) (bL (aA g fa fb)):=by
 obtain⟨r,e,d⟩:=f;obtain⟨t,c,z⟩:=ha;obtain⟨u,U,q⟩:=hb;exact⟨_,amF e c U hm,LP (SR d z q)⟩
@[simp] def LA(g g':A->A->Mo A)(U q j:Ev->Mo A):Ev->Mo A:=λY=>mb (U Y) λx=>mb (q Y) λy=>mb (g x y) λz=>mb (HN z) λk=>if k then mb (j Y) λu=>g' y u else ret (.bl aq)
theorem aiP{K:bg}{r C:R2}{g g':A->A->Mo A}{t1 B t:TE}(T:sJ K W r g)(S:sJ K W C g')(h1:fJ K (Den K) W t1 fa)(h2:fJ K (Den K) W B fb)(X:fJ K (Den K) W t fc):fJ K (Den K) W (Te r C t1 B t) (LA g g' fa fb fc):=by
 intro G F I H J j Q w q h;refine h1 G F I H J j _ w q (cA.mb h λx i v H1 G1 c p P d1 h1=>?_);refine h2 G1 c i H1 J j _ P (q.ext p) (cA.mb h1 λy f u H2 G2 b o N E h2=>?_);refine T G2 b f H2 J v u x y _ N (d1.ext o) E (cA.mb h2 λz e z' H3 G3 a n s D l=>?_);cases z with
 |bl k =>
  simp only[Den]at D;refine⟨k,D,?_⟩;cases k with
  |true=>exact X G3 a e H3 J j _ s (q.ext ((p.trans o).trans n)) (cA.mb l λm d R H4 G4 U L M d4 V=>S G4 U d H4 J u R y m Q M (E.ext (n.trans L)) d4 V)
  |false=>exact jX s (by simp only[Den]) l
 |_=>exact False.elim l
theorem afI{q j:CmpOp}{g g':A->A->Mo A}(m:lA X W (bw q) g)(l:lA X W (bw j) g')(ha:VE X W a fa)(hb:VE X W b fb)(n:VE X W c fc)
  (hm:lastMarks [q,j] [b,c]=aq:=by with_unfolding_all rfl):VT X W (.Compare a [q,j] [b,c] pos) (bL (LA g g' fa fb fc)):=by
 obtain⟨r,k,i⟩:=m;obtain⟨v,o,p⟩:=l;obtain⟨t,h,d⟩:=ha;obtain⟨u,f,U⟩:=hb;obtain⟨s,e,z⟩:=n;exact⟨_,amG k o h f e hm,LP (aiP i p d U z)⟩
theorem lS(h:VE X W e fa)(he:∀whole,isTrue e X.env whole=(do let v<-whole;standAt e.pos;dh [v] (truthy v)):=by intro _;rfl):VT X W e (bL fa):=by
 obtain⟨t,p,s⟩:=h;exact⟨_,amD p he,LP s⟩
@[simp] def sW(f g:Ev->Mo bh):Ev->Mo bh:=λY=>mb (f Y) λc=>if c then g Y else ret aq
@[simp] def gU(f g:Ev->Mo bh):Ev->Mo bh:=λY=>mb (f Y) λc=>if c then ret ax else g Y
@[simp] def jC(f:Ev->Mo bh):Ev->Mo bh:=λY=>mb (f Y) λc=>ret (!c)
variable{ae:aj bp}
theorem KR(h:VT X W a ta):VW X W (.BoolOp .And [a] pos) ta:=let ⟨t,p,s⟩:=h; ⟨t,pw_and1 p,s⟩
theorem mB(h:VT X W a ta):VW X W (.BoolOp .Or [a] pos) ta:=let ⟨t,p,s⟩:=h; ⟨t,pw_or1 p,s⟩
theorem KS(h1:VT X W a ta)(h2:VW X W (.BoolOp .And (b::ae) pos) tb):VW X W (.BoolOp .And (a::b::ae) pos) (sW ta tb):=by
 obtain⟨t,l,i⟩:=h1;obtain⟨u,k,g⟩:=h2;refine⟨_,pw_and l k,λG d e H J z Q w r h=>?_⟩;refine i G d e H J z _ w r (cA.mb h λc q n o p j f U m h1=>?_);cases(show n=c from m);cases c with
 |true=>exact g p j q o J z Q U (r.ext f) h1
 |false=>exact jX U rfl h1
theorem jN(h1:VT X W a ta)(h2:VW X W (.BoolOp .Or (b::ae) pos) tb):VW X W (.BoolOp .Or (a::b::ae) pos) (gU ta tb):=by
 obtain⟨t,l,i⟩:=h1;obtain⟨u,k,g⟩:=h2;refine⟨_,pw_or l k,λG d e H J z Q w r h=>?_⟩;refine i G d e H J z _ w r (cA.mb h λc q n o p j f U m h1=>?_);cases(show n=c from m);cases c with
 |false=>exact g p j q o J z Q U (r.ext f) h1
 |true=>exact jX U rfl h1
theorem VW.vt(h:VW X W e ta):VT X W e ta:=let ⟨t,p,s⟩:=h; ⟨t,p.pt,s⟩
theorem mO(h:VT X W a ta):VT X W (.UnaryOp .Not a pos) (jC ta):=by
 obtain⟨t,p,s⟩:=h;refine⟨_,amE p,λG z b H J j Q w r h=>?_⟩;refine s G z b H J j _ w r (cA.mb h λc U f i k q g d e h1=>?_);cases(show f=c from e);exact jX d rfl h1
@[simp] def CD(f g:Ev->Mo A):Ev->Mo A:=λY=>mb (f Y) λx=>mb (HN x) λc=>if c then g Y else ret (.bl aq)
@[simp] def RR(f g:Ev->Mo A):Ev->Mo A:=λY=>mb (f Y) λx=>mb (HN x) λc=>if c then ret (.bl ax)else g Y
theorem CA{j}(h:VE X W a fa):VE X W (.BoolOp j [a] pos) fa:=let ⟨t,p,s⟩:=h; ⟨t,anO p,s⟩
theorem RO(h1:VE X W a fa)(h2:VE X W (.BoolOp .And (b::ae) pos) fb):VE X W (.BoolOp .And (a::b::ae) pos) (CD fa fb):=by
 obtain⟨t,m,k⟩:=h1;obtain⟨u,l,i⟩:=h2;refine⟨_,aoF m l,λG e f H J z Q w r h=>?_⟩;refine k G e f H J z _ w r (cA.mb h λx q v n o j g U d h1=>?_);cases x with
 |bl c =>
  simp only[Den]at d;refine⟨c,d,?_⟩;cases c with
  |true=>exact i o j q n J z Q U (r.ext g) h1
  |false=>exact jX U (by simp only[Den]) h1
 |_=>exact False.elim h1
theorem ZX(h1:VE X W a fa)(h2:VE X W (.BoolOp .Or (b::ae) pos) fb):VE X W (.BoolOp .Or (a::b::ae) pos) (RR fa fb):=by
 obtain⟨t,m,k⟩:=h1;obtain⟨u,l,i⟩:=h2;refine⟨_,anM m l,λG e f H J z Q w r h=>?_⟩;refine k G e f H J z _ w r (cA.mb h λx q v n o j g U d h1=>?_);cases x with
 |bl c =>
  simp only[Den]at d;refine⟨c,d,?_⟩;cases c with
  |false=>exact i o j q n J z Q U (r.ext g) h1
  |true=>exact jX U (by simp only[Den]) h1
 |_=>exact False.elim h1
@[simp] def Ah(t:Ev->Mo bh)(f g:Ev->Mo A):Ev->Mo A:=λY=>mb (t Y) λc=>if c then f Y else g Y
theorem Rq(p:VT X W c ta)(h1:VE X W a fa)(h2:VE X W b fb):VE X W (.IfExp c a b pos) (Ah ta fa fb):=by
 obtain⟨x,o,s0⟩:=p;obtain⟨t,n,l⟩:=h1;obtain⟨u,m,k⟩:=h2;refine⟨_,an0 o n m,λG g i H J z Q w r h=>?_⟩;refine s0 G g i H J z _ w r (cA.mb h λc q v e f j U d s h1=>?_);cases(show v=c from s);cases c with
 |true=>exact l f j q e J z Q d (r.ext U) h1
 |false=>exact k f j q e J z Q d (r.ext U) h1
@[simp] def Af(f:Ev->Mo A):Ev->Mo A:=λY=>mb (f Y) λx=>match x with
 |.int i=>ret (.int (-i))
 |_=>stuck
theorem Rp(h:VE X W a fa):VE X W (.UnaryOp .USub a pos) (Af fa):=by
 obtain⟨t,p,s⟩:=h;refine⟨_,anJ agB p,λG U d H J q Q w r h=>?_⟩;refine s G U d H J q _ w r (cA.mb h λx b v g i z f e j h1=>?_);cases x with
 |int c =>
  simp only[Den]at j;exact⟨c,j,jX e (by simp only[Den]) h1⟩
 |_=>exact False.elim h1
end
inductive Out where
 |nx|bk|ct|ret (a:A)|exc (x:Exc)
abbrev OS:=ar (Out×Ev×aH)
abbrev MS:=Ev->aH->OS
def aD4(K:bg)(W:WX)(G:Hp)(O:aj au)(D:Ends)(J:L2.St)(H:Hp):Out->Prop
 |.nx=>D.nx J H
 |.bk=>D.bk J H
 |.ct=>D.ct J H
 |.ret a=>∀v,Den K G O v a->D.rt v H
 |.exc x=>∀cls dx,aeW K G O H x cls dx->W J cls dx H
def gE(K:bg)(W:WX)(G:Hp)(O:aj au)(D:Ends):OS->Prop
 |some (o,Y',Z')=>∀j H' G' O',Ext G O G' O'->Wd K G' O' Z' H'->iH K G' O' j Y'->aD4 K W G' O' D j H' o
 |none=>cb
@[simp] noncomputable def sM{α:Type}(m:Mo α)(Y:Ev)(k:α->aH->OS):aH->OS:=λZ=>match m Z with
 |some (.ok a,Z1)=>k a Z1
 |some (.exc x,Z1)=>ai (.exc x,Y,Z1)
 |none=>ak
section
variable{K:bg}{W:WX}{G:Hp}{O:aj au}{Z:aH}{J:L2.St}{Y:Ev}{D:Ends}
theorem gE.ext{U:Hp}{j:aj au}{r:OS}(h:gE K W G O D r)(e:Ext G O U j):gE K W U j D r:=by
 match r,h with
 |some (o,a,b),h=>exact λq c f z x w d=>h q c f z (e.trans x) w d
theorem gE.sM{α β:Type}{rel:Rl α β}{m:Mo α}{k:α->aH->OS}{Q1:β->Hp->Prop}(h:gE K W G O D (V2.sM m Y k Z))(r:iH K G O J Y)
  (b:∀a Z1 v H1 z j,Ext G O z j->Wd K z j Z1 H1->rel z j v a->gE K W z j D (k a Z1)->Q1 v H1):cA K rel W G O J Q1 (m Z):=by
 unfold V2.sM at h
 revert h
 generalize m Z=q;intro h
 match q,h with
 |some (.ok a,Z1),h=>exact λv H1 z j x w d=>b a Z1 v H1 z j x w d (gE.ext h x)
 |some (.exc x,Z1),h=>exact λcls c f g U e w d=>h J f g U e w (r.ext e) cls c d
end
def uY(K:bg)(W:WX)(t:TS)(f:MS):Prop:=∀G O Z H J Y D,Wd K G O Z H->iH K G O J Y->gE K W G O D (f Y Z)->t D J H
def VS(X:Cx)(W:WX)(st:bt)(f:MS):Prop:=∃t,PS X st t/\uY X.K W t f
def kZ(X:Cx)(W:WX)(st:aj bt)(f:MS):Prop:=∃t,sI X st t/\uY X.K W t f
def PX(K:bg)(W:WX)(t:TG)(g:A->MS):Prop:=∀G O Z H J Y v a D,Wd K G O Z H->iH K G O J Y->Den K G O v a->gE K W G O D (g a Y Z)->t v J H D.nx
def aD1(K:bg)(W:WX)(t:wV)(g:aj A->MS):Prop:=∀G O Z H J Y vs as D,Wd K G O Z H->iH K G O J Y->bJ K G O vs as->gE K W G O D (g as Y Z)->t vs J H D.nx
def VG(X:Cx)(W:WX)(tg:bp)(g:A->MS):Prop:=∃t,PG X tg t/\PX X.K W t g
def PR(X:Cx)(W:WX)(j:aj bp)(g:aj A->MS):Prop:=∃t,IM X j t/\aD1 X.K W t g
@[simp] noncomputable def eR:MS:=λY Z=>ai (.nx,Y,Z)
@[simp] noncomputable def aQ(f g:MS):MS:=λY Z=>match f Y Z with
 |some (.nx,Y1,Z1)=>g Y1 Z1
 |r=>r
section
variable{X:Cx}{W:WX}{st:bt}{ae:aj bt}{f g:MS}{e:bp}{fe:Ev->Mo A}{pos:cx}
theorem uH{K:bg}{G H:Hp}{O:aj au}{Z:aH}{J:L2.St}{Y:Ev}{D:Ends}(w:Wd K G O Z H)(r:iH K G O J Y)(h:gE K W G O D (ai (.nx,Y,Z))):D.nx J H:=h J H G O (Ext.refl _ _) w r
theorem eZ:kZ X W [] eR:=⟨_,amI,λ_ _ _ _ _ _ _ w r h=>uH w r h⟩
theorem aiJ{K:bg}{t u:TS}(h1:uY K W t f)(h2:uY K W u g):uY K W (Tb t u) (aQ f g):=by
 intro G e d H J c D w r h;refine h1 G e d H J c _ w r ?_;unfold aQ at h
 revert h
 generalize f c d=q;intro h
 match q,h with
 |some (.nx,j,z),h=>exact λU l m b x i k=>h2 m b z l U j D i k (gE.ext h x)
 |some (.bk,j,z),h=>exact h
 |some (.ct,j,z),h=>exact h
 |some (.ret a,j,z),h=>exact h
 |some (.exc a,j,z),h=>exact h
theorem aV(h1:VS X W st f)(h2:kZ X W ae g):kZ X W (st::ae) (aQ f g):=by
 obtain⟨t,U,q⟩:=h1;obtain⟨u,z,j⟩:=h2;exact⟨_,amJ U z,aiJ q j⟩
theorem aZ(h1:VS X W st f):kZ X W [st] f:=let ⟨t,p,s⟩:=h1; ⟨t,amH p,s⟩
@[simp] def iJ(fe:Ev->Mo A):MS:=λY=>sM (fe Y) Y λ_ Z=>ai (.nx,Y,Z)
theorem kM(h:VE X W e fe)(f:df e ak pos.line X.env=pure aq:=by rfl):VS X W (.Expr e pos) (iJ fe):=by
 obtain⟨t,p,s⟩:=h;refine⟨_,amS p f,λG z b H J j D w r h=>?_⟩;exact s G z b H J j _ w r (gE.sM h r λa U v i k q c d g h1=>uH d (r.ext c) h1)
@[simp] def bV(fe:Ev->Mo A):MS:=λY=>sM (fe Y) Y λa Z=>ai (.ret a,Y,Z)
theorem cK(h:VE X W e fe):VS X W (.Return (ai e) pos) (bV fe):=by
 obtain⟨t,p,s⟩:=h;refine⟨_,amN p,λG z b H J q D w r h=>?_⟩;exact s G z b H J q _ w r (gE.sM h r λa U v g i j c d f h1=>h1 J g i j (Ext.refl _ _) d (r.ext c) v f)
@[simp] def dQ(c:Ev->Mo bh)(f g:MS):MS:=λY=>sM (c Y) Y λb Z=>if b then f Y Z else g Y Z
theorem eP{c:bp}{a b:aj bt}{fc:Ev->Mo bh}(v:VT X W c fc)(h1:kZ X W a f)(h2:kZ X W b g):VS X W (.If c a b pos) (dQ fc f g):=by
 obtain⟨A,s,s0⟩:=v;obtain⟨t,p,n⟩:=h1;obtain⟨u,o,m⟩:=h2;refine⟨_,amP s p o,λG k l H J z D w r h=>?_⟩;refine s0 G k l H J z _ w r (gE.sM h r λc q y e i j U d x h1=>?_);cases(show y=c from x);cases c with
 |true=>exact n i j q e J z D d (r.ext U) h1
 |false=>exact m i j q e J z D d (r.ext U) h1
@[simp] noncomputable def gN(i:ay):A->MS:=λa Y Z=>ai (.nx,Y.set i (ai a),Z)
theorem afP{i:ay}{x:a5}(z:X.N.Nodup)(hi:X.N[i]?=ai x)(j:Loc X.env.scope x)(q:X.fn x=ax\/X.env.scope.names.lookup x=ai .local:=by first|exact .inl rfl|exact .inr rfl|assumption):VG X W (.Name x pos) (gN i) :=
 ⟨_,Vv z hi j q,λ_ _ _ _ _ _ _ _ _ w r d h=>uH w (r.set i d) h⟩
@[simp] noncomputable def iA:aj A->MS:=λas Y Z=>match as with
 |[]=>ai (.nx,Y,Z)
 |_=>ak
@[simp] def dF(g:A->MS)(gs:aj A->MS):aj A->MS:=λas=>match as with
 |a::r=>aQ (g a) (gs r)
 |[]=>λ_ _=>ak
theorem oA:PR X W [] iA:=⟨_,anE,λG z U H J q a j D w r d h=>by
 cases j with
 |nil=>rw[tL]at d;exact⟨d,uH w r h⟩
 | cons=>exact False.elim h⟩
theorem gQ{es:aj bp}{g:A->MS}{gs:aj A->MS}(h1:VG X W e g)(h2:PR X W es gs)
  (B:(cj (e::es) X.env).map (·.2)=assign e X.env::(cj es X.env).map (·.2):=by rfl):PR X W (e::es) (dF g gs):=by
 obtain⟨t,y,p⟩:=h1;obtain⟨u,v,o⟩:=h2;refine⟨_,anF y v B,λG m l H J k I f D w r d h=>?_⟩;cases f with
 |nil=>exact False.elim h
 |cons a f =>
  obtain⟨x,c,rfl,E,C⟩:=d.nP;refine⟨x,c,rfl,p G m l H J k x a {D with nx:=λU i=>u c U i D.nx} w r E ?_⟩;simp only[dF,aQ]at h
  revert h
  generalize g a k l=q;intro h
  match q,h with
  |some (.nx,j,z),h=>exact λU i F b x n s=>o F b z i U j c f D n s (C.ext x) (gE.ext h x)
  |some (.bk,j,z),h=>exact h
  |some (.ct,j,z),h=>exact h
  |some (.ret a,j,z),h=>exact h
  |some (.exc a,j,z),h=>exact h
@[simp] noncomputable def hZ(n:ay)(gs:aj A->MS):A->MS:=λa Y Z=>match a with
 |.tup ds=>if ds.length=n then gs ds Y Z else ak
 |_=>ak
theorem pB{es:aj bp}{k:ay}{n:ay}{gs:aj A->MS}(e:X.calm=ax)(h:PR X W es gs)
  (hn:(cj es X.env).length=n:=by rfl) (c:(cj es X.env).findIdx? (·.1)=ak:=by rfl):VG X W (.Tuple es k pos) (hZ n gs):=by
 obtain⟨t,p,s⟩:=h;refine⟨_,anG e p hn c,λG U b H J z v a D w r d h=>?_⟩;unfold hZ at h;cases a with
 |tup ds =>
  simp only at h
  by_cases hl:ds.length=n
  ·rw[a8 hl]at h;simp only[Den]at d;obtain⟨p,j,rfl,h2,q⟩:=d;exact⟨p,j,rfl,jK.of (w.sub _ _ h2),by rw[q.length];exact hl,s G U b H J z j ds D w r q h⟩
  ·rw[bb hl]at h;exact False.elim h
 |_=>exact False.elim h
@[simp] def setCell(o i v:A)(Z:aH):ar aH:=match o,i with
 |.aJ k,.int n=>match Z[k]? with
  |some (.lst ds)=>match pJ ds.length n with
   |some j=>ai (Z.set k (.lst (ds.set j v)))
   |none=>ak
  |_=>ak
 |_,_=>ak
@[simp] def DM(fo fi:Ev->Mo A):A->MS:=λa Y=>sM (fo Y) Y λo=>sM (fi Y) Y λi Z=>match setCell o i a Z with
 |some Z'=>ai (.nx,Y,Z')
 |none=>ak
theorem RM{o i:bp}{fo fi:Ev->Mo A}(ho:VE X W o fo)(hi:VE X W i fi)
  (ha:∀v,assign (.Subscript o i pos) X.env v=(do
   let U<-dh [v] (bz o X.env)
   let m<-dh [v,U] (bz i X.env)
   standAt pos
   dh [v,U,m] (setItem U m v)
   release [v,U,m] []):=by intro _;rfl):VG X W (.Subscript o i pos) (DM fo fi):=by
 obtain⟨t,V,S⟩:=ho;obtain⟨u,T,R⟩:=hi;refine⟨_,anH V T set_list ha,λG M N H J B v a D w r d h=>?_⟩;refine S G M N H J B _ w r (gE.sM h r λx g v1 H1 G1 b z Q d1 h1=>?_);refine R G1 b g H1 J B _ Q (r.ext z) (gE.sM h1 (r.ext z) λy f v2 H2 G2 L l C K h2=>?_);unfold setCell at h2;cases x with
 |aJ k =>
  cases y with
  |int n =>
   simp only at h2;cases e:f[k]? with
   |none=>rw[e]at h2;exact False.elim h2
   |some c =>
    rw[e]at h2;cases c with
    |lst ds =>
     simp only at h2;cases s:pJ ds.length n with
     |none=>rw[s]at h2;exact False.elim h2
     |some j =>
      rw[s]at h2;have q:=d1.ext l;simp only[Den]at q K;obtain⟨p,rfl,E⟩:=q;obtain⟨I,P,h5,F⟩:=C.aJ k _ p e E;refine⟨p,P,n,j,rfl,K,h5,by rw[F.length];exact s,?_⟩;refine uH (C.put (c:=.lst (ds.set j a)) E I ⟨I,_,eX,?_⟩) (r.ext (z.trans l)) h2;exact bJ.set (d.ext (z.trans l)) j F
    |_=>exact False.elim h2
  |_=>exact False.elim h2
 |_=>exact False.elim h2
@[simp] def bM(fe:Ev->Mo A)(g:A->MS):MS:=λY=>sM (fe Y) Y λa Z=>g a Y Z
theorem Bl{K:bg}{te:TE}{t:TG}{g:A->MS}(h1:fJ K (Den K) W te fe)(h2:PX K W t g):uY K W (SK te t) (bM fe g):=by
 intro G U b H J z D w r h;exact h1 G U b H J z _ w r (gE.sM h r λa q v f i j c d e h1=>h2 i j q f J z v a D d (r.ext c) e h1)
theorem xM{tg:bp}{g:A->MS}(he:VE X W e fe)(b:VG X W tg g)(a:swapsWithSole [tg] e pos.line X.env=pure aq:=by rfl)(hw:swappedStores [tg] e X.env=pure ak:=by rfl)
  (h1:(cj [tg] X.env).map (·.2)=[assign tg X.env]:=by rfl):VS X W (.Assign [tg] e pos) (bM fe g):=by
 obtain⟨t,U,q⟩:=he;obtain⟨u,z,j⟩:=b;exact⟨_,amU U z a hw h1,Bl q j⟩
theorem afK{i:ay}{x:a5}{pos':cx}(b:X.N.Nodup)(hi:X.N[i]?=ai x)(z:Loc X.env.scope x)(he:VE X W e fe)(U:df e (ai (.Name x pos')) pos.line X.env=pure aq:=by rfl)(a:X.fn x=ax\/X.env.scope.names.lookup x=ai .local:=by first|exact .inl rfl|exact .inr rfl|assumption) :
  VS X W (.Assign [.Name x pos'] e pos) (bM fe (gN i)):=by
 obtain⟨t,q,j⟩:=he;exact⟨_,amM b hi z q U a,Bl j λ_ _ _ _ _ _ _ _ _ w r d h=>uH w (r.set i d) h⟩
structure Src where
 ds:aj A
 ok:aH->Prop
structure EU(K:bg)(G:Hp)(O:aj au)(σ:It)(S:Src):Prop where
 go:∀G' O' Z' H',Ext G O G' O'->Wd K G' O' Z' H'->S.ok Z'->∀i,i<S.ds.length->σ.go i H'
 stop:∀G' O' Z' H',Ext G O G' O'->Wd K G' O' Z' H'->S.ok Z'->∀i,S.ds.length<=i->σ.stop i H'
 BV:∀G' O' Z' H',Ext G O G' O'->Wd K G' O' Z' H'->S.ok Z'->∀i x H2 d,S.ds[i]?=ai d->σ.BV i H' x H2->∃G2,Ext G' O' G2 O'/\Wd K G2 O' Z' H2/\Den K G2 O' x d
def Ei(K:bg):Rl Src It:=λG O σ S=>EU K G O σ S
def VI(X:Cx)(W:WX)(tg iter:bp)(f:Ev->Mo Src):Prop:=∃t,PI X tg iter t/\fJ X.K (Ei X.K) W t f
open Classical in
noncomputable def eV(ok:aH->Prop)(g:A->MS)(b:MS):aj A->MS
 |[],Y,Z=>if ok Z then ai (.nx,Y,Z)else ak
 | x::xs,Y,Z=>if ok Z then(match g x Y Z with
  | some (.nx,Y0,Z0)=>(match b Y0 Z0 with
   |some (.nx,Y1,Z1)=>eV ok g b xs Y1 Z1
   |some (.ct,Y1,Z1)=>eV ok g b xs Y1 Z1
   |some (.bk,Y1,Z1)=>ai (.nx,Y1,Z1)
   | r=>r)
  |some (.exc e,Y0,Z0)=>ai (.exc e,Y0,Z0)
  | _=>ak)else ak
@[simp] noncomputable def gB(fi:Ev->Mo Src)(g:A->MS)(b:MS):MS:=λY=>sM (fi Y) Y λS Z=>eV S.ok g b S.ds Y Z
theorem ayR{K:bg}{G:Hp}{O:aj au}{D:Ends}{ok:aH->Prop}{g:A->MS}{b:MS}{xs:aj A}{Y:Ev}{Z:aH}(h:gE K W G O D (eV ok g b xs Y Z)):ok Z:=by
 cases xs with
 |nil =>
  unfold eV at h
  by_cases j:ok Z
  ·exact j
  ·rw[bb j]at h;exact False.elim h
 |cons =>
  unfold eV at h
  by_cases j:ok Z
  ·exact j
  ·rw[bb j]at h;exact False.elim h
theorem aiL{K:bg}{wi:TI}{tg:TG}{tb:TS}{fi:Ev->Mo Src}{g:A->MS}{b:MS}(hi:fJ K (Ei K) W wi fi)(hg:PX K W tg g)(hb:uY K W tb b):uY K W (Tc wi tg tb) (gB fi g b):=by
 intro G O Z H J Y D w r h;refine hi G O Z H J Y _ w r (gE.sM h r λS Z1 σ H1 G1 F x1 w1 j1 h1=>?_);refine⟨λi m C V=>m=S.ds.length-i/\i<=S.ds.length/\∃v U c k,Ext G1 F v U/\Wd K v U c V/\iH K v U C k/\gE K W v U D (eV S.ok g b (S.ds.drop i) k c),
  ⟨_,rfl,BI _,G1,F,Z1,Y,Ext.refl _ _,w1,r.ext x1,by simpa using h1⟩,?_⟩
 rintro i m C V ⟨rfl,hil,v,U,c,k,R,X,r',h'⟩;have aL:=ayR h'
 by_cases fF:i<S.ds.length
 ·right
  refine⟨j1.go v U c V R X aL i fF,λN T=>∃M s Q P,Ext G1 F M s/\Wd K M s Q T/\iH K M s N P/\gE K W M s D (eV S.ok g b (S.ds.drop (i+1)) P Q),λN T n=>?_,λx T y=>?_⟩
  ·exact⟨S.ds.length-(i+1),by omega,rfl,fF,n⟩
  ·obtain⟨M,t,w2,d2⟩:=j1.BV v U c V R X aL i x T S.ds[i] (dR fF) y;rw[ER fF]at h';unfold eV at h';rw[a8 aL]at h';refine hg M U c T C k x S.ds[i] {D with nx:=λB H3=>tb _ B H3} w2 (r'.ext t) d2 ?_
   revert h'
   generalize g S.ds[i] k c=q;intro h'
   match q,h' with
   |some (.nx,E,I),h' =>
    intro B H3 G3 O3 L w3 r3;refine hb G3 O3 I H3 B E _ w3 r3 ?_;simp only at h'
    revert h'
    generalize b E I=q2;intro h'
    match q2,h' with
    |some (.nx,d,e),h'=>exact λz u p j f l o=>⟨p,j,e,d,(R.trans (t.trans L)).trans f,l,o,gE.ext h' ((t.trans L).trans f)⟩
    |some (.ct,d,e),h'=>exact λz u p j f l o=>⟨p,j,e,d,(R.trans (t.trans L)).trans f,l,o,gE.ext h' ((t.trans L).trans f)⟩
    |some (.bk,d,e),h'=>exact λz u p j f l o=>h' z u p j ((t.trans L).trans f) l o
    |some (.ret a,d,e),h'=>exact λz u p j f l o=>h' z u p j ((t.trans L).trans f) l o
    |some (.exc a,d,e),h'=>exact λz u p j f l o=>h' z u p j ((t.trans L).trans f) l o
   |some (.exc a,E,I),h'=>exact λz u p j f l o=>h' z u p j (t.trans f) l o
 ·have yJ:i=S.ds.length:=by omega
  subst yJ
  left
  rw[QE]at h';unfold eV at h';rw[a8 aL]at h';exact⟨j1.stop v U c V R X aL _ dD,uH X r' h'⟩
theorem lT{tg iter:bp}{body:aj bt}{fi:Ev->Mo Src}{g:A->MS}{b:MS}(e:PassesOwn (bj X.prog X.w) X.A X.env X.xe)(h:X.calm=ax)(hi:VI X W tg iter fi)(f:VG X W tg g)(hb:kZ X W body b)
  (d:∀x,ck iter X.env x=pure x:=by intro _;rfl):VS X W (.For tg iter body [] pos) (gB fi g b):=by
 obtain⟨t1,c,z⟩:=hi;obtain⟨k,a,q⟩:=f;obtain⟨i,U,j⟩:=hb;exact⟨_,amQ e h c a U d,aiL z q j⟩
def lK(c:Ev->Mo bh)(b:MS):ay->MS
 |0,_,_=>ak
 | n+1,Y,Z=>sM (c Y) Y (λk Z1=>if k then(match b Y Z1 with
   |some (.nx,Y1,Z2)=>lK c b n Y1 Z2
   |some (.ct,Y1,Z2)=>lK c b n Y1 Z2
   |some (.bk,Y1,Z2)=>ai (.nx,Y1,Z2)
   | r=>r)else ai (.nx,Y,Z1)) Z
theorem aiH{K:bg}{tc:TT}{tb:TS}{c:Ev->Mo bh}{b:MS}(n:Ev->aH->ay)(T:fJ K CK W tc c)(hb:uY K W tb b):uY K W (Ta tc tb) (λY Z=>lK c b (n Y Z) Y Z):=by
 intro G L Z H J Y D w r h;refine⟨λm i M=>∃v e o d,Ext G L v e/\Wd K v e o M/\iH K v e i d/\gE K W v e D (lK c b m d o),⟨_,G,L,Z,Y,Ext.refl _ _,w,r,h⟩,?_⟩;rintro m i M ⟨v,e,o,d,P,R,E,h'⟩;cases m with
 |zero=>exact False.elim h'
 |succ m =>
  unfold lK at h';refine T v e o M i d _ R E (gE.sM h' E λk B S X G1 I C N V h1=>?_);cases(show S=k from V);cases k with
  |false=>exact uH N (E.ext C) h1
  |true =>
   refine⟨λx Q=>∃F l A y,Ext G L F l/\Wd K F l A Q/\iH K F l x y/\gE K W F l D (lK c b m y A),λx Q q=>⟨m,YC _,q⟩,?_⟩;refine hb G1 I B X i d _ N (E.ext C) ?_;simp only[kS]at h1
   revert h1
   generalize b d B=q;intro h1
   match q,h1 with
   |some (.nx,U,f),h1=>exact λz u t j g p s=>⟨t,j,f,U,(P.trans C).trans g,p,s,gE.ext h1 g⟩
   |some (.ct,U,f),h1=>exact λz u t j g p s=>⟨t,j,f,U,(P.trans C).trans g,p,s,gE.ext h1 g⟩
   |some (.bk,U,f),h1=>exact λz u t j g p s=>h1 z u t j g p s
   |some (.ret a,U,f),h1=>exact λz u t j g p s=>h1 z u t j g p s
   |some (.exc a,U,f),h1=>exact λz u t j g p s=>h1 z u t j g p s
theorem KU{j:bp}{body:aj bt}{c:Ev->Mo bh}{b:MS}(n:Ev->aH->ay)(d:PassesOwn (bj X.prog X.w) X.A X.env X.xe)(e:VT X W j c)(hb:kZ X W body b):VS X W (.While j body [] pos) (λY Z=>lK c b (n Y Z) Y Z):=by
 obtain⟨t1,a,z⟩:=e;obtain⟨f,U,q⟩:=hb;exact⟨_,amK d a U,aiH n z q⟩
@[simp] def srcOf(a:A)(ds:aj A):Src:=⟨ds,λZ=>fB Z a=ai ds⟩
theorem Xr{Z:aH}{a:A}{ds:aj A}(h:fB Z a=ai ds)(ha:∀es,a≠.tup es):eL Z a=ai ds:=by
 cases a with
 |tup es=>exact bu rfl (ha es)
 |_=>exact h
theorem am9{tg l:bp}{tl:TE}(hl:PE X l tl):PI X tg l (λJ H R=>tl J H λx H1=>∃a,x=.ref a/\(((∃xs,fE X.K H1 a xs)/\R (Oz X.K a) H1)\/((∃xs,jK X.K H1 a xs)/\R (Oy X.K a) H1))):=by
 intro aa s J H R I h;refine bT (hl aa s J H _ I h) λv j ⟨x,H1,z,f,g⟩=>?_;obtain⟨a,e,q⟩:=g;subst e;cases f
 rcases q with⟨⟨xs,U⟩,q⟩|⟨⟨xs,U⟩,q⟩
 ·obtain⟨c,d,p,i⟩:=z.list U;refine wpAny_pyIter_list p.isList ?_;refine⟨j.heap.objs.size,[j.heap.objs.size],_,_,H1,rfl,z.kept (t':=j.toks) λb o e=>eN _ e,agM a _,⟨_,hU _ rfl,rfl,rfl⟩,λb hb=>?_,q⟩;have e:b=j.heap.objs.size:=by simpa using hb
  subst e;exact z.uU dD (z.aL.fresh dD)
 ·obtain⟨c,d,p,i⟩:=z.tuple U;refine wpAny_pyIter_tuple (show j.heap.IsTuple a c.toArray from p) ?_;refine⟨j.heap.objs.size,[j.heap.objs.size],_,_,H1,rfl,z.kept (t':=j.toks) λb o e=>eN _ e,agJ a _,⟨_,hU _ rfl,rfl,rfl⟩,λb hb=>?_,q⟩;have e:b=j.heap.objs.size:=by simpa using hb
  subst e;exact z.uU dD (z.aL.fresh dD)
@[simp] def eW(f:Ev->Mo A):Ev->Mo Src:=λY=>mb (f Y) λa Z=>match fB Z a with
 |some ds=>ai (.ok (srcOf a ds),Z)
 |none=>ak
theorem asN{K:bg}{G:Hp}{O:aj au}{p:au}{a:A}{ds:aj A}(d:Den K G O (.ref p) a)(ha:∀es,a≠.tup es):EU K G O (Oz K p) (srcOf a ds):=by
 have key:∀c j U f,Ext G O c j->Wd K c j U f->fB U a=ai ds->∃b,fE K f p b/\bJ K c j b ds:=λc j U f e w h=>by
  obtain⟨q,b,h1,h2,g⟩:=qY w (d.ext e) (Xr h ha);cases h1;exact⟨b,h2,g⟩
 refine⟨λc j U f e w h i hi=>?_,λc j U f e w h i hi=>?_,λc j U f e w h i x r y m hd=>?_⟩
 ·obtain⟨b,h2,g⟩:=key c j U f e w h;have hl:i<b.length:=by rw[g.length];exact hi
  exact⟨b,b[i],h2,dR hl⟩
 ·obtain⟨b,h2,g⟩:=key c j U f e w h;exact⟨b,h2,by rw[g.length];exact hi⟩
 ·obtain⟨b,h2,g⟩:=key c j U f e w h;obtain⟨o,n⟩:=hd;subst o;obtain⟨z,k,l⟩:=g.get m;rw[n b h2]at k;cases k;exact⟨c,Ext.refl _ _,w,l⟩
theorem asM{K:bg}{G:Hp}{O:aj au}{p:au}{ds es:aj A}(d:Den K G O (.ref p) (.tup es)):EU K G O (Oy K p) (srcOf (.tup es) ds):=by
 have key:∀b j U c,Ext G O b j->Wd K b j U c->fB U (.tup es)=ai ds->∃a,jK K c p a/\bJ K b j a ds:=λb j U c e w h=>by
  simp only[fB,lO]at h;subst h;have d':=d.ext e;simp only[Den]at d';obtain⟨q,a,h1,h2,f⟩:=d';cases h1;exact⟨a,jK.of (w.sub _ _ h2),f⟩
 refine⟨λb j U c e w h i hi=>?_,λb j U c e w h i hi=>?_,λb j U c e w h i x o y l hd=>?_⟩
 ·obtain⟨a,h2,f⟩:=key b j U c e w h;have hl:i<a.length:=by rw[f.length];exact hi
  exact⟨a,a[i],h2,dR hl⟩
 ·obtain⟨a,h2,f⟩:=key b j U c e w h;exact⟨a,h2,by rw[f.length];exact hi⟩
 ·obtain⟨a,h2,f⟩:=key b j U c e w h;obtain⟨n,m⟩:=hd;subst n;obtain⟨z,g,k⟩:=f.get l;rw[m a h2]at g;cases g;exact⟨b,Ext.refl _ _,w,k⟩
theorem mC{tg l:bp}{fe:Ev->Mo A}(h:VE X W l fe):VI X W tg l (eW fe):=by
 obtain⟨t,p,s⟩:=h;refine⟨_,am9 p,λG n o H J m R w r h=>?_⟩;refine s G n o H J m _ w r (cA.mb h λa c v i k U B b j h1=>?_);cases e:fB c a with
 |none=>simp only[e]at h1;exact False.elim h1
 |some ds =>
  simp only[e]at h1;obtain⟨q,y,h2,D,C⟩:=SQ b j e;subst h2;refine⟨q,rfl,?_⟩;cases a with
  |tup es =>
   right
   simp only[Den]at j;obtain⟨u,d,g,f,x⟩:=id j;cases g;exact⟨⟨_,jK.of (b.sub _ _ f)⟩,h1 _ i k U (Ext.refl _ _) b (asM (by simpa only[Den]using j))⟩
  |_ =>
   left
   obtain⟨u,d,g,f,x⟩:=qY b j (Xr e (by intro _ z;cases z));cases g;exact⟨⟨_,f⟩,h1 _ i k U (Ext.refl _ _) b (asN j (by intro _ z;cases z))⟩
@[simp] noncomputable def tD(lo:av)(n:ay):Src:=⟨(List.range n).map λ(i:ay)=>A.int (lo+(i:av)),λ_=>True⟩
def rQ(i:av):Prop:=-(2 ^ 62)<=i/\i<2 ^ 62
instance (i:av):c9 (rQ i):=by unfold rQ;infer_instance
theorem asO{K:bg}{G:Hp}{O:aj au}{lo:av}{n:ay}:EU K G O (YO lo n) (tD lo n):=by
 refine⟨λ_ _ _ _ _ _ _ i hi=>show i<n by simpa[tD]using hi,λ_ _ _ _ _ _ _ i hi=>show n<=i by simpa[tD]using hi,λc z U f e w h i x d y q hd=>?_⟩;obtain⟨b,a⟩:=hd;subst b a;refine⟨c,Ext.refl _ _,w,?_⟩;simp only[tD,lC]at q;cases e:(List.range n)[i]? with
 |none=>rw[e]at q;cases q
 |some j =>
  rw[e]at q;cases q;have:=(dN.mp e).2;simp at this;subst this;simp only[Den]
@[simp] def sT(f:Ev->Mo (aj A)):Ev->Mo Src:=λY=>mb (f Y) λas=>match as with
 |[.int j]=>mb (oS (rQ j)) λ_=>ret (tD 0 j.toNat)
 |_=>stuck
theorem FG{tg a:bp}{fs:Ev->Mo (aj A)}{p:cx}(k:Gl X "range")(hm:X.mg "range" = ak)(ha:VA X W [a] fs)(i:ba [a] X.env=[(aq,bz a X.env)]:=by rfl):VI X W tg (.Call (.Name "range" p) [a] [] pos) (sT fs):=by
 obtain⟨t,p,s⟩:=ha;refine⟨_,anB k hm p i,λG d f H J b R w r h=>?_⟩;refine s G d f H J b _ w r (cA.mb h λo e n u x c m g l h1=>?_);split at h1
 ·rename_i j;obtain⟨v,t,rfl,z,q⟩:=l.nP;rw[tL]at q;subst q;simp only[Den]at z;subst z;obtain⟨U,h2⟩:=cA.oS h1;exact⟨j,rfl,U.1,U.2,jX g asO h2⟩
 ·exact False.elim h1
end
section
variable{X:Cx}{W:WX}{e a b:bp}{es:aj bp}{pos:cx}{fa fb:Ev->Mo A}{fs:Ev->Mo (aj A)}
@[simp] def aO(a i:A):Mo A:=λZ=>match fB Z a,i with
 |some ds,.int n=>match eU ds n with
  |some d=>ai (.ok d,Z)
  |none=>ak
 |_,_=>ak
theorem aDI{K:bg}{G:Hp}{O:aj au}{xs:aj V}{ds:aj A}{n:av}{d:A}(h:bJ K G O xs ds)(e:eU ds n=ai d):∃x,eU xs n=ai x/\Den K G O x d:=by
 unfold eU at e ⊢;rw[h.length];cases q:pJ ds.length n with
 |none=>rw[q]at e;cases e
 |some j=>rw[q]at e;exact h.get e
theorem bA(ha:VE X W a fa)(hb:VE X W b fb)(o:ad1 b):VE X W (.Subscript a b pos) (aA aO fa fb):=by
 obtain⟨t,m,k⟩:=ha;obtain⟨u,l,g⟩:=hb;refine⟨_,anY asJ m l o,SR ?_ k g⟩;intro G z A H J x y a i Q w s q h;unfold aO at h;split at h
 ·rename_i ds n r;split at h
  ·rename_i d e;simp only[Den]at q;have fin:∀v,Den X.K G z v d->Q v H:=λv hv=>h v H G z (Ext.refl _ _) w hv;obtain⟨p,U,rfl,j,hd⟩:=SQ w s r;obtain⟨v,f,c⟩:=aDI hd e
   rcases j with j|j
   ·exact .inl ⟨p,U,n,v,rfl,q,j,f,fin v c⟩
   ·exact .inr (.inl ⟨p,U,n,v,rfl,q,j,f,fin v c⟩)
  ·exact False.elim h
 ·exact False.elim h
def VO(X:Cx)(W:WX)(e:ar bp)(f:Ev->Mo (ar av)):Prop:=∃t,PO X e t/\fJ X.K (λ_ _ o o'=>o=o') W t f
theorem afM:VO X W ak (λ_=>ret ak):=⟨_,amZ,λ_ _ _ _ _ _ _ w _ q=>jX w rfl q⟩
@[simp] def CB(f:Ev->Mo A):Ev->Mo (ar av):=λY=>mb (f Y) λx=>match x with
 |.int i=>ret (ai i)
 |_=>stuck
theorem ZV(h:VE X W e fa):VO X W (ai e) (CB fa):=by
 obtain⟨t,p,s⟩:=h;refine⟨_,amY p,λG U b H J q Q w r h=>?_⟩;refine s G U b H J q _ w r (cA.mb h λx a v f g z d c j h1=>?_);cases x with
 |int i=>simp only[Den]at j;exact⟨i,j,jX c rfl h1⟩
 |_=>exact False.elim h1
def yP(ds:aj A)(lo hi:ar av):aj A:=(ds.drop (HT.dU ds.length 0 lo)).take (HT.dU ds.length ds.length hi-HT.dU ds.length 0 lo)
theorem abU{K:bg}{G:Hp}{O:aj au}{xs:aj V}{ds:aj A}(h:bJ K G O xs ds)(lo hi:ar av):bJ K G O (BD xs lo hi) (yP ds lo hi):=by
 unfold BD yP;rw[h.length];exact(h.drop _).take _
@[simp] def gSl(c:bh)(a:A)(lo hi:ar av):Mo A:=λZ=>match a with
 |.tup ds=>if HT.dU ds.length 0 lo=0/\HT.dU ds.length ds.length hi=ds.length then ak else ai (.ok (.tup (yP ds lo hi)),Z)
 |a=>match eL Z a with
  |some ds=>jR c (yP ds lo hi) Z
  |none=>ak
@[simp] def KZ(c:bh)(f:Ev->Mo A)(l h:Ev->Mo (ar av)):Ev->Mo A:=λY=>mb (f Y) λa=>mb (l Y) λlo=>mb (h Y) λhi=>gSl c a lo hi
theorem Ro(c:bh){lo hi:ar bp}{fl y:Ev->Mo (ar av)}{p2:cx}(he:VE X W e fa)(hl:VO X W lo fl)(hh:VO X W hi y):VE X W (.Subscript e (.Slice lo hi ak p2) pos) (KZ c fa fl y):=by
 obtain⟨t,P,M⟩:=he;obtain⟨u,p2,L⟩:=hl;obtain⟨u',N,K⟩:=hh;refine⟨_,anL (aiG.or aiF) P p2 N,λG B D H J U Q w r h=>?_⟩;refine M G B D H J U _ w r (cA.mb h λx g v H1 G1 b s I d1 h1=>?_);refine L G1 b g H1 J U _ I (r.ext s) (cA.mb h1 λo f R H2 G2 a n F V h2=>?_);cases(show R=o from V);refine K G2 a f H2 J U _ F ((r.ext s).ext n) (cA.mb h2 λk C S H3 G3 A E q T j=>?_);cases(show S=k from T);have d:=d1.ext (n.trans E);unfold gSl at j;cases x with
 |tup ds =>
  simp only at j;split at j
  ·exact False.elim j
  ·rename_i hn;simp only[Den]at d;obtain⟨p,i,rfl,m,z⟩:=d;exact .inr ⟨p,i,rfl,jK.of (q.sub _ _ m),by rw[z.length];exact hn,λl hl=>Fq q hl (abU z o k) j⟩
 |_ =>
  simp only at j;split at j
  ·rename_i ds e;obtain⟨p,i,rfl,m,z⟩:=qY q d e;exact .inl ⟨p,i,rfl,m,λl hl=>AA q hl (abU z o k) j⟩
  ·exact False.elim j
def ae0(K:bg)(W:WX)(r:aj V->Hp->VK->Prop)(g:aj A->Mo A):Prop :=
 ∀G O Z H J xs as Q,Wd K G O Z H->bJ K G O xs as->cA K (Den K) W G O J Q (g as Z)->r xs H Q
def tS(X:Cx)(W:WX)(f:ao)(g:aj A->Mo A):Prop:=∃r,pS X f r/\ae0 X.K W r g
@[simp] def aU(g:aj A->Mo A)(f:Ev->Mo (aj A)):Ev->Mo A:=λY=>mb (f Y) g
theorem Ui{K:bg}{r:aj V->Hp->VK->Prop}{g:aj A->Mo A}{t:TA}(e:ae0 K W r g)(h:fJ K (bJ K) W t fs):fJ K (Den K) W (Bd r t) (aU g fs):=by
 intro G a b H J U Q w q h2;exact h G a b H J U _ w q (cA.mb h2 λi z d k l j m c f h1=>e l j z k J d i Q c f h1)
theorem fA{id:cy}{x:a5}{g:aj A->Mo A}{p:cx}(U:tS X W (.builtin id) g)(z:Gl X x)(hm:X.mg x=ak)(hv:c2 x=ai (.builtin id))(ha:VA X W (e::es) fs)(hn:x≠"__name__":=by decide)(a:(x==("__debug__" : a5))=aq:=by decide)
  (he:ba (e::es) X.env=(aq,bz e X.env)::ba es X.env:=by rfl) (b:(cg pos (ba es X.env)).any (·.1)=aq:=by rfl):VE X W (.Call (.Name x p) (e::es) [] pos) (aU g fs):=by
 obtain⟨r,d,c⟩:=U;obtain⟨t,q,j⟩:=ha;exact⟨_,Ew d z hm hv q hn a he b,Ui c j⟩
theorem Aa{T:cy}{x:a5}{g:aj A->Mo A}{p:cx}(U:tS X W (.type T) g)(z:Gl X x)(hm:X.mg x=ak)(hv:c2 x=ai (.type T))(ha:VA X W (e::es) fs)(hn:x≠"__name__":=by decide)(a:(x==("__debug__" : a5))=aq:=by decide)
  (he:ba (e::es) X.env=(aq,bz e X.env)::ba es X.env:=by rfl) (b:(cg pos (ba es X.env)).any (·.1)=aq:=by rfl):VE X W (.Call (.Name x p) (e::es) [] pos) (aU g fs):=by
 obtain⟨r,d,c⟩:=U;obtain⟨t,q,j⟩:=ha;exact⟨_,Vx d z hm hv q hn a he b,Ui c j⟩
theorem DT{K:bg}{G:Hp}{O:aj au}{xs:aj V}{d:A}(h:bJ K G O xs [d]):∃x,xs=[x]/\Den K G O x d:=by
 obtain⟨x,r,rfl,h1,h2⟩:=h.nP;rw[tL]at h2;subst h2;exact⟨x,rfl,h1⟩
theorem WA{K:bg}{G:Hp}{O:aj au}{xs:aj V}{d d':A}(h:bJ K G O xs [d,d']):∃x y,xs=[x,y]/\Den K G O x d/\Den K G O y d':=by
 obtain⟨x,r,rfl,h1,h2⟩:=h.nP;obtain⟨y,rfl,j⟩:=DT h2;exact⟨x,y,rfl,h1,j⟩
@[simp] def fY(as:aj A):Mo A:=λZ=>match as with
 | [a]=>(match fB Z a with
  |some ds=>ai (.ok (.int ds.length),Z)
  | none=>ak)
 |_=>ak
theorem kD:tS X W (.builtin "len") fY:=by
 refine⟨_,aCU,?_⟩;intro G j b H J c f Q w d h;unfold fY at h;split at h
 ·rename_i a;split at h
  ·rename_i ds e;obtain⟨x,rfl,U⟩:=DT d;obtain⟨p,q,rfl,h2,z⟩:=SQ w U e;exact⟨p,q,rfl,h2,h _ H G j (Ext.refl _ _) w (by simp only[Den,z.length])⟩
  ·exact False.elim h
 ·exact False.elim h
@[simp] def AV(as:aj A):Mo A:=match as with
 |[.int i,.int j]=>ret (.int (max i j))
 |_=>stuck
@[simp] def HL(as:aj A):Mo A:=match as with
 |[.int i,.int j]=>ret (.int (min i j))
 |_=>stuck
theorem WH(U:X.calm=ax):tS X W (.builtin "max") AV:=by
 refine⟨_,aCS U,?_⟩;intro G a b H J c f Q w d h;unfold AV at h;split at h
 ·rename_i i j;obtain⟨x,y,rfl,z,q⟩:=WA d;simp only[Den]at z q;subst z q;refine⟨i,j,rfl,?_⟩;have e:(if j>i then j else i)=max i j:=by split <;> omega
  rw[e];exact jX w (by simp only[Den]) h
 ·exact False.elim h
theorem acB(U:X.calm=ax):tS X W (.builtin "min") HL:=by
 refine⟨_,aCQ U,?_⟩;intro G a b H J c f Q w d h;unfold HL at h;split at h
 ·rename_i i j;obtain⟨x,y,rfl,z,q⟩:=WA d;simp only[Den]at z q;subst z q;refine⟨i,j,rfl,?_⟩;have e:(if j<i then j else i)=min i j:=by split <;> omega
  rw[e];exact jX w (by simp only[Den]) h
 ·exact False.elim h
noncomputable def intsOf:aj A->ar (aj av)
 |[]=>ai []
 |.int i::r=>(intsOf r).map (i :: ·)
 |_=>ak
theorem MR{K:bg}{G:Hp}{O:aj au}:∀{ds:aj A} {xs:aj V} {ns:aj av},intsOf ds=ai ns->bJ K G O xs ds->xs=ns.map V.int
 |[],xs,ns,h,d=>by
  simp only[intsOf,lO]at h;subst h;rw[tL]at d;subst d;rfl
 |a::ds,xs,ns,h,d=>by
  obtain⟨x,t,rfl,j,q⟩:=d.nP;cases a with
  |int i =>
   simp only[intsOf,EJ]at h;obtain⟨ms,h1,rfl⟩:=h;simp only[Den]at j;subst j;rw[MR h1 q];rfl
  |_=>simp[intsOf]at h
theorem GQ(ns:aj av):intsOf (ns.map A.int)=ai ns:=by
 induction ns with
 |nil=>rfl
 |cons n ns ih=>simp[intsOf,ih]
@[simp] def wL(as:aj A):Mo A:=λZ=>match as with
 | [a]=>(match (eL Z a).bind intsOf with
  |some ns=>ai (.ok (.int ns.sum),Z)
  | none=>ak)
 |_=>ak
theorem OR(q:X.calm=ax):tS X W (.builtin "sum") wL:=by
 refine⟨_,aCK q,?_⟩;intro G j f H J i k Q w d h;unfold wL at h;split at h
 ·rename_i a;split at h
  ·rename_i ns e;obtain⟨x,rfl,c⟩:=DT d;rw[YB]at e;obtain⟨ds,b,U⟩:=e;obtain⟨p,g,rfl,h2,z⟩:=qY w c b;rw[MR U z]at h2;exact⟨p,ns,rfl,h2,h _ H G j (Ext.refl _ _) w (by simp only[Den])⟩
  ·exact False.elim h
 ·exact False.elim h
@[simp] def AW(c:bh)(as:aj A):Mo A:=λZ=>match as with
 | [a]=>(match fB Z a with
  |some ds=>jR c ds Z
  | none=>ak)
 |_=>ak
theorem Kr(c:bh):tS X W (.type "list") (AW c):=by
 refine⟨_,aCT,?_⟩;intro G U b H J f g Q w d h;unfold AW at h;split at h
 ·rename_i a;split at h
  ·rename_i ds e;obtain⟨x,rfl,z⟩:=DT d;obtain⟨p,j,rfl,h2,q⟩:=SQ w z e;exact⟨p,j,rfl,h2,λl hl=>AA w hl q h⟩
  ·exact False.elim h
 ·exact False.elim h
noncomputable def pE(Z:aH):A->ar cy
 |.int _=>ai "int"
 |.bl _=>ai "bool"
 |.str _=>ai "str"
 |.dE=>ai "NoneType"
 |.tup _=>ai "tuple"
 |.lst _=>ai "list"
 |.aJ k=>match Z[k]? with
  |some (.lst _)=>ai "list"
  |some (.bH _)=>ai "dict"
  |_=>ak
 |_=>ak
theorem agH{K:bg}{G H:Hp}{O:aj au}{Z:aH}{v:V}{a:A}{t:cy}(w:Wd K G O Z H)(d:Den K G O v a)(h:pE Z a=ai t):rE K H v (.type t):=by
 cases a with
 |int i=>simp only[pE,lO]at h;subst h;simp only[Den]at d;subst d;exact .int i
 |bl i=>simp only[pE,lO]at h;subst h;simp only[Den]at d;subst d;exact .bl i
 |str i=>simp only[pE,lO]at h;subst h;simp only[Den]at d;subst d;exact .str i
 |dE=>simp only[pE,lO]at h;subst h;simp only[Den]at d;subst d;exact .dE
 |tup ds=>simp only[pE,lO]at h;subst h;simp only[Den]at d;obtain⟨p,j,rfl,h2,_⟩:=d;exact .tup (w.sub _ _ h2)
 |lst ds=>simp only[pE,lO]at h;subst h;simp only[Den]at d;obtain⟨p,j,rfl,h2,_⟩:=d;exact .lst (w.sub _ _ h2)
 |aJ k =>
  simp only[Den]at d;obtain⟨p,rfl,z⟩:=d;simp only[pE]at h;split at h
  ·rename_i ds e;cases h;obtain⟨g,j,q,_⟩:=w.aJ k _ p e z;exact .lst q
  ·rename_i ds e;cases h;obtain⟨g,j,q,_⟩:=w.aJ k _ p e z;exact .dK q
  ·cases h
 |_=>simp[pE]at h
noncomputable def yB(t n:cy):ar bh:=if(["int", "bool", "str", "NoneType", "tuple", "list"].elem t&&["int", "bool", "tuple", "list", "str"].elem n)=ax then ai (t==n||(t == "bool" && n == "int"))else ak
theorem asX(K:bg){t n:cy}{b:bh}(h:yB t n=ai b):kitOne K (.type t) (.type n)=ai b:=by
 unfold yB at h;split at h
 ·rename_i e;cases h;simp only[List.elem_eq_mem,nN,WB,eK,yZ,xW]at e;obtain⟨rfl|rfl|rfl|rfl|rfl|rfl,rfl|rfl|rfl|rfl|rfl⟩:=e <;> first|kernel_rfl|(unfold kitOne;rw[a8 (beq_self_eq_true _)];rfl)
 ·cases h
@[simp] def AX(as:aj A):Mo A:=λZ=>match as with
 | [a,.ty n]=>(match (pE Z a).bind λt=>yB t n with
  |some b=>ai (.ok (.bl b),Z)
  | none=>ak)
 |_=>ak
theorem HY:tS X W (.builtin "isinstance") AX:=by
 refine⟨_,aCW,?_⟩;intro G q f H J g i Q w d h;unfold AX at h;split at h
 ·rename_i a n;split at h
  ·rename_i b e;rw[YB]at e;obtain⟨t,U,z⟩:=e;obtain⟨x,y,rfl,c,j⟩:=WA d;simp only[Den]at j;subst j;exact⟨x,n,_,b,rfl,agH w c U,asX _ z,h _ H G q (Ext.refl _ _) w (by simp only[Den])⟩
  ·exact False.elim h
 ·exact False.elim h
def Od(K:bg)(W:WX)(r:V->aj V->Hp->VK->Prop)(g:A->aj A->Mo A):Prop :=
 ∀G O Z H J x xs a as Q,Wd K G O Z H->Den K G O x a->bJ K G O xs as->cA K (Den K) W G O J Q (g a as Z)->r x xs H Q
def wD(Z:aH)(a:A):Prop:=∃ds,eL Z a=ai ds
open Classical in
@[simp] noncomputable def sV(g:A->aj A->Mo A)(fo:Ev->Mo A)(f:Ev->Mo (aj A)):Ev->Mo A:=λY=>mb (fo Y) λo Z=>if wD Z o then mb (f Y) (λas=>g o as) Z else ak
theorem agF{K:bg}{G H:Hp}{O:aj au}{Z:aH}{v:V}{a:A}(w:Wd K G O Z H)(d:Den K G O v a)(h:wD Z a):Ap K "list" v H:=by
 obtain⟨ds,e⟩:=h;obtain⟨p,j,rfl,q,_⟩:=qY w d e;exact .inl ⟨rfl,j,q⟩
theorem xN{name:a5}{af:cx}{id:cy}{r:V->aj V->Hp->VK->Prop}{g:A->aj A->Mo A}(B:PlainAttrs "list")(slot:Slot "list" name id)(P:typeOf (.builtin id)=pure (.type "method_descriptor"))(hm:MtR X id r)(hv:Od X.K W r g)(F:VE X W a fa)(ha:VA X W (e::es) fs)
  (s:b0 a name X.env (bz a X.env)=bz a X.env:=by rfl)
  (M:((cg pos (ba (e::es) X.env)).all (λx=>!x.1)&&(backToKw pos (c5 [] X.env)).all (λx=>x.1.isSome)
   && decide ((e::es).length+([]:aj Keyword).length+(if([]:aj Keyword).isEmpty then 0 else 1)<30))=ax:=by rfl)
  (y:(af.endLine==pos.line)=ax:=by rfl) (E:ba (e::es) X.env=(aq,bz e X.env)::ba es X.env:=by rfl) (N:(cg pos (ba es X.env)).any (·.1)=aq:=by rfl) :
  VE X W (.Call (.Attribute a name af) (e::es) [] pos) (sV g fa fs):=by
 obtain⟨t,D,p⟩:=F;obtain⟨u,C,o⟩:=ha;refine⟨_,aoB B slot P hm D C s M y E N,λG f i H J b Q w r h=>?_⟩;refine p G f i H J b _ w r (cA.mb h λx U v S G1 q l c d h1=>?_);split at h1
 ·rename_i hl;refine⟨agF c d hl,o G1 q U S J b _ c (r.ext l) (cA.mb h1 λL z n R T j k m I h2=>?_)⟩;exact hv T j z R J v n x L Q m (d.ext k) I h2
 ·exact False.elim h1
noncomputable def pO(Z:aH):A->ar (ay×aj A)
 |.aJ k=>match Z[k]? with
  |some (.lst ds)=>ai (k,ds)
  |_=>ak
 |_=>ak
theorem ab9{K:bg}{G H:Hp}{O:aj au}{Z:aH}{v:V}{a:A}{k:ay}{ds:aj A}(w:Wd K G O Z H)(d:Den K G O v a)(h:pO Z a=ai (k,ds)):∃p xs,v=.ref p/\O[k]?=ai p/\G p=ak/\H p=ai (.lst xs)/\bJ K G O xs ds:=by
 cases a with
 |aJ j =>
  simp only[pO]at h;split at h
  ·rename_i es e;cases h;simp only[Den]at d;obtain⟨p,rfl,q⟩:=d;obtain⟨g,xs,U,z⟩:=w.aJ k _ p e q;exact⟨p,xs,rfl,q,g,U,z⟩
  ·cases h
 |_=>simp[pO]at h
@[simp] def uS(o:A)(as:aj A):Mo A:=λZ=>match pO Z o,as with
 |some (k,ds),[y]=>if ds.length<az then ai (.ok .dE,Z.set k (.lst (ds++[y])))else ak
 |_,_=>ak
theorem AD:Od X.K W Uy uS:=by
 intro G q l H J x m a n Q w i f h;unfold uS at h;split at h
 ·rename_i k ds y e;split at h
  ·rename_i hl;obtain⟨p,z,rfl,U,g,b,j⟩:=ab9 w i e;obtain⟨u,rfl,d⟩:=DT f;refine⟨p,z,u,rfl,rfl,b,by rw[j.length];exact hl,?_⟩;exact h _ _ G q (Ext.refl _ _) (w.put (c:=.lst (ds++[y])) U g ⟨g,_,eX,j.append (.cons d .nil)⟩) (by simp only[Den])
  ·exact False.elim h
 ·exact False.elim h
end
mutual
def Cl(n:ay):A->Prop
 |.aJ k=>k<n
 |.tup ds=>gC n ds
 |.lst ds=>gC n ds
 |_=>True
def gC(n:ay):aj A->Prop
 |[]=>True
 |d::ds=>Cl n d/\gC n ds
end
section
variable{K:bg}{G:Hp}{O:aj au}
mutual
theorem Den.cl:∀{v:V} {d:A},Den K G O v d->Cl O.length d
 |_,.int _,_=>by simp only[Cl]
 |_,.bl _,_=>by simp only[Cl]
 |_,.str _,_=>by simp only[Cl]
 |_,.dE,_=>by simp only[Cl]
 |_,.ty _,_=>by simp only[Cl]
 |_,.adr _,_=>by simp only[Cl]
 |_,.OG _ _ _ _,_=>by simp only[Cl]
 |_,.gl _,_=>by simp only[Cl]
 |_,.dZ _,_=>by simp only[Cl]
 |_,.tup ds,h=>by
  simp only[Den]at h;simp only[Cl];obtain⟨a,xs,_,_,j⟩:=h;exact bJ.cl j
 |_,.lst ds,h=>by
  simp only[Den]at h;simp only[Cl];obtain⟨a,xs,_,_,j⟩:=h;exact bJ.cl j
 |_,.aJ k,h=>by
  simp only[Den]at h;simp only[Cl];obtain⟨a,_,h2⟩:=h;exact(dN.mp h2).1
theorem bJ.cl:∀{xs:aj V} {ds:aj A},bJ K G O xs ds->gC O.length ds
 |_,[],_=>by simp only[gC]
 |_,d::ds,h=>by
  simp only[bJ]at h;simp only[gC];obtain⟨x,r,_,h2,j⟩:=h;exact⟨Den.cl h2,bJ.cl j⟩
end
mutual
theorem Den.cut{O':aj au}{n:ay}(e:∀k,k<n->O[k]?=O'[k]?):∀{v:V} {d:A},Den K G O' v d->Cl n d->Den K G O v d
 |_,.int _,h,_=>by simpa only[Den]using h
 |_,.bl _,h,_=>by simpa only[Den]using h
 |_,.str _,h,_=>by simpa only[Den]using h
 |_,.dE,h,_=>by simpa only[Den]using h
 |_,.ty _,h,_=>by simpa only[Den]using h
 |_,.adr _,h,_=>by simpa only[Den]using h
 |_,.OG _ _ _ _,h,_=>by simpa only[Den]using h
 |_,.gl _,h,_=>by simpa only[Den]using h
 |_,.dZ _,h,_=>by simpa only[Den]using h
 |_,.tup ds,h,c=>by
  simp only[Den]at h ⊢;simp only[Cl]at c;obtain⟨a,xs,h1,h2,j⟩:=h;exact⟨a,xs,h1,h2,bJ.cut e j c⟩
 |_,.lst ds,h,c=>by
  simp only[Den]at h ⊢;simp only[Cl]at c;obtain⟨a,xs,h1,h2,j⟩:=h;exact⟨a,xs,h1,h2,bJ.cut e j c⟩
 |_,.aJ k,h,c=>by
  simp only[Den]at h ⊢;simp only[Cl]at c;obtain⟨a,h1,h2⟩:=h;exact⟨a,h1,(e k c).trans h2⟩
theorem bJ.cut{O':aj au}{n:ay}(e:∀k,k<n->O[k]?=O'[k]?):∀{xs:aj V} {ds:aj A},bJ K G O' xs ds->gC n ds->bJ K G O xs ds
 |_,[],h,_=>by simpa only[bJ]using h
 |_,d::ds,h,c=>by
  simp only[bJ]at h ⊢;simp only[gC]at c;obtain⟨x,r,h1,h2,j⟩:=h;exact⟨x,r,h1,Den.cut e h2 c.1,bJ.cut e j c.2⟩
end
def sQ(n:ay):Fd->Prop
 |.val a=>Cl n a
 |.lst ds=>gC n ds
 |.bH kvs=>gC n (kvs.map (·.2))
def rN(n:ay):aj (a5×Fd)->Prop
 |[]=>True
 |p::r=>sQ n p.2/\rN n r
def KJ(n:ay):Cell->Prop
 |.lst ds=>gC n ds
 |.bH kvs=>gC n (kvs.map (·.2))
 |.ins _ fs=>rN n fs
 |_=>True
theorem kL.cl{H:Hp}{v:V}{fd:Fd}(h:kL K G O H v fd):sQ O.length fd:=by
 cases fd with
 |val a=>exact Den.cl h
 |lst ds=>obtain⟨_,_,_,_,_,_,q⟩:=h;exact q.cl
 |bH j=>obtain⟨_,_,_,_,_,_,_,q⟩:=h;exact q.cl
theorem kG.cl{H:Hp}:∀{ws:aj (a5×V)} {fs:aj (a5×Fd)},kG K G O H ws fs->rN O.length fs
 |[],[],_=>trivial
 |(_,_)::_,(_,_)::_,h=>⟨h.2.1.cl,h.2.2.cl⟩
 |[],_::_,h=>h.elim
 |_::_,[],h=>h.elim
theorem sS.cl{H:Hp}{a:au}{c:Cell}(h:sS K G O H a c):KJ O.length c:=by
 cases c with
 |lst ds=>obtain⟨_,_,_,q⟩:=h;exact q.cl
 |bH j=>obtain⟨_,_,_,_,q⟩:=h;exact q.cl
 |ins cls fs=>obtain⟨_,_,_,_,_,_,q⟩:=h;exact q.cl
 |tab x pos qual=>trivial
 |dead=>trivial
theorem kL.cut{H:Hp}{O':aj au}{n:ay}{v:V}{fd:Fd}(h:kL K G O' H v fd)(e:∀k,k<n->O[k]?=O'[k]?)(hi:∀b,b∉O'->b∉O)(c:sQ n fd):kL K G O H v fd:=by
 cases fd with
 |val a=>exact Den.cut e h c
 |lst ds=>obtain⟨b,xs,h1,h2,z,q,j⟩:=h;exact⟨b,xs,h1,h2,hi b z,q,j.cut e c⟩
 |bH U=>obtain⟨b,ws,h1,h2,z,q,j,d⟩:=h;exact⟨b,ws,h1,h2,hi b z,q,j,d.cut e c⟩
theorem kG.cut{H:Hp}{O':aj au}{n:ay}(e:∀k,k<n->O[k]?=O'[k]?)(hi:∀b,b∉O'->b∉O):∀{ws:aj (a5×V)} {fs:aj (a5×Fd)},kG K G O' H ws fs->rN n fs->kG K G O H ws fs
 |[],[],_,_=>trivial
 |(_,_)::_,(_,_)::_,h,c=>⟨h.1,h.2.1.cut e hi c.1,kG.cut e hi h.2.2 c.2⟩
 |[],_::_,h,_=>h.elim
 |_::_,[],h,_=>h.elim
theorem sS.cut{H:Hp}{O':aj au}{n:ay}{a:au}{c:Cell}(h:sS K G O' H a c)(e:∀k,k<n->O[k]?=O'[k]?)(hi:∀b,b∉O'->b∉O)(j:KJ n c):sS K G O H a c:=by
 cases c with
 |lst ds=>obtain⟨g,xs,h1,h2⟩:=h;exact⟨g,xs,h1,h2.cut e j⟩
 |bH q=>obtain⟨g,ws,h1,h2,z⟩:=h;exact⟨g,ws,h1,h2,z.cut e j⟩
 |ins cls fs=>obtain⟨g,C,U,ws,h0,h1,h2⟩:=h;exact⟨g,C,U,ws,h0,h1,h2.cut e hi j⟩
 |tab x pos qual=>exact h
 |dead=>trivial
theorem Ext.cut{G':Hp}{O':aj au}(e:Ext G O G' O'):∀k,k<O.length->O[k]?=O'[k]?:=λk j=>by
 rw[dR j,e.pre k _ (dR j)]
theorem Wd.cut{G' H H':Hp}{O':aj au}{Z Z':aH}(w:Wd K G O Z H)(f:Wd K G' O' Z' H')(e:Ext G O G' O')(r:Z'.take Z.length=Z):Wd K G' O Z H' where
 sub:=f.sub
 inj:=w.inj
 len:=w.len
 live:=λa ha=>by
  obtain⟨k,j,p⟩:=List.getElem_of_mem ha;exact f.live a (kF (e.pre k a (by rw[<-p];exact dR j)))
 aJ:=λk c a h1 h2=>by
  have j:k<Z.length:=(dN.mp h1).1;have u:Z'[k]?=ai c:=by
   rw[<-r,QD]at h1;rw[a8 j]at h1;exact h1
  have q:=f.aJ k c a u (e.pre k a h2);have l:=w.aJ k c a h1 h2;cases c with
  |lst ds =>
   obtain⟨g,xs,d,U⟩:=q;obtain⟨_,_,_,o⟩:=l;exact⟨g,xs,d,U.cut e.cut o.cl⟩
  |bH s =>
   obtain⟨g,ws,d,U,o⟩:=q;obtain⟨_,_,_,_,m⟩:=l;exact⟨g,ws,d,U,o.cut e.cut m.cl⟩
  |ins cls fs =>
   obtain⟨g,C,y,ws,h0,d,U⟩:=q;obtain⟨_,_,_,_,_,_,m⟩:=l;exact⟨g,C,y,ws,h0,d,U.cut (n:=O.length) e.cut (λb hb z=>hb (by
    obtain⟨k,j,p⟩:=List.getElem_of_mem z;exact kF (e.pre k b (by rw[<-p];exact dR j)))) m.cl⟩
  |tab x pos qual=>exact q
  |dead=>trivial
 sep:=λb k i t v h1 h2=>by
  have back:∀{k i},kE H' O Z k i b->kE H' O' Z' k i b:=λ{k i} h=>h.to (λa ha=>⟨e.pre k a ha,λ_ z=>z⟩) λcls fs q=>by
   have j:k<Z.length:=(dN.mp q).1;rw[<-r,QD,a8 j]at q;exact q
  exact f.sep b k i t v (back h1) (back h2)
end
open Classical in
noncomputable def trim(Z:aH):ar (Rs A×aH)->ar (Rs A×aH)
 |some (.ok a,Z')=>if Z'.take Z.length=Z/\Cl Z.length a then ai (.ok a,Z)else ai (.ok a,Z')
 |some (.exc x,Z')=>if Z'.take Z.length=Z/\gC Z.length (x.fs.map (·.2))then ai (.exc x,Z)else ai (.exc x,Z')
 |none=>ak
theorem agS{K:bg}{W:WX}{G H:Hp}{O:aj au}{Z:aH}{J:L2.St}{Q:VK}{r:ar (Rs A×aH)}(w:Wd K G O Z H)(h:cA K (Den K) W G O J Q (trim Z r)):cA K (Den K) W G O J Q r:=by
 match r,h with
 |some (.ok a,U),h =>
  simp only[trim]at h;split at h
  ·rename_i j;exact λv c f z e b d=>h v c f O ⟨e.same,λ_ _ q=>q⟩ (w.cut b e j.1) (d.cut e.cut (by rw[w.len];exact j.2))
  ·exact h
 |some (.exc x,U),h =>
  simp only[trim]at h;split at h
  ·rename_i j;intro cls g c f z e b d;refine h cls g c f O ⟨e.same,λ_ _ q=>q⟩ (w.cut b e j.1) d
  ·exact h
@[simp] def eE:OS->ar (Rs A×aH)
 |some (.nx,_,Z)=>ai (.ok .dE,Z)
 |some (.ret a,_,Z)=>ai (.ok a,Z)
 |some (.exc x,_,Z)=>ai (.exc x,Z)
 |_=>ak
@[simp] noncomputable def OH(n:ay)(ds:aj A):Ev:=ds.map ai++List.replicate (n-ds.length) ak
@[simp] noncomputable def cN(n:ay)(b:MS):aj A->Mo A:=λds Z=>trim Z (eE (b (OH n ds) Z))
def rP(K:bg)(n:ay)(F:aj A->Mo A):Sp:=λvs H Q E=>vs.length=n/\∃G O Z ds,Wd K G O Z H/\bJ K G O vs ds/\cA K (Den K) (λ_=>E) G O [] Q (F ds Z)
abbrev bW(P:bf)(w:bo)(K:bg)(mg:a5->ar ao)(base:bx)(x:a5)(k:ay)(ps:aj a5)(F:aj A->Mo A):Prop:=JY P w K mg base x k ps (rP K ps.length F)
theorem ay3{K:bg}{G:Hp}{O:aj au}{N:aj a5}{vs:aj V}{ds:aj A}(d:bJ K G O vs ds):iH K G O (L2.start N vs) (OH N.length ds):=by
 unfold L2.start OH;have hl:=d.length;refine⟨by simp[hl],λi a h=>?_⟩
 by_cases hi:i<ds.length
 ·rw[mM (by simpa using hi)]at h;rw[lC]at h;cases e:ds[i]? with
  |none=>rw[e]at h;cases h
  |some z =>
   rw[e]at h;cases h;obtain⟨v,q,j⟩:=d.get e;refine⟨v,?_,j⟩;rw[mM (by simp;omega),lC,q];rfl
 ·rw[EO (by simpa using hi)]at h;have:=kF h;simp at this
theorem OU{K:bg}{N:aj a5}{t:TS}{b:MS}{H:Hp}{vs:aj V}{Q:VK}{E:XK}{n:ay}(s:uY K (λ_=>E) t b)(h:rP K n (cN N.length b) vs H Q E):t {nx:=λ_ H'=>Q .dE H',rt:=Q} (L2.start N vs) H:=by
 obtain⟨hl,G,m,k,ds,w,d,q⟩:=h;refine s G m k H _ (OH N.length ds) _ w (ay3 d) ?_;have j:=agS w q
 revert j
 generalize b (OH N.length ds) k=r;intro j
 match r,j with
 |some (.nx,U,c),j=>exact λf H' i z e g l=>j .dE H' i z e g (by simp only[Den])
 |some (.ret a,U,c),j=>exact λf H' i z e g l v d'=>j v H' i z e g d'
 |some (.exc x,U,c),j=>exact λf H' i z e g l cls o d'=>j cls o H' i z e g d'
 |some (.bk,U,c),j=>exact False.elim j
 |some (.ct,U,c),j=>exact False.elim j
section
variable{P:bf}{w:bo}{K:bg}{mg:a5->ar ao}{base:bx}
theorem abA{x:a5}{st:bt}{N ps:aj a5}{k:ay}{b:MS}{f:au}{fd:cp}(F:tQ K x x st f fd)(S:cM N ps (bC st))
  (c:∀(f:au) (j:ao) (A:br) (outer:aj Env) (s:aw) (H:Hp) (E:XK),cZ k (A.deeper (cv x (bC st) s.heap.objs.size f j)) ->
   kZ (nX P w K mg base N x (bC st) f j A outer s H E) (λ_=>E) (fI st) b):iQ P w K mg base (oZ P w) (k+1) f fd ps (rP K ps.length (cN N.length b)):=by
 obtain⟨i,g,kV,doc,e,m,j,ct,l,rfl,a,d⟩:=F.ex;refine VQ a d S (λz H Q E h=>h.1) λA outer s H z Q E hr U=>?_;obtain⟨t,p,q⟩:=c f j A outer s H E hr;exact⟨t,ML p,OU q U⟩
theorem bW.of{x:a5}{st:bt}{N ps:aj a5}{k:ay}{b:MS}(h:HasFn K mg x st)(S:cM N ps (bC st))
  (bind:∀(kV doc pm:ao) (an:ar au) (j ct:ao) (us:aj ao),us.length=ps.length->c3 (dw x x (iZ st) (fI st) (bC st) .none kV doc pm an j ct) ⟨us,[]⟩=pure (ps.zip us))
  (q:∀(f:au) (j:ao) (A:br) (outer:aj Env) (s:aw) (H:Hp) (E:XK),cZ k (A.deeper (cv x (bC st) s.heap.objs.size f j)) ->
   kZ (nX P w K mg base N x (bC st) f j A outer s H E) (λ_=>E) (fI st) b):bW P w K mg base x (k+1) ps (cN N.length b):=by
 obtain⟨f,fd,hm,F⟩:=h.ex;exact⟨f,fd,abA F S q,hm,F.kp,F.binds bind⟩
abbrev aeX(P:bf)(w:bo)(K:bg)(mg:a5->ar ao)(base:bx)(x:a5)(k:ay)(ps:aj a5)(F:aj A->Mo A):Prop:=Def P w K mg base x k ps (λvs H Q _=>rP K ps.length F vs H Q λ_ _ _=>cb)
theorem Kp{k:ay}{f:au}{fd:cp}{ps:aj a5}{sp:Sp}(F:iQ P w K mg base (oZ P w) k f fd ps sp):iQ P w K mg base BU k f fd ps (λvs H Q _=>sp vs H Q λ_ _ _=>cb) :=
 ⟨λvs H Q E h=>F.len _ _ _ _ h,λA outer s H args z vs Q E hr a hb r U=>tN (F.run A outer s H args z vs Q _ hr a hb r U) λr s' j=>by
  cases r with
  |error b=>obtain⟨x,cls,c,d,_,_,_,_,_,_,q⟩:=j;exact q.elim
  | ok fl=>cases fl <;> exact j⟩
theorem bW.calm{x:a5}{k:ay}{ps:aj a5}{F:aj A->Mo A}(D:bW P w K mg base x k ps F):aeX P w K mg base x k ps F:=by
 obtain⟨f,fd,h1,h2,q,j⟩:=D.ex;exact⟨f,fd,Kp h1,h2,q,j⟩
end
section
variable{X:Cx}{W:WX}{x:a5}{p pos:cx}{e:bp}{es:aj bp}{fs:Ev->Mo (aj A)}
@[simp] def bN(n:ay)(F:aj A->Mo A):aj A->Mo A:=λas=>if as.length=n then F as else stuck
theorem WG{K:bg}{G f:Hp}{O q:aj au}{J:L2.St}{Q:VK}{r:ar (Rs A×aH)}{W:WX}(h:cA K (Den K) W G O J Q r)(e:Ext G O f q):cA K (Den K) (λ_=>λcls dx H'=>W J cls dx H') f q [] Q r:=by
 match r,h with
 |some (.ok a,z),h=>exact λv H' d j U b c=>h v H' d j (e.trans U) b c
 |some (.exc a,z),h=>exact λcls dx H' d j U b c=>h cls dx H' d j (e.trans U) b c
theorem dY{k:ay}{ps:aj a5}{F:aj A->Mo A}(T:qL X W)(D:bW X.prog X.w X.K X.mg X.base x k ps F)(hr:cZ k X.A)(g:Gl X x)(ha:VA X W (e::es) fs)
  (i:(x==("__debug__" : a5))=aq:=by decide) (he:ba (e::es) X.env=(aq,bz e X.env)::ba es X.env:=by rfl) (l:(cg pos (ba es X.env)).any (·.1)=aq:=by rfl):VE X W (.Call (.Name x p) (e::es) [] pos) (aU (bN ps.length F) fs):=by
 obtain⟨t,f,d⟩:=ha;refine⟨_,an6 T D hr g f i he l,λG a b H J U Q w r h=>?_⟩;refine d G a b H J U _ w r (cA.mb h λm q s u n j o c z h1=>?_);unfold bN at h1;split at h1
 ·rename_i hl;exact⟨by rw[z.length];exact hl,n,j,q,m,c,z,WG h1 (Ext.refl _ _)⟩
 ·exact False.elim h1
@[simp] noncomputable def TQ(F:aj A->Mo A):aj A->Mo A:=λas Z=>match F as Z with
 |some (.exc _,_)=>ak
 |r=>r
theorem Rv{k:ay}{ps:aj a5}{F:aj A->Mo A}(D:aeX X.prog X.w X.K X.mg X.base x k ps F)(hr:cZ k X.A)(n:Gl X x)(ha:VA X W (e::es) fs)
  (o:(x==("__debug__" : a5))=aq:=by decide) (he:ba (e::es) X.env=(aq,bz e X.env)::ba es X.env:=by rfl) (s:(cg pos (ba es X.env)).any (·.1)=aq:=by rfl):VE X W (.Call (.Name x p) (e::es) [] pos) (aU (TQ (bN ps.length F)) fs):=by
 obtain⟨t,m,i⟩:=ha;refine⟨_,an7 D hr n m o he s,λG c f H J b Q w r h=>?_⟩;refine i G c f H J b _ w r (cA.mb h λz j y B u q v g U h1=>?_);unfold TQ bN at h1;rw[wZ]
 by_cases hl:z.length=ps.length
 ·rw[a8 hl]at h1;refine⟨by rw[U.length];exact hl,u,q,j,z,g,U,?_⟩
  revert h1
  generalize F z j=l;intro h1
  match l,h1 with
  |some (.ok a,d),h1=>exact h1
 ·rw[bb hl]at h1;exact False.elim h1
theorem an5{k:ay}{ps:aj a5}{sp:Sp}(T:qL X W)(D:JY X.prog X.w X.K X.mg X.base x k ps sp)(hr:cZ k X.A)(g:Gl X x)(i:(x==("__debug__" : a5))=aq:=by decide) :
  PE X (.Call (.Name x p) [] [] pos) (Bc sp W LF):=by
 obtain⟨f,m,F,hm,e,hb⟩:=D.ex;intro aa s J H Q I h;refine tV (CU I g hm ?_ i);refine PySem.W.callWith_K0 I.gG e ?_;have h':sp [] H Q λcls q U=>W J cls q U:=h;have hl:=F.len _ _ _ _ h';have c:=hb s [] I.gG (by rw[wZ];exact hl);rw[wZ]at c;refine BY (tN (F.run X.A X.stack s H ⟨[],[]⟩ [] [] Q _ hr I.DR c .nil h') λr s' j=>?_);cases r with
 |error n =>
  obtain⟨a,cls,q,U,rfl,os,bare,un,aL,ex,d⟩:=j;have l:=(I.HW os un aL bare (λb z=>bu z (by simp))).Es;exact T.to _ _ ⟨J,U,a,cls,q,rfl,l,(ex.first I T.ex).any,d⟩
 |ok fl =>
  cases fl with
  |ret u=>exact I.after j
  |next=>exact False.elim j
  |brk=>exact False.elim j
  |cont=>exact False.elim j
theorem af0{k:ay}{ps:aj a5}{F:aj A->Mo A}(T:qL X W)(D:bW X.prog X.w X.K X.mg X.base x k ps F)(hr:cZ k X.A)(d:Gl X x)(e:(x==("__debug__" : a5))=aq:=by decide):VE X W (.Call (.Name x p) [] [] pos) (aU (bN ps.length F) λ_=>ret []):=by
 refine⟨_,an5 T D hr d e,λG b n H J m Q w r h=>?_⟩;refine cA.mb (rel:=bJ X.K) (Q1:=λz a=>rP X.K ps.length F z a Q λcls f i=>W J cls f i) h (λg q z a l j o c U h1=>?_) [] H G b (Ext.refl _ _) w .nil;unfold bN at h1;split at h1
 ·rename_i hl;exact⟨by rw[U.length];exact hl,l,j,q,g,c,U,WG h1 (Ext.refl _ _)⟩
 ·exact False.elim h1
abbrev cI(i:av):Ev->Mo A:=λ_=>ret (.int i)
abbrev cB(i:bh):Ev->Mo A:=λ_=>ret (.bl i)
abbrev cT(n:cy):Ev->Mo A:=λ_=>ret (.ty n)
abbrev a0:Ev->Mo (aj A):=λ_=>ret []
abbrev Ue:Ev->Mo (ar av):=λ_=>ret ak
end
end V2
namespace V2
open PySem L2
section
variable{α β:Type}{Z Z':aH}{a:A}
@[simp] theorem aGP(x:α)(k:α->Mo β):mb (ret x) k=k x:=rfl
theorem dH{m:Mo α}{k:α->Mo β}{x:α}(h:m Z=ai (.ok x,Z')):mb m k Z=k x Z':=by unfold mb;rw[h]
@[simp] theorem aGQ(x:α)(k:α->Mo β):mb (need (ai x)) k=k x:=rfl
theorem Fv{p:Prop} [c9 p](k:Unit->Mo β)(h:p):mb (oS p) k=k ():=by funext j;simp[mb,oS,h]
@[simp] theorem aGG(x:α):(ret x:Mo α) Z=ai (.ok x,Z):=rfl
@[simp] theorem agR:trim Z (ai (.ok a,Z))=ai (.ok a,Z):=by simp only[trim];split <;> rfl
theorem sX{j:aH}(h:Cl Z.length a):trim Z (ai (.ok a,Z++j))=ai (.ok a,Z):=by
 simp only[trim];rw[a8 ⟨by simp,h⟩]
@[simp] theorem aGF(x:α)(Y:Ev)(k:α->aH->OS):sM (ret x) Y k=k x:=rfl
theorem fM{m:Mo α}{Y:Ev}{k:α->aH->OS}{x:α}(h:m Z=ai (.ok x,Z')):sM m Y k Z=k x Z':=by unfold sM;rw[h]
@[simp] theorem xU(Y:Ev):eE (ai (.ret a,Y,Z))=ai (.ok a,Z):=rfl
@[simp] theorem xV(Y:Ev):eE (ai (.nx,Y,Z))=ai (.ok .dE,Z):=rfl
theorem bO{f g:MS}{Y Y1:Ev}(h:f Y Z=ai (.nx,Y1,Z')):aQ f g Y Z=g Y1 Z':=by unfold aQ;rw[h]
theorem aiX{f g:MS}{Y Y1:Ev}(h:f Y Z=ai (.ret a,Y1,Z')):aQ f g Y Z=ai (.ret a,Y1,Z'):=by unfold aQ;rw[h]
theorem sG{α:Type}(xs:aj α)(n:ay):eU xs (n:av)=xs[n]?:=by
 unfold eU pJ;rw[a8 (by omega)]
 by_cases h:(n:av)<xs.length
 ·rw[a8 h];simp
 ·rw[bb h];simp;omega
theorem uX{α:Type}(xs:aj α)(n:ay):eU xs (OfNat.ofNat n:av)=xs[n]?:=sG xs n
theorem XI{α:Type}(xs:aj α):eU xs 0=xs[0]?:=sG xs 0
theorem Mw{α:Type}(xs:aj α):eU xs 1=xs[1]?:=sG xs 1
end
@[simp] theorem aF3:yB "int" "int" = ai ax:=by simp[yB]
@[simp] theorem aF4:yB "int" "bool" = ai aq:=by simp[yB]
@[simp] theorem aF2:yB "tuple" "tuple" = ai ax:=by simp[yB]
@[simp] theorem aGT(Z:aH)(ds:aj A):eL Z (.lst ds)=ai ds:=rfl
@[simp] theorem aGS(Z:aH)(ns:aj av):eL Z (.dZ ns)=ai (ns.map A.int):=rfl
@[simp] theorem aGR(Z:aH)(ds:aj A):eL Z (.tup ds)=ak:=rfl
@[simp] theorem aGU(Z:aH)(i:av):eL Z (.int i)=ak:=rfl
@[simp] theorem aGD(Z:aH)(ds:aj A):fB Z (.lst ds)=ai ds:=rfl
@[simp] theorem aGC(Z:aH)(ns:aj av):fB Z (.dZ ns)=ai (ns.map A.int):=rfl
@[simp] theorem aGB(Z:aH)(ds:aj A):fB Z (.tup ds)=ai ds:=rfl
@[simp] theorem aGE(Z:aH)(k:ay):fB Z (.aJ k)=eL Z (.aJ k):=rfl
@[simp] theorem aF9(Z:aH)(i:av):pE Z (.int i)=ai "int":=rfl
@[simp] theorem aGA(Z:aH)(i:bh):pE Z (.bl i)=ai "bool":=rfl
@[simp] theorem aF6(Z:aH)(i:a5):pE Z (.str i)=ai "str":=rfl
@[simp] theorem aF7(Z:aH):pE Z .dE=ai "NoneType":=rfl
@[simp] theorem aF5(Z:aH)(ds:aj A):pE Z (.tup ds)=ai "tuple":=rfl
@[simp] theorem aF8(Z:aH)(ds:aj A):pE Z (.lst ds)=ai "list":=rfl
@[simp] theorem aGX:MP .dE=ai ax:=rfl
@[simp] theorem aGZ(i:av):MP (.int i)=ai aq:=rfl
@[simp] theorem aGW(ds:aj A):MP (.tup ds)=ai aq:=rfl
@[simp] theorem aGY(ds:aj A):MP (.lst ds)=ai aq:=rfl
@[simp] theorem aG0(b:bh):MP (.bl b)=ai aq:=rfl
theorem pI{Z:aH}{k:ay}{ds:aj A}(h:Z[k]?=ai (.lst ds)):eL Z (.aJ k)=ai ds:=by simp[eL,h]
theorem BF{Z:aH}{k:ay}{ds:aj A}(h:Z[k]?=ai (.lst ds)):pO Z (.aJ k)=ai (k,ds):=by simp[pO,h]
theorem AJ{Z:aH}{a:A}{ds:aj A}(h:eL Z a=ai ds):wD Z a:=⟨ds,h⟩
@[simp] theorem ax3(Z:aH)(c:Cell):(Z++[c])[Z.length]?=ai c:=by simp
section
variable{ok:aH->Prop}{g:A->MS}{b:MS}{x:A}{xs:aj A}{Y Y0 Y1:Ev}{Z Z0 Z1:aH}{a:A}
theorem AZ(h:ok Z):eV ok g b [] Y Z=ai (.nx,Y,Z):=by simp[eV,h]
theorem oP(h:ok Z)(j:g x Y Z=ai (.nx,Y0,Z0))(hb:b Y0 Z0=ai (.nx,Y1,Z1)):eV ok g b (x::xs) Y Z=eV ok g b xs Y1 Z1:=by simp[eV,h,j,hb]
theorem ayS(h:ok Z)(j:g x Y Z=ai (.nx,Y0,Z0))(hb:b Y0 Z0=ai (.ct,Y1,Z1)):eV ok g b (x::xs) Y Z=eV ok g b xs Y1 Z1:=by simp[eV,h,j,hb]
theorem wN(I:ay->Ev->aH->Prop)(aL:∀i Y Z,I i Y Z->ok Z):∀(xs:aj A) (j:ay) (Y:Ev) (Z:aH),I j Y Z ->
  (∀i x Y Z,xs[i]?=ai x->I (j+i) Y Z->∃Y0 Z0 Y1 Z1,g x Y Z=ai (.nx,Y0,Z0)/\(b Y0 Z0=ai (.nx,Y1,Z1)\/b Y0 Z0=ai (.ct,Y1,Z1))/\I (j+i+1) Y1 Z1) ->
  ∃Y' Z',eV ok g b xs Y Z=ai (.nx,Y',Z')/\I (j+xs.length) Y' Z'
 |[],j,Y,Z,q,_=>⟨Y,Z,AZ (aL _ _ _ q),q⟩
 |x::xs,j,Y,Z,q,turn=>by
  obtain⟨Y0,Z0,Y1,Z1,a,z,f⟩:=turn 0 x Y Z rfl q;obtain⟨Y',Z',U,c⟩:=wN I aL xs (j+1) Y1 Z1 f λi y Y Z d e=>by
   have:=turn (i+1) y Y Z (by simpa using d) (by rw[show j+(i+1)=j+1+i by omega];exact e);rwa[show j+(i+1)+1=j+1+i+1 by omega]at this
  refine⟨Y',Z',?_,by rw[iP,show j+(xs.length+1)=j+1+xs.length by omega];exact c⟩
  rcases z with z|z
  ·rw[oP (aL _ _ _ q) a z,U]
  ·rw[ayS (aL _ _ _ q) a z,U]
end
section
variable{c:Ev->Mo bh}{b:MS}{n:ay}{Y Y1:Ev}{Z Z1 Z2:aH}{a:A}
theorem yO(j:c Y Z=ai (.ok ax,Z1))(hb:b Y Z1=ai (.nx,Y1,Z2)):lK c b (n+1) Y Z=lK c b n Y1 Z2:=by simp[lK,j,hb]
theorem DP(j:c Y Z=ai (.ok aq,Z1)):lK c b (n+1) Y Z=ai (.nx,Y,Z1):=by simp[lK,j]
end
open PySem PySem.Spec PyProof.Rows L2
def YQ(K:bg)(a:au):It :=
 ⟨λi H=>∃xs x,fE K H a xs/\xs[i]?=ai x,λi H x H'=>∃p y,H p=ak/\H'=upd H p (.tup [.int (i:av),y])/\x=.ref p/\∀xs,fE K H a xs->xs[i]?=ai y,λi H=>∃xs,fE K H a xs/\xs.length<=i⟩
section
variable{X:Cx}{aa:aj (au×cq)}{J:L2.St}{H:Hp}{s:aw}{h':bx}
theorem Inv.agI{t':ay}{e it:au}(I:Inv X aa J H s)(k:∀b o,b≠e->b≠it->s.heap.get? b=ai o->h'.get? b=ai o)(fe:qP X aa H e)(g:qP X aa H it):Inv X aa J H {s with heap:=h',toks:=t' }:=by
 obtain⟨a0,a1,a2,y,x,w⟩:=fe;obtain⟨t,U,B,p,l,i⟩:=g;have ne:∀b u,H b=ai u->b≠e:=λb u q z=>by rw[z,a0]at q;cases q
 have a:∀b u,H b=ai u->b≠it:=λb u q z=>by rw[z,t]at q;cases q
 refine I.step (g':=s.gens) (d':=s.drawn) (ch:=[e,it]) (λb hb=>?_) (λb o _ _ j q _=>k b o (λz=>j (by simp[z])) (λz=>j (by simp[z])) q) (λb o _ _ j q _=>⟨o.slots,k b o (λz=>j (by simp[z])) (λz=>j (by simp[z])) q⟩) (λ_ _ _ _ n=>n)
  (λb o j q=>⟨o,k b o (λz=>j (by simp[z])) (λz=>j (by simp[z])) q⟩) (λ_ _ q=>q) (λ_ _ _ q=>q) (λb A q=>⟨#[],by rw[q];simp⟩) (λm hm=>?_) (λb u q=>?_) I.bare
 ·rcases eK.mp hb with z|z
  ·subst z;exact⟨y,a1,x,w⟩
  ·have z:b=it:=by simpa using z
   subst z;exact⟨p,U,l,i⟩
 ·obtain⟨o,es,h,f,r⟩:=hm;exact⟨o,es,h,k _ o (eM a1) (eM U) f,r⟩
 ·refine(I.aL b u q).oF (λc v j d=>k c v ?_ ?_ d) (λ_ q=>q) λ_ _ q=>q
  ·rcases j with z|z
   ·rw[z];exact ne b u q
   ·exact ne c _ z
  ·rcases j with z|z
   ·rw[z];exact a b u q
   ·exact a c _ z
end
theorem Inv.Aq{X:Cx}{aa:aj (au×cq)}{J:L2.St}{H:Hp}{s:aw}{p:au}{o:HO}(I:Inv X aa J H s)(U:H p=ak)(h0:X.s₀.heap.get? p=ak)(hL:p≠X.env.locals)(h:∀x c,X.env.cells.lookup x=ai c->c≠p)(g:∀q∈X.pn++aa,q.1≠p)
  (aL:gL X.prog X.w (upd H p o) s.heap):Inv X aa J (upd H p o) s where
 ok:=I.ok
 os:=I.os
 bare:=I.bare
 base:={
  keep:=I.base.keep
  slot:=I.base.slot
  free:=λb j q n f=>by
   have hb:b≠p:=λz=>by subst z;rw[h0]at q;cases q
   rw[cD hb];exact I.base.free b j q n f
  there:=I.base.there
  oB:=λb xs q=>by have z:=I.base.oB b xs q;rw[cD (jD z U)];exact z
  mX:=λb j u q=>by have z:=I.base.mX b j u q;rw[cD (jD z U)];exact z
  nQ:=λb e q=>by obtain⟨more,z⟩:=I.base.nQ b e q;exact⟨more,by rw[cD (jD z U)];exact z⟩}
 loc:=I.loc
 cell:=I.cell
 free:=by rw[cD (eM hL)];exact I.free
 nV:=λx c q=>by rw[cD (h x c q)];exact I.nV x c q
 pin:=λq d=>by
  obtain⟨a,b,c⟩:=I.pin q d;exact⟨a,by rw[cD (g q d)];exact b,c⟩
 aL:=aL
 len:=I.len
theorem agN{P:bf}{w:bo}{K:bg}{elts:aj bp}{S:ay}{T:cx}(a e j:au)(gV:e≠j):Turn P w K (.Tuple elts S T) (YQ K a) [e,j] e (λi h=>(∃old,IsEnum h e j (i:av) old)/\h.IsListIter j a i)where
 mem:=by simp
 obj:=λi h st b hb=>by
  obtain⟨⟨old,U⟩,o,q,c,d⟩:=st
  rcases eK.mp hb with z|z
  ·subst z;exact⟨_,U,λv z=>by cases z⟩
  ·have z:b=j:=by simpa using z
   subst z;exact⟨o,q,λv z=>by rw[d]at z;cases z⟩
 keep:=λi h h' st k=>⟨let ⟨old,q⟩:=st.1; ⟨old,k e (by simp) _ q⟩,st.2.at λo q=>k j (by simp) o q⟩
 item:=by
  intro X B hw C L i aa s J H E I l st A;subst B hw C;obtain⟨⟨old,U⟩,vT⟩:=st;obtain⟨F,x,g,t⟩:=A;obtain⟨bB,r,p,hz⟩:=I.list g;obtain⟨u,hu,W⟩:=r.get t;have N:=l e (by simp);have M:=l j (by simp);have Q:e<s.heap.objs.size:=eY U;have y:j<s.heap.objs.size:=let ⟨_,q,_⟩:=vT;eY q;refine wpAny_pyNext_enum_item U vT p.isList (x:=u) (by simpa using hu) gV λh1 e1 i1 t1 z1 k1=>?_;refine⟨_,rfl,wpAny_letOwnedTupleGo_enum (s:={s with heap:=h1,toks:=s.toks+1}) e1 λh2 e2 n=>?_⟩;have f:H s.heap.objs.size=ak:=I.aL.fresh dD;have k2:∀b o,b≠e->b≠j->s.heap.get? b=ai o->h2.get? b=ai o:=λb o G n2 q=>n.extBut b o G (k1 b o G n2 q);have V:h2.get? s.heap.objs.size=ai {cls:=.type "tuple",data:=.seq #[.int (i:av) s.toks,u]}:=n.extBut _ _ (IP Q) t1;have R:Inv X aa J H {s with heap:=h2,toks:=s.toks+1}:=Inv.agI (t':=s.toks+1) I k2 N M;have i2:h2.IsListIter j a (i+1):=i1.extBut n.extBut (eM gV);have aL:gL X.prog X.w (upd H s.heap.objs.size (.tup [.int (i:av),x])) h2:=by
   refine λb o q=>?_
   by_cases m:b=s.heap.objs.size
   ·subst m;rw[eX]at q;cases q;exact⟨by show 2<=az;decide,[.int (i:av) s.toks,u],.cons ⟨_,rfl⟩ (.cons W .nil),⟨_,V,rfl,_,rfl⟩⟩
   ·rw[cD m]at q;exact(R.aL b o q).oF (λc v _ z=>z) (λc z=>by rw[cD (jD z f)];exact z) λc F z=>by rw[cD (jD z f)];exact z
  have D:qP X aa H s.heap.objs.size:=I.uU dD f;have h0:X.s₀.heap.get? s.heap.objs.size=ak:=by
   cases q:X.s₀.heap.get? s.heap.objs.size with
   |none=>rfl
   |some ob=>exact bu (nA (eY q) I.sz) (Nat.lt_irrefl _)
  have I2:Inv X aa J (upd H s.heap.objs.size (.tup [.int (i:av),x])) {s with heap:=h2,toks:=s.toks+1}:=Inv.Aq R f h0 D.2.1 D.2.2.2.2.1 D.2.2.2.2.2 aL;refine⟨.ref s.heap.objs.size,_,I2,rfl,⟨_,x,f,rfl,rfl,λys hy=>by rw[I.Gf hy g];exact t⟩,⟨⟨_,e2⟩,i2⟩,λb hb=>?_⟩
  rcases eK.mp hb with z|z
  ·subst z;rw[cD (iB Q)];exact N.1
  ·have z:b=j:=by simpa using z
   subst z;rw[cD (iB y)];exact M.1
 done:=by
  intro X B hw C L i aa s J H E I l st A;subst B hw C;obtain⟨⟨old,U⟩,vT⟩:=st;obtain⟨F,g,t⟩:=A;obtain⟨bB,r,p,hz⟩:=I.list g;obtain⟨f0,f1,f2,f3,f4,f5⟩:=l j (by simp);have hl:=r.length;exact wpAny_pyNext_enum_end (I.ok.hd L) U vT p.isList (by simp;omega) λh' m=>⟨rfl,I.turned (t':=s.toks) (λb o hb e=>m b o hb e) f0 f1 f3 f4 f5⟩
 self:=λ_ _ _ _ _ st h=>let ⟨_,q⟩:=st.1;wpAny_pyIter_enum q h
section
variable{X:Cx}{W:WX}{pos:cx}
theorem anC{elts:aj bp}{g:ay}{i p:cx}{l:bp}{tl:TE}(t:Gl X "enumerate")(hm:X.mg "enumerate" = ak)(hl:PE X l tl)(e:ba [l] X.env=[(aq,bz l X.env)]:=by rfl) :
  PI X (.Tuple elts g i) (.Call (.Name "enumerate" p) [l] [] pos) (λJ H R=>tl J H λx H1=>∃a,x=.ref a/\(∃xs,fE X.K H1 a xs)/\R (YQ X.K a) H1):=by
 intro aa s J H R I h;refine tV (AE I t hm boot_enumerate ?_);refine PY (bT (zW hl CO e pos aa s J H (λc H1=>match c with
  |[x]=>∃a,x=V.ref a/\(∃xs,fE X.K H1 a xs)/\R (YQ X.K a) H1
  | _=>cb) I h) λA j ⟨c,H1,U,m,d⟩=>?_) e rfl
 match c,d with
 |[x],d =>
 obtain⟨a,w,⟨xs,o⟩,q⟩:=d;obtain⟨u,rfl,k⟩:=vals1 m;subst w;cases k;obtain⟨D,B,pl,C⟩:=U.list o;refine call_enumerate_list pl.isList λh' f v n r=>?_;refine wpAny_pyIter_enum (s:={j with heap:=h' }) f ?_;have y:Inv X aa J H1 {j with heap:=h' }:=U.kept (t':=j.toks) r;refine⟨_,[j.heap.objs.size+1,j.heap.objs.size],_,_,H1,rfl,y,agN a _ _ (Nat.succ_ne_self _),⟨⟨.none,f⟩,v⟩,λb hb=>?_,q⟩
 rcases eK.mp hb with z|z
 ·subst z;exact U.uU (IQ _) (U.aL.fresh (IQ _))
 ·have z:b=j.heap.objs.size:=by simpa using z
  subst z;exact U.uU dD (U.aL.fresh dD)
noncomputable def nW:ay->aj A->aj A
 |_,[]=>[]
 |n,x::xs => .tup [.int (n:av),x]::nW (n+1) xs
theorem Kc:∀(n:ay) (xs:aj A),(nW n xs).length=xs.length
 |_,[]=>rfl
 |n,x::xs=>by simp only[nW,iP,Kc (n+1) xs]
theorem abK:∀(n i:ay) (xs:aj A),(nW n xs)[i]?=xs[i]?.map λx => .tup [.int ((n+i:ay):av),x]
 |_,_,[]=>by simp[nW]
 |n,0,x::xs=>by simp[nW]
 |n,i+1,x::xs=>by
  simp only[nW,YK];rw[abK (n+1) i xs];have e:n+1+i=n+(i+1):=by omega
  rw[e]
def enumSrc(a:A)(ds:aj A):Src:=⟨nW 0 ds,λZ=>eL Z a=ai ds⟩
@[simp] def RT(f:Ev->Mo A):Ev->Mo Src:=λY=>mb (f Y) λa Z=>match eL Z a with
 |some ds=>ai (.ok (enumSrc a ds),Z)
 |none=>ak
theorem asQ{K:bg}{G:Hp}{O:aj au}{p:au}{a:A}{ds:aj A}(d:Den K G O (.ref p) a):EU K G O (YQ K p) (enumSrc a ds):=by
 have key:∀c j U f,Ext G O c j->Wd K c j U f->eL U a=ai ds->∃b,fE K f p b/\bJ K c j b ds:=λc j U f e w h=>by
  obtain⟨q,b,h1,h2,g⟩:=qY w (d.ext e) h;cases h1;exact⟨b,h2,g⟩
 refine⟨λc j U f e w h i hi=>?_,λc j U f e w h i hi=>?_,λc j U f e w h i x v y o hd=>?_⟩
 ·obtain⟨b,h2,g⟩:=key c j U f e w h;have hl:i<b.length:=by rw[g.length,<-Kc 0 ds];exact hi
  exact⟨b,b[i],h2,dR hl⟩
 ·obtain⟨b,h2,g⟩:=key c j U f e w h;exact⟨b,h2,by rw[g.length,<-Kc 0 ds];exact hi⟩
 ·obtain⟨b,h2,g⟩:=key c j U f e w h;obtain⟨q,z,l,t,s,r⟩:=hd;subst t s;have k:(nW 0 ds)[i]?=ai y:=o;rw[abK]at k;cases ed:ds[i]? with
  |none=>rw[ed]at k;cases k
  |some d' =>
   rw[ed]at k;cases k;obtain⟨u,m,n⟩:=g.get ed;rw[r b h2]at m;cases m;refine⟨upd c q (.tup [.int (i:av),z]),Ext.new (w.oN l) _,w.new l _,?_⟩;simp only[Den];exact⟨q,_,rfl,eX,.cons (by simp only[Den,wX]) (.cons (n.ext (Ext.new (w.oN l) _)) .nil)⟩
theorem ZW{elts:aj bp}{U:ay}{k p:cx}{l:bp}{fe:Ev->Mo A}(n:Gl X "enumerate")(hm:X.mg "enumerate" = ak)(h:VE X W l fe)(m:ba [l] X.env=[(aq,bz l X.env)]:=by rfl) :
  VI X W (.Tuple elts U k) (.Call (.Name "enumerate" p) [l] [] pos) (RT fe):=by
 obtain⟨t,p,s⟩:=h;refine⟨_,anC n hm p m,λG f g H J d R w r h=>?_⟩;refine s G f g H J d _ w r (cA.mb h λa z v u x j U b c h1=>?_);cases e:eL z a with
 |none=>simp only[e]at h1;exact False.elim h1
 |some ds =>
  simp only[e]at h1;obtain⟨q,i,h2,o,y⟩:=qY b c e;subst h2;exact⟨q,rfl,⟨i,o⟩,h1 _ u x j (Ext.refl _ _) b (asQ c)⟩
theorem vL{st:bt}:VS X W st (λ_ _=>ak):=⟨_,amO,λ_ _ _ _ _ _ _ _ _ h=>h.elim⟩
end
noncomputable def uI(n:ay)(js:aj ay)(Y:Ev):Ev:=List.replicate n ak++js.map (λj=>(Y[j]?).join)
def IJ(X:Cx)(W:WX)(ifs:aj bp)(f:Ev->Mo bh):Prop:=∃t,IL X ifs t/\fJ X.K CK W t f
abbrev nB:Ev->Mo bh:=λ_=>ret ax
theorem vN{X:Cx}{W:WX}:IJ X W [] nB:=⟨_,am7,λ_ _ _ _ _ _ _ w _ q=>jX w rfl q⟩
open Classical in
noncomputable def qI(ok:aH->Prop)(g:A->MS)(c:Ev->Mo bh)(e:Ev->Mo A)(n:ay):aj A->Ev->aH->ar (Ev×aH)
 |[],Y,Z=>if ok Z then ai (Y,Z)else ak
 | x::xs,Y,Z=>if ok Z then(match g x Y Z with
  | some (.nx,Y1,Z1)=>(match c Y1 Z1 with
   | some (.ok ax,Z2)=>(match e Y1 Z2 with
    | some (.ok y,Z3)=>(match Z3[n]? with
     |some (.lst ys)=>if ys.length<az then qI ok g c e n xs Y1 (Z3.set n (.lst (ys++[y])))else ak
     | _=>ak)
    | _=>ak)
   |some (.ok aq,Z2)=>qI ok g c e n xs Y1 Z2
   | _=>ak)
  | _=>ak)else ak
open Classical in
noncomputable def Gj(cf:bh)(Z1:aH)(r:ar (Ev×aH)):ar (Rs A×aH):=match r with
 | some (_,Z')=>(match Z'[Z1.length]? with
  |some (.lst ys)=>if cf then ai (.ok (.aJ Z1.length),Z')else if Z'.take Z1.length=Z1/\gC Z1.length ys then ai (.ok (.lst ys),Z1)else ai (.ok (.lst ys),Z'.set Z1.length .dead)
  | _=>ak)
 |none=>ak
noncomputable def mR(j:bh)(n:ay)(js:aj ay)(fi:Ev->Mo Src)(g:A->MS)(c:Ev->Mo bh)(e:Ev->Mo A):Ev->Mo A:=λY=>mb (fi Y) λS Z1=>Gj j Z1 (qI S.ok g c e Z1.length S.ds (uI n js Y) (Z1++[.lst []]))
theorem ayQ{ok:aH->Prop}{g:A->MS}{c:Ev->Mo bh}{e:Ev->Mo A}{n:ay}{xs:aj A}{Y:Ev}{Z:aH}{r:Ev×aH}(h:qI ok g c e n xs Y Z=ai r):ok Z:=by
 cases xs with
 |nil=>unfold qI at h;by_cases j:ok Z;exact j;rw[bb j]at h;cases h
 |cons=>unfold qI at h;by_cases j:ok Z;exact j;rw[bb j]at h;cases h
theorem arN{K:bg}{G:Hp}{O:aj au}{J:L2.St}{Y:Ev}(q:aj a5)(js:aj ay)(r:iH K G O J Y):iH K G O (AF q js J) (uI q.length js Y):=by
 unfold AF uI;refine⟨by simp,λi d h=>?_⟩
 by_cases hi:i<q.length
 ·rw[mM (by simpa using hi)]at h;rw[List.getElem?_replicate,a8 hi]at h;cases h
 ·rw[EO (by simpa using Ob hi),List.length_replicate,lC]at h;cases e:js[i-q.length]? with
  |none=>rw[e]at h;cases h
  |some j =>
   rw[e]at h;have h':(Y[j]?).join=ai d:=kK h;obtain⟨v,U,z⟩:=r.2 j d (join_some h');refine⟨v,?_,z⟩;rw[EO (by simpa using Ob hi),lB,lC,e];show ai (J[j]?).join=_;rw[U];rfl
section
variable{K:bg}{W:WX}
theorem Uh{L:aj a5}{js:aj ay}{wi:TI}{tg:TG}{tc:TT}{te:TE}{fi:Ev->Mo Src}{g:A->MS}{c:Ev->Mo bh}{e:Ev->Mo A}{cf:bh}(W0:WX)(hi:fJ K (Ei K) W wi fi)(hg:PX K W0 tg g)(hc:fJ K CK W0 tc c)(he:fJ K (Den K) W0 te e) :
  fJ K (Den K) W (SI L js wi tg tc te) (mR cf L.length js fi g c e):=by
 intro G O Z H J Y Q w r h;refine hi G O Z H J Y _ w r (cA.mb h λS f σ H1 C U x1 w1 j1 h1=>?_);intro D hD;unfold Gj at h1;cases er:qI S.ok g c e f.length S.ds (uI L.length js Y) (f++[.lst []])with
 |none=>rw[er]at h1;exact False.elim h1
 |some rr =>
 obtain⟨T,X⟩:=rr;rw[er]at h1;simp only at h1;have Yt:Wd K C (U++[D]) (f++[.lst []]) (upd H1 D (.lst [])):=w1.cell hD ⟨w1.oN hD,[],eX,.nil⟩;have r0:iH K C (U++[D]) (AF L js J) (uI L.length js Y):=arN L js (r.ext (x1.trans (Ext.cell D)));have hDk:(U++[D])[f.length]?=ai D:=by rw[<-w1.len];simp
 refine⟨λi m t s=>m=S.ds.length-i/\i<=S.ds.length/\∃l j a k,Ext C (U++[D]) l j/\Wd K l j a s/\iH K l j t k/\qI S.ok g c e f.length (S.ds.drop i) k a=ai (T,X),
  ⟨_,rfl,BI _,C,_,_,_,Ext.refl _ _,Yt,r0,by simpa using er⟩,?_⟩
 rintro i m t s ⟨rfl,hil,l,j,a,k,e',F,r',h'⟩;have aL:=ayQ h';have N:Ext C U l j:=(Ext.cell D).trans e'
 by_cases fF:i<S.ds.length
 ·right
  refine⟨j1.go l j a s N F aL i fF,λR H2=>∃G2 B Z2 V,Ext C (U++[D]) G2 B/\Wd K G2 B Z2 H2/\iH K G2 B R V/\qI S.ok g c e f.length (S.ds.drop (i+1)) V Z2=ai (T,X),λR H2 n=>?_,λx H2 y=>?_⟩
  ·exact⟨S.ds.length-(i+1),by omega,rfl,fF,n⟩
  ·obtain⟨G2,e2,w2,d2⟩:=j1.BV l j a s N F aL i x H2 S.ds[i] (dR fF) y;rw[ER fF]at h';unfold qI at h';rw[a8 aL]at h';refine hg G2 j a H2 t k x S.ds[i] ⟨_,λ_ _=>cb,λ_ _=>cb,λ_ _=>cb⟩ w2 (r'.ext e2) d2 ?_
   revert h'
   generalize g S.ds[i] k a=q;intro h';split at h'
   ·rename_i d Z3;intro P H3 G3 O3 x3 w3 r3;refine hc G3 O3 Z3 H3 P d _ w3 r3 ?_
    revert h'
    generalize c d Z3=I;intro h';split at h'
    ·rename_i o;intro b H4 G4 u E w4 hb;cases(show b=ax from hb);rw[a8 rfl];refine he G4 u o H4 P d _ w4 (r3.ext E) ?_
     revert h'
     generalize e d o=q3;intro h';split at h'
     ·rename_i z Z5;intro v H5 G5 O5 x5 w5 d5;split at h'
      ·rename_i ys ey;split at h'
       ·rename_i hl;have eD:=(((e'.trans e2).trans x3).trans E).trans x5;have M:=eD.pre _ _ hDk;obtain⟨p,xs,q1,I⟩:=w5.aJ _ _ D ey M;refine⟨xs,q1,by rw[I.length];exact hl,G5,O5,_,d,eD,w5.put (c:=.lst (ys++[z])) M p ⟨p,_,eX,I.append (.cons d5 .nil)⟩,(r3.ext E).ext x5,h'⟩
       ·cases h'
      ·cases h'
     ·cases h'
    ·rename_i o;intro b H4 G4 u E w4 hb;cases(show b=aq from hb);rw[bb (by simp)];exact⟨G4,u,o,d,((e'.trans e2).trans x3).trans E,w4,r3.ext E,h'⟩
    ·cases h'
   ·cases h'
 ·have yJ:i=S.ds.length:=by omega
  subst yJ
  left
  refine⟨j1.stop l j a s N F aL _ dD,?_⟩;rw[QE]at h';unfold qI at h';rw[a8 aL]at h';cases h';split at h1
  ·rename_i ys ey;have M:=e'.pre _ _ hDk;obtain⟨p,xs,q1,I⟩:=F.aJ _ _ D ey M;split at h1
   ·exact h1 _ s l j N F (by simp only[Den];exact⟨D,rfl,M⟩)
   ·have wf:=F.freeze M p q1;split at h1
    ·rename_i VB;have eC:Ext C U (upd l D (.lst xs)) j:=N.trans (Ext.new p _);have wc:=w1.cut wf eC (by rw[List.take_set_of_le dD];exact VB.1);refine h1 _ s _ U ⟨eC.same,λ_ _ q=>q⟩ wc ?_;simp only[Den];exact⟨D,xs,rfl,eX,(I.ext (Ext.new p _)).cut eC.cut (by rw[w1.len];exact VB.2)⟩
    ·refine h1 _ s _ j (N.trans (Ext.new p _)) wf ?_;simp only[Den];exact⟨D,xs,rfl,eX,I.ext (Ext.new p _)⟩
  ·exact False.elim h1
end
def Bb{α β:Type}(K:bg)(rel:Rl α β)(W:WX)(f:Ev->Mo α):L2.St->Hp->(β->Hp->Prop)->Prop:=λJ H Q=>∃G O Z Y,Wd K G O Z H/\iH K G O J Y/\cA K rel W G O J Q (f Y Z)
def Tf(K:bg)(W:WX)(g:A->MS):TG:=λv J H Q=>∃G O Z Y a D,Wd K G O Z H/\iH K G O J Y/\Den K G O v a/\gE K W G O D (g a Y Z)/\D.nx=Q
theorem SS{α β:Type}{K:bg}{rel:Rl α β}{W:WX}{f:Ev->Mo α}:fJ K rel W (Bb K rel W f) f:=λG q z H J j Q w r h=>⟨G,q,z,j,w,r,h⟩
theorem Uj{K:bg}{W:WX}{g:A->MS}:PX K W (Tf K W g) g:=λG q z H J j v a D w r d h=>⟨G,q,z,j,a,D,w,r,d,h,rfl⟩
theorem VE.BG{X:Cx}{W:WX}{e:bp}{f:Ev->Mo A}(h:VE X W e f):PE X e (Bb X.K (Den X.K) W f):=by
 obtain⟨t,p,s⟩:=h;exact λaa a J H Q I ⟨G,z,U,j,w,r,q⟩=>p aa a J H Q I (s G z U H J j Q w r q)
theorem IJ.BG{X:Cx}{W:WX}{ifs:aj bp}{f:Ev->Mo bh}(h:IJ X W ifs f):IL X ifs (Bb X.K CK W f):=by
 obtain⟨t,p,s⟩:=h;exact λaa a J H Q I ⟨G,z,U,j,w,r,q⟩=>p aa a J H Q I (s G z U H J j Q w r q)
theorem VG.BG{X:Cx}{W:WX}{tg:bp}{g:A->MS}(h:VG X W tg g):PG X tg (Tf X.K W g):=by
 obtain⟨t,p,s⟩:=h;intro aa b J H v u Q I c h;obtain⟨G,z,U,j,a,D,w,r,d,q,e⟩:=h;exact p aa b J H v u Q I c (e ▸ s G z U H J j v a D w r d q)
abbrev vX:WX:=λ_ _ _ _=>cb
theorem afS{X:Cx}{W:WX}{elt tg iter:bp}{ifs:aj bp}{scope:b9}{pos:cx}{fi:Ev->Mo Src}{g:A->MS}{c:Ev->Mo bh}{e:Ev->Mo A}(b:bh)(j:aj a5)(js:aj ay)(a:X.calm=ax)(L:zB X scope j js)(hi:VI X W tg iter fi)
  (hb:∀cl C s H fp,VG (iN X scope j js cl C s H fp) vX tg g/\IJ (iN X scope j js cl C s H fp) vX ifs c/\VE (iN X scope j js cl C s H fp) vX elt e)
  (U:∀x,ck iter X.env x=pure x:=by intro _;rfl):VE X W (.ListComp elt [⟨tg,iter,ifs,0⟩] scope pos) (mR b j.length js fi g c e):=by
 obtain⟨t1,z,q⟩:=hi;exact⟨_,anV a L z (λcl C s H fp=>⟨(hb cl C s H fp).1.BG,(hb cl C s H fp).2.1.BG,(hb cl C s H fp).2.2.BG⟩) U,Uh _ q Uj SS SS⟩
def Uv(neg:bh):R2:=λx y H Q=>∃b,y=.bl b/\Q (.bl (if neg then !decide (x=.bl b)else decide (x=.bl b))) H
theorem asZ{x:V}{u:ao}{b:bh}(r:RelV x u):(u==Value.bool b)=decide (x=.bl b)/\plainIs u (.bool b)=ax:=by
 cases x with
 |dE=>cases r;exact⟨by simp,rfl⟩
 |bl c=>cases r;exact⟨by cases c <;> cases b <;> simp,rfl⟩
 |int i=>obtain⟨t,rfl⟩:=r;exact⟨by simp,rfl⟩
 |str i=>obtain⟨t,rfl⟩:=r;exact⟨by simp,rfl⟩
 |OT i=>obtain⟨t,rfl⟩:=r;exact⟨by simp,rfl⟩
 |AY i=>obtain⟨t,rfl⟩:=r;exact⟨by simp,rfl⟩
 |ref i=>cases r;exact⟨by simp,rfl⟩
 |ty i=>cases r;exact⟨by simp,rfl⟩
theorem aoY{X:Cx}:hJ X (bw .IsNot) (Uv ax):=by
 intro aa s J H x y v u Q I z j h;obtain⟨b,rfl,q⟩:=h;cases j;obtain⟨a,U⟩:=asZ (b:=b) z;exact wpAny_isNot_plain U (by rw[a];exact⟨.bl (!decide (x=.bl b)),H,I,rfl,q⟩)
noncomputable def uK(b:bh):A->bh
 |.bl c=>c==b
 |_=>aq
theorem asY{K:bg}{G:Hp}{O:aj au}{v:V}{a:A}(b:bh)(d:Den K G O v a):uK b a=decide (v=.bl b):=by
 cases a with
 |bl c=>simp only[Den]at d;subst d;rw[azQ];rfl
 |tup ds=>simp only[Den]at d;obtain⟨p,j,rfl,_⟩:=d;simp[uK]
 |lst ds=>simp only[Den]at d;obtain⟨p,j,rfl,_⟩:=d;simp[uK]
 |dZ ds=>simp only[Den]at d;obtain⟨p,rfl,_⟩:=d;simp[uK]
 |aJ ds=>simp only[Den]at d;obtain⟨p,rfl,_⟩:=d;simp[uK]
 |gl x=>simp only[Den]at d;obtain⟨p,_,rfl⟩:=d;simp[uK]
 |OG p d' f i=>simp only[Den]at d;obtain⟨rfl,_⟩:=d;simp[uK]
 |_=>simp only[Den]at d;subst d;simp[uK]
@[simp] def VM(neg:bh):A->A->Mo A
 |a,.bl b=>ret (.bl (if neg then !uK b a else uK b a))
 |_,_=>stuck
theorem aoN{K:bg}{W:WX}{neg:bh}:sJ K W (Uv neg) (VM neg):=by
 intro G z U H J x y a b Q w q j h;cases b with
 |bl c =>
  simp only[Den]at j;refine⟨c,j,?_⟩;rw[<-asY c q];exact jX w (by simp only[Den]) h
 |_=>exact False.elim h
theorem apT{X:Cx}{W:WX}:lA X W (bw .IsNot) (VM ax):=⟨_,aoY,aoN⟩
end V2
namespace PyProof.Rows
open PySem
noncomputable abbrev sl(p:ay×ay×ay):ay×ay:=(p.1,p.2.1)
end PyProof.Rows
namespace V2
open PySem PySem.Spec PyProof.Rows L2
noncomputable def sortI(ns:aj av):aj av:=ns.mergeSort λa b=>decide (a<=b)
theorem sortI_perm(ns:aj av):(sortI ns).Perm ns:=List.mergeSort_perm ns _
theorem Tw(ns:aj av):(sortI ns).Pairwise (· <= ·):=by
 have h:=List.pairwise_mergeSort (le:=λa b:av=>decide (a<=b)) (λa b c h1 h2=>by simp at h1 h2 ⊢;omega) (λa b=>by simp;omega) ns;exact h.imp λh=>Wm h
theorem Tv{ns ms:aj av}(p:ms.Perm ns)(h:ms.Pairwise (· <= ·)):ms=sortI ns :=
 List.Perm.eq_of_pairwise (le:=(· <= ·)) (λa b _ _ h1 h2=>Int.le_antisymm h1 h2) h (Tw ns) (p.trans (sortI_perm ns).symm)
theorem LN(ns:aj av):(sortI ns).length=ns.length:=(sortI_perm ns).length_eq
end V2
namespace M
open PySem V2
@[simp] abbrev aI:=V2.dA 0
@[simp] abbrev aT:=V2.dA 1
@[simp] abbrev cC:=V2.dA 2
@[simp] abbrev dS:=V2.dA 3
@[simp] abbrev cY:=V2.dA 4
@[simp] abbrev fH:=V2.dA 5
@[simp] abbrev iI:=V2.dA 6
@[simp] abbrev jM:=V2.dA 7
@[simp] abbrev gM:=V2.dA 8
@[simp] abbrev xJ:=V2.dA 9
@[simp] abbrev bQ:=V2.cI 0
@[simp] abbrev bP:=V2.cI 1
@[simp] abbrev eO:=V2.cI 2
@[simp] abbrev gO:=V2.cI 3
@[simp] abbrev zL:=V2.cI 4
@[simp] abbrev xK:=V2.cI 5
@[simp] abbrev KQ:=V2.cI 6
@[simp] abbrev FF:=V2.cI 7
@[simp] abbrev zK:=V2.cI 8
@[simp] abbrev wC9:=V2.cI 9
@[simp] abbrev RK:=V2.cI 10
@[simp] abbrev cJ:=V2.HQ aq
@[simp] noncomputable abbrev aD{α:Type}(a:α)(Z:V2.aH):ar (V2.Rs α×V2.aH):=ai (.ok a,Z)
@[simp] noncomputable abbrev dP(Y:V2.Ev)(Z:V2.aH):ar (V2.Out×V2.Ev×V2.aH):=ai (.nx,Y,Z)
@[simp] noncomputable abbrev aB(i:av):ar V2.A:=ai (.int i)
@[simp] noncomputable abbrev aF(i:ay):ar V2.A:=ai (.aJ i)
@[simp] noncomputable abbrev aX(i:aj V2.A):ar V2.A:=ai (.lst i)
noncomputable section
def acT:MS :=
 (aQ (bM (aA (fS) (aA (gY) (aA cJ aI bP) (aA cJ (cI 48271) (aA (gY) (cI 118) aT))) (cI 2147483629)) (gN 2))
  (bV (aA (fS) (aA cJ (aA cJ (aA (gY) (aA (jI) cC (cI 977)) (cI 16807)) (aA (gY) cC (aA cJ (aA (gY) aT aT) FF))) aT) (cI 2147483587))))
def vG:aj A->Mo A:=cN 3 acT
def IG:MS :=
 (aQ (dQ (bL (aA iX aT bQ))
   (bV (aA (fS) aI FF))
   eR)
  (aQ (dQ (bL (aA iX aT bP))
   (bV (aA (lJ) (aA (fS) aI (cI 61)) (cI 30)))
   eR)
  (aQ (dQ (bL (aA iX aT eO))
   (bV (aA (lJ) (aA (fS) (aA (gY) aI (cI 982451653)) (aA cJ (aA (gY) eO (aA (OC) RK (cI 18))) bP)) (aA (OC) RK (cI 18))))
   eR)
  (aQ (dQ (bL (aA iX aT gO))
   (bV xK)
   eR)
  (bV (aA aO (eQ aq (aC (aA cJ (aA (gY) aI (aA (OC) RK (cI 50))) FF) (aC (aA (lJ) bQ (aA (gY) aI (aA (OC) RK (cI 50)))) (aC aI (aC (aA (lJ) bQ aI) a0))))) (aA (fS) aI zL)))))))
def vF:aj A->Mo A:=cN 2 IG
def acP:MS :=
 (bV (aA aO (eQ aq (aC bP (aC bP (aC (aA cJ bP (aA (fS) (aA (jI) aI zL) wC9)) (aC (aA cJ bP (aA (fS) (aA (jI) aI zL) (cI 1000000))) a0))))) (aA (fS) aI zL)))
def JU:aj A->Mo A:=cN 1 acP
def acN:MS :=
 (bV (mQ (aC bQ (aC bQ (aC bQ (aC (eQ aq a0) a0))))))
def QP:aj A->Mo A:=cN 0 acN
def WR:MS :=
 (aQ (dQ (bL (aA iX aT (aU fY (aC aI a0))))
   (bV (cB aq))
   eR)
  (bV (RR (aA iX dS (aU fY (aC cC a0))) (aA oO (aA aO (aA aO aI aT) bQ) (aA aO (aA aO cC dS) bQ)))))
def JS:aj A->Mo A:=cN 4 WR
def yW:MS :=
 (aQ (bM (aA aO aI gO) (gN 2))
  (aQ (bM (Ah (bL (aA rY aT bQ)) (aA aO (aA aO cC (aA (lJ) aT bP)) bP) bQ) (gN 3))
  (aQ (bM (Ah (bL (aA kB aT (aU fY (aC cC a0)))) (aA (lJ) (aA aO (aA aO cC aT) eO) bP) (aA aO aI bQ)) (gN 4))
  (bV (mQ (aC dS (aC cY a0)))))))
def rL:aj A->Mo A:=cN 5 yW
def acK:MS :=
 (aQ (bM (aU (bN 2 rL) (aC aT (aC cC a0))) (gN 3))
  (bV (mQ (aC (aA aO aI bQ) (aC (aA cJ (aA aO aI bP) (aA aO dS bQ)) (aC (aA cJ (aA aO aI eO) (aA aO dS bP)) a0))))))
def QM:aj A->Mo A:=cN 4 acK
def IE:MS :=
 (dQ (bL (aU (bN 4 JS) (aC (aA aO aI gO) (aC dS (aC (aA aO aT gO) (aC cY a0))))))
    (aQ (iJ (sV uS cC (aC (aU (bN 3 QM) (aC (aA aO (aA aO aI gO) dS) (aC aT (aC cY a0)))) a0)))
    (bM (aA cJ dS bP) (gN 3)))
    (aQ (iJ (sV uS cC (aC (aU (bN 3 QM) (aC (aA aO (aA aO aT gO) cY) (aC aI (aC dS a0)))) a0)))
    (bM (aA cJ cY bP) (gN 4))))
def EB:Ev->Mo bh :=
 (gU (bL (aA kB dS (aU fY (aC (aA aO aI gO) a0)))) (bL (aA kB cY (aU fY (aC (aA aO aT gO) a0)))))
def acL:MS :=
 (aQ (bM (eQ ax a0) (gN 2))
  (aQ (bM bQ (gN 3))
  (aQ (bM bQ (gN 4))
  (aQ (λY Z=>lK EB IE ((λ_ _=>1000000) Y Z) Y Z)
  (bV (vO 2))))))
def YX:aj A->Mo A:=cN 5 acL
def acM:MS :=
 (aQ (bM (aA cJ (aA aO aI bQ) (aA aO aT bQ)) (gN 2))
  (aQ (bM (aA cJ (aA aO aI bP) (aA aO aT bP)) (gN 3))
  (aQ (bM (aU AV (aC (aA aO aI eO) (aC (aA aO aT eO) a0))) (gN 4))
  (bV (mQ (aC cC (aC dS (aC cY (aC (aU (bN 2 YX) (aC aI (aC aT a0))) a0)))))))))
def BL:aj A->Mo A:=cN 5 acM
def Lj:MS :=
 (aQ (bM (aA aO aI bQ) (gN 1))
  (aQ (bM (aA aO aI bP) (gN 2))
  (aQ (bM (aA aO aI eO) (gN 3))
  (aQ (bM (aA aO aI gO) (gN 4))
  (aQ (dQ (gU (bL (aA kB aT bQ)) (gU (bL (aA kB cC bQ)) (bL (aA kB dS bQ))))
   (bV (cB aq))
   eR)
  (bV (aA iX (aA iX aT bQ) (aA iX (aU fY (aC cY a0)) bQ))))))))
def JR:aj A->Mo A:=cN 5 Lj
def Ky:MS :=
 (bV (CD (aA iX (aA aO aI bP) aT) (aA iX (aA aO aI eO) aT)))
def JM:aj A->Mo A:=cN 2 Ky
def Lk:MS :=
 (aQ (bM (aA aO aI bP) (gN 2))
  (aQ (bM (aA aO aI eO) (gN 3))
  (bV (CD (aA oO cC dS) (aA oO (aA (lJ) dS cC) aT)))))
def QO:aj A->Mo A:=cN 4 Lk
def Ld:MS :=
 (bV (RR (aA iX (aA aO aT bQ) (aA aO aI bQ)) (aA oO (aA aO aT eO) (aA cJ (aA cJ (aA aO aI bP) cC) bP))))
def JP:aj A->Mo A:=cN 3 Ld
def PB:MS :=
 (aQ (dQ (gU (bL (aA kB (aA aO aT bQ) (aA aO aI bQ))) (gU (bL (aA oO (aA aO aT bP) (aA aO aI bP))) (bL (aA oO (aA aO aT eO) (aA aO aI eO)))))
   (bV (cB aq))
   eR)
  (bV (aU (bN 3 JP) (aC aI (aC aT (aC cC a0))))))
def EZ:aj A->Mo A:=cN 3 PB
def BH:MS :=
 (dQ (gU (bL (aA iX cY bQ)) (gU (bL (aA iX cY dS)) (jC (bL (aU (bN 3 JP) (aC (aA aO cC (Af bP)) (aC (aA aO aI (aA cJ cY bP)) (aC aT a0))))))))
    (iJ (sV uS cC (aC fH a0)))
    eR)
def Li:MS :=
 (aQ (bM (eQ ax a0) (gN 2))
  (aQ (bM (aA (lJ) (aU fY (aC aI a0)) bP) (gN 3))
  (aQ (gB (RT aI) (hZ 2 (dF (gN 4) (dF (gN 5) iA))) BH)
  (bV (vO 2)))))
def QN:aj A->Mo A:=cN 6 Li
def OZ:MS :=
 (aQ (bM (aA aO aI bQ) (gN 2))
  (aQ (bM (aA aO aI bP) (gN 3))
  (aQ (bM (aA aO aI gO) (gN 4))
  (aQ (bM (aA aO cY aT) (gN 5))
  (aQ (dQ (sW (bL (aA iX aT bQ)) (jC (bL (aU (bN 2 JM) (aC fH (aC bP a0))))))
   (bV (cB aq))
   eR)
  (aQ (dQ (sW (bL (aA iX aT (aA (lJ) (aU fY (aC cY a0)) bP))) (jC (bL (aU (bN 2 JM) (aC fH (aC cC a0))))))
   (bV (cB aq))
   eR)
  (aQ (dQ (jC (bL (aU (bN 2 QO) (aC fH (aC dS a0)))))
   (bV (cB aq))
   eR)
  (bV (RR (aA iX aT bQ) (aU (bN 3 EZ) (aC (aA aO cY (aA (lJ) aT bP)) (aC fH (aC dS a0)))))))))))))
def EY:aj A->Mo A:=cN 6 OZ
def acH:MS :=
 (aQ (bM (aA aO aI bQ) (gN 2))
  (aQ (bM (aA cJ (aA aO aI bP) (aA (jI) cC aT)) (gN 3))
  (bV (mQ (aC cC (aC dS (aC (aA cJ (aA aO aI eO) bP) (aC (aU (bN 2 QN) (aC (aA aO aI gO) (aC dS a0))) a0))))))))
def QK:aj A->Mo A:=cN 4 acH
def Lg:MS :=
 (dQ (jC (bL (aU (bN 2 EY) (aC aI (aC aT a0)))))
    (λ_ _=>ak)
    eR)
def WM:MS :=
 (aQ (dQ (jC (bL (aU (bN 1 JR) (aC aI a0))))
   (λ_ _=>ak)
   eR)
  (aQ (gB (sT (aC (aU fY (aC (aA aO aI gO) a0)) a0)) (gN 1) Lg)
  (bV (cB ax))))
def YZ:aj A->Mo A:=cN 2 WM
end
end M
namespace V2
open PySem PySem.Spec PyProof.Rows L2
noncomputable def fW(kvs:aj (Key×A))(k:Key):ar A:=(kvs.find? λj=>decide (j.1=k)).map (·.2)
noncomputable def mH(kvs:aj (Key×A))(k:Key)(a:A):aj (Key×A) :=
 if kvs.any λj=>decide (j.1=k)then kvs.map (λj=>if j.1=k then(j.1,a)else j)else kvs++[(k,a)]
noncomputable def lH:A->ar Key
 |.int i=>ai (.inl i)
 |.str x=>ai (.inr x)
 |_=>ak
section
variable{K:bg}{G:Hp}{O:aj au}
theorem GP{v:V}{a:A}{k:Key}(d:Den K G O v a)(h:lH a=ai k):v=kV k:=by
 cases a with
 |int i=>simp only[lH,lO]at h;subst h;simp only[Den]at d;exact d
 |str i=>simp only[lH,lO]at h;subst h;simp only[Den]at d;exact d
 |_=>simp[lH]at h
theorem FI{k:Key}:∀{j:aj (Key×V)} {kvs:aj (Key×A)},j.map (·.1)=kvs.map (·.1)->bJ K G O (j.map (·.2)) (kvs.map (·.2))->(∀a,fW kvs k=ai a->∃v,kN j k=ai v/\Den K G O v a)/\(fW kvs k=ak->kN j k=ak)
 |[],[],_,_=>⟨λa h=>(by cases h),λ_=>rfl⟩
 |[],_::_,h,_=>by simp at h
 |_::_,[],h,_=>by simp at h
 |p::j,q::kvs,h,d=>by
  simp only[cV,rK]at h;obtain⟨x,r,e,o,n⟩:=d.nP;simp only[cV,rK]at e;obtain⟨m,l⟩:=e;obtain⟨f,c⟩:=FI (k:=k) h.2 (l ▸ n)
  by_cases U:q.1=k
  ·have b:p.1=k:=h.1.trans U;refine⟨λa ha=>?_,λhn=>?_⟩
   ·simp only[fW,BJ,U,decide_true,EI,lO]at ha;exact⟨p.2,by simp[kN,b],by rw[<-ha,m];exact o⟩
   ·simp[fW,U]at hn
  ·have b:¬p.1=k:=λz=>U (h.1.symm.trans z);have g:kN (p::j) k=kN j k:=by simp[kN,b]
   have i:fW (q::kvs) k=fW kvs k:=by simp[fW,U]
   rw[g,i];exact⟨f,c⟩
theorem acX{k:Key}{q:aj (Key×V)}{kvs:aj (Key×A)}(h:q.map (·.1)=kvs.map (·.1)):(q.any λj=>decide (j.1=k))=(kvs.any λj=>decide (j.1=k)):=by
 have U:(q.any λj=>decide (j.1=k))=(q.map (·.1)).any λx=>decide (x=k):=by rw[List.any_map];rfl
 have z:(kvs.any λj=>decide (j.1=k))=(kvs.map (·.1)).any λx=>decide (x=k):=by rw[List.any_map];rfl
 rw[U,z,h]
theorem al8{k:Key}{v:V}{a:A}{q:aj (Key×V)}{kvs:aj (Key×A)}(h:q.map (·.1)=kvs.map (·.1)):(putK q k v).map (·.1)=(mH kvs k a).map (·.1):=by
 unfold putK mH;rw[acX h];split
 ·rw[wY,wY];have U:q.map ((·.1) ∘ λj:Key×V=>if j.1=k then(j.1,v)else j)=q.map (·.1):=JA λx _=>by simp only[Function.comp];split <;> rfl
  have z:kvs.map ((·.1) ∘ λj:Key×A=>if j.1=k then(j.1,a)else j)=kvs.map (·.1):=JA λx _=>by simp only[Function.comp];split <;> rfl
  rw[U,z,h]
 ·rw[EN,EN,h];rfl
theorem Vc{k:Key}{v:V}{a:A}(U:Den K G O v a):∀{z:aj (Key×V)} {kvs:aj (Key×A)},z.map (·.1)=kvs.map (·.1)->bJ K G O (z.map (·.2)) (kvs.map (·.2))->bJ K G O ((z.map λj=>if j.1=k then(j.1,v)else j).map (·.2)) ((kvs.map λj=>if j.1=k then(j.1,a)else j).map (·.2))
 |[],[],_,_ => .nil
 |[],_::_,h,_=>by simp at h
 |_::_,[],h,_=>by simp at h
 |p::z,q::kvs,h,d=>by
  simp only[cV,rK]at h;obtain⟨x,r,e,g,f⟩:=d.nP;simp only[cV,rK]at e;obtain⟨c,b⟩:=e;have ih:=Vc (k:=k) U h.2 (b ▸ f);simp only[cV];refine .cons ?_ ih;rw[h.1];split
  ·exact U
  ·rw[c];exact g
theorem al9{k:Key}{v:V}{a:A}{j:aj (Key×V)}{kvs:aj (Key×A)}(h:j.map (·.1)=kvs.map (·.1))(d:bJ K G O (j.map (·.2)) (kvs.map (·.2)))(q:Den K G O v a):bJ K G O ((putK j k v).map (·.2)) ((mH kvs k a).map (·.2)):=by
 unfold putK mH;rw[acX h];split
 ·exact Vc q h d
 ·rw[EN,EN];exact d.append (.cons q .nil)
noncomputable def lL(Z:aH):A->ar (ay×aj (Key×A))
 |.aJ k=>match Z[k]? with
  |some (.bH kvs)=>ai (k,kvs)
  |_=>ak
 |_=>ak
theorem yR{H:Hp}{Z:aH}{v:V}{a:A}{k:ay}{kvs:aj (Key×A)}(w:Wd K G O Z H)(d:Den K G O v a)(h:lL Z a=ai (k,kvs)):∃p q,v=.ref p/\O[k]?=ai p/\G p=ak/\H p=ai (.dK q)/\q.map (·.1)=kvs.map (·.1)/\bJ K G O (q.map (·.2)) (kvs.map (·.2)):=by
 cases a with
 |aJ j =>
  simp only[lL]at h;split at h
  ·rename_i es e;cases h;simp only[Den]at d;obtain⟨p,rfl,z⟩:=d;obtain⟨g,q,c,b,U⟩:=w.aJ k _ p e z;exact⟨p,q,rfl,z,g,c,b,U⟩
  ·cases h
 |_=>simp[lL]at h
theorem yS{Z:aH}{k:ay}{kvs:aj (Key×A)}(h:Z[k]?=ai (.bH kvs)):lL Z (.aJ k)=ai (k,kvs):=by simp[lL,h]
end
section
variable{X:Cx}{W:WX}{o i e:bp}{pos:cx}{fo fi fe:Ev->Mo A}
@[simp] noncomputable def vP:Ev->Mo A:=λ_ Z=>ai (.ok (.aJ Z.length),Z++[.bH []])
theorem KY:VE X W (.Dict [] [] pos) vP:=by
 refine⟨_,an2,λG q U H J z Q w r h=>?_⟩;intro p j;refine h _ _ G (q++[p]) (Ext.cell p) (w.cell j ⟨w.oN j,[],eX,rfl,.nil⟩) ?_;simp only[Den];exact⟨p,rfl,by rw[<-w.len];simp⟩
@[simp] def VN(o i:A):Mo A:=λZ=>match lL Z o,lH i with
 |some (_,kvs),ai k=>match fW kvs k with
  |some a=>ai (.ok a,Z)
  |none=>ak
 |_,_=>ak
theorem Ru(N:X.A.units+1<de)(R:VE X W o fo)(hi:VE X W i fi)(P:Nw i):VE X W (.Subscript o i pos) (aA VN fo fi):=by
 obtain⟨t,L,D⟩:=R;obtain⟨u,K,C⟩:=hi;refine⟨_,an4 N L K P,λG d f H J U Q w r h=>?_⟩;refine D G d f H J U _ w r (cA.mb h λx z v H1 G1 q m n d1 h1=>?_);refine C G1 q z H1 J U _ n (r.ext m) (cA.mb h1 λy e u H2 G2 j l b d2 h2=>?_);unfold VN at h2;split at h2
 ·rename_i k0 M k V T;split at h2
  ·rename_i a S;obtain⟨p,ws,rfl,hk,g,I,F,E⟩:=yR b (d1.ext l) V;obtain⟨c,B,s⟩:=(FI F E).1 a S;rw[GP d2 T];exact⟨p,c,rfl,by rw[<-B];exact nZ.k I,h2 c H2 G2 j (Ext.refl _ _) b s⟩
  ·exact False.elim h2
 ·exact False.elim h2
@[simp] def Jo(o i z:A):Mo A:=λZ=>match lL Z o,lH i with
 |some (_,kvs),ai k=>ai (.ok ((fW kvs k).getD z),Z)
 |_,_=>ak
def Gw(Z:aH)(a:A):Prop:=∃k kvs,lL Z a=ai (k,kvs)
open Classical in
@[simp] noncomputable def CC(fo fi fe:Ev->Mo A):Ev->Mo A:=λY=>mb (fo Y) λo Z=>if Gw Z o then mb (fi Y) (λi=>mb (fe Y) λz=>Jo o i z) Z else ak
theorem Rt{af:cx}(hu:X.A.units+1<de)(ho:VE X W o fo)(hi:VE X W i fi)(he:VE X W e fe)(m:M2 X o "get" af i e pos):VE X W (.Call (.Attribute o "get" af) [i,e] [] pos) (CC fo fi fe):=by
 obtain⟨t,p1,s1⟩:=ho;obtain⟨u,p2,s2⟩:=hi;obtain⟨u',p3,V⟩:=he;refine⟨_,an3 hu p1 p2 p3 m,λG L N H J b Q w r h=>?_⟩;refine s1 G L N H J b _ w r (cA.mb h λx l v H1 G1 d D E F h1=>?_);split at h1
 ·rename_i hd;obtain⟨k0,arW,e0⟩:=hd;obtain⟨p,P,rfl,hk,g,q1,q2,q3⟩:=yR E F e0;refine⟨p,rfl,.inl ⟨P,.inl q1⟩,?_⟩;refine s2 G1 d l H1 J b _ E (r.ext D) (cA.mb h1 λy f u H2 G2 c C R d2 h2=>?_);refine V G2 c f H2 J b _ R ((r.ext D).ext C) (cA.mb h2 λz M u3 I K q B n d3 j=>?_);unfold Jo at j;split at j
  ·rename_i k1 s k e1 e2;obtain⟨p',nC,AK,HA,g',r1,r2,r3⟩:=yR n (F.ext (C.trans B)) e1;cases AK;rw[GP (d2.ext B) e2];refine⟨kN nC k,nZ.k r1,?_⟩;obtain⟨i1,i2⟩:=FI (k:=k) r2 r3;cases U:fW s k with
   |none =>
    rw[U]at j;rw[i2 U];exact j _ I K q (Ext.refl _ _) n d3
   |some a =>
    rw[U]at j;obtain⟨v',T,S⟩:=i1 a U;rw[T];exact j _ I K q (Ext.refl _ _) n S
  ·exact False.elim j
 ·exact False.elim h1
@[simp] def SV(o i v:A)(Z:aH):ar aH:=match lL Z o,lH i with
 |some (k,kvs),ai key=>if kvs.length<az then ai (Z.set k (.bH (mH kvs key v)))else ak
 |_,_=>ak
@[simp] def xS(fe fo fi:Ev->Mo A):MS:=λY=>sM (fe Y) Y λa=>sM (fo Y) Y λo=>sM (fi Y) Y λi Z=>match SV o i a Z with
 |some Z'=>ai (.nx,Y,Z')
 |none=>ak
theorem RL{pos':cx}(hu:X.A.units+1<de)(ho:VE X W o fo)(hi:VE X W i fi)(he:VE X W e fe)(hs:df e (ai (.Subscript o i pos')) pos.line X.env=pure aq:=by rfl):VS X W (.Assign [.Subscript o i pos'] e pos) (xS fe fo fi):=by
 obtain⟨t,p1,S⟩:=ho;obtain⟨u,p2,R⟩:=hi;obtain⟨u',p3,Q⟩:=he;refine⟨_,amT hu p1 p2 p3 hs,λG F L H J d D w r h=>?_⟩;refine Q G F L H J d _ w r (gE.sM h r λz n v H1 G1 l j P d1 h1=>?_);refine S G1 l n H1 J d _ P (r.ext j) (gE.sM h1 (r.ext j) λx m vo H2 G2 f a N d2 h2=>?_);refine R G2 f m H2 J d _ N ((r.ext j).ext a) (gE.sM h2 ((r.ext j).ext a) λy I vi H3 G3 E s C d3 b=>?_);unfold SV at b;split at b
 ·rename_i K U;split at U
  ·rename_i k q key e1 e2;split at U
   ·rename_i hl;cases U;obtain⟨p,M,rfl,hk,g,V,B,T⟩:=yR C (d2.ext s) e1;rw[GP d3 e2];have MU:M.length=q.length:=by have:=c7 List.length B;simpa using this
    refine⟨p,_,rfl,RB.k V (by rw[MU];exact hl),?_⟩;exact uH (C.put (c:=.bH (mH q key z)) hk g ⟨g,_,eX,al8 B,al9 B T (d1.ext (a.trans s))⟩) (((r.ext j).ext a).ext s) b
   ·cases U
  ·cases U
 ·exact False.elim b
@[simp] def OD(neg:bh)(i o:A):Mo A:=λZ=>match lL Z o,lH i with
 |some (_,kvs),ai k=>ai (.ok (.bl (if neg then !(fW kvs k).isSome else(fW kvs k).isSome)),Z)
 |_,_=>ak
theorem aiN{K:bg}{neg:bh}{ty td:TE}(h1:fJ K (Den K) W ty fi)(h2:fJ K (Den K) W td fo):fJ K (Den K) W (if neg then Az ty td else Ba ty td) (aA (OD neg) fi fo):=by
 have key:∀G q U H J j (Q:VK),Wd K G q U H->iH K G q J j->cA K (Den K) W G q J Q (aA (OD neg) fi fo j U)->ty J H λy i=>td J i λx c=>∃a o,x=.ref a/\nZ c a y o/\Q (.bl (if neg then !o.isSome else o.isSome)) c:=by
  intro G q U H J j Q w r h;refine h1 G q U H J j _ w r (cA.mb h λy f v i X e A B T I=>?_);refine h2 X e f i J j _ B (r.ext A) (cA.mb I λx s u c V d t m S b=>?_);unfold OD at b;split at b
  ·rename_i k0 z k R P;obtain⟨p,l,rfl,hk,g,F,E,D⟩:=yR m S R;rw[GP (T.ext t) P];refine⟨p,kN l k,rfl,nZ.k F,?_⟩;have N:(kN l k).isSome=(fW z k).isSome:=by
    obtain⟨M,L⟩:=FI (k:=k) E D;cases n:fW z k with
    |none=>simp[L n]
    |some a=>obtain⟨v',C,_⟩:=M a n;simp[C]
   rw[N];exact b _ c V d (Ext.refl _ _) m (by simp only[Den])
  ·exact False.elim b
 cases neg with
 |true=>exact key
 |false=>exact key
theorem afH(a:X.A.units+1<de)(hi:VE X W i fi)(b:VE X W o fo)(h1:cw .NotIn o=aq:=by rfl):VT X W (.Compare i [.NotIn] [o] pos) (bL (aA (OD ax) fi fo)):=by
 obtain⟨t,U,q⟩:=hi;obtain⟨u,z,j⟩:=b;exact⟨_,Vl (aoG a U z) h1,LP (aiN (neg:=ax) q j)⟩
noncomputable def intKeys:aj (Key×A)->ar (aj av)
 |[]=>ai []
 |(.inl i,_)::r=>(intKeys r).map (i :: ·)
 |_=>ak
theorem Yj:∀{kvs:aj (Key×A)} {ns:aj av},intKeys kvs=ai ns->kvs.map (·.1)=ns.map Sum.inl
 |[],ns,h=>by simp only[intKeys,lO]at h;subst h;rfl
 |(.inl i,_)::r,ns,h=>by
  simp only[intKeys,EJ]at h;obtain⟨ms,h1,rfl⟩:=h;simp[Yj h1]
 |(.inr i,_)::r,ns,h=>by simp[intKeys]at h
@[simp] def Jf(c:bh)(as:aj A):Mo A:=λZ=>match as with
 | [a]=>(match lL Z a with
  | some (_,kvs)=>(match intKeys kvs with
   |some ns=>if ns.length<64 then jR c ((sortI ns).map A.int) Z else ak
   | none=>ak)
  | none=>ak)
 |_=>ak
theorem aCY(i:X.calm=ax)(c:bh):tS X W (.builtin "sorted") (Jf c):=by
 refine⟨_,aCM i,?_⟩;intro G r s H J t y Q w d h;unfold Jf at h;split at h
 ·rename_i a;split at h
  ·rename_i k U e;split at h
   ·rename_i ns m;split at h
    ·rename_i o;obtain⟨x,rfl,n⟩:=DT d;obtain⟨p,j,rfl,v,g,z,q,u⟩:=yR w n e;refine⟨p,j,ns,rfl,z,by rw[q];exact Yj m,o,λms l f b hl=>?_⟩;rw[Tv f b];exact AA w hl (OL _) h
    ·exact False.elim h
   ·exact False.elim h
  ·exact False.elim h
 ·exact False.elim h
end
section
variable{X:Cx}{W:WX}{x y:a5}{e:bp}{es:aj bp}{np kX pos GS:cx}{fs:Ev->Mo (aj A)}
@[simp] def cG(x:a5):Ev->Mo A:=λ_=>ret (.gl x)
end
end V2
namespace L2
open PySem PySem.Spec PyProof.Rows
theorem cZ.vR{k:ay}{A:br}(r:cZ k A):A.units+1<de:=by have:=r.units;omega
end L2
namespace M
open PySem V2
noncomputable section
def WJ:MS :=
 (xS (aA cJ (CC aT cC bQ) dS) aT cC)
def Lc:Ev->Mo A :=
 (mR aq 1 [1] (eW (aU (Jf aq) (aC aT a0))) (gN 0) nB (mQ (aC aI (aC (aA VN aT aI) a0))))
def EA:MS :=
 (aQ (bM vP (gN 1))
  (aQ (gB (eW aI) (hZ 2 (dF (gN 2) (dF (gN 3) iA))) WJ)
  (bV Lc)))
def JO:aj A->Mo A:=cN 4 EA
end
end M
namespace V2
open PySem PySem.Spec PyProof.Rows L2
section
variable{X:Cx}{W:WX}
theorem aCR(e:X.calm=ax):pS X (.builtin "max") (λxs H Q=>∃i j k:av,xs=[.int i,.int j,.int k]/\Q (.int (max (max i j) k)) H):=by
 intro aa s J H xs f Q I r h;obtain⟨i,j,k,rfl,q⟩:=h;cases r with
 |cons c r =>
  cases r with
  |cons b r =>
   cases r with
   |cons a r =>
    cases r;obtain⟨t1,rfl⟩:=c;obtain⟨U,rfl⟩:=b;obtain⟨z,rfl⟩:=a;refine max_three_ints (I.ok.hd e) λh' tk d=>⟨_,H,I.kept d,?_,q⟩
    by_cases h1:j>i
    ·rw[a8 h1]
     by_cases h2:k>j
     ·rw[a8 h2];exact⟨z,by congr 1;omega⟩
     ·rw[bb h2];exact⟨U,by congr 1;omega⟩
    ·rw[bb h1]
     by_cases h2:k>i
     ·rw[a8 h2];exact⟨z,by congr 1;omega⟩
     ·rw[bb h2];exact⟨t1,by congr 1;omega⟩
@[simp] def Ji(as:aj A):Mo A:=match as with
 |[.int i,.int j,.int k]=>ret (.int (max (max i j) k))
 |_=>stuck
theorem aC0(q:X.calm=ax):tS X W (.builtin "max") Ji:=by
 refine⟨_,aCR q,?_⟩;intro G z U H J a b Q w d h;unfold Ji at h;split at h
 ·rename_i i j k;simp only[bJ,Den]at d;obtain⟨_,_,rfl,rfl,_,_,rfl,rfl,_,_,rfl,rfl,rfl⟩:=d;exact⟨i,j,k,rfl,jX w (by simp only[Den]) h⟩
 ·exact False.elim h
end
end V2
namespace L2
open PySem PySem.Spec PyProof.Rows
section
variable{X:Cx}
theorem amL{elt tg iter:bp}{ifs:aj bp}{scope:b9}{pos n pos':cx}{j:aj a5}{js:aj ay}{f:TI}{g:TG}{tc:TT}{te:TE}{k:ay}{x:a5}(S:X.N.Nodup)(w:X.N[k]?=ai x)(p:Loc X.env.scope x)(Q:X.calm=ax)(L:zB X scope j js)(hi:PI X tg iter f)
  (hb:∀cl C s H fp,PG (iN X scope j js cl C s H fp) tg g/\IL (iN X scope j js cl C s H fp) ifs tc/\PE (iN X scope j js cl C s H fp) elt te)
  (Hd:df (.ListComp elt [⟨tg,iter,ifs,0⟩] scope pos) (ai (.Name x pos')) n.line X.env=pure ax)
  (K:∀x,ck iter X.env x=pure x) (P:X.fn x=ax\/X.env.scope.names.lookup x=ai .local):PS X (.Assign [.Name x pos'] (.ListComp elt [⟨tg,iter,ifs,0⟩] scope pos) n) (SK (SI j js f g tc te) (Jg k)):=by
 intro aa s J H D I h;rw[exec_Assign_Name_used _ _ _ _ Hd];refine aM (wpAny_standAt (aM ?_));show wpAny _ X.A (do let _<-comprehension (.ListComp elt [⟨tg,iter,ifs,0⟩] scope pos) scope X.env _ (newList []) aq (bz iter X.env) (ai (assign (.Name x pos') X.env))) _ _ s;refine aM (pV (Xx (use:=ai (assign (.Name x pos') X.env)) (R:=λ_ s'=>SP X aa D .next s') Q L hi hb K I h λd C H5 r F W m Hm t=>?_) (λ_ s' M=>bS (bS M)) λ_ _ e=>e);obtain⟨U,a,c,i,l,G,T⟩:=id Hm;have V:=W.pinned (fp:=[C]) (λb hb=>by rw[oX.mp hb];exact m) λb hb=>⟨U,by rw[oX.mp hb];exact i,λv z=>by rw[l]at z;cases z⟩
 refine bT (Vv (pos:=pos') S w p P _ r J H5 (.ref d) _ _ V rfl t) λ_ s8 ⟨q,H8,o,u⟩=>?_;obtain⟨y,E,_⟩:=o.pin (C,U) (tP _ (tP _ (MI (List.mem_singleton_self _) i)));exact⟨F,⟨U,a,c,y,l,G,T⟩,λh' B=>⟨q,H8,o.LB.back ⟨E,m.2⟩ B,u⟩⟩
end
end L2
namespace V2
open PySem PySem.Spec PyProof.Rows L2
theorem afJ{X:Cx}{W:WX}{elt tg iter:bp}{ifs:aj bp}{scope:b9}{pos q pos':cx}{fi:Ev->Mo Src}{g:A->MS}{c:Ev->Mo bh}{e:Ev->Mo A}{i:ay}{x:a5}(n:bh)(j:aj a5)(js:aj ay)(m:X.N.Nodup)(a:X.N[i]?=ai x)(z:Loc X.env.scope x)(l:X.calm=ax)(L:zB X scope j js)(hi:VI X W tg iter fi)
  (hb:∀cl C s H fp,VG (iN X scope j js cl C s H fp) vX tg g/\IJ (iN X scope j js cl C s H fp) vX ifs c/\VE (iN X scope j js cl C s H fp) vX elt e)
  (o:df (.ListComp elt [⟨tg,iter,ifs,0⟩] scope pos) (ai (.Name x pos')) q.line X.env=pure ax:=by rfl)
  (f:∀x,ck iter X.env x=pure x:=by intro _;rfl) (k:X.fn x=ax\/X.env.scope.names.lookup x=ai .local:=by first|exact .inl rfl|exact .inr rfl|assumption) :
  VS X W (.Assign [.Name x pos'] (.ListComp elt [⟨tg,iter,ifs,0⟩] scope pos) q) (bM (mR n j.length js fi g c e) (gN i)):=by
 obtain⟨t1,b,U⟩:=hi;exact⟨_,amL m a z l L b (λcl C s H fp=>⟨(hb cl C s H fp).1.BG,(hb cl C s H fp).2.1.BG,(hb cl C s H fp).2.2.BG⟩) o f k,Bl (Uh _ U Uj SS SS) λ_ _ _ _ _ _ _ _ _ w r d h=>uH w (r.set i d) h⟩
end V2
namespace L2
open PySem PySem.Spec PyProof.Rows
def Nv(j:aj au)(H:Hp):Prop:=∀b,H b=ak\/(∃o xs,H b=ai (.fO o (.lst xs)))\/(b∈j/\H b=ai (.jP #[]))
def xH(h:bx)(mg:a5->ar ao):Prop:=∃j o,mg "__builtins__" = ai (.ref j)/\j≠builtinsNs/\h.get? j=ai o/\o.cls=.type "module"/\o.dict=ai builtinsNs/\o.data=.plain
theorem arS{P:bf}{w:bo}{K:bg}{mg mb:a5->ar ao}{CX:qT}{k:ay}{fa a:au}{fd:cp}{x:a5}{sp:Sp}{s₁:aw}{vs:aj ao}{ns:aj av}{j:aj au}
  (KX:K.In s₁.heap) (wG:s₁.heap.Ns bc mg) (hb:s₁.heap.Ns builtinsNs mb) (E:∀x:a5,x≠"__name__"->mb x=c2 x) (S:s₁.heap.NoLimit) (hg:s₁.gens=#[])
  (hT:∀P∈j,s₁.heap.get? P=ai (tabObj #[])) (NY:noTabs K=ax) (Io:∀P∈j,isCodeTable s₁.heap P)
  (ha:s₁.heap.get? a=ai {cls:=.type "list",data:=.seq vs.toArray}) (hi:c4 vs ns) (hl:ns.length<=az) (hr:cZ k callerA)
  (I:xH s₁.heap mg) (F:∀base:bx,K.In base->base.Ns bc mg->xH base mg->iQ P w K mg base CX k fa fd [x] sp) (DF:∀(s:aw) (u:ao),BindsTo s fd ⟨[u],[]⟩ [(x,u)])
  (mI:∀H:Hp,Nv j H->(∀P∈j,H P=ai (.jP #[]))->fE K H a (ns.map V.int)->sp [.ref a] H (λv _=>v=.bl ax) λ_ _ _=>cb)
  (Iw:∀H e s',CX [] H s₁ (λ_ _ _=>cb) e s'->cb) :
  codeAny (bj P w) callerA (.call (.ref fa) ⟨[.ref a],[]⟩) (λr s'=>r=.ok (.ret (.bool ax))/\OldK s₁.heap s'.heap/\s'.os=s₁.os/\AllBare s'.gens) s₁:=by
 have rv:=RP hi;have T:=hi.length;have G:∀b∈j,K.lookup b=ak:=λb N=>by
  cases q:K.lookup b with
  |none=>rfl
  |some o =>
   have e:=KX b o q;rw[hT b N]at e;cases e;exact bu (show aq=ax from JE.mp NY (b,_) (PySem.W.mem_of_lookupK q)) Qv
 have i:a∉j:=λz=>by
  have e:=hT a z;rw[ha]at e;cases e
 have core:∀H:Hp,Nv j H->(∀P∈j,H P=ai (.jP #[]))->fE K H a (ns.map V.int)->gL P w H s₁.heap->(∀b,H b≠ak->b=a\/b∈j)->(H a≠ak->K.lookup a=ak) ->
   codeAny (bj P w) callerA (.call (.ref fa) ⟨[.ref a],[]⟩) (λr s'=>r=.ok (.ret (.bool ax))/\OldK s₁.heap s'.heap/\s'.os=s₁.os/\AllBare s'.gens) s₁:=by
  intro H hO NW hS aL M hK;have X:∀{b:au} {o:cq},s₁.heap.get? b=ai o->H b=ak->(wI s₁.heap H).get? b=ai o:=λe n=>au6 e n;have xY:∀{b:au} {o:cq} {es:bq DictEntry} {f:ay},s₁.heap.get? b=ai o->o.data=.dict es f->H b=ak:=λ{b o es f} e d=>by
   cases q:H b with
   |none=>rfl
   |some u =>
    rcases M b (by rw[q];simp)with U|U
    ·subst U;rw[ha]at e;cases e;have d':Data.seq vs.toArray _=Data.dict es f:=d;cases d'
    ·rw[hT b U]at e;cases e;have d':Data.fields #[]=Data.dict es f:=d;cases d'
  have B:∀{b:au} {m:a5->ar ao},s₁.heap.Ns b m->(wI s₁.heap H).Ns b m:=λ{b m} ⟨o,es,f,e,d,r⟩=>⟨o,es,f,X e (xY e d),d,r⟩
  have l:K.In (wI s₁.heap H):=λb o e=>X (KX b o e) (by
   cases q:H b with
   |none=>rfl
   |some u =>
    rcases M b (by rw[q];simp)with U|U
    ·subst U;rw[hK (by rw[q];simp)]at e;cases e
    ·rw[G b U]at e;cases e)
  have hM:Mod K mg (wI s₁.heap H):=⟨l,B wG,⟨mb,B hb,E⟩,let ⟨mc,h1,h2⟩:=S; ⟨mc,B h1,h2⟩⟩;have e0:zF P w K mg (wI s₁.heap H) callerA [] s₁ H:=⟨rfl,hM,λb o e=>apC e,Nat.le_of_eq (au5 _ _),trivial,λb hb=>bu (show b∈([]:aj au)from hb) (by simp),aL,.of_eq hg⟩;have L:xH (wI s₁.heap H) mg:=by
   obtain⟨A,o,b1,b2,t,R,b5,b6⟩:=I;refine⟨A,o,b1,b2,X t ?_,R,b5,b6⟩;cases q:H A with
   |none=>rfl
   |some u =>
    rcases M A (by rw[q];simp)with U|U
    ·subst U;rw[ha]at t;cases t;exact bu (show Value.type "list" = Value.type "module" from R) (by decide)
    ·rw[hT A U]at t;cases t;cases R
  refine tN ((F _ l (B wG) L).run callerA [] s₁ H ⟨[.ref a],[]⟩ [.ref a] [.ref a] _ _ hr e0 (DF s₁ (.ref a)) (.cons rfl .nil) (mI H hO NW hS)) λr s' h=>?_;cases r with
  |error e=>exact(Iw H e s' h).elim
  |ok fl =>
   cases fl with
   |next=>exact False.elim h
   |brk=>exact False.elim h
   |cont=>exact False.elim h
   |ret u =>
    obtain⟨v,H',os,bare,un,UO,r',q⟩:=h;have q':v=.bl ax:=q;subst q';obtain rfl:u=Value.bool ax:=r';have key:∀b o,s₁.heap.get? b=ai o->s'.heap.get? b=ai o\/(b∈j/\∃more,s'.heap.get? b=ai {o with data:=.fields (#[]++more)}):=λb o e=>by
     cases q:H b with
     |none=>exact .inl (un.keep b o e q (by intro z;exact bu (show b∈([]:aj au)from z) (by simp)) (by simp))
     |some u =>
      rcases hO b with z|⟨ob,xs,z⟩|⟨g,z⟩
      ·rw[q]at z;cases z
      ·have C:=un.mX b ob _ z;obtain⟨e1,_⟩:=aL b _ z;obtain⟨Q,_⟩:=UO b _ C;rw[e]at e1;cases e1;exact .inl Q
      ·obtain⟨more,C⟩:=un.nQ b _ z;have Q:=UO b _ C;have e3:s'.heap.get? b=ai {cls:=.none,data:=.fields (#[]++more)}:=Q;have p:=hT b g;rw[e]at p;cases p;exact .inr ⟨g,more,e3⟩
    refine⟨rfl,⟨λb o e=>?_,λb o e=>?_⟩,os,bare⟩
    ·rcases key b o e with z|⟨g,more,z⟩
     ·exact .inl z
     ·have p:=hT b g;rw[e]at p;cases p;exact .inr (.inl ⟨Io b g,rfl,#[],more,rfl,z⟩)
    ·rcases key b o e with z|⟨g,more,z⟩
     ·exact⟨_,z⟩
     ·exact⟨_,z⟩
 have tk:∀b∈j,jA P w (λb=>if b=a then ai (.fO {cls:=.type "list",data:=.seq vs.toArray} (.lst (ns.map V.int)))else if b∈j then ai (.jP #[])else ak) s₁.heap b (.jP #[]):=λb N=>hT b N;cases D:K.lookup a with
 |some o =>
  have e:=KX a o D;rw[ha]at e;cases e;refine core (λb=>if b∈j then ai (.jP #[])else ak) (λb=>?_) (λP y=>a8 y) (.inr ⟨_,vs.toArray,_,D,rfl,rfl,rfl,by rw[jB,T];exact hl,by simpa using rv⟩) (λb u z=>?_) (λb z=>?_) λz=>?_
  ·by_cases hb:b∈j
   ·exact .inr (.inr ⟨hb,a8 hb⟩)
   ·exact .inl (bb hb)
  ·by_cases hb:b∈j
   ·have c:=(a8 hb).symm.trans z;cases c;exact hT b hb
   ·have c:=(bb hb).symm.trans z;cases c
  ·by_cases hb:b∈j
   ·exact .inr hb
   ·exact bu (bb hb) z
  ·exact bu (bb i) z
 |none =>
  refine core (λb=>if b=a then ai (.fO {cls:=.type "list",data:=.seq vs.toArray} (.lst (ns.map V.int)))else if b∈j then ai (.jP #[])else ak) (λb=>?_) (λP y=>?_) (.inl (.inr ⟨{cls:=.type "list",data:=.seq vs.toArray},a8 rfl⟩)) (λb u z=>?_) (λb z=>?_) λ_=>D
  ·by_cases hb:b=a
   ·exact .inr (.inl ⟨_,_,a8 hb⟩)
   ·by_cases kU:b∈j
    ·exact .inr (.inr ⟨kU,(bb hb).trans (a8 kU)⟩)
    ·exact .inl ((bb hb).trans (bb kU))
  ·have gV:P≠a:=λz=>i (z ▸ y);exact(bb gV).trans (a8 y)
  ·by_cases hb:b=a
   ·have c:=(a8 hb).symm.trans z;cases c;subst hb;exact⟨ha,by rw[lB];exact hl,vs,_,rv,ha⟩
   ·by_cases kU:b∈j
    ·have c:=((bb hb).trans (a8 kU)).symm.trans z;cases c;exact hT b kU
    ·have c:=((bb hb).trans (bb kU)).symm.trans z;cases c
  ·by_cases hb:b=a
   ·exact .inl hb
   ·by_cases kU:b∈j
    ·exact .inr kU
    ·exact bu ((bb hb).trans (bb kU)) z
theorem afE{l:OpenLaw}{n k:ay}{q:bf}{loose:aj a5}{XP:(a5->ar ao)->bx->Prop}{YP:bo->bx->Prop}{d:DefRec}{K:Params->bg}{CX:bo->qT}{sp:bo->Sp}{x:a5}{j:aj au}
  (hn:l.most=ai n) (AL:n<=az) (R:d.params.defaults=[]) (hr:cZ k callerA)
  (t:∀(w:bo) (h:bx),YP w h->(K w.params).In h/\∀P∈j,h.get? P=ai (tabObj #[]))
  (N:∀w:bo,noTabs (K w.params)=ax)
  (F:∀(w:bo) (mg:a5->ar ao) (fa:au) (h:bx),(K w.params).In h->h.Ns bc mg->mg d.name=ai (.ref fa) ->
   ∃fd:cp,(∀(s:aw) (u:ao),BindsTo s fd ⟨[u],[]⟩ [(x,u)])/\(∀P∈j,∃c,codeHdIn (K w.params) c P=ax) /\
    ∀base:bx,(K w.params).In base->base.Ns bc mg->xH base mg->iQ l.prog w (K w.params) mg base (CX w) k fa fd [x] (sp w))
  (m:∀(w:bo) (H:Hp) (a:au) (ns:aj av),ns.length<=n->Nv j H->(∀P∈j,H P=ai (.jP #[]))->fE (K w.params) H a (ns.map V.int)->sp w [.ref a] H (λv _=>v=.bl ax) λ_ _ _=>cb)
  (X:∀(w:bo) (H:Hp) (s:aw) (e:ao) (s':aw),CX w [] H s (λ_ _ _=>cb) e s'->cb) :
  PySem.W.WalkO q loose XP YP l.row.toRowW d [] (λf vs=>PySem.call f vs):=by
 refine Att.aDG hn R λw s₀ s₁ mg mb fa o pm cd doc a vs ns G ρ ho hd iW S Hj hints hlen p=>?_;obtain⟨z,hT⟩:=t w _ ρ;obtain⟨fd,hb,Io,A⟩:=F w mg fa _ z G.T.g S;refine arS z G.T.g G.T.b G.T.builtins G.T.nolimit p hT (N w) (λP U=>?_) Hj hints (oW hlen AL) hr (let ⟨B,i,M,L,I,E,D,C⟩:=G.T.bmain; ⟨B,i,M,L,I,E,D,C⟩) A hb (λH y Q hS=>m w H a ns hlen y Q hS) λH e s'=>X w H s₁ e s';obtain⟨c,r⟩:=Io P U;exact((PySem.W.codeHd_of_K z r).tab (hT P U)).isCodeTable
structure xA(h:bx)(H:Hp)(f:au)(qual:a5)(params:cz)(body:bp)(scope:b9)(dX:aj (a5×av)):Prop where
 ex:∃(cl:aj (a5×au)) (pm gZ:ao) (c':au) (oc:cq) (vs:bq ao) (t:Tok),
  H f=ai (.fO (kla_obj "<lambda>" qual params body scope cl pm c' gZ) (.own 0))/\H c'=ai (.fO oc (.own 0))/\oc.data=.fields vs/\vs[1]?=ai (.str qual t) /\
  (∀x y c,cl.lookup x=ai c->cl.lookup y=ai c->x=y)/\(∀y∈scope.names,y.2=.free->∃c,cl.lookup y.1=ai c) /\
  (∀x c,cl.lookup x=ai c->(∃v,h.IsCell c v)/\H c=ak)/\∀p∈dX,∃c t,cl.lookup p.1=ai c/\h.IsCell c (ai (.int p.2 t))
theorem xA.oF{h h':bx}{H H':Hp}{f:au}{qual:a5}{params:cz}{body:bp}{scope:b9}{dX:aj (a5×av)}{fs:aj au}(L:xA h H f qual params body scope dX)(u:Un fs [] H H' h h'):xA h' H' f qual params body scope dX:=by
 obtain⟨cl,pm,s,w,d,a,t,h1,h2,r,m,l,k,U,i⟩:=L.ex;have cell:∀{x c v},cl.lookup x=ai c->h.IsCell c v->h'.IsCell c v:=λ{x c v} e ⟨o,z,hd⟩=>by
  obtain⟨sl,q⟩:=u.any z (U x c e).2 (by simp);exact⟨_,q,hd⟩
 refine⟨cl,pm,s,w,d,a,t,u.mX _ _ _ h1,u.mX _ _ _ h2,r,m,l,k,λx c e=>?_,λp g=>?_⟩
 ·obtain⟨⟨v,j⟩,n⟩:=U x c e;obtain⟨o,z,_⟩:=id j;exact⟨⟨v,cell e j⟩,u.free _ _ z n (by simp)⟩
 ·obtain⟨c,b,e,j⟩:=i p g;exact⟨c,b,e,cell e j⟩
noncomputable def BC(P:bf)(w:bo)(K:bg)(mg:a5->ar ao)(base:bx)(N:aj a5)(qual:a5)(scope:b9)(f:au)(j:ao)(cl:aj (a5×au))(A:br)(outer:aj Env)(s:aw)(H:Hp):Cx where
 prog:=P
 w:=w
 K:=K
 mg:=mg
 base:=base
 A:=A.deeper (envX qual scope s.heap.objs.size f j cl)
 N:=N
 s₀:=s
 H₀:=H
 env:=envX qual scope s.heap.objs.size f j cl
 outer:=outer
 stack:=envX qual scope s.heap.objs.size f j cl::outer
 ex:=[]
 calm:=ax
 fn:=λ_=>aq
 pn:=[]
 xe:=λ_ _=>cb
structure JF(scope:b9)(y:a5)(cs:aj a5):Prop where
 kind:scope.kind=.function
 co:scope.isCoroutine=aq
 gen:scope.isGenerator=aq
 Ww:∀x∈scope.names,x.2≠.cell
 par:scope.names.lookup y=ai .local
 WD:∀x∈cs,scope.names.lookup x=ai .free
section
variable{P:bf}{w:bo}{K:bg}{mg:a5->ar ao}{base:bx}{A:br}{outer:aj Env}{s:aw}{H:Hp}
theorem arU{f:au}{qual:a5}{params:cz}{body:bp}{scope:b9}{dX:aj (a5×av)}{y:a5}{u:ao}{v:V}{Q:VK}{E:XK}{k:ay}
  (hr:cZ (k+1) A) (j:zF P w K mg base A outer s H) (L:xA s.heap H f qual params body scope dX) (S:JF scope y (dX.map (·.1)))
  (DF:∀cl B c' F,c3 (kla_fn "<lambda>" qual params body scope cl B (.ref c') F) ⟨[u],[]⟩=pure [(y,u)]) (rv:RelV v u)
  (hb:∀cd cl,∃te,PE (BC P w K mg base (y::dX.map (·.1)) qual scope f cd cl A outer s H) body te/\te (ai v::dX.map λp=>ai (.int p.2)) H Q) :
  codeAny (bj P w) A (.call (.ref f) ⟨[u],[]⟩) (CR BU outer P w H s Q E) s:=by
 obtain⟨cl,B,F,c',N,vs,t,h1,h2,h3,h4,h5,h6,R,h8⟩:=L.ex;have of:s.heap.get? f=ai (kla_obj "<lambda>" qual params body scope cl B c' F):=(j.aL f _ h1).1;have C:s.heap.get? c'=ai N:=(j.aL c' _ h2).1;have lim:s.heap.NoLimit:=j.mod.nolimit.keeps λb o e=>(j.bs b o e).1;refine PySem.W.kla_callFunE (by have:=hr.dp;omega) of rfl S.co S.gen rfl ⟨c',N,vs,t,rfl,C,h3,h4⟩ ?_;rw[DF];refine bS (wpAny_newFunctionEnv S.Ww (λx U=>by rw[oX.mp U];exact S.par) (λa X nG=>?_) S.kind);have h:∀b o,s.heap.get? b=ai o->a.get? b=ai o:=λb o e=>nG.extBut b o (iB (eY e)) (eN _ e);refine⟨lim.keeps h,?_⟩;show codeAny _ _ (.expr body (envX qual scope s.heap.objs.size f (.ref c') cl)) _ _;obtain⟨te,pe,hq⟩:=hb (.ref c') cl;have n:∀b:au,b∉(BC P w K mg base (y::dX.map (·.1)) qual scope f (.ref c') cl A outer s H).ex:=λb z=>bu (show b∈([]:aj au)from z) (by simp);have I:Inv (BC P w K mg base (y::dX.map (·.1)) qual scope f (.ref c') cl A outer s H) [] (ai v::dX.map λp=>ai (.int p.2)) H {s with heap:=a,toks:=s.toks+1}:=by
  refine⟨⟨j.mod,S.kind,rfl,rfl,vA _,h5,λx U=>?_,λx c z=>(by cases z),λ_=>hr.hd,Around.frames_deeper j.frames,.inr ⟨rfl,rfl⟩,λb z=>bu z (n b),j.bs,j.rD,λb _ _=>n b,λb z=>bu z (n b),j.pN,j.uT⟩,
   rfl,j.bare,Un.kept h,⟨_,X,λi x g T m e3=>?_⟩,λx c e=>?_,j.aL.fresh dD,λx c e=>(R x c e).2,λp l=>bu (show p∈([]:aj (au×cq))from l) (by simp),j.aL.kept h,?_⟩
  ·have U:scope.names.lookup x=ai .cell\/scope.names.lookup x=ai .free:=U
   rcases U with U|U
   ·exact bu rfl (S.Ww _ (PySem.mem_of_lookup U))
   ·exact h6 _ (PySem.mem_of_lookup U) rfl
  ·cases i with
   |zero =>
    have d:y=x:=by simpa[BC]using T
    have G:v=g:=by simpa using m
    subst d G;exact⟨u,rv,.inl ⟨S.par,by simp⟩⟩
   |succ i =>
    have d:(dX.map (·.1))[i]?=ai x:=by simpa[BC]using T
    rw[lC]at d;simp only[YK,lC]at m;cases q:dX[i]? with
    |none=>rw[q]at d;cases d
    |some p =>
     rw[q]at d m;have Kg:p.1=x:=kK d;have G:V.int p.2=g:=kK (kK m);subst Kg G;have l:p∈dX:=kF q;obtain⟨c,M,ec,D⟩:=h8 p l;exact⟨.int p.2 M,⟨M,rfl⟩,.inr ⟨.inr (S.WD _ (QC l)),c,ec,D.keeps h⟩⟩
  ·obtain⟨⟨g,D⟩,_⟩:=R x c e;exact⟨g,D.keeps h⟩
  ·simp[BC]
 refine PySem.W.kla_codeExpr (pV (pe [] _ _ H Q I hq) (λg s' h'=>?_) λe s' h'=>h'.elim);obtain⟨x,H',σ,r,q⟩:=h';exact⟨x,H',σ.os,σ.bare,σ.base,σ.aL,r,q⟩
end
end L2
namespace V2
open PySem PySem.Spec PyProof.Rows L2
@[simp] noncomputable def qB(m:Mo A):Mo A:=λZ=>match m Z with
 |some (.exc _,_)=>ak
 |r=>r
@[simp] def lV(fb:Ev->Mo A)(ns:aj av):A->Mo A:=λa=>qB (fb (ai a::ns.map λn=>ai (.int n)))
open Classical in
@[simp] noncomputable def Ag(i:ay)(lf:au)(g:A->Mo A)(fa:Ev->Mo A):Ev->Mo A:=λY=>match (Y[i]?).join with
 |some (.adr q)=>if q=lf then mb (fa Y) g else stuck
 |_=>stuck
def aeR(P:bf)(w:bo)(K:bg)(mg:a5->ar ao)(base:bx)(qual:a5)(body:bp)(scope:b9)(y:a5)(cs:aj a5)(fb:Ev->Mo A):Prop :=
 ∀(f:au) (j:ao) (cl:aj (a5×au)) (A:br) (outer:aj Env) (s:aw) (H:Hp),cZ 0 (A.deeper (envX qual scope s.heap.objs.size f j cl)) ->
  VE (BC P w K mg base (y::cs) qual scope f j cl A outer s H) vX body fb
section
variable{X:Cx}{W:WX}{e:bp}{fa:Ev->Mo A}{p pos:cx}
theorem afT{i:ay}{z:a5}{c:au}{qual:a5}{params:cz}{body:bp}{scope:b9}{dX:aj (a5×av)}{y:a5}{fb:Ev->Mo A}
  (hex:X.ex=[]) (L0:xA X.s₀.heap X.H₀ c qual params body scope dX) (S:JF scope y (dX.map (·.1))) (hr:cZ 1 X.A)
  (DF:∀(u:ao) cl pm c' gZ,c3 (kla_fn "<lambda>" qual params body scope cl pm (.ref c') gZ) ⟨[u],[]⟩=pure [(y,u)])
  (hV:aeR X.prog X.w X.K X.mg X.base qual body scope y (dX.map (·.1)) fb)
  (hN:X.N[i]?=ai z) (hv:PQ X.env.scope z) (he:VE X W e fa) (hd:(z==("__debug__" : a5))=aq:=by decide) (iW:(z==("__classdict__" : a5))=aq:=by decide)
  (iU:ba [e] X.env=[(aq,bz e X.env)]:=by rfl) :
  VE X W (.Call (.Name z p) [e] [] pos) (Ag i c (lV fb (dX.map (·.2))) fa):=by
 obtain⟨t,p1,L⟩:=he;refine⟨λJ H Q=>J[i]?=ai (ai (.ref c))/\t J H λv g=>∀(f:au) (o:ao) (cl:aj (a5×au)) (A:br) (outer:aj Env) (s:aw),cZ 0 (A.deeper (envX qual scope s.heap.objs.size f o cl)) ->
   ∃C,PE (BC X.prog X.w X.K X.mg X.base (y::dX.map (·.1)) qual scope f o cl A outer s g) body C/\C (ai v::dX.map λp=>ai (.int p.2)) g Q,?_,?_⟩
 ·intro aa s J H Q I ⟨M,ht⟩;refine tV (bT (Eu hN hv hd iW aa s J H (λv g=>v=.ref c/\g=H) I ⟨_,M,rfl,rfl⟩) λfv s0 ⟨v0,H0,I0,r0,e0,e1⟩=>?_);subst e0 e1;cases r0;have fnAt:∀{aa:aj (au×cq)} {J:L2.St} {H:Hp} {s:aw},Inv X aa J H s->xA s.heap H c qual params body scope dX/\PySem.W.FnAt c s.heap:=λ{aa J H s} σ=>by
   have u:=σ.base;rw[hex]at u;have La:=L0.oF u;obtain⟨cl,pm,gZ,c',oc,vs,t,h1,_⟩:=La.ex;exact⟨La,⟨_,_,_,_,(σ.aL _ _ h1).1⟩⟩
  refine PySem.W.callWith_F (fnAt I0).2 ?_ iU rfl;rw[iU];refine KL (bT (p1 aa s0 J H0 _ I0 ht) λu L ⟨v,g,D,r1,q1⟩=>?_);refine RC ⟨(fnAt D).2,?_⟩;refine BY (tN (arU (E:=λ_ _ _=>cb) (k:=0) hr D.DR (fnAt D).1 S (DF u) r1 λo cl=>q1 c o cl X.A X.stack L (hr.deeper _)) λr s' U=>?_);cases r with
  |error ev=>exact False.elim U
  |ok fl =>
   cases fl with
   |ret u=>exact D.after U
   |next=>exact False.elim U
   |brk=>exact False.elim U
   |cont=>exact False.elim U
 ·intro G O Z H J T Q w r h;simp only[Ag]at h;cases q:(T[i]?).join with
  |none=>rw[q]at h;exact False.elim h
  |some d =>
   rw[q]at h;cases d with
   |adr q0 =>
    simp only at h
    by_cases U:q0=c
    ·rw[a8 U]at h;subst U;obtain⟨v,P,Yx⟩:=r.2 i _ (join_some q);simp only[Den]at Yx;subst Yx;refine⟨P,L G O Z H J T _ w r (cA.mb h λa l v g G1 B x1 w1 d1 h1=>?_)⟩;intro f o cl A outer s R;obtain⟨C,pe,sm⟩:=hV f o cl A outer s g R;refine⟨C,pe,sm G1 B l g _ (ai a::(dX.map (·.2)).map λn=>ai (.int n)) Q w1 ?_ ?_⟩
     ·refine⟨by simp,λj d m=>?_⟩;cases j with
      |zero=>simp at m;subst m;exact⟨v,rfl,d1⟩
      |succ j =>
       simp only[YK,lC]at m ⊢;cases V:dX[j]? with
       |none=>rw[V]at m;cases m
       |some pp =>
        rw[V]at m;have:V2.A.int pp.2=d:=kK (kK m);subst this;exact⟨.int pp.2,rfl,by simp only[Den]⟩
     ·have h2:cA X.K (Den X.K) W G1 B J Q (qB (fb (ai a::(dX.map (·.2)).map λn=>ai (.int n))) l):=h1
      revert h2
      simp only[qB];generalize fb (ai a::(dX.map (·.2)).map λn=>ai (.int n)) l=r2;intro h2
      match r2,h2 with
      |some (.ok b,F),h2=>exact h2
      |some (.exc x,F),h2=>exact False.elim h2
      |none,h2=>exact h2
    ·rw[bb U]at h;exact False.elim h
   |_=>exact False.elim h
end
end V2
namespace L2
open PySem PySem.Spec PyProof.Rows
def Qu(X:Cx)(scope:b9)(cl:aj (a5×au)):Prop:=(∀x c,cl.lookup x=ai c->X.env.cells.lookup x=ai c)/\∀y∈scope.names,y.2=.free->∃c,cl.lookup y.1=ai c
abbrev CV(qual:a5)(params:cz)(body:bp)(scope:b9)(cl:aj (a5×au))(j:ao)(c':au)(q:ao):HO:=.fO (kla_obj "<lambda>" qual params body scope cl j c' q) (.own 0)
def Ay(X:Cx)(P:au)(qual:a5)(params:cz)(body:bp)(scope:b9)(eI:cx):TE:=λ_ H Q=>∃ps,H P=ai (.jP ps)/\TriplesOk ps.toList /\
 ((codeAmong eI ps.toList=ak/\∀cl,Qu X scope cl->∀f c' j vs t q z,H f=ak->H c'=ak->c'≠f->j.data=.fields vs->vs[1]?=ai (.str qual t) ->
   Q (.ref f) (upd (upd (upd H c' (.fO j (.own 0))) P (.jP (ps ++ #[b7 eI.line,b7 eI.col,.ref c']))) f (CV qual params body scope cl q c' z))) \/
(∃c',codeAmong eI ps.toList=ai (.ref c')/\∀cl,Qu X scope cl->∀f pm gZ,H f=ak->Q (.ref f) (upd H f (CV qual params body scope cl pm c' gZ))))
section
variable{X:Cx}
theorem anW{params:cz}{body:bp}{scope:b9}{eI:cx}{c P:au}{qual:a5}(HI:X.env.code=.ref c)(hq:X.env.qual ++ "<lambda>" = qual)(OB:codeHdIn X.K c P=ax)(hB:xH X.base X.mg)
  (NQ:defaultsOf params X.env=([],[])) (HC:∀y∈scope.names,y.2=.free->X.env.kindOf y.1=ai .cell\/X.env.kindOf y.1=ai .free):PE X (.Lambda params body scope eI) (Ay X P qual params body scope eI):=by
 intro aa s J H Q I h;obtain⟨k,U,R,h⟩:=h;obtain⟨cl,gW,M,N⟩:=abY (scope:=scope) (env:=X.env) λy hy hf=>I.ok.has y.1 (HC y hy hf);have m:s.heap.get? P=ai (tabObj k):=I.aL P _ U;have C:PySem.W.CodeHd s.heap c P:=PySem.W.codeHd_of_K I.gG OB;have S:s.heap.Ns bc X.mg:=I.mod.glob.keeps I.bk;obtain⟨og,es,ep,eg,dg,rg⟩:=id I.mod.glob;have B:bc≠P:=λq=>by
  have:=(I.bs _ _ eg).2;rw[q,U]at this;cases this
 obtain⟨E,ob,b1,b2,A,b4,b5,F⟩:=hB;have D:E≠P:=λq=>by
  have:=(I.bs _ _ A).2;rw[q,U]at this;cases this
 have Ik:E≠bc:=λq=>by
  rw[q,eg]at A;cases A;rw[dg]at F;cases F
 have hb:s.heap.BuiltinsAt X.mg P:=⟨E,ob,b1,b2,Ik,D,I.bk _ _ A,b4,b5,F⟩;refine PySem.W.kla_eval NQ ?_;rw[hq]
 rcases h with⟨hn,h⟩|⟨j,hn,h⟩
 ·refine PySem.W.kla_makeFunction (mg:=X.mg) gW I.ok.glob S HI C m R hn B hb λj p h' tk x DC fF G Zb=>?_;obtain⟨T,i,vs,t,e2,NA,hd,hv⟩:=G;cases e2;have g:H j=ak:=I.aL.fresh DC;have Ij:j≠P:=λq=>by rw[q,U]at g;cases g
  have ne:∀b o,s.heap.get? b=ai o->b≠j:=λb o e z=>by
   have:=eY e;rw[z]at this;exact bu (nA this DC) (Nat.lt_irrefl _)
  have at':∀b,b≠P->b≠j->upd (upd H j (.fO i (.own 0))) P (.jP (k ++ #[b7 eI.line,b7 eI.col,.ref j])) b=H b:=λb h1 h2=>by rw[cD h1,cD h2]
  have un:Un (jJ X.stack) [] H (upd (upd H j (.fO i (.own 0))) P (.jP (k ++ #[b7 eI.line,b7 eI.col,.ref j]))) s.heap h':=by
   refine⟨λb o e n _ _=>x b o (λz=>by rw[z,U]at n;cases n) e,λb o e n _ _=>⟨o.slots,x b o (λz=>by rw[z,U]at n;cases n) e⟩,λb o e n _=>?_,λb o e _=>?_,λb xs e=>?_,λb o u e=>?_,λb qs e=>?_⟩
   ·rw[at' b (λz=>by rw[z,U]at n;cases n) (ne b o e)];exact n
   ·by_cases f:b=P
    ·subst f;exact⟨_,Zb⟩
    ·exact⟨o,x b o f e⟩
   ·rw[at' b (λz=>by rw[z,U]at e;cases e) (jD e g)];exact e
   ·rw[at' b (λz=>by rw[z,U]at e;cases e) (jD e g)];exact e
   ·by_cases f:b=P
    ·subst f;rw[U]at e;cases e;exact⟨_,eX⟩
    ·exact⟨#[],by rw[at' b f (jD e g),e];simp⟩
  have aL:gL X.prog X.w (upd (upd H j (.fO i (.own 0))) P (.jP (k ++ #[b7 eI.line,b7 eI.col,.ref j]))) h':=λb u e=>by
   by_cases f:b=P
   ·subst f;rw[eX]at e;cases e;exact Zb
   ·rw[cD f]at e
    by_cases kU:b=j
    ·subst kU;rw[eX]at e;cases e;exact⟨NA,i,NA⟩
    ·rw[cD kU]at e;refine(I.aL b u e).oF (λd v NS q=>x d v (λz=>?_) q) (λd q=>?_) (λd xs q=>?_)
     ·subst z
      rcases NS with z|z
      ·exact f z.symm
      ·rw[U]at z;cases z
     ·rw[at' d (λz=>by rw[z,U]at q;cases q) (jD q g)];exact q
     ·rw[at' d (λz=>by rw[z,U]at q;cases q) (jD q g)];exact q
  have I1:Inv X aa J (upd (upd H j (.fO i (.own 0))) P (.jP (k ++ #[b7 eI.line,b7 eI.col,.ref j]))) {s with heap:=h',toks:=tk}:=I.HW (s':={s with heap:=h',toks:=tk}) (ch:=[]) rfl un aL I.bare λb z=>bu z (by simp);have r:upd (upd H j (.fO i (.own 0))) P (.jP (k ++ #[b7 eI.line,b7 eI.col,.ref j])) h'.objs.size=ak:=I1.aL.fresh dD;have Hz:h'.objs.size≠P:=λz=>by rw[z,eX]at r;cases r
  have V:h'.objs.size≠j:=IP fF;have L:H h'.objs.size=ak:=by rw[at' _ Hz V]at r;exact r
  refine⟨.ref h'.objs.size,_,I1.laid (t':=tk) (a:=h'.objs.size) (o:=CV qual params body scope cl ((X.mg "__name__").getD .none) j p) (λb o e=>eN _ e) dD ⟨hU _ rfl,_,hU _ rfl⟩,rfl,?_⟩;exact h cl ⟨M,N⟩ _ j i vs t _ p L g V.symm hd hv
 ·refine PySem.W.kla_makeFunctionHit (mg:=X.mg) gW I.ok.glob S HI C m R hn hb λp h' tk hk l=>?_;have L:H h'.objs.size=ak:=I.aL.fresh l;exact⟨.ref h'.objs.size,_,I.laid (t':=tk) (a:=h'.objs.size) (o:=CV qual params body scope cl ((X.mg "__name__").getD .none) j p) (λb o e=>eN _ (hk b o e)) l ⟨hU _ rfl,_,hU _ rfl⟩,rfl,h cl ⟨M,N⟩ _ _ p L⟩
end
theorem ayN{CX:qT}{P:bf}{w:bo}{K:bg}{mg:a5->ar ao}{base:bx}{k:ay}{f:au}{name qual:a5}{params:cz}{body:aj bt}{scope:b9}{h kV doc g z ct m:ao}{i od:ar au}
  {D:bq (ar ao)} {N ps:aj a5} (p:K.lookup f=ai ⟨m,od,.func (dw name qual params body scope h kV doc g i z ct),D⟩) (C:codeIn K z qual=ax) (S:cM N ps scope)
  {A:br} {outer:aj Env} {s:aw} {H:Hp} {args:Args} {us:aj ao} {vs:aj V} {Q:VK} {E:XK} (hr:cZ (k+1) A) (a:zF P w K mg base A outer s H) (hb:BindsTo s (dw name qual params body scope h kV doc g i z ct) args (ps.zip us)) (r:Vals vs us) (hl:vs.length=ps.length)
  (B:cZ k (A.deeper (cv qual scope s.heap.objs.size f z))->∃t,sI (tM CX P w K mg base N qual scope f z A outer s H E) body t/\t {nx:=λ_ H'=>Q .dE H',rt:=Q} (start N vs) H) :
  codeAny (bj P w) A (.call (.ref f) args) (CR CX outer P w H s Q E) s:=by
 have l:K.In s.heap:=a.mod.tG.keeps λb o e=>(a.bs b o e).1;have lim:s.heap.NoLimit:=a.mod.nolimit.keeps λb o e=>(a.bs b o e).1;have M:∀y∈ps.zip us,scope.names.lookup y.1=ai .local\/(scope.names.lookup y.1=ai .cell/\((cellsFrom (s.heap.objs.size+1) scope.names []).lookup y.1).isSome=ax):=λ⟨n,v⟩ F=>by
  rcases S.par n (Om F).1 with q|q
  ·exact .inl q
  ·exact .inr ⟨q,cellsFrom_some _ _ _ (.inl q)⟩
 refine codeAny_call_function hr.depth (l _ _ p) rfl S.co S.gen rfl (PySem.W.codeRec_of l C) (hb _ _ _ _ ?_);refine wpAny_newFunctionEnv_cells S.kind M λenv he d x=>?_;subst he;refine⟨lim.keeps x.toInCall.keep,codeAny_func ?_⟩;obtain⟨t,G,L⟩:=B (hr.deeper _);have I:Inv (tM CX P w K mg base N qual scope f z A outer s H E) [] (start N vs) H d:=Yi S hr.hd a hl r x;refine pV (G [] d (start N vs) H _ I L) (λfl s' U=>?_) λe s' U=>U;have fin:∀{j:St} {H':Hp} {v:V} {u:ao},Inv (tM CX P w K mg base N qual scope f z A outer s H E) [] j H' s'->RelV v u->Q v H'->CE outer P w H s Q u s' :=
  λ{j H' v u} σ c q=>⟨v,H',σ.os,σ.bare,σ.base,σ.aL,c,q⟩
 cases fl with
 |ret u =>
  obtain⟨v,j,H',σ,c,q⟩:=U;exact fin σ c q
 |next =>
  obtain⟨j,H',σ,q⟩:=U;exact fin (v:=V.dE) (u:=Value.none) σ rfl q
 |brk =>
  obtain⟨_,_,_,q⟩:=U;exact False.elim q
 |cont =>
  obtain⟨_,_,_,q⟩:=U;exact False.elim q
end L2
namespace V2
open PySem PySem.Spec PyProof.Rows L2
structure EG(K:bg)(mg:a5->ar ao)(base:bx)(x:a5):Prop where
 tG:K.In base
 glob:base.Ns bc mg
 blt:xH base mg
 hd:∃c P,tabIn K x=ai (c,P)/\codeHdIn K c P=ax
section
variable{P:bf}{w:bo}{K:bg}{mg:a5->ar ao}{base:bx}
theorem bW.ofT{x:a5}{st:bt}{N ps:aj a5}{k:ay}{b:MS}(h:HasFn K mg x st)(T:EG K mg base x)(S:cM N ps (bC st))
  (bind:∀(kV doc pm:ao) (an:ar au) (g ct:ao) (us:aj ao),us.length=ps.length->c3 (dw x x (iZ st) (fI st) (bC st) .none kV doc pm an g ct) ⟨us,[]⟩=pure (ps.zip us))
  (o:∀(c i:au),tabIn K x=ai (c,i)->codeHdIn K c i=ax->∀(f:au) (A:br) (outer:aj Env) (s:aw) (H:Hp) (E:XK),cZ k (A.deeper (cv x (bC st) s.heap.objs.size f (.ref c))) ->
   kZ (nX P w K mg base N x (bC st) f (.ref c) A outer s H E) (λ_=>E) (fI st) b):bW P w K mg base x (k+1) ps (cN N.length b):=by
 obtain⟨f,fd,hm,F⟩:=h.ex;obtain⟨c,i,l,hh⟩:=T.hd;have j:∃U z kV doc pm an ct d,fd=dw x x (iZ st) (fI st) (bC st) .none kV doc pm an (.ref c) ct/\K.lookup f=ai ⟨U,z,.func (dw x x (iZ st) (fI st) (bC st) .none kV doc pm an (.ref c) ct),d⟩/\codeIn K (.ref c) x=ax:=by
  obtain⟨U,z,kV,doc,pm,an,g,ct,d,rfl,a,j⟩:=F.ex;have e:(dw x x (iZ st) (fI st) (bC st) .none kV doc pm an g ct).code=.ref c:=PySem.W.law_code T.tG T.glob l hm (T.tG _ _ a) rfl;have r:g=.ref c:=e;subst r;exact⟨U,z,kV,doc,pm,an,ct,d,rfl,a,j⟩
 have FB:=F.binds bind;obtain⟨U,z,kV,doc,pm,an,ct,d,rfl,a,j⟩:=j;refine⟨f,_,VQ a j S (λm H Q E h=>h.1) λA outer s H m Q E hr n=>?_,hm,F.kp,FB⟩;obtain⟨t,p,q⟩:=o c i l hh f A outer s H E hr;exact⟨t,ML p,OU q n⟩
end
noncomputable def wR:aj ay->Ev->ar (aj av)
 |[],_=>ai []
 |j::js,Y=>match (Y[j]?).join with
  |some (.int n)=>(wR js Y).map (n :: ·)
  |_=>ak
open Classical in
noncomputable def sU(k:ay)(x:a5)(eI:cx)(qual:a5)(js:aj ay)(R:aj av->A->Mo A)(fa:Ev->Mo A):Ev->Mo A:=λY=>mb (fa Y) λa Z=>if Z[k]?=ai (.tab x eI qual)then(match wR js Y with
 |some ns=>qB (R ns a) Z
 | none=>ak)else ak
theorem acA{K:bg}{G:Hp}{O:aj au}{J:L2.St}{Y:Ev}(r:iH K G O J Y)(N:aj a5):∀{js:aj ay} {cs:aj a5} {ns:aj av},js.map (λj=>N[j]?)=cs.map ai->wR js Y=ai ns ->
  ∃dX:aj (a5×av),dX.map (·.1)=cs/\dX.map (·.2)=ns/\∀p∈dX,∃j:ay,N[j]?=ai p.1/\J[j]?=ai (ai (V.int p.2))
 |[],[],ns,_,h=>by
  simp only[wR]at h;cases h;exact⟨[],rfl,rfl,λp a=>by simp at a⟩
 |[],_::_,_,e,_=>by simp at e
 |_::_,[],_,e,_=>by simp at e
 |j::js,c::cs,ns,e,h=>by
  simp only[cV,rK]at e;simp only[wR]at h;cases q:(Y[j]?).join with
  |none=>rw[q]at h;cases h
  |some d =>
   rw[q]at h;cases d with
   |int n =>
    simp only at h;cases U:wR js Y with
    |none=>rw[U]at h;cases h
    |some ms =>
     rw[U]at h;cases h;obtain⟨dX,g,f,b⟩:=acA r N e.2 U;obtain⟨v,hv,hd⟩:=r.2 j _ (join_some q);simp only[Den]at hd;subst hd;refine⟨(c,n)::dX,by simp[g],by simp[f],λp a=>?_⟩
     rcases eK.mp a with z|z
     ·subst z;exact⟨j,e.1,hv⟩
     ·exact b p z
   |_=>cases h
section
variable{X:Cx}{W:WX}{e:bp}{fa:Ev->Mo A}{p pos:cx}
theorem ahB{ps:bq ao}{eI:cx}{c':au}(q:TriplesOk ps.toList)(hn:codeAmong eI ps.toList=ak) :
  TriplesOk (ps ++ #[b7 eI.line,b7 eI.col,.ref c']).toList/\codeAmong eI (ps ++ #[b7 eI.line,b7 eI.col,.ref c']).toList=ai (.ref c'):=by
 have e:(ps ++ #[b7 eI.line,b7 eI.col,Value.ref c']).toList=ps.toList++[b7 eI.line,b7 eI.col,.ref c']:=by simp
 rw[e];generalize ps.toList=l at q hn;constructor
 ·induction l using TriplesOk.induct with
  |case1=>exact trivial
  |case2 i t j u v ae ih =>
   simp only[TriplesOk]at q;simp only[codeAmong]at hn;split at hn
   ·cases hn
   ·exact ih q hn
  |case3 l h1 h2=>simp[TriplesOk]at q
 ·exact codeAmong_snoc l q hn
theorem afW{x z y qual:a5}{st:bt}{N ps cs:aj a5}{k kf:ay}{js:aj ay}{params:cz}{body:bp}{scope:b9}{eI:cx}{c P:au}{fb:Ev->Mo A}{bfw:au->(A->Mo A)->MS}{R:aj av->A->Mo A}
  (hT:tabIn X.K x=ai (c,P)) (OB:codeHdIn X.K c P=ax) (hB:xH X.base X.mg) (HI:X.env.code=.ref c) (T:X.env.qual ++ "<lambda>" = qual) (NQ:defaultsOf params X.env=([],[]))
  (S:JF scope y cs) (HC:∀y∈scope.names,y.2=.free->X.env.kindOf y.1=ai .cell\/X.env.kindOf y.1=ai .free) (VC:js.map (λj=>X.N[j]?)=cs.map ai) (DD:∀x∈cs,X.env.scope.names.lookup x=ai .cell)
  (hz:HasFn X.K X.mg z st) (MZ:ps.length=2) (SF:cM N ps (bC st))
  (bind:∀(kV doc l:ao) (an:ar au) (bI ct:ao) (us:aj ao),us.length=ps.length->c3 (dw z z (iZ st) (fI st) (bC st) .none kV doc l an bI ct) ⟨us,[]⟩=pure (ps.zip us))
  (jS:∀(U:au) (dX:aj (a5×av)),dX.map (·.1)=cs->∀(f:au) (bI:ao) (A:br) (outer:aj Env) (s:aw) (H:Hp) (E:XK),cZ kf (A.deeper (cv z (bC st) s.heap.objs.size f bI))->xA s.heap H U qual params body scope dX ->
   kZ (nX X.prog X.w X.K X.mg X.base N z (bC st) f bI A outer s H E) (λ_=>E) (fI st) (bfw U (lV fb (dX.map (·.2)))))
  (hR:∀U ns a Z r,qB (R ns a) Z=ai r->cN N.length (bfw U (lV fb ns)) [a,.adr U] Z=ai r)
  (hr:cZ (kf+1) X.A) (hg:Gl X z) (he:VE X W e fa) (hX:(z==("__debug__" : a5))=aq:=by decide)
  (iU:ba [e,.Lambda params body scope eI] X.env=[(aq,bz e X.env),(aq,bz (.Lambda params body scope eI) X.env)]:=by rfl)
  (GR:ba [.Lambda params body scope eI] X.env=[(aq,bz (.Lambda params body scope eI) X.env)]:=by rfl) :
  VE X W (.Call (.Name z p) [e,.Lambda params body scope eI] [] pos) (sU k x eI qual js R fa):=by
 obtain⟨t1,p1,s1⟩:=he;have PAa:PA X [e,.Lambda params body scope eI] (LH t1 (LH (Ay X P qual params body scope eI) LF)) :=
  zW p1 (zW (anW HI T OB hB NQ HC) CO (by rw[GR];rfl)) (by rw[iU,GR])
 refine⟨λJ H Q=>LH t1 (LH (Ay X P qual params body scope eI) LF) J H λvs H2=>∃(L:V) (U:au) (dX:aj (a5×av)) (cl:aj (a5×au)) (l B:ao) (c':au) (i:cq) (us:bq ao) (t:Tok),vs=[L,.ref U]/\dX.map (·.1)=cs/\(∀p∈dX,∃j:ay,X.N[j]?=ai p.1/\J[j]?=ai (ai (V.int p.2))) /\
   Qu X scope cl/\H2 U=ai (CV qual params body scope cl l c' B)/\H2 c'=ai (.fO i (.own 0))/\i.data=.fields us/\us[1]?=ai (.str qual t) /\
   rP X.K ps.length (cN N.length (bfw U (lV fb (dX.map (·.2))))) [L,.ref U] H2 Q (λ_ _ _=>cb),?_,?_⟩
 ·intro aa s J H Q I h;obtain⟨f,fd,hm,F⟩:=hz.ex;refine tV (CU I hg hm ?_ hX);refine callWith_K (h₀:=X.base) I.ok.mod.tG F.kp (bT (PAa pos aa s J H _ I h) λus s1 ⟨vs,H1,C,r,q⟩=>⟨C.gG,?_⟩) (by rw[iU,GR]) (by rw[GR];rfl);obtain⟨L,U,dX,cl,l,B,c',i,ws,t,rfl,aaF,hσ,gW,hlf,wK,hd,hv,mI⟩:=q;have La:xA s1.heap H1 U qual params body scope dX:=by
   refine⟨cl,l,B,c',i,ws,t,hlf,wK,hd,hv,λx y c h1 h2=>C.ok.inj x y c (gW.1 x c h1) (gW.1 y c h2),gW.2,λx c e=>⟨C.cell x c (gW.1 x c e),C.nV x c (gW.1 x c e)⟩,λpp Zj=>?_⟩;obtain⟨j,hj1,Hv⟩:=hσ pp Zj;have DA:pp.1∈cs:=by rw[<-aaF];exact QC Zj
   obtain⟨m,hn,hl⟩:=C.loc;obtain⟨u,ru,lu⟩:=hl j pp.1 _ hj1 Hv (.inr (.inl (DD _ DA)));obtain⟨tk,rfl⟩:=ru
   rcases lu with⟨hk,_⟩|⟨_,c0,kT,ic⟩
   ·rw[show X.env.kindOf pp.1=ai .cell from DD _ DA]at hk;cases hk
   ·obtain⟨c1,jH⟩:=gW.2 _ (PySem.mem_of_lookup (S.WD _ DA)) rfl;have:=gW.1 _ _ jH;rw[kT]at this;cases this;exact⟨c0,tk,jH,ic⟩
  have gX:=F.binds bind s1 us C.gG (by rw[wZ,<-r.length];simp[MZ]);rw[wZ]at gX;have FB:=gX;obtain⟨oc2,od,kV,doc,pm2,an,bI,ct,iL,rfl,lk,iW⟩:=F.ex;refine BY (tN (ayN (CX:=oZ X.prog X.w) (E:=λ_ _ _=>cb) (Q:=Q) (k:=kf) lk iW SF hr C.DR FB r (by simp[MZ]) λhrb=>?_) λr s' T=>?_)
  ·obtain⟨tt,pp,qq⟩:=jS U dX aaF f bI X.A X.stack s1 H1 (λ_ _ _=>cb) hrb La;exact⟨tt,ML pp,OU qq mI⟩
  ·cases r with
   |error ev=>obtain⟨x,cls,dx,H',_,_,_,_,_,_,q⟩:=T;exact q.elim
   |ok fl =>
    cases fl with
    |ret u=>exact C.after T
    |next=>exact False.elim T
    |brk=>exact False.elim T
    |cont=>exact False.elim T
 ·intro G O Z H J Y Q w r h;unfold sU at h;refine s1 G O Z H J Y _ w r (cA.mb h λa d L H1 G1 n x1 D d1 h1=>?_);split at h1
  ·rename_i hk;cases Ih:wR js Y with
   |none=>rw[Ih]at h1;exact False.elim h1
   |some ns =>
    rw[Ih]at h1;simp only at h1;obtain⟨dX,jH,wJ,DE⟩:=acA r X.N VC Ih;obtain⟨aP,haP⟩:=D.addr hk;obtain⟨gP,⟨c0,Zc⟩,qs,Hh,Zi,hq3⟩:=D.aJ k _ aP hk haP;rw[hT]at Zc;cases Zc;have fin:∀(U:au) (H2 G2:Hp),Ext G1 n G2 n->Wd X.K G2 n d H2->rP X.K ps.length (cN N.length (bfw U (lV fb (dX.map (·.2))))) [L,.ref U] H2 Q (λ_ _ _=>cb):=λU H2 G2 e2 w2=>by
     refine⟨by simp[MZ],G2,n,d,[a,.adr U],w2,.cons (d1.ext e2) (.cons (by simp only[Den]) .nil),?_⟩
     revert h1
     rw[wJ];cases g:qB (R ns a) d with
     |none=>intro h1;exact False.elim h1
     |some r0 =>
      intro h1;rw[hR U ns a d r0 g]
      match r0,h1,g with
      |(.ok b,Z'),h1,_=>exact λv H' G' O' x3 w3 d3=>h1 v H' G' O' (e2.trans x3) w3 d3
      |(.exc xx,Z'),_,g =>
       exfalso;simp only[qB]at g
       revert g
       generalize R ns a d=rr;intro g
       match rr,g with
       |some (.exc _,_),g=>cases g
       |some (.ok _,_),g=>cases g
       |none,g=>cases g
    refine⟨qs,Hh,Zi,?_⟩
    rcases hq3 with hn|⟨c',i,us,t,hn,hgc,hd,hv⟩
    ·refine .inl ⟨hn,λcl gW f c' i us t l B M kT gV hd hv=>?_⟩;obtain⟨tg1,tg2⟩:=ahB (c':=c') Zi hn;have Ij:c'≠P:=λz=>by rw[z,Hh]at kT;cases kT
     have Hz:f≠P:=λz=>by rw[z,Hh]at M;cases M
     have wA:=D.new kT (.fO i (.own 0));have gPA:upd G1 c' (.fO i (.own 0)) P=ak:=by rw[cD Ij.symm];exact gP
     have wB:=wA.put (c:=.tab x eI qual) (o:=.jP (qs ++ #[b7 eI.line,b7 eI.col,.ref c'])) haP gPA ⟨gPA,⟨c,hT⟩,_,eX,tg1,.inr ⟨c',i,us,t,tg2,eX,hd,hv⟩⟩;have atW:d.set k (.tab x eI qual)=d:=by
      have hlk:=(dN.mp hk);obtain⟨rX,lI⟩:=hlk;rw[<-lI];exact List.set_getElem_self _
     rw[atW]at wB;have HF:upd (upd H1 c' (.fO i (.own 0))) P (.jP (qs ++ #[b7 eI.line,b7 eI.col,.ref c'])) f=ak:=by rw[cD Hz,cD gV.symm];exact M
     have wC:=wB.new HF (CV qual params body scope cl l c' B);refine⟨L,f,dX,cl,l,B,c',i,us,t,rfl,jH,DE,gW,eX,?_,hd,hv,fin f _ _ ?_ wC⟩
     ·rw[cD gV,cD Ij,eX]
     ·exact(Ext.new (D.oN kT) _).trans (Ext.new (wB.oN HF) _)
    ·refine .inr ⟨c',hn,λcl gW f l B M=>?_⟩;have hcH:=D.sub _ _ hgc;have wC:=D.new M (CV qual params body scope cl l c' B);exact⟨L,f,dX,cl,l,B,c',i,us,t,rfl,jH,DE,gW,eX,by rw[cD (jD hcH M)];exact hcH,hd,hv,fin f _ _ (Ext.new (D.oN M) _) wC⟩
  ·exact False.elim h1
end
structure JJ(X:Cx)(scope:b9)(y:a5)(cs:aj a5)(js:aj ay):Prop where
 S:JF scope y cs
 free:∀y∈scope.names,y.2=.free->X.env.kindOf y.1=ai .cell\/X.env.kindOf y.1=ai .free
 dX:js.map (λj=>X.N[j]?)=cs.map ai
 cell:∀x∈cs,X.env.scope.names.lookup x=ai .cell
def Pk(sc:b9)(N:aj a5)(scope:b9)(y:a5)(cs:aj a5)(js:aj ay):Prop :=
 ((scope.kind == .function)=ax/\scope.isCoroutine=aq/\scope.isGenerator=aq)/\(∀x∈scope.names,(x.2 == .cell)=aq)/\(scope.names.lookup y==ai .local)=ax/\(∀x∈cs,(scope.names.lookup x==ai .free)=ax) /\
 (∀y∈scope.names,(y.2 == .free)=ax->(sc.names.lookup y.1==ai .cell)=ax)/\js.map (λj=>N[j]?)=cs.map ai/\∀x∈cs,(sc.names.lookup x==ai .cell)=ax
instance (sc:b9) (N:aj a5) (scope:b9) (y:a5) (cs:aj a5) (js:aj ay):c9 (Pk sc N scope y cs js):=by unfold Pk;infer_instance
theorem JJ.of{X:Cx}{scope:b9}{y:a5}{cs:aj a5}{js:aj ay}(sc:b9)(N:aj a5)(h1:X.env.scope=sc)(h2:X.N=N)(h:Pk sc N scope y cs js):JJ X scope y cs js:=by
 obtain⟨⟨a1,a2,e⟩,d,c,b,a,U,z⟩:=h;refine⟨⟨by simpa using a1,a2,e,λx j=>by simpa using d x j,by simpa using c,λx j=>by simpa using b x j⟩,λy q hf => .inl ?_,by rw[h2];exact U,λx j=>by rw[h1];simpa using z x j⟩;have:=a y q (by simp[hf]);show X.env.scope.names.lookup y.1=ai .cell;rw[h1];simpa using this
theorem ZY{X:Cx}{W:WX}{e:bp}{fa:Ev->Mo A}{p pos:cx}{x z y qual:a5}{st:bt}{N ps cs:aj a5}{k kf:ay}{js:aj ay}{params:cz}{body:bp}{scope:b9}{eI:cx}{c P:au}{fb:Ev->Mo A}{bfw:au->(A->Mo A)->MS}{R:aj av->A->Mo A}
  (hT:tabIn X.K x=ai (c,P)) (o:codeHdIn X.K c P=ax) (l:xH X.base X.mg) (v:X.env.code=.ref c) (g:X.env.qual ++ "<lambda>" = qual) (t:defaultsOf params X.env=([],[]))
  (ι:JJ X scope y cs js)
  (hz:HasFn X.K X.mg z st) (u:ps.length=2) (n:cM N ps (bC st))
  (bind:∀(kV doc U:ao) (m:ar au) (q ct:ao) (us:aj ao),us.length=ps.length->c3 (dw z z (iZ st) (fI st) (bC st) .none kV doc U m q ct) ⟨us,[]⟩=pure (ps.zip us))
  (b:JF scope y cs->∀(j:au) (dX:aj (a5×av)),dX.map (·.1)=cs->∀(f:au) (q:ao) (A:br) (outer:aj Env) (s:aw) (H:Hp) (E:XK),cZ kf (A.deeper (cv z (bC st) s.heap.objs.size f q))->xA s.heap H j qual params body scope dX ->
   kZ (nX X.prog X.w X.K X.mg X.base N z (bC st) f q A outer s H E) (λ_=>E) (fI st) (bfw j (lV fb (dX.map (·.2)))))
  (hR:∀j ns a Z r,qB (R ns a) Z=ai r->cN N.length (bfw j (lV fb ns)) [a,.adr j] Z=ai r)
  (hr:cZ (kf+1) X.A) (h:Gl X z) (he:VE X W e fa) (i:(z==("__debug__" : a5))=aq:=by decide)
  (d:ba [e,.Lambda params body scope eI] X.env=[(aq,bz e X.env),(aq,bz (.Lambda params body scope eI) X.env)]:=by rfl)
  (B:ba [.Lambda params body scope eI] X.env=[(aq,bz (.Lambda params body scope eI) X.env)]:=by rfl) :
  VE X W (.Call (.Name z p) [e,.Lambda params body scope eI] [] pos) (sU k x eI qual js R fa) :=
 afW hT o l v g t ι.S ι.free ι.dX ι.cell hz u n bind (b ι.S) hR hr h he i d B
noncomputable def UZ (vs:bq ao) (c P:au):bh:=(match (vs[11]?:ar ao) with|some (.ref j) => j==P|_ => aq) &&
   (match vs.getD 18 .none with | .str _ _=>ax|_=>aq)&&(match vs.getD 7 .none with | .int _ _=>ax|_=>aq) &&
   (match vs.getD 9 .none with | .bool _=>ax|_=>aq)&&(match vs.getD 10 .none with | .int _ _=>ax|_=>aq)&&c != P
theorem Au{K:bg}{x:a5}{f tc j:au}{c kV d b ct:ao}{od e z:ar au}{sl q:bq (ar ao)}{st:bt}{vs:bq ao}(a:dz K bc x=ai (ai (.ref f)))
  (l:K.lookup f=ai ⟨c,od,.func (dw x x (iZ st) (fI st) (bC st) .none kV d b e (.ref tc) ct),sl⟩) (U:K.lookup tc=ai ⟨.type "code",z,.fields vs,q⟩) (hv:vs[11]?=ai (.ref j)) (hh:UZ vs tc j=ax) :
  tabIn K x=ai (tc,j)/\codeHdIn K tc j=ax:=by
 constructor
 ·unfold tabIn;rw[a];simp only[l,U,hv]
 ·unfold codeHdIn;rw[U];exact hh
@[elab_as_elim] theorem Si{P:aj ao->Prop}(us:aj ao)(h:us.length=0)(f:P []):P us:=by cases us with|nil=>exact f|cons _ _=>simp at h
@[elab_as_elim] theorem Al{P:aj ao->Prop}(us:aj ao)(h:us.length=1)(f:∀a,P [a]):P us:=by
 cases us with
 |nil=>simp at h
 |cons a r=>exact Si r (by simpa using h) (f a)
@[elab_as_elim] theorem tY{P:aj ao->Prop}(us:aj ao)(h:us.length=2)(f:∀a b,P [a,b]):P us:=by
 cases us with
 |nil=>simp at h
 |cons a r=>exact Al (P:=λr=>P (a::r)) r (by simpa using h) (f a)
@[elab_as_elim] theorem Ak{P:aj ao->Prop}(us:aj ao)(h:us.length=3)(f:∀a b c,P [a,b,c]):P us:=by
 cases us with
 |nil=>simp at h
 |cons a r=>exact tY (P:=λr=>P (a::r)) r (by simpa using h) (f a)
@[elab_as_elim] theorem Aj{P:aj ao->Prop}(us:aj ao)(h:us.length=4)(f:∀a b c d,P [a,b,c,d]):P us:=by
 cases us with
 |nil=>simp at h
 |cons a r=>exact Ak (P:=λr=>P (a::r)) r (by simpa using h) (f a)
@[elab_as_elim] theorem Sh{P:aj ao->Prop}(us:aj ao)(h:us.length=5)(f:∀a b c d e,P [a,b,c,d,e]):P us:=by
 cases us with
 |nil=>simp at h
 |cons a r=>exact Aj (P:=λr=>P (a::r)) r (by simpa using h) (f a)
noncomputable abbrev tF(x:a5):a5:=x ++ ".<locals>." ++ "<lambda>"
def SO(K:bg)(j:aj au):Sp:=λvs H Q _=>∃(a:au) (ns:aj av),vs=[.ref a]/\fE K H a (ns.map V.int)/\ns.length<=63/\(∀P∈j,H P=ai (.jP #[]))/\∀H',Q (.bl ax) H'
theorem ah2{K:bg}{H:Hp}{a:au}{xs:aj V}{j:aj au}(h:fE K H a xs)(hT:∀P∈j,H P=ai (.jP #[])):fE K (λb=>if b∈j then ak else H b) a xs:=by
 rcases h with(h|⟨o,h⟩)|h
 ·exact .inl (.inl (by
   have:a∉j:=λz=>by rw[hT a z]at h;cases h
   show(if a∈j then ak else H a)=_;rw[bb this];exact h))
 ·exact .inl (.inr ⟨o,by
   have:a∉j:=λz=>by rw[hT a z]at h;cases h
   show(if a∈j then ak else H a)=_;rw[bb this];exact h⟩)
 ·exact .inr h
section
variable{P:bf}{w:bo}{K:bg}{mg:a5->ar ao}{base:bx}
theorem arR{fa:au}{fd:cp}{k:ay}{F:aj A->Mo A}{U:aj au}(tl:aj (au×a5×cx×a5))(hnd:(tl.map (·.1)).Nodup)(hsub:∀t∈tl,t.1∈U)(hT:∀t∈tl,∃c,tabIn K t.2.1=ai (c,t.1))
  (h1:iQ P w K mg base (oZ P w) k fa fd ["_law_script"] (rP K 1 F)) (r:∀ns:aj av,ns.length<=63->∃Z,F [.dZ ns] (tl.map λt => .tab t.2.1 t.2.2.1 t.2.2.2)=ai (.ok (.bl ax),Z)) :
  iQ P w K mg base BU k fa fd ["_law_script"] (SO K U):=by
 refine(Kp h1).imp λu H Q E p=>?_;obtain⟨a,ns,rfl,n,hl,l,q⟩:=p;obtain⟨Z,e⟩:=r ns hl;refine⟨rfl,λb=>if b∈U then ak else H b,tl.map (·.1),tl.map (λt => .tab t.2.1 t.2.2.1 t.2.2.2),[.dZ ns],⟨λb o z=>?_,hnd,by simp,λb hb=>?_,λj c b h1 h2=>?_,λb j i x y hh=>?_⟩,.cons (by simp only[Den];exact⟨a,rfl,ah2 n l⟩) .nil,?_⟩
 ·by_cases hb:b∈U
  ·have g:(if b∈U then ak else H b)=ai o:=z;rw[a8 hb]at g;cases g
  ·have g:(if b∈U then ak else H b)=ai o:=z;rw[bb hb]at g;exact g
 ·obtain⟨t,h,rfl⟩:=fZ.mp hb;exact⟨_,l _ (hsub t h)⟩
 ·rw[lC]at h1 h2;cases f:tl[j]? with
  |none=>rw[f]at h1;cases h1
  |some t =>
   rw[f]at h1 h2;cases h1;cases h2;have h:=kF f;refine⟨a8 (hsub t h),hT t h,#[],l _ (hsub t h),trivial,.inl rfl⟩
 ·obtain⟨_,_,_,_,_,_,_,_,_,_,z,_⟩:=hh;rw[lC]at z;cases f:tl[j]? with
  |none=>rw[f]at z;cases z
  |some t=>rw[f]at z;cases z
 rw[e];intro v s B m _ _ d;simp only[Den]at d;subst d;exact q s
end
open Classical in
noncomputable def nI(g:A->Mo A)(a:A):Mo A:=λZ=>if h:∃(ds:aj A) (m:ay),fB Z a=ai ds/\m<=ds.length/\ds.length<=100000/\∀i d,ds[i]?=ai d->g d Z=ai (.ok (.bl (decide (m<=i))),Z)then ai (.ok (.int (h.choose_spec.choose:ay)),Z)else ak
theorem Jr{g:A->Mo A}{a:A}{Z:aH}{ds:aj A}{m:ay}(h1:fB Z a=ai ds)(h2:m<=ds.length)(l:ds.length<=100000)(f:∀i d,ds[i]?=ai d->g d Z=ai (.ok (.bl (decide (m<=i))),Z)):nI g a Z=ai (.ok (.int (m:av)),Z):=by
 have h:∃(ds:aj A) (m:ay),fB Z a=ai ds/\m<=ds.length/\ds.length<=100000/\∀i d,ds[i]?=ai d->g d Z=ai (.ok (.bl (decide (m<=i))),Z):=⟨ds,m,h1,h2,l,f⟩;have key:∀(U:aj A) (j:ay),fB Z a=ai U->j<=U.length->(∀i d,U[i]?=ai d->g d Z=ai (.ok (.bl (decide (j<=i))),Z))->j=m:=by
  intro U j c k b;rw[h1]at c;cases c
  rcases Nat.lt_trichotomy j m with z|z|z
  ·have hl:j<ds.length:=by omega
   have e:=f j _ (dR hl);have q:=b j _ (dR hl);rw[e]at q;simp at q;omega
  ·exact z
  ·have hl:m<ds.length:=by omega
   have e:=f m _ (dR hl);have q:=b m _ (dR hl);rw[e]at q;simp at q;omega
 unfold nI;rw[dif_pos h];obtain⟨c,k,n,b⟩:=h.choose_spec.choose_spec;rw[key _ _ c k b]
theorem ayG{g:A->Mo A}{a:A}{Z:aH}{r:Rs A×aH}(h:nI g a Z=ai r):∃(ds:aj A) (m:ay),fB Z a=ai ds/\m<=ds.length/\ds.length<=100000/\(∀i d,ds[i]?=ai d->g d Z=ai (.ok (.bl (decide (m<=i))),Z))/\r=(.ok (.int (m:av)),Z):=by
 unfold nI at h;split at h
 ·rename_i hh;cases h;obtain⟨U,z,q,j⟩:=hh.choose_spec.choose_spec;exact⟨_,_,U,z,q,j,rfl⟩
 ·cases h
end V2
namespace M
open PySem V2
noncomputable section
def PD(j:au)(g:A->Mo A):MS :=
 (aQ (bM (aA (jI) (aA cJ cC dS) eO) (gN 4))
   (dQ (bL (Ag 1 j g (aA aO aI cY)))
    (bM cY (gN 3))
    (bM (aA cJ cY bP) (gN 2))))
def EC(j:au)(g:A->Mo A):Ev->Mo bh :=
 (bL (aA kB cC dS))
def ED(j:au)(g:A->Mo A):MS :=
 (aQ (bM bQ (gN 2))
  (aQ (bM (aU fY (aC aI a0)) (gN 3))
  (aQ (λY Z=>lK (EC j g) (PD j g) ((λ_ _=>1000000) Y Z) Y Z)
  (bV cC))))
def acO:MS :=
 (bV (mQ (aC (aU AV (aC bQ (aC (aA (lJ) (aA aO aT bQ) (aA aO aI bP)) a0))) (aC (aA (lJ) (aA aO aT bP) (aA aO aI bQ)) a0))))
def QQ:aj A->Mo A:=cN 2 acO
end
end M
namespace V2
open PySem PySem.Spec PyProof.Rows L2
section
variable{K:bg}{G H:Hp}{O:aj au}{Z:aH}{d:au}
theorem Wd.neG(w:Wd K G O Z H)(hd:H d=ak){a:au}{o:HO}(h:G a=ai o):a≠d:=λz=>by
 have:=w.sub _ _ h;rw[z,hd]at this;cases this
theorem Wd.ayV(w:Wd K G O Z H)(hd:H d=ak)(o:HO):Ext G O (upd G d o) O:=⟨λa u h=>by rw[cD (w.neG hd h)];exact h,λ_ _ h=>h⟩
theorem Wd.up(w:Wd K G O Z H)(hd:H d=ak)(o:HO):Wd K (upd G d o) O Z (upd H d o):=w.new hd o
end
noncomputable def YN(K:bg)(a:au)(n:ay):It :=
 ⟨λi H=>∃xs x,fE K H a xs/\xs.length=n/\i<n/\xs[n-1-i]?=ai x,λi H x H'=>H'=H/\∀xs,fE K H a xs->xs[n-1-i]?=ai x,λi _=>n<=i⟩
theorem agK{P:bf}{w:bo}{K:bg}{tg:bp}(a j:au)(n:ay):Turn P w K tg (YN K a n) [j] j (λi h=>i<=n/\h.IsRevIter j a ((n:av)-1-(i:av)))where
 mem:=by simp
 obj:=λi h st b hb=>by
  have e:b=j:=by simpa using hb
  subst e;obtain⟨_,o,e,c,d⟩:=st;exact⟨o,e,λv z=>by rw[d]at z;cases z⟩
 keep:=λi h h' st k=>⟨st.1,st.2.at λo e=>k j (by simp) o e⟩
 item:=by
  intro X l hw m G i aa s J H E I U st g;subst l hw m;obtain⟨xs,x,F,hn,hi,D⟩:=g;obtain⟨bB,M,p,hz⟩:=I.list F;obtain⟨u,R,N⟩:=M.get D;obtain⟨B,A,S,y,t,r⟩:=U j (by simp);have C:(n:av)-1-(i:av)=((n-1-i:ay):av):=by omega
  have q:=st.2;rw[C]at q;refine wpAny_pyNext_rev_item q p.isList (x:=u) (by simpa using R) λh' f L=>?_;have W:Inv X aa J H {s with heap:=h' }:=I.turned (t':=s.toks) (λb o hb e=>(L.2 b hb).trans e) B A y t r;have V:((n-1-i:ay):av)-1=(n:av)-1-((i+1:ay):av):=by omega
  rw[V]at f;obtain⟨o,e,c,d⟩:=id f;exact⟨u,rfl,VF (s:={s with heap:=h' }) e c d (by decide) ⟨x,H,W,N,⟨rfl,λys Q=>by rw[I.Gf Q F];exact D⟩,⟨hi,f⟩,λb hb=>(U b hb).1⟩⟩
 done:=by
  intro X l hw m G i aa s J H E I U st g;subst l hw m;have hi:n<=i:=g;obtain⟨B,A,S,y,t,r⟩:=U j (by simp);have C:(n:av)-1-(i:av) = -1:=by have:=st.1;omega
  have q:=st.2;rw[C]at q;exact wpAny_pyNext_rev_end (I.ok.hd G) q λh' T=>⟨rfl,I.turned (t':=s.toks) (λb o hb e=>T b o hb e) B A y t r⟩
 self:=λ_ _ _ _ _ st h=>wpAny_pyIter_revIter st.2 h
section
variable{X:Cx}{W:WX}{pos:cx}
theorem anA{tg:bp}{p:cx}{l:bp}{tl:TE}(n:Gl X "reversed")(hm:X.mg "reversed" = ak)(hl:PE X l tl)(f:ba [l] X.env=[(aq,bz l X.env)]:=by rfl) :
  PI X tg (.Call (.Name "reversed" p) [l] [] pos) (λJ H R=>tl J H λx H1=>∃a xs,x=.ref a/\fE X.K H1 a xs/\R (YN X.K a xs.length) H1):=by
 intro aa s J H R I h;refine tV (AE I n hm boot_reversed ?_);refine PY (bT (zW hl CO f pos aa s J H (λc H1=>match c with
  |[x]=>∃a xs,x=V.ref a/\fE X.K H1 a xs/\R (YN X.K a xs.length) H1
  | _=>cb) I h) λv j ⟨c,H1,U,k,d⟩=>?_) f rfl
 match c,d with
 |[x],d =>
 obtain⟨a,xs,r,m,q⟩:=d;obtain⟨u,rfl,i⟩:=vals1 k;subst r;cases i;obtain⟨z,g,pl,w⟩:=U.list m;have hlen:=g.length;refine call_reversed_list pl.isList ?_;have t:Inv X aa J H1 {j with heap:=j.heap.push (revObj a ((z.toArray.size:av)-1))}:=U.kept (t':=j.toks) λb o e=>eN _ e;have st:(j.heap.push (revObj a ((z.toArray.size:av)-1))).IsRevIter j.heap.objs.size a ((xs.length:av)-1-((0:ay):av)):=by
  have e:((z.toArray.size:av)-1)=(xs.length:av)-1-((0:ay):av):=by rw[jB,<-hlen];simp
  rw[<-e];exact⟨_,hU _ rfl,rfl,rfl⟩
 refine wpAny_pyIter_revIter (s:={j with heap:=j.heap.push (revObj a ((z.toArray.size:av)-1))}) st ?_;refine⟨j.heap.objs.size,[j.heap.objs.size],_,_,H1,rfl,t,agK a _ xs.length,⟨BI _,st⟩,λb hb=>?_,q⟩;have e:b=j.heap.objs.size:=by simpa using hb
 subst e;exact U.uU dD (U.aL.fresh dD)
def LU(a:A)(ds:aj A):Src:=⟨ds.reverse,λZ=>eL Z a=ai ds⟩
@[simp] def Sd(f:Ev->Mo A):Ev->Mo Src:=λY=>mb (f Y) λa Z=>match eL Z a with
 |some ds=>ai (.ok (LU a ds),Z)
 |none=>ak
theorem asP{K:bg}{G:Hp}{O:aj au}{p:au}{a:A}{ds:aj A}(d:Den K G O (.ref p) a):EU K G O (YN K p ds.length) (LU a ds):=by
 have key:∀c j U f,Ext G O c j->Wd K c j U f->eL U a=ai ds->∃b,fE K f p b/\bJ K c j b ds:=λc j U f e w h=>by
  obtain⟨q,b,h1,h2,g⟩:=qY w (d.ext e) h;cases h1;exact⟨b,h2,g⟩
 refine⟨λc j U f e w h i hi=>?_,λc j U f e w h i hi=>?_,λc j U f e w h i x t y o hd=>?_⟩
 ·obtain⟨b,h2,g⟩:=key c j U f e w h;have k:i<ds.length:=by simpa[LU]using hi
  have hl:ds.length-1-i<b.length:=by rw[g.length];omega
  exact⟨b,b[ds.length-1-i],h2,g.length,k,dR hl⟩
 ·show ds.length<=i;simpa[LU]using hi
 ·obtain⟨b,h2,g⟩:=key c j U f e w h;obtain⟨s,r⟩:=hd;subst s;have l:ds.reverse[i]?=ai y:=o;have k:i<ds.length:=by have:=(dN.mp l).1;simpa using this
  rw[aeN k]at l;obtain⟨z,m,n⟩:=g.get l;rw[r b h2]at m;cases m;exact⟨c,Ext.refl _ _,w,n⟩
theorem afN{tg l:bp}{p:cx}{fe:Ev->Mo A}(k:Gl X "reversed")(hm:X.mg "reversed" = ak)(h:VE X W l fe)(i:ba [l] X.env=[(aq,bz l X.env)]:=by rfl):VI X W tg (.Call (.Name "reversed" p) [l] [] pos) (Sd fe):=by
 obtain⟨t,p,s⟩:=h;refine⟨_,anA k hm p i,λG d f H J c R w r h=>?_⟩;refine s G d f H J c _ w r (cA.mb h λa z v o u j x U b h1=>?_);cases e:eL z a with
 |none=>simp only[e]at h1;exact False.elim h1
 |some ds =>
  simp only[e]at h1;obtain⟨q,g,h2,n,m⟩:=qY U b e;subst h2;refine⟨q,g,rfl,n,?_⟩;rw[m.length];exact h1 _ o u j (Ext.refl _ _) U (asP b)
end
section
variable{X:Cx}{W:WX}{a b c d:bp}{ta tb tc td:TE}{fa fb fc fd:Ev->Mo A}{pos:cx}
def Td(r e b:R2)(ta tb tc td:TE):TE:=λJ H Q=>ta J H λx H1=>tb J H1 λy H2=>r x y H2 λz a=>∃k,z=.bl k /\
 (if k=ax then tc J a λj g=>e y j g λc U=>∃q,c=.bl q/\(if q=ax then td J U λd f=>b j d f Q else Q (.bl aq) U)else Q (.bl aq) a)
theorem an9{q j U:CmpOp}{r n f:R2}(ho:hJ X (bw q) r)(lW:hJ X (bw j) n)(NB:hJ X (bw U) f)(ha:PE X a ta)(hb:PE X b tb)(hc:PE X c tc)(hd:PE X d td)
  (hm:lastMarks [q,j,U] [b,c,d]=aq:=by with_unfolding_all rfl):PE X (.Compare a [q,j,U] [b,c,d] pos) (Td r n f ta tb tc td):=by
 intro aa s J H Q I h;refine Compare_chain (bT (ha aa s J H _ I h) λv M ⟨x,H1,I1,S,q1⟩=>chain_link (bT (hb aa M J H1 _ I1 q1) λu L ⟨y,H2,I2,m,W⟩ =>
  bT (ho aa L J H2 x y v u _ I2 S m W) λd K ⟨z,B,w,R,k,e,p⟩=>?_)) hm
 subst e;cases R;refine zI ?_;cases k with
 |false=>exact ite_ff ⟨.bl aq,B,w,rfl,p⟩
 |true =>
  refine ite_tt (chain_link (bT (hc aa K J B _ w p) λi G ⟨g,H4,I4,l,V⟩=>bT (lW aa G J H4 y g u i _ I4 m l V) λd' F zz=>?_));obtain⟨z2,A,t,P,k',e',o⟩:=zz;subst e';cases P;refine zI ?_;cases k' with
  |false=>exact ite_ff ⟨.bl aq,A,t,rfl,o⟩
  |true=>exact ite_tt (chain_last (bT (hd aa F J A _ t o) λD E ⟨C,H6,I6,N,T⟩=>NB aa E J H6 g C i D Q I6 l N T))
@[simp] def Ai(g g' e:A->A->Mo A)(d c b a:Ev->Mo A):Ev->Mo A:=λY=>mb (d Y) λx=>mb (c Y) λy=>mb (g x y) λz=>mb (HN z) λk=>if k then mb (b Y) λu=>mb (g' y u) λj=>mb (HN j) λU=>if U then mb (a Y) λq=>e u q else ret (.bl aq)else ret (.bl aq)
theorem aiO{K:bg}{r V I:R2}{g g' DO:A->A->Mo A}{t1 T S R:TE}(ho:sJ K W r g)(lW:sJ K W V g')(NB:sJ K W I DO)(h1:fJ K (Den K) W t1 fa)(h2:fJ K (Den K) W T fb)(h3:fJ K (Den K) W S fc)(h4:fJ K (Den K) W R fd):fJ K (Den K) W (Td r V I t1 T S R) (Ai g g' DO fa fb fc fd):=by
 intro G O Z H J j Q w q h;refine h1 G O Z H J j _ w q (cA.mb h λx s v H1 G1 e C w1 d1 h1=>?_);refine h2 G1 e s H1 J j _ w1 (q.ext C) (cA.mb h1 λy p u H2 G2 d B w2 d2 h2=>?_);refine ho G2 d p H2 J v u x y _ w2 (d1.ext B) d2 (cA.mb h2 λz o z' H3 G3 c t P d3 F=>?_);cases z with
 |bl k =>
  simp only[Den]at d3;refine⟨k,d3,?_⟩;cases k with
  |true =>
   refine h3 G3 c o H3 J j _ P (q.ext ((C.trans B).trans t)) (cA.mb F λm l X H4 G4 b M w4 d4 D=>?_);refine lW G4 b l H4 J u X y m _ w4 (d2.ext (t.trans M)) d4 (cA.mb D λz2 i z2' H5 G5 a L N d5 E=>?_);cases z2 with
   |bl k' =>
    simp only[Den]at d5;refine⟨k',d5,?_⟩;cases k' with
    |true=>exact h4 G5 a i H5 J j _ N (q.ext ((((C.trans B).trans t).trans M).trans L)) (cA.mb E λn f n' H6 G6 U x6 w6 d6 h6=>NB G6 U f H6 J X n' m n Q w6 (d4.ext (L.trans x6)) d6 h6)
    |false=>exact jX N (by simp only[Den]) E
   |_=>exact False.elim E
  |false=>exact jX P (by simp only[Den]) F
 |_=>exact False.elim F
theorem af1{q j e:CmpOp}{g g' f:A->A->Mo A}(y:lA X W (bw q) g)(x:lA X W (bw j) g')(C:lA X W (bw e) f)(ha:VE X W a fa)(hb:VE X W b fb)(B:VE X W c fc)(hd:VE X W d fd)
  (hm:lastMarks [q,j,e] [b,c,d]=aq:=by with_unfolding_all rfl):VE X W (.Compare a [q,j,e] [b,c,d] pos) (Ai g g' f fa fb fc fd):=by
 obtain⟨r,w,v⟩:=y;obtain⟨H,D,E⟩:=x;obtain⟨F,z,U⟩:=C;obtain⟨t,s,m⟩:=ha;obtain⟨u,p,l⟩:=hb;obtain⟨G,o,k⟩:=B;obtain⟨h,n,i⟩:=hd;exact⟨_,an9 w D z s p o n hm,aiO v E U m l k i⟩
theorem aCP(e:X.calm=ax):pS X (.builtin "min") (λxs H Q=>∃i j k:av,xs=[.int i,.int j,.int k]/\Q (.int (min (min i j) k)) H):=by
 intro aa s J H xs f Q I r h;obtain⟨i,j,k,rfl,q⟩:=h;cases r with
 |cons c r =>
  cases r with
  |cons b r =>
   cases r with
   |cons a r =>
    cases r;obtain⟨t1,rfl⟩:=c;obtain⟨U,rfl⟩:=b;obtain⟨z,rfl⟩:=a;refine min_three_ints (I.ok.hd e) λh' tk d=>⟨_,H,I.kept d,?_,q⟩
    by_cases h1:j<i
    ·rw[a8 h1]
     by_cases h2:k<j
     ·rw[a8 h2];exact⟨z,by congr 1;omega⟩
     ·rw[bb h2];exact⟨U,by congr 1;omega⟩
    ·rw[bb h1]
     by_cases h2:k<i
     ·rw[a8 h2];exact⟨z,by congr 1;omega⟩
     ·rw[bb h2];exact⟨t1,by congr 1;omega⟩
@[simp] def Jh(as:aj A):Mo A:=match as with
 |[.int i,.int j,.int k]=>ret (.int (min (min i j) k))
 |_=>stuck
theorem aCZ(q:X.calm=ax):tS X W (.builtin "min") Jh:=by
 refine⟨_,aCP q,?_⟩;intro G z U H J a b Q w d h;unfold Jh at h;split at h
 ·rename_i i j k;simp only[bJ,Den]at d;obtain⟨_,_,rfl,rfl,_,_,rfl,rfl,_,_,rfl,rfl,rfl⟩:=d;exact⟨i,j,k,rfl,jX w (by simp only[Den]) h⟩
 ·exact False.elim h
def RE(_ j:av):Prop:=0<j/\j<1152921504606846976
instance (i j:av):c9 (RE i j):=by unfold RE;infer_instance
theorem ap7{x y:av}(h:y.natAbs<1152921504606846976):Builtin.divisionGoesByPylong x y=aq:=by
 refine PyProof.noPylong_of_log2 ?_
 by_cases j:y.natAbs=0
 ·rw[j];decide +kernel
 ·have q:y.natAbs.log2<60:=(Nat.log2_lt j).mpr h;omega
theorem ao1:hJ X (cn .FloorDiv) (rI RE λi j => .int (i/j)):=MC λi j _ _ _ _ _ z q=>by
 have h1:(0:av)<j:=z.1;have h2:j<1152921504606846976:=z.2;exact floordiv_int (by omega) (by rw[Int.fdiv_eq_ediv_of_nonneg i (by omega)];exact q) (.inl (ap7 (by omega)))
@[simp] def aa5:=gI RE λi j => .int (i/j)
theorem apU:lA X W (cn .FloorDiv) aa5:=⟨_,ao1,MB λ_ _ _ _=>by simp only[Den]⟩
def ayC(K:bg)(n:ay)(t:wV):TG:=λv J H Q=>∃a xs,v=.ref a/\fE K H a xs/\xs.length=n/\t xs J H Q
theorem anI{es:aj bp}{k:ay}{t:wV}{n:ay}(d:X.calm=ax)(h:IM X es t)
  (hn:(cj es X.env).length=n:=by rfl) (z:(cj es X.env).findIdx? (·.1)=ak:=by rfl):PG X (.Tuple es k pos) (ayC X.K n t):=by
 intro aa s J H v u Q I r hw;obtain⟨a,q,f,c,hl,hw⟩:=hw;subst f;cases r;obtain⟨g,j,pl,l⟩:=I.list c;rw[assign_Tuple];refine aM (wpAny_standAt ?_);unfold unpack;rw[show(cj es X.env).length=g.toArray.size by simp[hn,<-hl,j.length],z];refine aM (vK (PySem.W.kun_itemsOf (I.ok.hd d) pl.isList λh' U=>?_));have i:Inv X aa J H {s with heap:=h' }:=I.kept (t':=s.toks) λb o e=>U b o (iB (eY e)) e;exact h aa _ J H q _ Q i (by simpa using j) hw
@[simp] def Jj(n:ay)(gs:aj A->MS):A->MS:=λa Y Z=>match eL Z a with
 |some ds=>if ds.length=n then gs ds Y Z else ak
 |none=>ak
theorem afQ{es:aj bp}{k:ay}{n:ay}{gs:aj A->MS}(f:X.calm=ax)(h:PR X W es gs)
  (hn:(cj es X.env).length=n:=by rfl) (c:(cj es X.env).findIdx? (·.1)=ak:=by rfl):VG X W (.Tuple es k pos) (Jj n gs):=by
 obtain⟨t,p,s⟩:=h;refine⟨_,anI f p hn c,λG U b H J z v a D w r d h=>?_⟩;unfold Jj at h;split at h
 ·rename_i ds e
  by_cases hl:ds.length=n
  ·rw[a8 hl]at h;obtain⟨p,j,rfl,h2,q⟩:=qY w d e;exact⟨p,j,rfl,h2,by rw[q.length];exact hl,s G U b H J z j ds D w r q h⟩
  ·rw[bb hl]at h;exact False.elim h
 ·exact False.elim h
theorem Up{aa:aj (au×cq)}{J:L2.St}{H:Hp}{s:aw}{p:au}{ns:aj av}(I:Inv X aa J H s)(z:fE X.K H p (ns.map V.int)):∃as,Reads s.heap (.ref p) (toPy 8 (.lst (ns.map A.int))) as:=by
 obtain⟨d,j,pl,e⟩:=I.list z;have U:(ns.map A.int).all (dW 7)=ax:=by simp[dW]
 obtain⟨as,q⟩:=readsAll (O:=[]) 7 (λv u a=>CL I 7 v u a) (ns.map A.int) _ d U (OL ns) j;obtain⟨o,b,c,m,hd⟩:=pl.isList;exact⟨_,.list b c hd (by simpa using q)⟩
theorem abI(n:ay):∀ns ms:aj av,wO (gD n) (ns.map A.int) (ms.map A.int)=decide (ns=ms)
 |[],[]=>rfl
 |[],_::_=>rfl
 |_::_,[]=>rfl
 |i::ns,j::ms=>by
  simp only[cV,wO,abI n ns ms];have:gD n (.int i) (.int j)=decide (i=j):=by cases n <;> (simp only[gD];try rfl)
  rw[this]
  by_cases h1:i=j <;> by_cases h2:ns=ms <;> simp[h1,h2]
def alG(K:bg)(neg:bh):R2:=λx y H Q=>∃(a b:au) (ns ms:aj av),x=.ref a/\y=.ref b/\fE K H a (ns.map V.int)/\fE K H b (ms.map V.int)/\Q (.bl (if neg then !decide (ns=ms)else decide (ns=ms))) H
theorem aoS(g:X.A.units+64<de):hJ X (bw .NotEq) (alG X.K ax):=by
 intro aa s J H x y v u Q I c U h;obtain⟨a,b,ns,ms,rfl,rfl,h1,h2,q⟩:=h;cases c;cases U;obtain⟨k,e⟩:=Up I h1;obtain⟨bs,d⟩:=Up I h2;have z:dW 8 (.lst (ns.map A.int))=ax:=by simp[dW]
 have j:dW 8 (.lst (ms.map A.int))=ax:=by simp[dW]
 have i:=RZ 8 (.lst (ns.map A.int));refine SeqAt.compareNe_reads e d (zM 8 _ z) (zM 8 _ j) (by omega) ?_;rw[RY 8 _ _ z j];have f:gD 8 (.lst (ns.map A.int)) (.lst (ms.map A.int))=decide (ns=ms):=abI 7 ns ms;rw[f];exact⟨.bl (!decide (ns=ms)),H,I,rfl,q⟩
@[simp] def VJ(a b:A):Mo A:=λZ=>match (eL Z a).bind intsOf,(eL Z b).bind intsOf with
 |some ns,ai ms=>ai (.ok (.bl (!decide (ns=ms))),Z)
 |_,_=>ak
theorem apS(d:X.A.units+64<de):lA X W (bw .NotEq) VJ:=by
 refine⟨_,aoS d,?_⟩;intro G c o H J x y a b Q w n m h;unfold VJ at h;split at h
 ·rename_i ns ms U z;rw[YB]at U z;obtain⟨ds,l,k⟩:=U;obtain⟨es,i,g⟩:=z;obtain⟨p,s,rfl,h2,f⟩:=qY w n l;obtain⟨q,r,rfl,j,e⟩:=qY w m i;rw[MR k f]at h2;rw[MR g e]at j;exact⟨p,q,ns,ms,rfl,rfl,h2,j,h _ H G c (Ext.refl _ _) w (by simp[Den])⟩
 ·exact False.elim h
end
end V2
namespace M
open PySem V2
noncomputable section
def Le:MS :=
 (aQ (bM (aA aO dS bP) (gN 4))
   (aQ (bM (aA cJ aT cY) (gN 1))
   (dQ (gU (bL (aA kB cY bP)) (bL (aA rY aT (cI 1000000000))))
    (λ_ _=>ak)
    eR)))
def Lf:MS :=
 (aQ (bM bQ (gN 1))
  (aQ (gB (RT aI) (hZ 2 (dF (gN 2) (dF (gN 3) iA))) Le)
  (bV aT)))
def YY:aj A->Mo A:=cN 5 Lf
def Lh:MS :=
 (aQ (dQ (bL (aA (OD ax) (aA aO cY bQ) aI))
    (λ_ _=>ak)
    eR)
   (aQ (bM (aA VN aI (aA aO cY bQ)) (gN 5))
   (aQ (bM (aU Ji (aC (aA cJ cC bP) (aC (aA aO cY bP) (aC (aA aO fH bQ) a0)))) (gN 2))
   (dQ (gU (bL (aA rY cC (aA aO cY eO))) (bL (aA rY cC (aA aO fH bP))))
    (λ_ _=>ak)
    eR))))
def WN:MS :=
 (aQ (bM bQ (gN 2))
  (gB (RT aT) (hZ 2 (dF (gN 3) (dF (gN 4) iA))) Lh))
def Pm:aj A->Mo A:=cN 6 WN
def WY:MS :=
 (aQ (dQ (bL (aA kB cY aT))
    (bM (aA cJ cC fH) (gN 2))
    eR)
   (dQ (bL (aA oO cY aT))
    (bM (aA cJ dS fH) (gN 3))
    eR))
def Lw:MS :=
 (aQ (bM bQ (gN 2))
  (aQ (bM bQ (gN 3))
  (aQ (gB (eW aI) (hZ 2 (dF (gN 4) (dF (gN 5) iA))) WY)
  (bV (mQ (aC cC (aC dS a0)))))))
def xD:aj A->Mo A:=cN 6 Lw
def acS:MS :=
 (aQ (dQ (gU (jC (bL (aU AX (aC aI (aC (cT "tuple") a0))))) (bL (aA kW (aU fY (aC aI a0)) eO)))
   (bV (cB aq))
   eR)
  (aQ (dQ (gU (jC (bL (aU AX (aC (aA aO aI bQ) (aC (cT "int") a0))))) (jC (bL (aU AX (aC (aA aO aI bP) (aC (cT "int") a0))))))
   (bV (cB aq))
   eR)
  (aQ (dQ (gU (bL (aU AX (aC (aA aO aI bQ) (aC (cT "bool") a0)))) (bL (aU AX (aC (aA aO aI bP) (aC (cT "bool") a0)))))
   (bV (cB aq))
   eR)
  (bV (CD (Ai oO oO oO bQ (aA aO aI bQ) aT (aA aO aI bP)) (aA oO (aA (lJ) (aA aO aI bP) (aA aO aI bQ)) cC))))))
def qQ:aj A->Mo A:=cN 3 acS
def Lb:MS :=
 (aQ (xS (mQ (aC (aA cJ cC bP) (aC (aA cJ cC cY) a0))) aT dS)
   (bM (aA cJ cC cY) (gN 2)))
def DZ:MS :=
 (aQ (bM vP (gN 1))
  (aQ (bM bQ (gN 2))
  (aQ (gB (eW (aU (bN 1 JO) (aC aI a0))) (hZ 2 (dF (gN 3) (dF (gN 4) iA))) Lb)
  (bV aT))))
def JN:aj A->Mo A:=cN 5 DZ
def EE:MS :=
 (dQ (gU (bL (aA iX (aA aO cC fH) bQ)) (bL (aA iX (aA (fS) (aA aO aI bQ) eO) bP)))
     (aQ (bM (aU (bN 2 vG) (aC (aA (fS) (aA aO dS fH) (cI 2147483647)) (aC (aA cJ (aU fY (aC cY a0)) FF) a0))) (gN 6))
     (iJ (sV uS cY (aC (aU (bN 2 vG) (aC iI (aC (aA cJ (aA (fS) (aA (gY) (aU fY (aC cY a0)) (aU fY (aC cY a0))) (cI 1009)) gO) a0))) a0))))
     (aQ (iJ (sV uS cY (aC (aA (fS) (aA aO cC fH) (cI 2147483587)) a0)))
     (bM (aA (aa5) (aA aO cC fH) (cI 2147483587)) (DM cC fH))))
def Lu:MS :=
 (gB (sT (aC (aU fY (aC cC a0)) a0)) (gN 5) EE)
def PF:Ev->Mo bh :=
 (bL (aA kB (aU fY (aC cY a0)) aT))
def WV:MS :=
 (aQ (bM (eQ ax (aC bQ a0)) (gN 2))
  (aQ (dQ (bL (aA VJ aI (eQ aq a0)))
   (bM (aA (HQ ax) (eQ aq (aC (aA (jI) (aA aO aI bQ) eO) a0)) (aU (AW aq) (aC (KZ aq aI (CB bP) Ue) a0))) (gN 2))
   eR)
  (aQ (bM (aU (AW aq) (aC cC a0)) (gN 3))
  (aQ (bM (eQ ax a0) (gN 4))
  (aQ (λY Z=>lK PF Lu ((λ_ _=>1000000) Y Z) Y Z)
  (bV (vO 4)))))))
def ZF:aj A->Mo A:=cN 7 WV
def IH:MS :=
 (aQ (bM (aU (bN 2 vG) (aC aT (aC (aA cJ (cI 80) cY) a0))) (gN 5))
   (aQ (bM (aU (bN 2 vF) (aC fH (aC cC a0))) (gN 6))
   (aQ (dQ (sW (bL (aA kW aI (eQ aq a0))) (bL (aA kB cY xK)))
    (bM (aA cJ (aA aO (aA aO aI (aA (fS) fH (aU fY (aC aI a0)))) bQ) (aA aO (eQ aq (aC bQ (aC bQ (aC bP (aC (Af bP) a0))))) (aA (fS) (aA (jI) fH (cI 4096)) zL))) (gN 6))
    eR)
   (iJ (sV uS dS (aC iI a0))))))
def WZ:MS :=
 (aQ (bM (eQ ax a0) (gN 3))
  (aQ (gB (sT (aC KQ a0)) (gN 4) IH)
  (bV (vO 3))))
def QV:aj A->Mo A:=cN 7 WZ
def Lo:MS :=
 (aQ (dQ (gU (jC (bL (aU AX (aC dS (aC (cT "tuple") a0))))) (bL (aA kW (aU fY (aC dS a0)) gO)))
    (bV (cB aq))
    eR)
   (aQ (bM dS (hZ 3 (dF (gN 4) (dF (gN 5) (dF (gN 6) iA)))))
   (aQ (bM (aU (bN 2 xD) (aC aI (aC cY a0))) (hZ 2 (dF (gN 7) (dF (gN 8) iA))))
   (aQ (bM (aU Jh (aC (aA (lJ) cC bP) (aC iI (aC gM a0)))) (gN 2))
   (dQ (gU (bL (aA kB cC fH)) (bL (aA kB cC (aA cJ jM bP))))
    (bV (cB aq))
    eR)))))
def Lp:MS :=
 (aQ (bM (aA cJ (aA aO aT bQ) bP) (gN 2))
  (aQ (gB (Sd (aA aO aT gO)) (gN 3) Lo)
  (bV (cB ax))))
def ZD:aj A->Mo A:=cN 9 Lp
def WQ:MS :=
 (aQ (bM (aU (bN 1 YY) (aC aI a0)) (gN 2))
  (aQ (iJ (aU (bN 1 YZ) (aC aT a0)))
  (aQ (dQ (bL (aA kW (aA aO aT bQ) cC))
   (λ_ _=>ak)
   eR)
  (aQ (iJ (aU (bN 2 Pm) (aC (aU (bN 1 JN) (aC aI a0)) (aC (aA aO aT gO) a0))))
  (bV (cB ax))))))
def JQ:aj A->Mo A:=cN 3 WQ
end
end M
namespace PySem
set_option maxRecDepth 100000
set_option compiler.extract_closed false
set_option genSizeOf false
set_option bootstrap.genMatcherCode false
end PySem
namespace V2
open PySem PySem.Spec PyProof.Rows L2
def tZ:Hp->aj au->aj (aj V)->Hp
 |H,a::as,t::j=>tZ (upd H a (.tup t)) as j
 |H,[],_=>H
 |H,_::_,[]=>H
theorem af9{H:Hp}{a b:au}{o u:HO}(h:a≠b):upd (upd H a o) b u=upd (upd H b u) a o:=by
 funext c
 by_cases h1:c=a
 ·subst h1;rw[cD h,eX,eX]
 ·by_cases h2:c=b
  ·subst h2;rw[eX,cD h1,eX]
  ·rw[cD h2,cD h1,cD h1,cD h2]
theorem Sj{l:au}{o:HO}:∀(as:aj au) (j:aj (aj V)) (H:Hp),l∉as->tZ (upd H l o) as j=upd (tZ H as j) l o
 |[],j,H,_=>by cases j <;> rfl
 |a::as,[],H,_=>rfl
 |a::as,t::j,H,h=>by
  have q:l≠a:=λe=>h (by rw[e];exact List.mem_cons_self ..);show tZ (upd (upd H l o) a (.tup t)) as j=upd (tZ (upd H a (.tup t)) as j) l o;rw[af9 q];exact Sj as j _ λe=>h (gJ _ e)
theorem Yh{P:bf}{w:bo}{k:Key}{u:ao}(h:(kI P w).is k u=ax):RelV (kV k) u:=by
 rcases uJ (k:=k) (v:=u) h with⟨i,t,q,j⟩|⟨x,t,q,j⟩
 ·subst q;exact⟨t,j⟩
 ·subst q;exact⟨t,j⟩
section
variable{X:Cx}{W:WX}
theorem So{aa:aj (au×cq)}{J:L2.St}{k d:aw}{B:Hp}(i:Inv X aa J B k):∀(as:aj au) (U:aj (aj V)) (H:Hp),Inv X aa J H d->as.length=U.length->as.Nodup->(∀a∈as,k.heap.objs.size<=a/\H a=ak) ->
  (∀(j:ay) (a:au) (t:aj V),as[j]?=ai a->U[j]?=ai t->t.length<=az/\∃f n,Vals t f/\d.heap.get? a=ai {cls:=.type "tuple",data:=.seq f.toArray n})->Inv X aa J (tZ H as U) d
 |[],[],H,I,_,_,_,_=>I
 |[],_::_,H,I,hl,_,_,_=>by simp at hl
 |_::_,[],H,I,hl,_,_,_=>by simp at hl
 |a::as,t::U,H,I,hl,hn,hb,l=>by
  obtain⟨h1,h2⟩:=hb a kP;obtain⟨r,f,n,p,e⟩:=l 0 a t rfl rfl;have aL:gL X.prog X.w (upd H a (.tup t)) d.heap:=by
   refine λb o q=>?_
   by_cases m:b=a
   ·subst m;rw[eX]at q;cases q;exact⟨r,f,p,⟨_,e,rfl,_,rfl⟩⟩
   ·rw[cD m]at q;exact(I.aL b o q).oF (λc v _ z=>z) (λc z=>by rw[cD (jD z h2)];exact z) λc C z=>by rw[cD (jD z h2)];exact z
  have h:qP X aa H a:=i.uU h1 h2;have s:X.s₀.heap.get? a=ak:=by
   cases q:X.s₀.heap.get? a with
   |none=>rfl
   |some D=>exact bu (nA (eY q) (oW i.sz h1)) (Nat.lt_irrefl _)
  have A:=Inv.Aq I h2 s h.2.1 h.2.2.2.2.1 h.2.2.2.2.2 aL;rw[qO]at hn;exact So i as U _ A (by simpa using hl) hn.2 (λb g=>⟨(hb b (gJ _ g)).1,by rw[cD (λz=>hn.1 (by rw[<-z];exact g))];exact(hb b (gJ _ g)).2⟩) (λj b u y x=>l (j+1) b u y x)
theorem Ex{α β:Type}{F:α->β->Prop}:∀{l₁:aj α} {l₂:aj β},Paired F l₁ l₂->∀{j:ay} {a:α},l₁[j]?=ai a->∃b,l₂[j]?=ai b/\F a b
 |_,_,.nil,j,a,h=>by simp at h
 |_,_,.cons r _,0,a,h=>by cases h;exact⟨_,rfl,r⟩
 |_,_,.cons _ z,j+1,a,h=>by obtain⟨b,q,f⟩:=Ex z (j:=j) (by simpa using h);exact⟨b,by simpa using q,f⟩
theorem Rx:∀as:aj au,Vals (as.map V.ref) (as.map Value.ref)
 |[] => .nil
 |a::as => .cons rfl (Rx as)
theorem anU{o:bp}{td:TE}{S af r i:cx}(hc:X.calm=ax)(Hw:Gl X "list")(GV:X.mg "list" = ak)(ho:PE X o td)
  (E:ba [.Call (.Attribute o "items" af) [] [] i] X.env=[(aq,bz (.Call (.Attribute o "items" af) [] [] i) X.env)]:=by rfl)
  (P:b0 o "items" X.env (bz o X.env)=bz o X.env:=by rfl) (R:(af.endLine==i.line)=ax:=by rfl) :
  PE X (.Call (.Name "list" S) [.Call (.Attribute o "items" af) [] [] i] [] r) (λJ H Q=>td J H λx H1=>∃a kvs,x=.ref a/\H1 a=ai (.dK kvs) /\
   ∀(as:aj au) (l:au),as.length=kvs.length->as.Nodup->l∉as->(∀b∈as,H1 b=ak)->H1 l=ak->Q (.ref l) (upd (tZ H1 as (kvs.map λf=>[kV f.1,f.2])) l (.lst (as.map V.ref)))):=by
 intro aa s J H Q I h;refine tV (AE I Hw GV XZ ?_);refine PY ?_ E rfl;rw[E];show wpAny _ _ (spliced ((aq,bz (.Call (.Attribute o "items" af) [] [] i) X.env)::[])) _ _ s;refine KL ?_;refine Rj P R (bT (ho aa s J H _ I h) λv U ⟨x,H1,B,N,r⟩=>?_);obtain⟨a,kvs,rfl,K,q⟩:=r;cases N;obtain⟨h1,h2,MY⟩:=MQ B (.inl ⟨kvs,.inl K⟩);obtain⟨z,_,p,rel,A⟩:=HV B.aL K;refine⟨"dict", "dict.items",PySem.F.plainAttrs_dict,PySem.F.slot_dict_items,PySem.F.type_dict_items,h1,h2,RD rfl (PySem.evalArgs_none ?_)⟩;refine OQ PySem.F.slot_dict_items A.typeIs PySem.F.entry_dict_items (PySem.F.args_dict_items_1 _) (meets_dict_items (kI X.prog X.w) a MY) ⟨⟨p,A⟩,?_⟩;refine RC ?_;have d:Inv X aa J H1 {U with heap:=U.heap.push {cls:=.type "dict_items",data:=.fields #[.ref a]} }:=B.kept (t':=U.toks) λb o e=>eN _ e;obtain⟨ep,oK⟩:=A.dictAt;have hvl:kvs.length=p.length:=rel.length;refine PySem.W.kdx_call (knd:=kI X.prog X.w) (kvs:=p) (ep:=ep) (s:={U with heap:=U.heap.push {cls:=.type "dict_items",data:=.fields #[.ref a]} }) (d.ok.hd hc) ⟨_,hU _ rfl,rfl,rfl⟩ (oK.push _) (by omega) λh' tk acc c as G hS hl m T=>?_;generalize uL:({U with heap:=U.heap.push {cls:=.type "dict_items",data:=.fields #[.ref a]} }:aw)=g at d G hS m;have hnd:as.Nodup:=m.rise.imp λh=>iB h;have D:g.heap.objs.size∉as:=λz=>bu (m.above _ z) (Nat.lt_irrefl _);have C:∀b∈as,g.heap.objs.size<=b:=λb hb=>Oc (m.above b hb);have u:as.length<=az:=by omega
 have I3:Inv X aa J (upd H1 g.heap.objs.size (.lst (as.map V.ref))) {g with heap:=h',toks:=tk}:=d.laid (t':=tk) (o:=.lst (as.map V.ref)) G dD ⟨by rw[lB];exact u,as.map Value.ref,c,Rx as,by rw[<-T];exact hS⟩;have M:=So d as (kvs.map λf=>[kV f.1,f.2]) _ I3 (by simp;omega) hnd (λb hb=>⟨C b hb,by rw[cD (λz=>D (by rw[<-z];exact hb))];exact d.aL.fresh (C b hb)⟩) (λj b t e1 n=>by
  obtain⟨key,k,x,g1,g2,g3⟩:=m.pairs j b e1;rw[lC]at n;cases y:kvs[j]? with
  |none=>rw[y]at n;cases n
  |some f =>
   rw[y]at n;cases n;obtain⟨AG,L,g6,g7⟩:=Ex rel y;rw[g1]at L;cases L;refine⟨by show 2<=az;decide,[key,x],0,.cons (by rw[g6];exact Yh g2) (.cons g7 .nil),g3⟩)
 rw[Sj as _ H1 D]at M;exact⟨.ref g.heap.objs.size,_,M,rfl,q as _ (by omega) hnd D (λb hb=>d.aL.fresh (C b hb)) (d.aL.fresh dD)⟩
end
noncomputable def kA:Key->A
 |.inl i => .int i
 |.inr s => .str s
theorem abR{K:bg}{G:Hp}{O:aj au}(k:Key):Den K G O (kV k) (kA k):=by cases k <;> simp only[kV,kA,Den]
def mW(j:Key×A):A:=.tup [kA j.1,j.2]
section
variable{K:bg}
theorem Sn{Z:aH}:∀(as:aj au) (q:aj (Key×V)) (kvs:aj (Key×A)) (G H:Hp) (O:aj au),Wd K G O Z H->as.length=q.length->as.Nodup->(∀b∈as,H b=ak)->q.map (·.1)=kvs.map (·.1)->bJ K G O (q.map (·.2)) (kvs.map (·.2)) ->
  ∃G',Ext G O G' O/\Wd K G' O Z (tZ H as (q.map λU=>[kV U.1,U.2]))/\bJ K G' O (as.map V.ref) (kvs.map mW)
 |[],[],[],G,H,O,w,_,_,_,_,_=>⟨G,Ext.refl _ _,w,by rw[rJ,rJ,tL]⟩
 |[],[],_::_,_,_,_,_,_,_,_,h,_=>by simp at h
 |[],_::_,_,_,_,_,_,h,_,_,_,_=>by simp at h
 |_::_,[],_,_,_,_,_,h,_,_,_,_=>by simp at h
 |_::_,_::_,[],_,_,_,_,_,_,_,h,_=>by simp at h
 |a::as,j::q,U::kvs,G,H,O,w,hl,hn,hb,f,d=>by
  rw[cV,cV]at d f;obtain⟨x,r,n,s,p⟩:=d.nP;obtain⟨rfl,rfl⟩:=List.cons.inj n;obtain⟨l,m⟩:=List.cons.inj f;rw[qO]at hn;have ha:=hb a kP;have e:=w.ayV ha (.tup [kV j.1,j.2]);have k:=w.up ha (.tup [kV j.1,j.2]);obtain⟨G',c,i,o⟩:=Sn as q kvs _ _ O k (by simpa using hl) hn.2 (λb g=>by rw[cD (λz=>hn.1 (by rw[<-z];exact g))];exact hb b (gJ _ g)) m (p.ext e);refine⟨G',e.trans c,i,?_⟩;rw[cV,cV];refine .cons ?_ o;simp only[mW,Den];refine⟨a,[kV j.1,j.2],rfl,c.same _ _ eX,.cons (by rw[l];exact abR _) (.cons (s.ext (e.trans c)) (by rw[tL]))⟩
end
theorem acY(a:A)(ha:dW 7 a=ax):∀(ds:aj A),ds.all (dW 7)=ax->((ds.map (toPy 7)).any λy=>PyData.eqv y (toPy 7 a))=ds.any λd=>gD 7 d a
 |[],_=>rfl
 |d::ds,h=>by
  simp only[Ov,nN]at h;simp only[cV,QF];rw[RY 7 d a h.1 ha,acY a ha ds h.2]
def Ur(K:bg)(neg:bh):R2:=λx y H Q=>∃O a ds,dW 7 a=ax/\dW 8 (.lst ds)=ax/\Den K H O x a/\Den K H O y (.lst ds)/\Q (.bl (if neg then !(ds.any λd=>gD 7 d a)else ds.any λd=>gD 7 d a)) H
theorem aoR{X:Cx}(g:X.A.units+64<de):hJ X (bw .NotIn) (Ur X.K ax):=by
 intro aa s J H x y v u Q I z j h;obtain⟨f,a,ds,h1,h2,e,c,q⟩:=h;obtain⟨k,b⟩:=CL I 7 x v a h1 e z;obtain⟨bs,U⟩:=CL I 8 y u (.lst ds) h2 c j;have i:=RZ 7 a;have hall:ds.all (dW 7)=ax:=h2;refine SeqAt.notIn_list_reads (xs:=ds.map (toPy 7)) U b (WE ds 7 (λd _=>zM 7 d) hall) (zM 7 a h1) (by omega) ?_;rw[acY a h1 ds hall];exact⟨.bl (!(ds.any λd=>gD 7 d a)),H,I,rfl,q⟩
def AU(neg:bh)(a b:A):Mo A:=λZ=>match res Z 6 a,res Z 6 b with
 |some x,ai (.lst ds)=>if(dW 7 x&&dW 8 (.lst ds))=ax then ai (.ok (.bl (if neg then !(ds.any λd=>gD 7 d x)else ds.any λd=>gD 7 d x)),Z)else ak
 |_,_=>ak
theorem aoM{K:bg}{W:WX}{neg:bh}:sJ K W (Ur K neg) (AU neg):=by
 intro G q f H J x y a b Q w e d h;unfold AU at h;split at h
 ·rename_i z ds c U;split at h
  ·rename_i j;simp only[nN]at j;exact⟨q,z,ds,j.1,j.2,SY w 6 x a z e c,SY w 6 y b _ d U,h _ H G q (Ext.refl _ _) w (by simp only[Den])⟩
  ·exact False.elim h
 ·exact False.elim h
theorem apR{X:Cx}{W:WX}(j:X.A.units+64<de):lA X W (bw .NotIn) (AU ax):=⟨_,aoR j,aoM⟩
noncomputable def putD{α:Type}(f:a5)(v:α):aj (a5×α)->aj (a5×α)
 |[]=>[(f,v)]
 |(g,x)::r=>if g=f then(g,v)::r else(g,x)::putD f v r
@[simp] noncomputable def Fd.cell:Fd->ar Cell
 |.lst ds=>ai (.lst ds)
 |.bH kvs=>ai (.bH kvs)
 |.val _=>ak
theorem TZ{α:Type}{f:a5}:∀{l:aj (a5×α)} {x:α},l.lookup f=ai x->∃i,l[i]?=ai (f,x)/\∀y,putD f y l=l.set i (f,y)
 |[],_,h=>by simp at h
 |(g,z)::r,x,h=>by
  by_cases e:g=f
  ·subst e;simp[List.lookup]at h;subst h;exact⟨0,rfl,λy=>by simp[putD]⟩
  ·have hb:(f==g)=aq:=yV.mpr (eM e);simp only[List.lookup,hb]at h;obtain⟨i,h1,h2⟩:=TZ h;exact⟨i+1,by simpa using h1,λy=>by simp[putD,e,h2 y]⟩
theorem TB{α:Type}{f g:a5}{v:α}:∀{l:aj (a5×α)},(putD f v l).lookup g=if g=f then ai v else l.lookup g
 |[]=>by
  by_cases e:g=f
  ·subst e;simp[putD]
  ·have hb:(g==f)=aq:=yV.mpr e;simp[putD,List.lookup,hb,e]
 |(k,x)::r=>by
  have ih:=TB (f:=f) (g:=g) (v:=v) (l:=r)
  by_cases h:k=f
  ·subst h
   by_cases e:g=k
   ·subst e;simp[putD]
   ·have hb:(g==k)=aq:=yV.mpr e;simp[putD,List.lookup,hb,e]
  ·by_cases e:g=k
   ·subst e;simp[putD,h]
   ·have hb:(g==k)=aq:=yV.mpr e;simp only[putD,bb h,List.lookup,hb];exact ih
theorem LV{α:Type}{f:a5}{v w:α}:∀{l:aj (a5×α)},putD f w (putD f v l)=putD f w l
 |[]=>by simp[putD]
 |(k,x)::r=>by
  by_cases h:k=f
  ·simp[putD,h]
  ·simp[putD,h,LV (l:=r)]
section
variable{K:bg}{G H:Hp}{O:aj au}{Z:aH}
theorem wM:∀{j:aj (a5×V)} {fs:aj (a5×Fd)},kG K G O H j fs<->j.length=fs.length/\∀(i:ay) (h:a5) (v:V) (g:a5) (fd:Fd),j[i]?=ai (h,v)->fs[i]?=ai (g,fd)->h=g/\kL K G O H v fd
 |[],[]=>⟨λ_=>⟨rfl,λi h v g fd q=>by simp at q⟩,λ_=>trivial⟩
 |[],_::_=>⟨λh=>h.elim,λh=>by simp at h⟩
 |_::_,[]=>⟨λh=>h.elim,λh=>by simp at h⟩
 |(f,v)::j,(g,d)::fs=>by
  constructor
  ·rintro⟨h1,h2,e⟩;obtain⟨c,z⟩:=wM.mp e;refine⟨by simp[c],λi h U g' fd a b=>?_⟩;cases i with
   |zero=>simp at a b;obtain⟨rfl,rfl⟩:=a;obtain⟨rfl,rfl⟩:=b;exact⟨h1,h2⟩
   |succ i=>exact z i h U g' fd (by simpa using a) (by simpa using b)
  ·rintro⟨c,z⟩;obtain⟨h1,h2⟩:=z 0 f v g d rfl rfl;exact⟨h1,h2,wM.mpr ⟨by simpa using c,λi h U g' fd a b=>z (i+1) h U g' fd (by simpa using a) (by simpa using b)⟩⟩
theorem kG.look{ws:aj (a5×V)}{fs:aj (a5×Fd)}{f:a5}{fd:Fd}(h:kG K G O H ws fs)(l:fs.lookup f=ai fd):∃v,ws.lookup f=ai v/\kL K G O H v fd:=by
 induction fs generalizing ws with
 |nil=>simp at l
 |cons p fs ih =>
  obtain⟨g,d⟩:=p;cases ws with
  |nil=>exact h.elim
  |cons q ws =>
   obtain⟨g',v⟩:=q;obtain⟨e,h2,j⟩:=h;subst e
   by_cases hb:(f==g')=ax
   ·simp only[List.lookup,hb]at l ⊢;cases l;exact⟨v,rfl,h2⟩
   ·have hb:(f==g')=aq:=by simpa using hb
    simp only[List.lookup,hb]at l ⊢;exact ih j l
theorem kG.ap2{ws:aj (a5×V)}{fs:aj (a5×Fd)}{f:a5}(h:kG K G O H ws fs)(l:fs.lookup f=ak):ws.lookup f=ak:=by
 induction fs generalizing ws with
 |nil =>
  cases ws with
  |nil=>rfl
  |cons q ws=>exact h.elim
 |cons p fs ih =>
  obtain⟨g,d⟩:=p;cases ws with
  |nil=>exact h.elim
  |cons q ws =>
   obtain⟨g',v⟩:=q;obtain⟨e,h2,j⟩:=h;subst e
   by_cases hb:(f==g')=ax
   ·simp only[List.lookup,hb]at l;cases l
   ·have hb:(f==g')=aq:=by simpa using hb
    simp only[List.lookup,hb]at l ⊢;exact ih j l
theorem kG.put{ws:aj (a5×V)}{fs:aj (a5×Fd)}{f:a5}{fd:Fd}{v:V}(h:kG K G O H ws fs)(d:kL K G O H v fd):kG K G O H (jY f v ws) (putD f fd fs):=by
 induction fs generalizing ws with
 |nil =>
  cases ws with
  |nil=>exact⟨rfl,d,trivial⟩
  |cons q ws=>exact h.elim
 |cons p fs ih =>
  obtain⟨g,x⟩:=p;cases ws with
  |nil=>exact h.elim
  |cons q ws =>
   obtain⟨g',U⟩:=q;obtain⟨e,h2,z⟩:=h;subst e
   by_cases j:g'=f
   ·simp only[jY,putD,a8 j];exact⟨rfl,d,z⟩
   ·simp only[jY,putD,bb j];exact⟨rfl,h2,ih z⟩
theorem kG.len{ws:aj (a5×V)}{fs:aj (a5×Fd)}(h:kG K G O H ws fs):ws.length=fs.length:=(wM.mp h).1
theorem kL.aoJ{v:V}{fd:Fd}{c:Cell}(h:kL K G O H v fd)(q:fd.cell=ai c):∃b,v=.ref b/\b∉O/\(∃o,H b=ai o)/\sS K G O H b c:=by
 cases fd with
 |val a=>cases q
 |lst ds=>cases q;obtain⟨b,xs,h1,h2,U,j,z⟩:=h;exact⟨b,h1,U,⟨_,j⟩,h2,xs,j,z⟩
 |bH d=>cases q;obtain⟨b,ws,h1,h2,U,j,z,e⟩:=h;exact⟨b,h1,U,⟨_,j⟩,h2,ws,j,z,e⟩
theorem kL.GC{b:au}{fd:Fd}{c:Cell}(j:fd.cell=ai c)(hb:b∉O)(h:sS K G O H b c):kL K G O H (.ref b) fd:=by
 cases fd with
 |val a=>cases j
 |lst ds=>cases j;obtain⟨h1,xs,h2,q⟩:=h;exact⟨b,xs,rfl,h1,hb,h2,q⟩
 |bH z=>cases j;obtain⟨h1,ws,h2,q,U⟩:=h;exact⟨b,ws,rfl,h1,hb,h2,q,U⟩
theorem Fd.aCG{fd:Fd}{c:Cell}(j:fd.cell=ai c):fd.own=ax:=by cases fd <;> first|rfl|cases j
theorem Fd.aCH{fd:Fd}{c:Cell}(j:fd.cell=ai c):c.noOwn=ax:=by cases fd <;> cases j <;> rfl
theorem kL.lend{b:au}{v:V}{fd:Fd}(h:kL K G O H v fd)(hb:fd.own=ax->v≠.ref b):kL K G (O++[b]) H v fd:=by
 cases fd with
 |val a=>exact Den.ext (Ext.cell b) h
 |lst ds =>
  obtain⟨U,xs,h1,h2,z,q,j⟩:=h;exact⟨U,xs,h1,h2,by simp;exact⟨z,λe=>hb rfl (by rw[h1,e])⟩,q,j.ext (Ext.cell b)⟩
 |bH c =>
  obtain⟨U,ws,h1,h2,z,q,j,d⟩:=h;exact⟨U,ws,h1,h2,by simp;exact⟨z,λe=>hb rfl (by rw[h1,e])⟩,q,j,d.ext (Ext.cell b)⟩
theorem Wd.unfold{s:ay}{cls f:a5}{fs:aj (a5×Fd)}{fd:Fd}{c:Cell}(w:Wd K G O Z H)(E:Z[s]?=ai (.ins cls fs))(hf:fs.lookup f=ai fd)(I:fd.cell=ai c) :
  ∃b,Wd K G (O++[b]) (Z.set s (.ins cls (putD f (.val (.aJ Z.length)) fs))++[c]) H:=by
 obtain⟨a,ha⟩:=w.addr E;obtain⟨g,C,Q,ws,h0,h1,h2⟩:=w.aJ s _ a E ha;obtain⟨t,e1,e2⟩:=TZ hf;obtain⟨q1,q2⟩:=wM.mp h2;have HB:t<fs.length:=(dN.mp e1).1;obtain⟨⟨P,v0⟩,e3⟩:∃p,ws[t]?=ai p:=⟨ws[t]'(by omega),dR _⟩;obtain⟨rfl,o0⟩:=q2 t P v0 f fd e3 e1;obtain⟨b,rfl,hb,⟨o,ho⟩,hC⟩:=o0.aoJ I;have Wc:kE H O Z s t b:=⟨a,cls,fs,C,Q,ws,_,_,fd,ha,E,h1,e1,Fd.aCG I,e3⟩;have qZ:s<Z.length:=(dN.mp E).1;have L:∀k,k<Z.length->(O++[b])[k]?=O[k]?:=λk u=>mM (by rw[w.len];exact u);have M:∀k,k<Z.length->(Z.set s (.ins cls (putD P (.val (.aJ Z.length)) fs))++[c])[k]?=(Z.set s (.ins cls (putD P (.val (.aJ Z.length)) fs)))[k]?:=λk u=>mM (by simpa using u);refine⟨b,w.sub,?_,by simp[w.len],λx hx=>?_,λk c' R n r=>?_,λb' k i k' i' n r=>?_⟩
 ·rw[QB];exact⟨w.inj,by simp,λx hx y hy=>by simp at hy;subst hy;exact λe=>hb (e ▸ hx)⟩
 ·rcases rH.mp hx with h|h
  ·exact w.live x h
  ·simp at h;subst h;exact⟨o,ho⟩
 ·by_cases u:k<Z.length
  ·rw[L k u]at r;rw[M k u]at n
   by_cases D:k=s
   ·subst D;rw[gK qZ]at n;cases n;rw[ha]at r;cases r;refine⟨g,C,Q,ws,h0,h1,wM.mpr ⟨by rw[e2];simpa using q1,λj h v g' d U z=>?_⟩⟩;rw[e2]at z
    by_cases F:j=t
    ·subst F;rw[gK HB]at z;cases z;rw[e3]at U;cases U;refine⟨rfl,?_⟩;simp only[kL,Den];exact⟨b,rfl,by rw[<-w.len];simp⟩
    ·rw[gS (eM F)]at z;obtain⟨V,T⟩:=q2 j h v g' d U z;refine⟨V,T.lend λX ev=>F ?_⟩;subst ev;exact(w.sep b _ j _ t ⟨a,cls,fs,C,Q,ws,_,_,d,ha,E,h1,z,X,U⟩ Wc).2
   ·rw[gS (eM D)]at n;have q:=w.aJ k c' R n r;cases c' with
    |lst ds=>obtain⟨U,xs,z,m⟩:=q;exact⟨U,xs,z,m.ext (Ext.cell b)⟩
    |bH kvs=>obtain⟨U,A,z,m,l⟩:=q;exact⟨U,A,z,m,l.ext (Ext.cell b)⟩
    |ins W iY =>
     obtain⟨y0,S,N,A,U,z,m⟩:=q;obtain⟨p1,p2⟩:=wM.mp m;refine⟨y0,S,N,A,U,z,wM.mpr ⟨p1,λj h v g' d l B=>?_⟩⟩;obtain⟨V,T⟩:=p2 j h v g' d l B;refine⟨V,T.lend λX ev=>D ?_⟩;subst ev;exact(w.sep b k j s t ⟨R,W,iY,S,N,A,_,_,d,r,n,z,B,X,l⟩ Wc).1
    |tab x pos qual=>exact q
    |dead=>trivial
  ·have lX:k=Z.length:=by
    have:=(dN.mp n).1;simp at this;omega
   subst lX;rw[<-w.len]at r;simp at r;subst r;simp at n;subst n;cases fd with
   |val x=>cases I
   |lst ds=>cases I;obtain⟨U,xs,z,m⟩:=hC;exact⟨U,xs,z,m.ext (Ext.cell b)⟩
   |bH kvs=>cases I;obtain⟨U,A,z,m,l⟩:=hC;exact⟨U,A,z,m,l.ext (Ext.cell b)⟩
 ·have back:∀{k i},kE H (O++[b]) (Z.set s (.ins cls (putD P (.val (.aJ Z.length)) fs))++[c]) k i b'->kE H O Z k i b':=λ{k i} h=>by
   have Jc:=h;obtain⟨R,W,iY,S,N,A,g',h',d,U,z,m,l,B,y6⟩:=h
   by_cases u:k<Z.length
   ·rw[L k u]at U;rw[M k u]at z
    by_cases D:k=s
    ·subst D;rw[gK qZ]at z;cases z;rw[ha]at U;cases U;rw[h1]at m;cases m;rw[e2]at l
     by_cases F:i=t
     ·subst F;rw[gK HB]at l;cases l;cases B
     ·rw[gS (eM F)]at l;exact⟨a,_,fs,C,Q,ws,g',h',d,ha,E,h1,l,B,y6⟩
    ·rw[gS (eM D)]at z;exact⟨R,W,iY,S,N,A,g',h',d,U,z,m,l,B,y6⟩
   ·have lX:k=Z.length:=by
     have:=(dN.mp z).1;simp at this;omega
    subst lX;exact(Jc.no (by simp) (Fd.aCH I)).elim
  exact w.sep b' k i k' i' (back n) (back r)
theorem rN.get{n:ay}:∀{fs:aj (a5×Fd)} {i:ay} {p:a5×Fd},rN n fs->fs[i]?=ai p->sQ n p.2
 |[],_,_,_,h=>by simp at h
 |_::_,0,_,c,h=>by simp at h;subst h;exact c.1
 |_::fs,i+1,_,c,h=>rN.get (fs:=fs) c.2 (by simpa using h)
theorem Wd.fold{s:ay}{cls f:a5}{fs:aj (a5×Fd)}{fd:Fd}{c:Cell}{q:aH}(w:Wd K G O (q++[c]) H)(hs:q[s]?=ai (.ins cls fs))(hf:fs.lookup f=ai (.val (.aJ q.length)))(hc:fd.cell=ai c)
  (P:∀k c',k≠s->q[k]?=ai c'->KJ q.length c') (hfs:rN q.length (putD f fd fs)):Wd K G (O.take q.length) (q.set s (.ins cls (putD f fd fs))) H:=by
 have X:s<q.length:=(dN.mp hs).1;have hlen:O.length=q.length+1:=by rw[w.len];simp
 have n:∀k,k<q.length->(q++[c])[k]?=q[k]?:=λk P=>mM P;have m:∀k,k<q.length->(O.take q.length)[k]?=O[k]?:=λk P=>by rw[QD,a8 P]
 obtain⟨b,hb⟩:∃b,O[q.length]?=ai b:=⟨O[q.length]'(by omega),dR _⟩;have eι:O=O.take q.length++[b]:=by
  have:=List.take_append_getElem (l:=O) (i:=q.length) (by omega);rw[dR (show q.length<O.length by omega)]at hb;cases hb;rw[List.take_append_getElem,aeJ (by omega)]
 have hbn:b∉O.take q.length:=λz=>by
  have nd:=w.inj;rw[eι,QB]at nd;exact nd.2.2 b z b (by simp) rfl
 have sub:∀x,x∉O->x∉O.take q.length:=λx hx z=>hx (List.mem_of_mem_take z);have ha:∃a,O[s]?=ai a:=w.addr (show(q++[c])[s]?=ai (.ins cls fs)by rw[n s X];exact hs);obtain⟨a,ha⟩:=ha;obtain⟨g,C,dx,ws,h0,h1,h2⟩:=w.aJ s _ a (by rw[n s X];exact hs) ha;obtain⟨i0,e1,e2⟩:=TZ hf;obtain⟨q1,q2⟩:=wM.mp h2;have HB:i0<fs.length:=(dN.mp e1).1;have hcb:=w.aJ q.length c b (by simp) hb;refine⟨w.sub,w.inj.sublist (List.take_sublist ..),by simp[hlen],λx hx=>w.live x (List.mem_of_mem_take hx),λk c' S o A=>?_,λy k i k' i' o A=>?_⟩
 ·have D:k<q.length:=by simpa using(dN.mp o).1
  rw[m k D]at A
  by_cases E:k=s
  ·subst E;rw[gK X]at o;cases o;rw[ha]at A;cases A;refine⟨g,C,dx,ws,h0,h1,wM.mpr ⟨by rw[e2];simpa using q1,λj h v g' U e d=>?_⟩⟩;have R:sQ q.length U:=hfs.get d;rw[e2]at d
   by_cases Q:j=i0
   ·subst Q;rw[gK HB]at d;cases d;obtain⟨W,u⟩:=q2 j h v _ _ e e1;refine⟨W,?_⟩;simp only[kL,Den]at u;obtain⟨b2,rfl,kU⟩:=u;rw[hb]at kU;cases kU;exact kL.GC hc hbn (hcb.cut m sub (by cases fd <;> cases hc <;> exact R))
   ·rw[gS (eM Q)]at d;obtain⟨W,u⟩:=q2 j h v g' U e d;exact⟨W,u.cut m sub R⟩
  ·rw[gS (eM E)]at o;exact(w.aJ k c' S (by rw[n k D];exact o) A).cut m sub (P k c' E o)
 ·
  have back:∀{k i},kE H (O.take q.length) (q.set s (.ins cls (putD f fd fs))) k i y->(kE H O (q++[c]) k i y/\y∉O)\/(k=s/\i=i0/\y=b):=λ{k i} h=>by
   obtain⟨S,qJ,N,C',rZ,nC,g',h',U,e,d,B,p,T,F⟩:=h;have D:k<q.length:=by simpa using(dN.mp d).1
   rw[m k D]at e;have ab:∀{qJ N nC C' rZ U g' h'},(q++[c])[k]?=ai (.ins qJ N)->H S=ai (.ins C' rZ nC)->N[i]?=ai (g',U)->U.own=ax->nC[i]?=ai (h',V.ref y)->y∉O:=λ{_ _ _ _ _ fdx _ _} L I x3 x4 x5=>by
    obtain⟨_,_,_,ws2,_,p1,p2⟩:=w.aJ k _ S L e;rw[I]at p1;cases p1;obtain⟨_,r⟩:=(wM.mp p2).2 i _ _ _ _ x5 x3;cases fdx with
    |val x=>cases x4
    |lst ds=>obtain⟨b3,_,t1,_,t2,_⟩:=r;cases t1;exact t2
    |bH kvs=>obtain⟨b3,_,t1,_,t2,_⟩:=r;cases t1;exact t2
   by_cases E:k=s
   ·subst E;rw[gK X]at d;cases d;rw[ha]at e;cases e;rw[h1]at B;cases B;rw[e2]at p
    by_cases Q:i=i0
    ·subst Q
     right
     rw[gK HB]at p;cases p;obtain⟨W,u⟩:=q2 i _ _ _ _ F e1;simp only[kL,Den]at u;obtain⟨b2,eb,kU⟩:=u;rw[hb]at kU;cases kU;cases eb;exact⟨rfl,rfl,rfl⟩
    ·rw[gS (eM Q)]at p;have M:(q++[c])[k]?=ai (.ins cls fs):=by rw[n k D];exact hs
     exact .inl ⟨⟨a,_,fs,C,dx,ws,g',h',U,ha,M,h1,p,T,F⟩,ab M h1 p T F⟩
   ·rw[gS (eM E)]at d;have M:(q++[c])[k]?=ai (.ins qJ N):=by rw[n k D];exact d
    exact .inl ⟨⟨S,qJ,N,C',rZ,nC,g',h',U,e,M,B,p,T,F⟩,ab M B p T F⟩
  have t:b∈O:=kF hb
  rcases back o with⟨L,I⟩|⟨L,I,x3⟩ <;> rcases back A with⟨e,d⟩|⟨e,d,B⟩
  ·exact w.sep y k i k' i' L e
  ·subst B;exact bu t I
  ·subst x3;exact bu t d
  ·exact⟨L.trans e.symm,I.trans d.symm⟩
end
def Unf(s:ay)(f:a5)(Z Z1:aH):Prop:=∃cls fs fd c,Z[s]?=ai (.ins cls fs)/\fs.lookup f=ai fd/\fd.cell=ai c/\Z1=Z.set s (.ins cls (putD f (.val (.aJ Z.length)) fs))++[c]
def Folds(s:ay)(f:a5)(n:ay)(Z2 Z':aH):Prop:=∃j c cls fs fd,Z2=j++[c]/\j.length=n/\j[s]?=ai (.ins cls fs)/\fs.lookup f=ai (.val (.aJ n))/\fd.cell=ai c /\
 (∀k c',k≠s->j[k]?=ai c'->KJ n c')/\rN n (putD f fd fs)/\Z'=j.set s (.ins cls (putD f fd fs))
structure ClS(Z:aH)(Y:Ev):Prop where
 aJ:∀(k:ay) (c:Cell),Z[k]?=ai c->KJ Z.length c
 env:∀(i:ay) (d:A),Y[i]?=ai (ai d)->Cl Z.length d
section
variable{K:bg}{G H:Hp}{O:aj au}{Z Z1 Z2 Z':aH}{J:L2.St}{Y:Ev}{W:WX}{s:ay}{f:a5}
theorem Wd.sE(w:Wd K G O Z H)(r:iH K G O J Y):ClS Z Y where
 aJ:=λk c h=>by
  obtain⟨a,ha⟩:=w.addr h;have:=(w.aJ k c a h ha).cl;rwa[w.len]at this
 env:=λi d h=>by
  obtain⟨v,_,q⟩:=r.2 i d h;have:=q.cl;rwa[w.len]at this
theorem Wd.unf(w:Wd K G O Z H)(h:Unf s f Z Z1):∃b,Wd K G (O++[b]) Z1 H:=by
 obtain⟨cls,fs,fd,c,h1,h2,j,rfl⟩:=h;exact w.unfold h1 h2 j
theorem ayU{G':Hp}{O':aj au}{b:au}{n:ay}(hl:O.length=n)(e:Ext G (O++[b]) G' O'):Ext G O G' (O'.take n):=⟨e.same,λk x h=>by
 have j:=(dN.mp h).1;rw[QD,a8 (by omega)];exact e.pre k x (by rw[mM j];exact h)⟩
theorem Wd.ayM{n:ay}(w:Wd K G O Z2 H)(h:Folds s f n Z2 Z'):Wd K G (O.take n) Z' H:=by
 obtain⟨j,c,cls,fs,fd,rfl,rfl,b,a,U,z,q,rfl⟩:=h;exact w.fold b a U z q
theorem ahA{O':aj au}{n:ay}:∀k,k<n->(O'.take n)[k]?=O'[k]?:=λk j=>by rw[QD,a8 j]
theorem abJ{j:L2.St}{Y':Ev}{G':Hp}{O':aj au}{n:ay}(r:iH K G' O' j Y')(q:∀(i:ay) (d:A),Y'[i]?=ai (ai d)->Cl n d):iH K G' (O'.take n) j Y' :=
 ⟨r.1,λi d h=>let ⟨v,h1,h2⟩:=r.2 i d h; ⟨v,h1,h2.cut ahA (q i d h)⟩⟩
theorem amX{b:au}{D:Ends}{Y':Ev}(w:Wd K G O Z H)(c:Folds s f Z.length Z2 Z')(a:∀(i:ay) (d:A),Y'[i]?=ai (ai d)->Cl Z.length d)(h:gE K W G O D (ai (.nx,Y',Z'))):gE K W G (O++[b]) D (ai (.nx,Y',Z2)):=by
 intro j g k q e z U;exact h j g k (q.take Z.length) (ayU w.len e) (z.ayM c) (abJ U a)
end
section
variable{X:Cx}{W:WX}{e:bp}{tg:bp}{st:bt}{g d:Ev->Mo A}{gb db:Ev->Mo bh}{gs ds:MS}{gt dt:A->MS}
theorem afL(h:VS X W st gs)(hd:∀Y Z r,ClS Z Y->ds Y Z=ai r->∃s f Z1 Z2,Unf s f Z Z1/\gs Y Z1=ai (.nx,r.2.1,Z2)/\Folds s f Z.length Z2 r.2.2/\(∀(i:ay) (d:A),r.2.1[i]?=ai (ai d)->Cl Z.length d)/\r.1=.nx):VS X W st ds:=by
 obtain⟨t,p,sm⟩:=h;refine⟨t,p,λG a Z H J Y D w r h=>?_⟩;cases e:ds Y Z with
 |none=>rw[e]at h;exact h.elim
 |some q =>
  obtain⟨s,f,Z1,Z2,h1,h2,U,z,j⟩:=hd Y Z q (w.sE r) e;obtain⟨b,c⟩:=w.unf h1;obtain⟨l,k,g⟩:=q;simp only at h2 U z j;subst j;rw[e]at h;refine sm G (a++[b]) Z1 H J Y D c (r.ext (Ext.cell b)) ?_;rw[h2];exact amX w U z h
end
def fG(K:bg)(cs:aj a5)(f:a5):Prop:=∀cls∈cs,∃C,dz K bc cls=ai (ai (.ref C))/\nL K C/\EL K C f
@[simp] def DN(cs:aj a5)(f:a5)(a:A):Mo A:=λZ=>match a with
 |.aJ s=>match Z[s]? with
  |some (.ins cls fs)=>if cls∈cs then match fs.lookup f with
   |some (.val b)=>ai (.ok b,Z)
   |_=>ak else ak
  |_=>ak
 |_=>ak
@[simp] def fL(cs:aj a5)(f:a5)(fe:Ev->Mo A):Ev->Mo A:=λY=>mb (fe Y) (DN cs f)
@[simp] def rR(cs:aj a5)(f:a5)(fo fv:Ev->Mo A):MS:=λY=>sM (fv Y) Y λb=>sM (fo Y) Y λa Z=>match a with
 |.aJ s=>match Z[s]? with
  |some (.ins cls fs)=>if cls∈cs/\fs.length<1000 then ai (.nx,Y,Z.set s (.ins cls (putD f (.val b) fs)))else ak
  |_=>ak
 |_=>ak
section
variable{K:bg}{G H:Hp}{O:aj au}{Z:aH}
theorem Wd.ins(w:Wd K G O Z H){s:ay}{cls:a5}{fs:aj (a5×Fd)}{v:V}(h:Z[s]?=ai (.ins cls fs))(d:Den K G O v (.aJ s)):∃a C dx,∃ws:aj (a5×V),v=.ref a/\O[s]?=ai a/\G a=ak/\dz K bc cls=ai (ai (.ref C))/\H a=ai (.ins C dx ws)/\kG K G O H ws fs:=by
 simp only[Den]at d;obtain⟨a,rfl,ha⟩:=d;obtain⟨g,C,dx,ws,h1,h2,j⟩:=w.aJ s _ a h ha;exact⟨a,C,dx,ws,rfl,ha,g,h1,h2,j⟩
theorem Vi{f:a5}{v:V}{b:A}:∀{j:aj (a5×V)} {fs:aj (a5×Fd)} {i:ay} {g h:a5} {fd:Fd} {x:V},kG K G O H j fs->(putD f (.val b) fs)[i]?=ai (g,fd)->fd.own=ax->(jY f v j)[i]?=ai (h,x)->fs[i]?=ai (g,fd)/\j[i]?=ai (h,x)
 |[],[],i,g,h,fd,x,_,y,o,_=>by
  cases i with
  |zero=>simp[putD]at y;obtain⟨_,rfl⟩:=y;cases o
  |succ i=>simp[putD]at y
 |[],_::_,_,_,_,_,_,q,_,_,_=>q.elim
 |_::_,[],_,_,_,_,_,q,_,_,_=>q.elim
 |(k,u)::j,(c,d)::fs,i,g,h,fd,x,q,y,o,z=>by
  obtain⟨rfl,a,U⟩:=q
  by_cases e:k=f
  ·simp only[putD,jY,a8 e]at y z;cases i with
   |zero=>simp at y;obtain⟨_,rfl⟩:=y;cases o
   |succ i=>exact⟨by simpa using y,by simpa using z⟩
  ·simp only[putD,jY,bb e]at y z;cases i with
   |zero=>exact⟨by simpa using y,by simpa using z⟩
   |succ i =>
    have:=Vi (f:=f) (v:=v) (b:=b) (i:=i) U (by simpa using y) o (by simpa using z);exact⟨by simpa using this.1,by simpa using this.2⟩
theorem Wd.aiV(w:Wd K G O Z H){s:ay}{cls f:a5}{fs:aj (a5×Fd)}{a C dx:au}{ws:aj (a5×V)}{v:V}{b:A}(h:Z[s]?=ai (.ins cls fs))(ha:O[s]?=ai a)(F:G a=ak)(h0:dz K bc cls=ai (ai (.ref C)))
  (h1:H a=ai (.ins C dx ws)) (h2:kG K G O H ws fs) (d:Den K G O v b):Wd K G O (Z.set s (.ins cls (putD f (.val b) fs))) (upd H a (.ins C dx (jY f v ws))):=by
 have D:s<Z.length:=(dN.mp h).1;have E:∀b o,b∉O->G b=ak->H b=ai o->b∉O/\G b=ak/\upd H a (.ins C dx (jY f v ws)) b=ai o:=λb o x y z=>by
  have nb:b≠a:=λe=>by subst e;exact x (GH ha)
  exact⟨x,y,by rw[cD nb];exact z⟩
 have N:kG K G O (upd H a (.ins C dx (jY f v ws))) ws fs:=h2.map λ_ _ q=>q.mono (Ext.refl _ _) E;refine⟨λb u q=>?_,w.inj,by simp[w.len],λb hb=>?_,λj T b g c=>?_,λr j i Q S g c=>?_⟩
 ·have e:b≠a:=λe=>by subst e;rw[F]at q;cases q
  rw[cD e];exact w.sub _ _ q
 ·by_cases e:b=a
  ·subst e;exact⟨_,eX⟩
  ·rw[cD e];exact w.live b hb
 ·by_cases U:j=s
  ·subst U;rw[gK D]at g;cases g;rw[ha]at c;cases c;exact⟨F,C,dx,_,h0,eX,N.put d⟩
  ·rw[gS (eM U)]at g;have gV:b≠a:=λe=>by subst e;exact U (GD w.inj c ha)
   exact(w.aJ j T b g c).mono (Ext.refl _ _) rfl (cD gV) E
 ·have back:∀{j i},kE (upd H a (.ins C dx (jY f v ws))) O (Z.set s (.ins cls (putD f (.val b) fs))) j i r->kE H O Z j i r:=λ{j i} q=>by
   obtain⟨I,M,R,W,L,P,g',h',k,n,m,l,B,p,t⟩:=q
   by_cases U:j=s
   ·subst U;rw[gK D]at m;cases m;rw[ha]at n;cases n;rw[eX]at l;cases l;have pi:=Vi h2 B p t;exact⟨a,cls,fs,C,dx,ws,g',h',k,ha,h,h1,pi.1,p,pi.2⟩
   ·rw[gS (eM U)]at m;have gV:I≠a:=λe=>by subst e;exact U (GD w.inj n ha)
    rw[cD gV]at l;exact⟨I,M,R,W,L,P,g',h',k,n,m,l,B,p,t⟩
  exact w.sep r j i Q S (back g) (back c)
end
section
variable{X:Cx}{W:WX}{e o value:bp}{f:a5}{cs:aj a5}{pos pos':cx}{fe fo fv:Ev->Mo A}
theorem nO(h:VE X W e fe)(A:fG X.K cs f)(hb:b0 e f X.env (bz e X.env)=bz e X.env:=by rfl):VE X W (.Attribute e f pos) (fL cs f fe):=by
 obtain⟨t,p,s⟩:=h;refine⟨_,LY p hb,λG m n H J i Q w r h=>?_⟩;refine s G m n H J i _ w r (cA.mb h λa q v N P j R d M h1=>?_);unfold DN at h1;cases a with
 |aJ k =>
  simp only at h1;cases U:q[k]? with
  |none=>rw[U]at h1;exact h1.elim
  |some c =>
   rw[U]at h1;cases c with
   |ins cls fs =>
    simp only at h1
    by_cases gW:cls∈cs
    ·rw[a8 gW]at h1;cases z:fs.lookup f with
     |none=>rw[z]at h1;exact h1.elim
     |some F =>
      rw[z]at h1;cases F with
      |val b =>
       obtain⟨a,C,I,o,rfl,ha,S,E,B,D⟩:=d.ins U M;obtain⟨T,g,y,x⟩:=A cls gW;rw[E]at g;cases g;obtain⟨u,l,L⟩:=D.look z;exact⟨a,C,I,o,u,rfl,B,y,x,l,h1 u N P j (Ext.refl _ _) d L⟩
      |_=>exact h1.elim
    ·rw[bb gW]at h1;exact h1.elim
   |_=>exact h1.elim
 |_=>exact h1.elim
theorem vM(R:VE X W o fo)(hv:VE X W value fv)(T:fG X.K cs f)(Q:df value (ai (.Attribute o f pos')) pos.line X.env=pure aq:=by rfl):VS X W (.Assign [.Attribute o f pos'] value pos) (rR cs f fo fv):=by
 obtain⟨t,p,s⟩:=R;obtain⟨u,q,z⟩:=hv;refine⟨_,amR p q Q,λG F I H J i D w r h=>?_⟩;refine z G F I H J i _ w r (gE.sM h r λb e y H1 G1 U g M d1 h1=>?_);refine s G1 U e H1 J i _ M (r.ext g) (gE.sM h1 (r.ext g) λa d v H2 G2 E l m d2 h2=>?_);cases a with
 |aJ k =>
  simp only at h2;cases j:d[k]? with
  |none=>rw[j]at h2;exact h2.elim
  |some c =>
   rw[j]at h2;cases c with
   |ins cls fs =>
    simp only at h2
    by_cases gW:cls∈cs/\fs.length<1000
    ·rw[a8 gW]at h2;obtain⟨a,C,V,L,rfl,ha,S,B,x,A⟩:=m.ins j d2;obtain⟨C',n,P,N⟩:=T cls gW.1;rw[B]at n;cases n;refine⟨a,C,V,L,rfl,x,P,N,by rw[A.len];exact gW.2,?_⟩;exact uH (m.aiV j ha S B x A (d1.ext l)) ((r.ext g).ext l) h2
    ·rw[bb gW]at h2;exact h2.elim
   |_=>exact h2.elim
 |_=>exact h2.elim
end
end V2
namespace L2
open PySem PySem.Spec PyProof.Rows
section
variable{X:Cx}{W:WX}{k:ay}{f C:au}{fd:cp}{ps:aj a5}{sp:Sp}{dvs:aj V}{ds:aj ao}{x m:a5}{p pos af:cx}{e o:bp}{es:aj bp}{ta:TE}{t:TA}
theorem Ec{aa:aj (au×cq)}{J:St}{H:Hp}{s:aw}{Q:VK}{us:aj ao}{vs:aj V}(T:qL X W)(F:iQ X.prog X.w X.K X.mg X.base (oZ X.prog X.w) k f fd ps sp)(hr:cZ k X.A)(hb:Binds X.K fd ps ds)(hd:Vals dvs ds)
  (I:Inv X aa J H s) (r:Vals vs us) (h:sp (vs++dvs) H Q λcls dx H'=>W J cls dx H'):wpAny (bj X.prog X.w) X.A (call (.ref f) us) (EP X aa J Q) X.xe s:=by
 have q:Vals (vs++dvs) (us++ds):=r.append hd;have hl:(us++ds).length=ps.length:=by rw[<-q.length];exact F.len _ _ _ _ h
 refine BY (tN (F.run X.A X.stack s H ⟨us,[]⟩ (us++ds) (vs++dvs) Q _ hr I.DR (hb s us I.gG hl) q h) λr s' j=>?_);cases r with
 |error d =>
  obtain⟨a,cls,dx,H',rfl,os,bare,un,aL,ex,U⟩:=j;have c:=(I.HW os un aL bare (λb z=>bu z (by simp))).Es;exact T.to _ _ ⟨J,H',a,cls,dx,rfl,c,(ex.first I T.ex).any,U⟩
 |ok fl =>
  cases fl with
  |ret u=>exact I.after j
  |next=>exact False.elim j
  |brk=>exact False.elim j
  |cont=>exact False.elim j
def Ax(X:Cx)(W:WX)(m:a5)(ta:TE)(t:TA):TE:=λJ H Q=>ta J H λx H1=>∃a C dx fs k f fd ps ds dvs sp,x=.ref a/\H1 a=ai (.ins C dx fs)/\fs.lookup m=ak/\nL X.K C/\Meth X.K C m f /\
 iQ X.prog X.w X.K X.mg X.base (oZ X.prog X.w) k f fd ps sp/\cZ k X.A/\Binds X.K fd ps ds/\Vals dvs ds/\t J H1 λvs H2=>sp (.ref a::vs++dvs) H2 Q λcls dx H'=>W J cls dx H'
theorem anQ{pl:Sem bh}(T:qL X W)(he:PE X o ta)(ha:PA X (e::es) t)
  (i:ba (e::es) X.env=(aq,bz e X.env)::ba es X.env:=by rfl) (p:(cg pos (ba es X.env)).any (·.1)=aq:=by rfl)
  (n:bz (.Call (.Attribute o m af) (e::es) [] pos) X.env=(do
   let j<-bz o X.env
   standAt af.atName
   let (f,first)<-dh [j] (getMethod j m pl)
   callWith pos f first (cg pos (ba (e::es) X.env)) (backToKw pos (c5 [] X.env))):=by rfl) :
  PE X (.Call (.Attribute o m af) (e::es) [] pos) (Ax X W m ta t):=by
 intro aa s J H Q I h;refine methodCall_KW (pl:=pl) (bT (he aa s J H _ I h) λu b h1=>?_) n;obtain⟨x,y,U,d,a,C,G,fs,k,f,E,D,ds,w,A,rfl,v,l,c,hm,F,hr,hb,hd,q⟩:=h1;obtain rfl:u=Value.ref a:=d;refine aaZ U v c hm l ?_;refine callWith_K (first:=[.ref a]) (h₀:=X.base) I.ok.mod.tG hm.kp (bT (ha pos aa b J y _ U q) λus B ⟨vs,K,z,r,g⟩=>⟨z.gG,?_⟩) i p;exact Ec (us:=.ref a::us) (vs:=.ref a::vs) T F hr hb hd z (.cons rfl r) g
theorem anP{pl:Sem bh}(T:qL X W)(he:PE X o ta)
  (b:bz (.Call (.Attribute o m af) [] [] pos) X.env=(do
   let z<-bz o X.env
   standAt af.atName
   let (f,first)<-dh [z] (getMethod z m pl)
   callWith pos f first (cg pos (ba [] X.env)) (backToKw pos (c5 [] X.env))):=by rfl) :
  PE X (.Call (.Attribute o m af) [] [] pos) (Ax X W m ta LF):=by
 intro aa s J H Q I h;refine methodCall_KW (pl:=pl) (bT (he aa s J H _ I h) λu i h1=>?_) b;obtain⟨x,t,j,U,a,C,r,fs,k,f,p,n,ds,e,g,rfl,d,l,c,hm,F,hr,hb,hd,q⟩:=h1;obtain rfl:u=Value.ref a:=U;refine aaZ j d c hm l ?_;exact PySem.W.callWith_K0 (first:=[.ref a]) j.gG hm.kp (Ec (us:=[.ref a]) (vs:=[.ref a]) T F hr hb hd j (.cons rfl .nil) q)
structure Qw(K:bg)(R:au)(m:a5)(f:au):Prop where
 reads:PySem.W.readsIn K R (.type "type")=ax
 find:PySem.W.findCls K (.ref R) (.type "type") m=ai (.val (.ref f))
 ga:specialIn K (.ref R) "__getattribute__" = ai (ai (.builtin "type.__getattribute__"))
 kp:di K (.ref f)=ax
theorem aoE{pl:Sem bh}{R:au}{j:a5}{np:cx}(T:qL X W)(B:Qw X.K R m f)(q:X.mg j=ai (.ref R))(g:Gl X j)(F:iQ X.prog X.w X.K X.mg X.base (oZ X.prog X.w) k f fd ps sp)(hr:cZ k X.A)(hb:Binds X.K fd ps [])(ha:PA X (e::es) t)
  (i:(j==("__debug__" : a5))=aq:=by decide) (c:ba (e::es) X.env=(aq,bz e X.env)::ba es X.env:=by rfl) (l:(cg pos (ba es X.env)).any (·.1)=aq:=by rfl)
  (d:bz (.Call (.Attribute (.Name j np) m af) (e::es) [] pos) X.env=(do
   let z<-bz (.Name j np) X.env
   standAt af.atName
   let (f,first)<-dh [z] (getMethod z m pl)
   callWith pos f first (cg pos (ba (e::es) X.env)) (backToKw pos (c5 [] X.env))):=by rfl) :
  PE X (.Call (.Attribute (.Name j np) m af) (e::es) [] pos) (Bc sp W t):=by
 intro aa s J H Q I h;refine methodCall_KW (pl:=pl) (CU I g q ?_ i) d;refine PySem.W.method_cls I.gG B.ga (PySem.W.cls_value I.gG B.reads B.find (aaM (v:=.ref f) rfl) ?_);have o:=I.tok (s.toks+1);refine callWith_K (first:=[]) (h₀:=X.base) I.ok.mod.tG B.kp (bT (ha pos aa _ J H _ o h) λus x ⟨vs,p,U,r,b⟩=>⟨U.gG,?_⟩) c l;have a:sp (vs++[]) p Q λcls n u=>W J cls n u:=by rw[wZ];exact b
 exact Ec (us:=us) (vs:=vs) (dvs:=[]) T F hr hb .nil U r a
end
end L2
namespace V2
open PySem PySem.Spec PyProof.Rows L2
@[simp] def bR(n:ay)(das:aj A)(F:aj A->Mo A):aj A->Mo A:=λas=>if as.length+das.length=n then F (as++das)else stuck
structure cR(P:bf)(w:bo)(K:bg)(mg:a5->ar ao)(base:bx)(cls m:a5)(k:ay)(n:ay)(das:aj A)(F:aj A->Mo A):Prop where
 ex:∃C f fd ps ds dvs,dz K bc cls=ai (ai (.ref C))/\nL K C/\Meth K C m f/\ps.length=n/\iQ P w K mg base (oZ P w) k f fd ps (rP K ps.length F)/\Binds K fd ps ds/\Vals dvs ds/\∀G O,bJ K G O dvs das
@[simp] def VL(m:a5)(tab:aj (a5×(aj A->Mo A)))(fs:Mo (aj A))(a:A):Mo A:=λZ=>match a with
 |.aJ s=>match Z[s]? with
  |some (.ins cls j)=>match tab.lookup cls,j.lookup m with
   |some F,ak=>mb fs (λas=>F (.aJ s::as)) Z
   |_,_=>ak
  |_=>ak
 |_=>ak
@[simp] def bU(m:a5)(tab:aj (a5×(aj A->Mo A)))(fo:Ev->Mo A)(fs:Ev->Mo (aj A)):Ev->Mo A:=λY=>mb (fo Y) (VL m tab (fs Y))
def bX(X:Cx)(m:a5)(tab:aj (a5×(aj A->Mo A))):Prop:=∀cls F,tab.lookup cls=ai F->∃k n das j,F=bR n das j/\cZ k X.A/\cR X.prog X.w X.K X.mg X.base cls m k n das j
section
variable{X:Cx}{W:WX}{m:a5}{tab:aj (a5×(aj A->Mo A))}{o e:bp}{es:aj bp}{fo:Ev->Mo A}{fs:Ev->Mo (aj A)}{pos af:cx}
theorem bX.nil:bX X m []:=λcls F h=>by simp at h
theorem bX.cons{cls:a5}{k n:ay}{das:aj A}{F:aj A->Mo A}(h:cR X.prog X.w X.K X.mg X.base cls m k n das F)(hr:cZ k X.A)(t:bX X m tab):bX X m ((cls,bR n das F)::tab):=λc j q=>by
 by_cases e:c=cls
 ·subst e;simp[List.lookup]at q;exact⟨k,n,das,F,q.symm,hr,h⟩
 ·have hb:(c==cls)=aq:=yV.mpr e;simp only[List.lookup,hb]at q;exact t c j q
theorem Ug{ta:TE}{t:TA}(MW:bX X m tab)(S:fJ X.K (Den X.K) W ta fo)(R:fJ X.K (bJ X.K) W t fs):fJ X.K (Den X.K) W (Ax X W m ta t) (bU m tab fo fs):=by
 intro G D E H J p Q w r h;refine S G D E H J p _ w r (cA.mb h λa q v H1 G1 b L u o h1=>?_);unfold VL at h1;cases a with
 |aJ s =>
  simp only at h1;cases l:q[s]? with
  |none=>rw[l]at h1;exact h1.elim
  |some c =>
   rw[l]at h1;cases c with
   |ins cls Js =>
    simp only at h1;cases i:tab.lookup cls with
    |none=>rw[i]at h1;exact h1.elim
    |some F =>
     rw[i]at h1;cases g:Js.lookup m with
     |some _=>rw[g]at h1;exact h1.elim
     |none =>
      rw[g]at h1;obtain⟨k,n,U,F0,rfl,hr,MV⟩:=MW cls F i;obtain⟨C,f,fd,T,ds,z,hC,gW,ND,hn,FO,hb,hv,e⟩:=MV.ex;obtain⟨a,C',dx,M,rfl,ha,hg,x,V,hF⟩:=u.ins l o;rw[hC]at x;cases x;refine⟨a,C,dx,M,k,f,fd,T,ds,z,_,rfl,V,hF.ap2 g,gW,ND,FO,hr,hb,hv,?_⟩;refine R G1 b q H1 J p _ u (r.ext L) (cA.mb h1 λA d P H2 B j I N d2 h2=>?_);unfold bR at h2;split at h2
      ·rename_i hl;have y:bJ X.K B j (.ref a::P++z) (.aJ s::A++U):=(bJ.cons (by simp only[Den]at o ⊢;obtain⟨a2,e5,e6⟩:=o;exact⟨a2,e5,I.pre _ _ e6⟩) d2).append (e _ _);refine⟨?_,B,j,d,.aJ s::A++U,N,y,WG h2 (Ext.refl _ _)⟩;have:=y.length;rw[this,hn];simp only[vE,iP]at hl ⊢;omega
      ·exact h2.elim
   |_=>exact h1.elim
 |_=>exact h1.elim
theorem mP{pl:Sem bh}(T:qL X W)(h:bX X m tab)(d:VE X W o fo)(ha:VA X W (e::es) fs)
  (b:ba (e::es) X.env=(aq,bz e X.env)::ba es X.env:=by rfl) (g:(cg pos (ba es X.env)).any (·.1)=aq:=by rfl)
  (c:bz (.Call (.Attribute o m af) (e::es) [] pos) X.env=(do
   let j<-bz o X.env
   standAt af.atName
   let (f,first)<-dh [j] (getMethod j m pl)
   callWith pos f first (cg pos (ba (e::es) X.env)) (backToKw pos (c5 [] X.env))):=by rfl) :
  VE X W (.Call (.Attribute o m af) (e::es) [] pos) (bU m tab fo fs):=by
 obtain⟨i,a,z⟩:=d;obtain⟨t,U,q⟩:=ha;exact⟨_,anQ T a U b g c,Ug h z q⟩
theorem jW{pl:Sem bh}(T:qL X W)(c:bX X m tab)(b:VE X W o fo)
  (a:bz (.Call (.Attribute o m af) [] [] pos) X.env=(do
   let j<-bz o X.env
   standAt af.atName
   let (f,first)<-dh [j] (getMethod j m pl)
   callWith pos f first (cg pos (ba [] X.env)) (backToKw pos (c5 [] X.env))):=by rfl) :
  VE X W (.Call (.Attribute o m af) [] [] pos) (bU m tab fo a0):=by
 obtain⟨g,U,z⟩:=b;refine⟨_,anP T U a,Ug c z ?_⟩;intro G q e H J d Q w r h;exact h [] H G q (Ext.refl _ _) w .nil
structure IS(P:bf)(w:bo)(K:bg)(mg:a5->ar ao)(base:bx)(cls:a5)(k:ay)(n:ay)(F:aj A->Mo A):Prop where
 ex:∃C f fd ps,dz K bc cls=ai (ai (.ref C))/\mg cls=ai (.ref C)/\Mk K C f/\ps.length=n/\iQ P w K mg base (oZ P w) k f fd ps (rP K ps.length F)/\Binds K fd ps []
@[simp] noncomputable def uQ(cls:a5)(n:ay)(F:aj A->Mo A)(as:aj A):Mo A:=λZ=>if as.length+1=n then match F (.aJ Z.length::as) (Z++[.ins cls []])with
 |some (.ok .dE,Z2)=>ai (.ok (.aJ Z.length),Z2)
 |_=>ak else ak
theorem KW{cls:a5}{k n:ay}{F:aj A->Mo A}{p:cx}(M:IS X.prog X.w X.K X.mg X.base cls k n F)(hr:cZ (k+1) X.A)(T:Gl X cls)(ha:VA X W (e::es) fs)
  (V:(cls==("__debug__" : a5))=aq:=by decide) (he:ba (e::es) X.env=(aq,bz e X.env)::ba es X.env:=by rfl) (fQ:(cg pos (ba es X.env)).any (·.1)=aq:=by rfl) :
  VE X W (.Call (.Name cls p) (e::es) [] pos) (aU (uQ cls n F) fs):=by
 obtain⟨C,f,fd,ps,hC,hm,mk,hn,FO,hb⟩:=M.ex;obtain⟨t,S,R⟩:=ha;refine⟨_,anR mk (Kp FO) hr T hm hb .nil Vy S V he fQ,λG y D H J u Q w r h=>?_⟩;refine R G y D H J u _ w r (cA.mb h λi j P l m z x1 b d1 h1=>?_);unfold uQ at h1
 by_cases hl:i.length+1=n
 ·rw[a8 hl]at h1;intro x U s d gV;have L:=b.grow (H':=upd l U (.own x)) (oV.new d);have E:upd l U (.own x) x=ak:=by rw[cD (eM gV)];exact s
  have I:Wd X.K m (z++[x]) (j++[.ins cls []]) (upd (upd l U (.own x)) x (.ins C U [])):=L.cell E ⟨b.oN s,C,U,[],hC,eX,trivial⟩;have o:bJ X.K m (z++[x]) (.ref x::(P++[])) (.aJ j.length::i):=.cons (by simp only[Den];exact⟨x,rfl,by rw[<-b.len];simp⟩) (by rw[wZ];exact d1.ext (Ext.cell x));refine⟨by rw[o.length,hn];simpa using hl,m,z++[x],_,_,I,o,?_⟩
  revert h1
  generalize F (.aJ j.length::i) (j++[.ins cls []])=q;intro h1
  match q,h1 with
  |some (.ok .dE,B),h1 =>
   intro v H' G' c g N d';simp only[Den]at d';subst d';refine⟨rfl,h1 (.ref x) H' G' c ⟨g.same,λk a q=>g.pre k a (by rw[mM (dN.mp q).1];exact q)⟩ N ?_⟩;simp only[Den];exact⟨x,rfl,g.pre _ _ (by rw[<-b.len];simp)⟩
 ·rw[bb hl]at h1;exact h1.elim
structure EW(P:bf)(w:bo)(K:bg)(mg:a5->ar ao)(base:bx)(rk m:a5)(k:ay)(n:ay)(F:aj A->Mo A):Prop where
 ex:∃R f fd ps,mg rk=ai (.ref R)/\Qw K R m f/\ps.length=n/\iQ P w K mg base (oZ P w) k f fd ps (rP K ps.length F)/\Binds K fd ps []
theorem af2{pl:Sem bh}{j:a5}{k n:ay}{F:aj A->Mo A}{np:cx}(T:qL X W)(B:EW X.prog X.w X.K X.mg X.base j m k n F)(s:Gl X j)(hr:cZ k X.A)(ha:VA X W (e::es) fs)
  (u:(j==("__debug__" : a5))=aq:=by decide) (o:ba (e::es) X.env=(aq,bz e X.env)::ba es X.env:=by rfl) (v:(cg pos (ba es X.env)).any (·.1)=aq:=by rfl)
  (p:bz (.Call (.Attribute (.Name j np) m af) (e::es) [] pos) X.env=(do
   let U<-bz (.Name j np) X.env
   standAt af.atName
   let (f,first)<-dh [U] (getMethod U m pl)
   callWith pos f first (cg pos (ba (e::es) X.env)) (backToKw pos (c5 [] X.env))):=by rfl) :
  VE X W (.Call (.Attribute (.Name j np) m af) (e::es) [] pos) (aU (bN n F) fs):=by
 obtain⟨R,f,M,L,hm,D,hn,C,hb⟩:=B.ex;obtain⟨t,l,i⟩:=ha;refine⟨_,aoE T D hm s C hr hb l u o v p,λG c d H J b Q w r h=>?_⟩;refine i G c d H J b _ w r (cA.mb h λx z I N y q E g a h1=>?_);unfold bN at h1;split at h1
 ·rename_i hl;exact⟨by rw[a.length,hn];exact hl,y,q,z,x,g,a,WG h1 (Ext.refl _ _)⟩
 ·exact False.elim h1
end
def uE(cs:aj a5)(i:ay)(f:a5)(Y:Ev)(Z:aH):ar (ay×a5×aj (a5×Fd)×Fd):=match (Y[i]?).join with
 |some (.aJ s)=>match Z[s]? with
  |some (.ins cls fs)=>if cls∈cs then(fs.lookup f).map λfd=>(s,cls,fs,fd)else ak
  |_=>ak
 |_=>ak
abbrev iD(Z:aH)(s:ay)(cls f:a5)(fs:aj (a5×Fd))(c:Cell):aH:=Z.set s (.ins cls (putD f (.val (.aJ Z.length)) fs))++[c]
section
variable{cs:aj a5}{i:ay}{f:a5}{Y:Ev}{Z:aH}{s:ay}{cls:a5}{fs:aj (a5×Fd)}{fd fd':Fd}{c c':Cell}
theorem Wb(h:uE cs i f Y Z=ai (s,cls,fs,fd)):Y[i]?=ai (ai (.aJ s))/\Z[s]?=ai (.ins cls fs)/\cls∈cs/\fs.lookup f=ai fd:=by
 unfold uE at h;cases U:(Y[i]?).join with
 |none=>rw[U]at h;cases h
 |some d =>
  rw[U]at h;cases d with
  |aJ k =>
   simp only at h;cases z:Z[k]? with
   |none=>rw[z]at h;cases h
   |some c =>
    rw[z]at h;cases c with
    |ins a b =>
     simp only at h
     by_cases j:a∈cs
     ·rw[a8 j]at h;cases q:b.lookup f with
      |none=>rw[q]at h;cases h
      |some x =>
       rw[q]at h;cases h;exact⟨join_some U,z,j,q⟩
     ·rw[bb j]at h;cases h
    |_=>cases h
  |_=>cases h
theorem Kl{n:ay}{f:a5}{fd:Fd}:∀{fs:aj (a5×Fd)},rN n fs->sQ n fd->rN n (putD f fd fs)
 |[],_,h=>⟨h,trivial⟩
 |(g,x)::r,c,h=>by
  by_cases e:g=f
  ·simp only[putD,a8 e];exact⟨h,c.2⟩
  ·simp only[putD,bb e];exact⟨c.1,Kl c.2 h⟩
theorem UB(h:uE cs i f Y Z=ai (s,cls,fs,fd)):(iD Z s cls f fs c)[Z.length]?=ai c:=by
 rw[EO (by simp)];simp
theorem UA(h:uE cs i f Y Z=ai (s,cls,fs,fd)):fL cs f (dA i) Y (iD Z s cls f fs c)=ai (.ok (.aJ Z.length),iD Z s cls f fs c):=by
 obtain⟨h1,h2,z,U⟩:=Wb h;have j:s<Z.length:=(dN.mp h2).1;have e:(iD Z s cls f fs c)[s]?=ai (.ins cls (putD f (.val (.aJ Z.length)) fs)):=by
  rw[mM (by simpa using j),gK j]
 have l:(putD f (Fd.val (.aJ Z.length)) fs).lookup f=ai (.val (.aJ Z.length)):=by rw[TB,a8 rfl]
 have q:(Y[i]?).join=ai (.aJ s):=by rw[h1];rfl
 simp only[fL,dA,need,mb,q,EI,DN,e,a8 z,l]
theorem Gg(j:Cell):(iD Z s cls f fs c).set Z.length j=iD Z s cls f fs j:=by
 unfold iD;rw[List.set_append_right _ _ (by simp)];simp
end
noncomputable def GK(Z:aH):A->ar (aj A)
 |.lst ds=>ai ds
 |.aJ k=>match Z[k]? with
  |some (.lst ds)=>ai ds
  |_=>ak
 |_=>ak
theorem arB{K:bg}{G H:Hp}{O:aj au}{Z:aH}{v:V}{a:A}{ds:aj A}(w:Wd K G O Z H)(d:Den K G O v a)(h:GK Z a=ai ds):∃p xs,v=.ref p/\H p=ai (.lst xs)/\bJ K G O xs ds:=by
 cases a with
 |lst es =>
  simp only[GK,lO]at h;subst h;simp only[Den]at d;obtain⟨p,xs,rfl,h2,q⟩:=d;exact⟨p,xs,rfl,w.sub _ _ h2,q⟩
 |aJ j =>
  simp only[GK]at h;split at h
  ·rename_i es e;cases h;simp only[Den]at d;obtain⟨p,rfl,z⟩:=d;obtain⟨g,xs,q,U⟩:=w.aJ j _ p e z;exact⟨p,xs,rfl,q,U⟩
  ·cases h
 |_=>simp[GK]at h
@[simp] def Jm(o:A)(as:aj A):Mo A:=λZ=>match pO Z o,as with
 |some (k,ds),[y]=>match GK Z y with
  |some es=>if ds.length+es.length<=az then ai (.ok .dE,Z.set k (.lst (ds++es)))else ak
  |none=>ak
 |_,_=>ak
theorem aq4{X:Cx}{W:WX}:Od X.K W Uw Jm:=by
 intro G z s H J x t a v Q w r o h;unfold Jm at h;split at h
 ·rename_i k ds y e;split at h
  ·rename_i es m;split at h
   ·rename_i hl;obtain⟨p,U,rfl,f,g,l,q⟩:=ab9 w r e;obtain⟨u,rfl,n⟩:=DT o;obtain⟨d,b,rfl,i,j⟩:=arB w n m;refine⟨p,d,U,b,rfl,rfl,l,i,by rw[q.length,j.length];exact hl,?_⟩;exact h _ _ G z (Ext.refl _ _) (w.put (c:=.lst (ds++es)) f g ⟨g,_,eX,q.append j⟩) (by simp only[Den])
   ·exact False.elim h
  ·exact False.elim h
 ·exact False.elim h
def ES(i:ay)(f:a5)(g:MS)(Y:Ev)(Z:aH)(r:Out×Ev×aH):Prop :=
 ∃s cls fs fd c q fd' c',Y[i]?=ai (ai (.aJ s))/\Z[s]?=ai (.ins cls fs)/\fs.lookup f=ai fd/\fd.cell=ai c/\g Y (iD Z s cls f fs c)=ai (.nx,r.2.1,q++[c'])/\q.length=Z.length /\
  q[s]?=ai (.ins cls (putD f (.val (.aJ Z.length)) fs))/\fd'.cell=ai c'/\(∀(k:ay) (x:Cell),k≠s->q[k]?=ai x->Z[k]?=ai x\/KJ Z.length x)/\(fd'=fd\/sQ Z.length fd') /\
  (∀(j:ay) (d:A),r.2.1[j]?=ai (ai d)->Y[j]?=ai (ai d)\/Cl Z.length d)/\r.1=.nx/\r.2.2=q.set s (.ins cls (putD f fd' fs))
open Classical in
noncomputable def uC(i:ay)(f:a5)(g:MS):MS:=λY Z=>if h:∃r,ES i f g Y Z r then ai (Classical.choose h)else ak
theorem aCI{a b:Fd}{c:Cell}(h1:a.cell=ai c)(h2:b.cell=ai c):a=b:=by
 cases a with
 |val x=>cases h1
 |lst ds=>cases b with
  |lst es=>cases h1;cases h2;rfl
  |val _=>cases h2
  |bH _=>cases h1;cases h2
 |bH j=>cases b with
  |bH es=>cases h1;cases h2;rfl
  |val _=>cases h2
  |lst _=>cases h1;cases h2
theorem ES.uniq{i:ay}{f:a5}{g:MS}{Y:Ev}{Z:aH}{r j:Out×Ev×aH}(h:ES i f g Y Z r)(h':ES i f g Y Z j):r=j:=by
 obtain⟨s,cls,fs,fd,c,m,o,S,a1,a2,C,B,A,a6,a7,y,a9,E,D,F,G⟩:=h;obtain⟨s',L,Q,p,T,l,n,R,k,e,d,b,a,X,W,v,V,x,w,z,q⟩:=h';rw[a1]at k;cases k;rw[a2]at e;cases e;rw[C]at d;cases d;rw[B]at b;cases b;rw[A]at a;obtain⟨K,I,H⟩:=r;obtain⟨P,N,M⟩:=j;simp only[lO,YA,true_and]at *;obtain⟨u,t⟩:=a;obtain⟨rfl,U⟩:=List.append_inj' t rfl;simp only[rK,and_true]at U;subst U;have:=aCI y v;subst this;subst F z;exact⟨rfl,u,by rw[G,q]⟩
theorem akS{i:ay}{f:a5}{g:MS}{Y:Ev}{Z:aH}{r:Out×Ev×aH}(h:ES i f g Y Z r):uC i f g Y Z=ai r:=by
 have ex:∃r,ES i f g Y Z r:=⟨r,h⟩;unfold uC;rw[dif_pos ex];exact c7 ai (ES.uniq (ZJ ex) h)
section
variable{X:Cx}{W:WX}{st:bt}{f:a5}{cs:aj a5}{i:ay}{pos eI af mY aGM:cx}{gs:MS}{x:a5}
theorem ZS(h:VS X W st gs):VS X W st (uC i f gs):=by
 refine afL h λH p r cl hd=>?_;unfold uC at hd;split at hd
 ·rename_i ex;cases hd;generalize hr:Classical.choose ex=r;have l:=ZJ ex;rw[hr]at l;obtain⟨s,cls,fs,m,c,q,a,n,K,b,o,E,D,C,B,A,y,g,e,F,G⟩:=l;obtain⟨I,w,_⟩:=TZ o;have U:sQ p.length m:=(cl.aJ s _ b:rN _ fs).get w;refine⟨s,f,_,q++[n],⟨cls,fs,m,c,b,o,E,rfl⟩,D,⟨q,n,cls,_,a,rfl,C,B,by rw[TB,a8 rfl],A,λk x u t=>?_,?_,by rw[LV];exact G⟩,λj d v=>?_,F⟩
  ·rcases y k x u t with z|z
   ·exact cl.aJ k x z
   ·exact z
  ·rw[LV];exact Kl (cl.aJ s _ b:rN _ fs) (by rcases g with z|z;exact z ▸ U;exact z)
  ·rcases e j d v with z|z
   ·exact cl.env j d z
   ·exact z
 ·cases hd
end
def CS(cs:aj a5)(i:ay)(Y:Ev)(Z:aH):ar (ay×a5×aj (a5×Fd)):=match (Y[i]?).join with
 |some (.aJ s)=>match Z[s]? with
  |some (.ins cls fs)=>if cls∈cs then ai (s,cls,fs)else ak
  |_=>ak
 |_=>ak
theorem apQ{cs:aj a5}{i:ay}{Y:Ev}{Z:aH}{s:ay}{cls:a5}{fs:aj (a5×Fd)}(h:CS cs i Y Z=ai (s,cls,fs)):Y[i]?=ai (ai (.aJ s))/\Z[s]?=ai (.ins cls fs)/\cls∈cs:=by
 unfold CS at h;cases z:(Y[i]?).join with
 |none=>rw[z]at h;cases h
 |some d =>
  rw[z]at h;cases d with
  |aJ k =>
   simp only at h;cases q:Z[k]? with
   |none=>rw[q]at h;cases h
   |some c =>
    rw[q]at h;cases c with
    |ins U a =>
     simp only at h
     by_cases j:U∈cs
     ·rw[a8 j]at h;cases h;exact⟨join_some z,q,j⟩
     ·rw[bb j]at h;cases h
    |_=>cases h
  |_=>cases h
@[simp] noncomputable def Fd.GC:Cell->ar Fd
 |.lst ds=>ai (.lst ds)
 |.bH kvs=>ai (.bH kvs)
 |_=>ak
theorem Fd.apD{c:Cell}{fd:Fd}(h:Fd.GC c=ai fd):fd.cell=ai c:=by
 cases c <;> cases h <;> rfl
open Classical in
@[simp] noncomputable def xR(cs:aj a5)(i:ay)(f:a5)(fv:Ev->Mo A):MS:=λY Z=>match CS cs i Y Z with
 |some (s,cls,fs)=>match fv Y Z with
  |some (.ok (.aJ n),Z1)=>match Z1[Z.length]? with
   |some c=>match Fd.GC c with
    |some fd=>if n=Z.length/\Z1=Z++[c]/\fs.length<1000/\sQ Z.length fd then ai (.nx,Y,Z.set s (.ins cls (putD f fd fs)))else ak
    |none=>ak
   |none=>ak
  |_=>ak
 |none=>ak
section
variable{X:Cx}{W:WX}{st:bt}{f:a5}{cs:aj a5}{i:ay}{fv:Ev->Mo A}
theorem ZT(h:VS X W st (rR cs f (dA i) fv)):VS X W st (xR cs i f fv):=by
 obtain⟨t,p,sm⟩:=h;refine⟨t,p,λG u z H J U D w r h=>?_⟩;have cl:=w.sE r;unfold xR at h;split at h
 ·rename_i s cls fs eo;split at h
  ·rename_i n v L;split at h
   ·rename_i c Q;split at h
    ·rename_i fd K;split at h
     ·rename_i F;obtain⟨rfl,rfl,hl,gW⟩:=F;obtain⟨h1,h2,I⟩:=apQ eo;have g:s<z.length:=(dN.mp h2).1;have P:=Fd.apD K;refine sm G u z H J U D w r ?_;have C:(U[i]?).join=ai (.aJ s):=by rw[h1];rfl
      have B:(z++[c])[s]?=ai (.ins cls fs):=by rw[mM g];exact h2
      have e:rR cs f (dA i) fv U z=ai (.nx,U,z.set s (.ins cls (putD f (.val (.aJ z.length)) fs))++[c]):=by
       simp only[rR,sM,L,dA,need,C,EI,B,a8 (And.intro I hl)];rw[List.set_append_left _ _ g]
      rw[e];intro a M N b ex y A;have m:=y.fold (s:=s) (f:=f) (fd:=fd) (cls:=cls) (fs:=putD f (.val (.aJ z.length)) fs) (gK g) (by rw[TB,a8 rfl];simp) P (λk x l o=>by
       rw[gS (eM l)]at o;have:=cl.aJ k x o;simpa using this) (by
       rw[LV];have:=Kl (f:=f) (cl.aJ s _ h2:rN _ fs) gW;simpa using this)
      rw[LV,pR,JC]at m;refine h a M N (b.take z.length) ⟨ex.same,λk x q=>?_⟩ m (abJ A λj d E=>cl.env j d E);have l:=(dN.mp q).1;rw[QD,a8 (by rw[<-w.len];exact l)];exact ex.pre k x q
     ·exact h.elim
    ·exact h.elim
   ·exact h.elim
  ·exact h.elim
 ·exact h.elim
end
theorem ON{K:bg}{f:a5}:fG K [] f:=λcls h=>by simp at h
theorem OO{K:bg}{f cls:a5}{cs:aj a5}{C:au}(h1:dz K bc cls=ai (ai (.ref C)))(h2:nL K C)(j:c6 K (.ref C) f=ai ak)(t:fG K cs f):fG K (cls::cs) f:=λc h=>by
 rcases eK.mp h with e|e
 ·subst e;exact⟨C,h1,h2,j⟩
 ·exact t c e
section
variable{P:bf}{w:bo}{K:bg}{mg:a5->ar ao}{base:bx}
theorem Ju{x qual:a5}{st:bt}{N ps:aj a5}{k:ay}{b:MS}{f:au}{fd:cp}(F:tQ K x qual st f fd)(S:cM N ps (bC st))
  (c:∀(f:au) (j:ao) (A:br) (outer:aj Env) (s:aw) (H:Hp) (E:XK),cZ k (A.deeper (cv qual (bC st) s.heap.objs.size f j)) ->
   kZ (nX P w K mg base N qual (bC st) f j A outer s H E) (λ_=>E) (fI st) b):iQ P w K mg base (oZ P w) (k+1) f fd ps (rP K ps.length (cN N.length b)):=by
 obtain⟨i,g,kV,doc,e,m,j,ct,l,rfl,a,d⟩:=F.ex;refine VQ a d S (λz H Q E h=>h.1) λA outer s H z Q E hr U=>?_;obtain⟨t,p,q⟩:=c f j A outer s H E hr;exact⟨t,ML p,OU q U⟩
structure lQ(K:bg)(mg:a5->ar ao)(cls m qual:a5)(st:bt):Prop where
 ex:∃C f fd,dz K bc cls=ai (ai (.ref C))/\mg cls=ai (.ref C)/\nL K C/\Meth K C m f/\tQ K m qual st f fd
theorem cR.of{cls m qual:a5}{st:bt}{N ps:aj a5}{k:ay}{b:MS}(h:lQ K mg cls m qual st)(S:cM N ps (bC st))
  (bind:∀(kV doc pm:ao) (an:ar au) (j ct:ao) (us:aj ao),us.length=ps.length->c3 (dw m qual (iZ st) (fI st) (bC st) .none kV doc pm an j ct) ⟨us,[]⟩=pure (ps.zip us))
  (q:∀(f:au) (j:ao) (A:br) (outer:aj Env) (s:aw) (H:Hp) (E:XK),cZ k (A.deeper (cv qual (bC st) s.heap.objs.size f j)) ->
   kZ (nX P w K mg base N qual (bC st) f j A outer s H E) (λ_=>E) (fI st) b):cR P w K mg base cls m (k+1) ps.length [] (cN N.length b):=by
 obtain⟨C,f,fd,h1,_,h2,z,F⟩:=h.ex;exact⟨C,f,fd,ps,[],[],h1,h2,z,rfl,Ju F S q,F.binds bind,.nil,λ_ _ => .nil⟩
structure Pg(K:bg)(mg:a5->ar ao)(cls qual:a5)(st:bt):Prop where
 ex:∃C f fd,dz K bc cls=ai (ai (.ref C))/\mg cls=ai (.ref C)/\Mk K C f/\tQ K "__init__" qual st f fd
theorem IS.of{cls qual:a5}{st:bt}{N ps:aj a5}{k:ay}{b:MS}(h:Pg K mg cls qual st)(S:cM N ps (bC st))
  (bind:∀(kV doc pm:ao) (an:ar au) (j ct:ao) (us:aj ao),us.length=ps.length->c3 (dw "__init__" qual (iZ st) (fI st) (bC st) .none kV doc pm an j ct) ⟨us,[]⟩=pure (ps.zip us))
  (q:∀(f:au) (j:ao) (A:br) (outer:aj Env) (s:aw) (H:Hp) (E:XK),cZ k (A.deeper (cv qual (bC st) s.heap.objs.size f j)) ->
   kZ (nX P w K mg base N qual (bC st) f j A outer s H E) (λ_=>E) (fI st) b):IS P w K mg base cls (k+1) ps.length (cN N.length b):=by
 obtain⟨C,f,fd,h1,h2,z,F⟩:=h.ex;exact⟨C,f,fd,ps,h1,h2,z,rfl,Ju F S q,F.binds bind⟩
structure YW(K:bg)(mg:a5->ar ao)(rk m qual:a5)(st:bt):Prop where
 ex:∃R f fd,mg rk=ai (.ref R)/\Qw K R m f/\tQ K m qual st f fd
theorem EW.of{q m qual:a5}{st:bt}{N ps:aj a5}{k:ay}{b:MS}(h:YW K mg q m qual st)(S:cM N ps (bC st))
  (bind:∀(kV doc pm:ao) (an:ar au) (j ct:ao) (us:aj ao),us.length=ps.length->c3 (dw m qual (iZ st) (fI st) (bC st) .none kV doc pm an j ct) ⟨us,[]⟩=pure (ps.zip us))
  (z:∀(f:au) (j:ao) (A:br) (outer:aj Env) (s:aw) (H:Hp) (E:XK),cZ k (A.deeper (cv qual (bC st) s.heap.objs.size f j)) ->
   kZ (nX P w K mg base N qual (bC st) f j A outer s H E) (λ_=>E) (fI st) b):EW P w K mg base q m (k+1) ps.length (cN N.length b):=by
 obtain⟨R,f,fd,h1,h2,F⟩:=h.ex;exact⟨R,f,fd,ps,h1,h2,rfl,Ju F S z,F.binds bind⟩
end
theorem Inv.Sm{X:Cx}{aa:aj (au×cq)}{J:L2.St}{H:Hp}{s:aw}{h':bx}{t':ay}{ch:aj au}(I:Inv X aa J H s)(k:∀b o,b∉ch->s.heap.get? b=ai o->h'.get? b=ai o)(hf:∀b∈ch,qP X aa H b):Inv X aa J H {s with heap:=h',toks:=t' }:=by
 have ne:∀b u,H b=ai u->b∉ch:=λb u q z=>by rw[(hf b z).1]at q;cases q
 refine I.step (g':=s.gens) (d':=s.drawn) (ch:=ch) (λb hb=>?_) (λb o _ _ j q _=>k b o j q) (λb o _ _ j q _=>⟨o.slots,k b o j q⟩) (λ_ _ _ _ n=>n)
  (λb o j q=>⟨o,k b o j q⟩) (λ_ _ q=>q) (λ_ _ _ q=>q) (λb h q=>⟨#[],by rw[q];simp⟩) (λm hm=>?_) (λb u q=>?_) I.bare
 ·obtain⟨a0,a1,a2,g,f,e⟩:=hf b hb;exact⟨g,a1,f,e⟩
 ·obtain⟨o,es,d,a,r⟩:=hm;exact⟨o,es,d,k _ o (λz=>(hf _ z).2.1 rfl) a,r⟩
 ·refine(I.aL b u q).oF (λc v j U=>k c v ?_ U) (λ_ q=>q) λ_ _ q=>q
  rcases j with z|z
  ·rw[z];exact ne b u q
  ·exact ne c _ z
section
variable{X:Cx}{aa:aj (au×cq)}{J:L2.St}{H:Hp}{s:aw}
theorem Inv.OF(I:Inv X aa J H s):∃m,s.heap.Ns X.env.locals m/\Fr X.base X.env.locals s.heap m :=
 let ⟨m,hn,_⟩:=I.loc
 ⟨m,hn,hn,I.bk,oW I.ok.rD I.ok.above⟩
end
end V2
namespace L2
open PySem PySem.Spec PyProof.Rows
theorem ay6:entryFor table "dict_itemiterator.__iter__" = ai Builtin.«dict_keyiterator.__iter__» :=
 entryFor_alias (id' := "dict_keyiterator.__iter__") (by kernel_rfl) (by rfl) (by decide +kernel) (by kernel_rfl)
theorem asS{prog:bf}{w:bo}{A:br}{E:ao->aw->Prop}{s:aw}{j d:au}{i n ep:ay}{ok z:ao}{Q:ao->aw->Prop}(h:IsItemIter s.heap j d i n ep ok z)(q:Q (.ref j) s):wpAny (bj prog w) A (pyIter (.ref j)) Q E s:=by
 have ty:s.TypeIs (.ref j) "dict_itemiterator":=⟨_,h,rfl⟩;exact wpAny_pyIter_slot ty F.slot_dict_itemiterator_iter (tU F.slot_dict_itemiterator_iter ty ay6 (bS ⟨_,rfl,_,_,ty,F.slot_dict_itemiterator_next.lookup,q⟩) (F.args_dict_itemiterator_iter_1 _))
end L2
namespace V2
open PySem PySem.Spec PyProof.Rows L2
def Pa(a:au)(o:cq)(kvs:aj (Key×V)):It :=
 ⟨λi H=>H a=ai (.fO o (.dK kvs))/\i<kvs.length,λi H x H'=>∃p j,kvs[i]?=ai j/\H p=ak/\H'=upd H p (.tup [kV j.1,j.2])/\x=.ref p,λi H=>H a=ai (.fO o (.dK kvs))/\kvs.length<=i⟩
theorem aa6{X:Cx}{aa:aj (au×cq)}{J:L2.St}{H:Hp}{s:aw}{a:au}{o:cq}{kvs:aj (Key×V)}{es:bq DictEntry}{ep:ay}(I:Inv X aa J H s)(h:H a=ai (.fO o (.dK kvs)))(hd:o.data=.dict es ep) :
  ∃vs,KV kvs vs/\Heap.DictAt (kI X.prog X.w) s.heap a vs ep:=by
 obtain⟨h1,z,y,vs,rel,c,eT,d,q,b,j,U⟩:=I.aL a _ h;rw[h1]at q;cases q;rw[hd]at j;cases j;exact⟨vs,rel,o,es,h1,b,hd,U⟩
theorem agO{P:bf}{w:bo}{K:bg}{elts:aj bp}{L:ay}{N:cx}(a U:au)(o:cq)(kvs:aj (Key×V))(es:bq DictEntry)(ep:ay)(hd:o.data=.dict es ep) :
  Turn P w K (.Tuple elts L N) (Pa a o kvs) [U] U (λi h=>∃ok d,IsItemIter h U a i kvs.length ep ok d)where
 mem:=by simp
 obj:=λi h st c j=>by
  obtain⟨ok,d,st⟩:=st;have e:c=U:=by simpa using j
  subst e;exact⟨_,st,λv z=>by cases z⟩
 keep:=λi h h' st k=>by
  obtain⟨ok,d,st⟩:=st;exact⟨ok,d,k U (by simp) _ st⟩
 item:=by
  intro X x hw y j i aa s J H E I m st u;subst x hw y;obtain⟨ok,d,st⟩:=st;obtain⟨A,hi⟩:=u;obtain⟨r,rel,dat⟩:=aa6 I A hd;have hl:kvs.length=r.length:=rel.length;have p:kvs[i]?=ai kvs[i]:=dR hi;generalize kvs[i]=f at p;obtain⟨n,g1,g2,W⟩:=Ex rel p;have l:U<s.heap.objs.size:=eY st;rw[hl]at st;refine wpAny_pyNext_items_item (k:=n.1) (v:=n.2) st dat g1 λkey h1 t a1 a2 a3 a4=>?_;refine⟨_,rfl,wpAny_letOwnedTupleGo_items (s:={s with heap:=h1}) a1 λh2 F C=>?_⟩;have g:H s.heap.objs.size=ak:=I.aL.fresh dD;have S:∀c o,c∉[U]->s.heap.get? c=ai o->h2.get? c=ai o:=λc o j q=>by
   have j:c≠U:=by simpa using j
   exact C.extBut c o j (a4 c o j q)
  have Q:h2.get? s.heap.objs.size=ai {cls:=.type "tuple",data:=.seq #[key,n.2]}:=C.extBut _ _ (IP l) a2;have G:Inv X aa J H {s with heap:=h2}:=Inv.Sm (t':=s.toks) I S m;have R:RelV (kV f.1) key:=by rw[g2];exact Yh t
  have aL:gL X.prog X.w (upd H s.heap.objs.size (.tup [kV f.1,f.2])) h2:=by
   refine λb o q=>?_
   by_cases D:b=s.heap.objs.size
   ·subst D;rw[eX]at q;cases q;exact⟨by show 2<=az;decide,[key,n.2],.cons R (.cons W .nil),⟨_,Q,rfl,_,rfl⟩⟩
   ·rw[cD D]at q;exact(G.aL b o q).oF (λc v _ z=>z) (λc z=>by rw[cD (jD z g)];exact z) λc xs z=>by rw[cD (jD z g)];exact z
  have B:qP X aa H s.heap.objs.size:=I.uU dD g;have T:X.s₀.heap.get? s.heap.objs.size=ak:=by
   cases q:X.s₀.heap.get? s.heap.objs.size with
   |none=>rfl
   |some ob=>exact bu (nA (eY q) I.sz) (Nat.lt_irrefl _)
  have I2:Inv X aa J (upd H s.heap.objs.size (.tup [kV f.1,f.2])) {s with heap:=h2}:=Inv.Aq G g T B.2.1 B.2.2.2.2.1 B.2.2.2.2.2 aL;rw[<-hl]at F;refine⟨.ref s.heap.objs.size,_,I2,rfl,⟨_,f,p,g,rfl,rfl⟩,⟨_,_,F⟩,λc j=>?_⟩;have M:=(m c j).1;have e:c=U:=by simpa using j
  subst e;rw[cD (iB l)];exact M
 done:=by
  intro X x hw y j i aa s J H E I m st u;subst x hw y;obtain⟨ok,d,st⟩:=st;obtain⟨A,hi⟩:=u;obtain⟨r,rel,dat⟩:=aa6 I A hd;have hl:kvs.length=r.length:=rel.length;rw[hl]at st;refine wpAny_pyNext_items_end (I.ok.hd j) st dat (by simp;omega) λh' t=>⟨rfl,Inv.Sm (t':=s.toks) I (λc o j q=>t c o (by simpa using j) q) m⟩
 self:=λ_ _ _ _ _ st h=>by
  obtain⟨ok,d,st⟩:=st;exact asS st h
theorem Inv.ayH{X:Cx}{aa:aj (au×cq)}{J:L2.St}{H:Hp}{s:aw}{a:au}{kvs:aj (Key×V)}{o:cq}(I:Inv X aa J H s)(h:H a=ai (.dK kvs))(g:s.heap.get? a=ai o):Inv X aa J (upd H a (.fO o (.dK kvs))) s where
 ok:=I.ok
 os:=I.os
 bare:=I.bare
 base:={
  keep:=I.base.keep
  slot:=I.base.slot
  free:=λb j q n e=>by
   have z:=I.base.free b j q n e;rw[cD (eM (jD h z))];exact z
  there:=I.base.there
  oB:=λb xs q=>by have z:=I.base.oB b xs q;rw[cD (MF z h (by intro w;cases w))];exact z
  mX:=λb j u q=>by have z:=I.base.mX b j u q;rw[cD (MF z h (by intro w;cases w))];exact z
  nQ:=λb d q=>by obtain⟨more,z⟩:=I.base.nQ b d q;exact⟨more,by rw[cD (MF z h (by intro w;cases w))];exact z⟩}
 loc:=I.loc
 cell:=I.cell
 free:=by rw[cD (eM (jD h I.free))];exact I.free
 nV:=λx c q=>by rw[cD (eM (jD h (I.nV x c q)))];exact I.nV x c q
 pin:=λq f=>by
  obtain⟨x,y,c⟩:=I.pin q f;exact⟨x,by rw[cD (eM (jD h y))];exact y,c⟩
 aL:=λb u q=>by
  have st:∀c v,H c=ai v->v≠.dK kvs->upd H a (.fO o (.dK kvs)) c=ai v:=λc v z hv=>by rw[cD (MF z h hv)];exact z
  by_cases U:b=a
  ·subst U;rw[eX]at q;cases q;exact⟨g,(I.aL b _ h).oF (λc v _ z=>z) (λc z=>st c _ z (by intro w;cases w)) λc xs z=>st c _ z (by intro w;cases w)⟩
  ·rw[cD U]at q;exact(I.aL b u q).oF (λc v _ z=>z) (λc z=>st c _ z (by intro w;cases w)) λc xs z=>st c _ z (by intro w;cases w)
 len:=I.len
section
variable{X:Cx}{W:WX}{pos:cx}
theorem anD{o:bp}{td:TE}{elts:aj bp}{y:ay}{A af p:cx}(K:PE X o td)(C:b0 o "items" X.env (bz o X.env)=bz o X.env:=by rfl)(D:(af.endLine==p.line)=ax:=by rfl) :
  PI X (.Tuple elts y A) (.Call (.Attribute o "items" af) [] [] p) (λJ H R=>td J H λx H1=>∃a kvs,x=.ref a/\H1 a=ai (.dK kvs)/\∀d,R (Pa a d kvs) (upd H1 a (.fO d (.dK kvs)))):=by
 intro aa s J H R I h;refine Rj C D (bT (K aa s J H _ I h) λv j ⟨x,H1,m,B,E⟩=>?_);obtain⟨a,kvs,rfl,g,q⟩:=E;cases B;obtain⟨h1,h2,P⟩:=MQ m (.inl ⟨kvs,.inl g⟩);obtain⟨z,_,f,rel,k⟩:=HV m.aL g;refine⟨"dict", "dict.items",PySem.F.plainAttrs_dict,PySem.F.slot_dict_items,PySem.F.type_dict_items,h1,h2,RD rfl (PySem.evalArgs_none ?_)⟩;refine OQ PySem.F.slot_dict_items k.typeIs PySem.F.entry_dict_items (PySem.F.args_dict_items_1 _) (meets_dict_items (kI X.prog X.w) a P) ⟨⟨f,k⟩,?_⟩;obtain⟨d,es,i,t,N,r,M⟩:=k;have hl:kvs.length=f.length:=rel.length;have u:Inv X aa J H1 {j with heap:=j.heap.push {cls:=.type "dict_items",data:=.fields #[.ref a]} }:=m.kept (t':=j.toks) λb o e=>eN _ e;have dat:Heap.DictAt (kI X.prog X.w) (j.heap.push {cls:=.type "dict_items",data:=.fields #[.ref a]}) a f i:=⟨d,es,eN _ t,N,r,M⟩;refine wpAny_pyIter_items (s:={j with heap:=j.heap.push {cls:=.type "dict_items",data:=.fields #[.ref a]} }) ⟨_,hU _ rfl,rfl,rfl⟩ dat ?_;generalize n:({j with heap:=j.heap.push {cls:=.type "dict_items",data:=.fields #[.ref a]} }:aw)=U at u dat;have ga:U.heap.get? a=ai d:=by rw[<-n];exact eN _ t
 have l:=V2.Inv.ayH u g ga;have Q:Inv X aa J (upd H1 a (.fO d (.dK kvs))) {U with heap:=U.heap.push {cls:=.type "dict_itemiterator",data:=.fields #[.none,.bool aq,.ref a,.int 0 0,.int f.length 0,.int i 0,.none,.none]} }:=l.kept (t':=U.toks) λb o e=>eN _ e;have G:U.heap=j.heap.push {cls:=.type "dict_items",data:=.fields #[.ref a]}:=by rw[<-n]
 refine⟨U.heap.objs.size,[U.heap.objs.size],_,_,_,rfl,Q,agO a _ d kvs es i r,⟨.none,.none,by rw[hl];exact hU _ rfl⟩,λc L=>?_,q d⟩;have e:c=U.heap.objs.size:=by simpa using L
 subst e;exact l.uU dD (l.aL.fresh dD)
def MM(kvs:aj (Key×A)):Src:=⟨kvs.map mW,λ_=>True⟩
@[simp] def Sf(f:Ev->Mo A):Ev->Mo Src:=λY=>mb (f Y) λa Z=>match lL Z a with
 |some (k,kvs)=>ai (.ok (MM kvs),Z.set k .dead)
 |none=>ak
theorem asR{K:bg}{G:Hp}{O:aj au}{p:au}{o:cq}{a:aj (Key×V)}{kvs:aj (Key×A)}(s:G p=ai (.fO o (.dK a)))(r:a.map (·.1)=kvs.map (·.1))(d:bJ K G O (a.map (·.2)) (kvs.map (·.2))):EU K G O (Pa p o a) (MM kvs):=by
 have hl:a.length=kvs.length:=by have:=c7 List.length r;simpa using this
 have n:(MM kvs).ds.length=kvs.length:=by simp[MM]
 refine⟨λk j U u e w h i hi=>⟨w.sub _ _ (e.same _ _ s),by rw[hl,<-n];exact hi⟩,λk j U u e w h i hi=>⟨w.sub _ _ (e.same _ _ s),by rw[hl,<-n];exact hi⟩,λk j U u e w h i x D y C hd=>?_⟩;obtain⟨q,c,t,g,rfl,rfl⟩:=hd;have b:(kvs.map mW)[i]?=ai y:=C;rw[lC]at b;cases f:kvs[i]? with
 |none=>rw[f]at b;cases b
 |some v =>
  rw[f]at b;cases b;have k1:c.1=v.1:=by
   have:=c7 (λl=>l[i]?) r;simp only[lC,t,f,EI,lO]at this;exact this
  obtain⟨z,m,B⟩:=d.get (i:=i) (d:=v.2) (by rw[lC,f];rfl);rw[lC,t]at m;cases m;refine⟨upd k q (.tup [kV c.1,c.2]),Ext.new (w.oN g) _,w.new g _,?_⟩;simp only[mW,Den];exact⟨q,[kV c.1,c.2],rfl,eX,.cons (by rw[k1];exact abR _) (.cons ((B.ext e).ext (Ext.new (w.oN g) _)) .nil)⟩
theorem afO{o:bp}{f:Ev->Mo A}{elts:aj bp}{U:ay}{D af q:cx}(M:VE X W o f)(E:b0 o "items" X.env (bz o X.env)=bz o X.env:=by rfl)(F:(af.endLine==q.line)=ax:=by rfl) :
  VI X W (.Tuple elts U D) (.Call (.Attribute o "items" af) [] [] q) (Sf f):=by
 obtain⟨t,p,s⟩:=M;refine⟨_,anD p E F,λG x B H J u R w r h=>?_⟩;refine s G x B H J u _ w r (cA.mb h λa y v P n j U d N h1=>?_);split at h1
 ·rename_i k L e;obtain⟨p,z,rfl,l,g,K,q,I⟩:=yR d N e;refine⟨p,z,rfl,K,λi=>?_⟩;have C:=d.put (k:=k) (c:=.dead) (o:=.fO i (.dK z)) l g trivial;have b:=C.freeze l g eX;rw[pR]at b;have m:Ext n j (upd n p (.fO i (.dK z))) j:=Ext.new g _;exact h1 _ _ _ _ m b (asR eX q (I.ext m))
 ·exact False.elim h1
end
section
variable{P:bf}{w:bo}{K:bg}{mg:a5->ar ao}{base:bx}
structure aeU(K:bg)(x qual:a5)(st:bt)(f T:au)(fd:cp):Prop where
 ex:∃(oc:ao) (od:ar au) (kV doc pm:ao) (an:ar au) (bI ct:ao) (iL:bq (ar ao)),
  fd=dw x qual (iZ st) (fI st) (bC st) (.ref T) kV doc pm an bI ct/\K.lookup f=ai ⟨oc,od,.func fd,iL⟩/\codeIn K bI qual=ax
structure YV(K:bg)(mg:a5->ar ao)(cls m qual:a5)(st:bt)(dv:bq ao):Prop where
 ex:∃C f fd T o n,dz K bc cls=ai (ai (.ref C))/\mg cls=ai (.ref C)/\nL K C/\Meth K C m f/\aeU K m qual st f T fd/\K.lookup T=ai o/\o.data=.seq dv n
theorem cR.ofD{cls m qual:a5}{st:bt}{N ps:aj a5}{k:ay}{b:MS}{z:bq ao}{ds:aj ao}{dvs:aj V}{das:aj A}(h:YV K mg cls m qual st z)(hv:Vals dvs ds)(hd:∀G O,bJ K G O dvs das)(S:cM N ps (bC st))
  (bind:∀(T:au) (kV doc pm:ao) (an:ar au) (j ct:ao) (us:aj ao),us.length+ds.length=ps.length->∃k,c3 (dw m qual (iZ st) (fI st) (bC st) (.ref T) kV doc pm an j ct) ⟨us,[]⟩=seqItems? (.ref T) >>= k/\k (ai z)=pure (ps.zip (us++ds)))
  (d:∀(f:au) (j:ao) (A:br) (outer:aj Env) (s:aw) (H:Hp) (E:XK),cZ k (A.deeper (cv qual (bC st) s.heap.objs.size f j)) ->
   kZ (nX P w K mg base N qual (bC st) f j A outer s H E) (λ_=>E) (fI st) b):cR P w K mg base cls m (k+1) ps.length das (cN N.length b):=by
 obtain⟨C,f,fd,T,o,n,h1,_,h2,l,F,hT,g⟩:=h.ex;obtain⟨x,v,kV,doc,pm,an,j,ct,B,rfl,c,e⟩:=F.ex;refine⟨C,f,_,ps,ds,dvs,h1,h2,l,rfl,VQ c e S (λU H Q E h=>h.1) λA outer s H U Q E hr a=>?_,λs us i hl=>?_,hv,hd⟩
 ·obtain⟨t,p,q⟩:=d f j A outer s H E hr;exact⟨t,ML p,OU q a⟩
 ·obtain⟨y,u,r⟩:=bind T kV doc pm an j ct us (by rw[<-vE];exact hl);exact BindsTo.of_defaults rfl (i _ _ hT) g u r
end
end V2
namespace M
open PySem V2
noncomputable section
def WK:MS :=
 (aQ (iJ (sV uS aT (aC (mQ (aC cC (aC (aA aO dS bQ) (aC (aA aO dS bQ) a0)))) a0)))
   (dQ (bL (aA kW (aA aO dS bQ) (aA aO dS bP)))
    (iJ (sV uS aT (aC (mQ (aC cC (aC (aA aO dS bP) (aC (aA aO dS bP) a0)))) a0)))
    eR))
def WL:MS :=
 (aQ (bM (eQ ax a0) (gN 1))
  (aQ (gB (Sf (aU (bN 1 JN) (aC aI a0))) (hZ 2 (dF (gN 2) (dF (gN 3) iA))) WK)
  (bV (mQ (aC (aU (bN 1 YY) (aC aI a0)) (aC bQ (aC bQ (aC (vO 1) a0))))))))
def QL:aj A->Mo A:=cN 4 WL
end
end M
namespace V2
open PySem L2
@[simp] theorem aa4(neg:bh)(i j:av)(Z:aH):uR neg (.int i) (.int j) Z=ai (.ok (.bl (if neg then !(i==j)else i==j)),Z):=by
 simp[uR,res,dW,gD]
@[simp] theorem aHV(i j:av)(Z:aH):iX (.int i) (.int j) Z=ai (.ok (.bl (i==j)),Z):=aa4 aq i j Z
@[simp] theorem aHU(i j:av)(Z:aH):kW (.int i) (.int j) Z=ai (.ok (.bl (!(i==j))),Z):=aa4 ax i j Z
theorem yQ{i j:av}(q : -18446744073709551616<i)(h1:i<18446744073709551616):jV i j:=.inl ⟨q,h1⟩
theorem aB8{i j:av}(q : -18446744073709551616<j)(h1:j<18446744073709551616):jV i j:=.inr ⟨q,h1⟩
@[simp] theorem aH7{α:Type}(x:α)(l:aj α):eU (x::l) 0=ai x:=XI _
@[simp] theorem aH6{α:Type}(x y:α)(l:aj α):eU (x::y::l) 1=ai y:=Mw _
@[simp] theorem aH5{α:Type}(x y z:α)(l:aj α):eU (x::y::z::l) 2=ai z:=uX _ 2
@[simp] theorem aH4{α:Type}(x y z u:α)(l:aj α):eU (x::y::z::u::l) 3=ai u:=uX _ 3
end V2
namespace M
open PySem L2 V2
noncomputable def AB(c k:av):av :=
 ((c+1)*(48271+118*k)%2147483629/977*16807+(c+1)*(48271+118*k)%2147483629*(k*k+7)+k)%2147483587
theorem TX(c k:av):0<=AB c k:=Pf _ (by decide)
theorem Ft(c k:av):AB c k<2147483587:=YT _ (by decide)
theorem YF(c k:av)(Z:aH)(f:0<=c)(d:c<8589934592)(e:0<=k)(b:k<1048576):vG [.int c,.int k] Z=aD (.int (AB c k)) Z:=by
 have h:=Pf ((c+1)*(48271+118*k)) (show(2147483629:av)≠0 by decide);have g:=YT ((c+1)*(48271+118*k)) (show(0:av)<2147483629 by decide);have h1:jV (c+1) (48271+118*k):=yQ (by omega) (by omega);have h2:jV k k:=yQ (by omega) (by omega);have a:∀j,jV ((c+1)*(48271+118*k)%2147483629) j:=λj=>yQ (by omega) (by omega);have U:∀j,jV j 16807:=λj=>aB8 (by decide) (by decide);have z:∀j,jV 118 j:=λj=>yQ (by decide) (by decide);have q:∀j,nM j 977:=λj=>⟨by decide,by decide⟩
 simp[vG,acT,h1,h2,a,U,z,q,AB]
noncomputable def tE(c kind:av):av :=
 if kind=0 then c%7 else if kind=1 then c%61-30 else if kind=2 then c*982451653%(2*10 ^ 18+1)-10 ^ 18 else if kind=3 then 5
 else if c%4=0 then c*10 ^ 50+7 else if c%4=1 then 0-c*10 ^ 50 else if c%4=2 then c else 0-c
theorem ad9(c kind:av)(Z:aH)(g:0<=c)(f:c<8589934592):vF [.int c,.int kind] Z=aD (.int (tE c kind)) Z:=by
 have h1:∀j,jV c j:=λj=>yQ (by omega) (by omega);have h2:∀j,jV 2 j:=λj=>yQ (by decide) (by decide);have d:KN 10 18:=⟨by decide,by decide,by decide⟩;have b:KN 10 50:=⟨by decide,by decide,by decide⟩;have a:(4:ay)<=az:=by decide
 by_cases U:kind=0
 ·simp[vF,IG,U,tE]
 by_cases k1:kind=1
 ·simp[vF,IG,k1,tE]
 by_cases z:kind=2
 ·simp[vF,IG,z,tE,h1,h2,d]
 by_cases q:kind=3
 ·simp[vF,IG,q,tE]
 have hm:c%4=0\/c%4=1\/c%4=2\/c%4=3:=by omega
 rcases hm with e|e|e|e <;> simp[vF,IG,U,k1,z,q,e,tE,h1,b,a]
noncomputable def CH(c:av):av:=if c%4=0 then 1 else if c%4=1 then 1 else if c%4=2 then 1+c/4%9 else 1+c/4%1000000
theorem ag3(c:av)(h:0<=c):1<=CH c:=by unfold CH;split <;> (try split) <;> (try split) <;> omega
theorem ag2(c:av)(h:0<=c):CH c<=1000000:=by unfold CH;split <;> (try split) <;> (try split) <;> omega
theorem aD6(c:av)(Z:aH)(z:0<=c):JU [.int c] Z=aD (.int (CH c)) Z:=by
 have h1:∀j,nM j 4:=λj=>⟨by decide,by decide⟩
 have q:(4:ay)<=az:=by decide
 have hm:c%4=0\/c%4=1\/c%4=2\/c%4=3:=by omega
 rcases hm with e|e|e|e <;> simp[JU,acP,e,CH,h1,q]
end M
namespace V2
open PySem L2
theorem Ka{f:A->A->bh}:∀(xs:aj A),(∀x∈xs,f x x=ax)->wO f xs xs=ax
 |[],_=>rfl
 |x::xs,h=>by simp only[wO,h x kP,Bool.true_and];exact Ka xs λy j=>h y (gJ _ j)
theorem ay0:∀(n:ay) (a:A),dW n a=ax->gD n a a=ax:=by
 intro n
 induction n with
 |zero=>intro a h;cases a <;> first|(simp[gD];done)|(simp[dW]at h)
 |succ n ih =>
  intro a h;cases a with
  |tup ds=>simp only[dW,JE]at h;simp only[gD];exact Ka ds λx j=>ih x (h x j)
  |lst ds=>simp only[dW,JE]at h;simp only[gD];exact Ka ds λx j=>ih x (h x j)
  |int i=>simp[gD]
  |bl i=>simp[gD]
  |str i=>simp[gD]
  |dE=>simp[gD]
  |_=>simp[dW]at h
theorem vU{Z:aH}{n:ay}{a:A}(h:dW 8 a=ax):res Z n a=ai a:=by
 cases n <;> simp[res,h]
theorem ak9{Z:aH}{n k:ay}{ds:aj A}(h:Z[k]?=ai (.lst ds)):res Z (n+1) (.aJ k)=(vY (res Z n) ds).map .lst:=by
 rw[res,bb (by simp[dW])];simp[h]
theorem Xf{Z:aH}{n:ay}:∀(ds:aj A),ds.all (dW 8)=ax->vY (res Z n) ds=ai ds
 |[],_=>rfl
 |d::ds,h=>by
  simp only[Ov,nN]at h;simp[vY,vU h.1,Xf ds h.2]
abbrev E:=av×av×av
noncomputable def bZ(e:E):A:=.tup [.int e.1,.int e.2.1,.int e.2.2]
def encL(es:aj E):aj A:=es.map bZ
@[simp] theorem aGH(n:ay)(i:av):dW n (.int i)=ax:=by cases n <;> rfl
def dG(s l d:av)(es:aj E):A:=.tup [.int s,.int l,.int d,.lst (encL es)]
@[simp] theorem aGV(es:aj E):(encL es).length=es.length:=by simp[encL]
end V2
namespace M
open PySem L2 V2
noncomputable def jE(es:aj E)(i:ay):av:=if i=0 then 0 else(es[i-1]?.getD (0,0,0)).2.1
noncomputable def jF(s:av)(es:aj E)(i:ay):av:=match es[i]? with
 |some e=>e.2.2-1
 |none=>s
theorem oQ(es:aj E)(i:ay):(encL es)[i]?=es[i]?.map bZ:=by simp[encL]
theorem EF{α:Type}(xs:aj α)(i:ay):eU xs (i:av)=xs[i]?:=sG xs i
theorem XJ{α:Type}(xs:aj α)(i:ay)(h:0<i):eU xs ((i:av)-1)=xs[i-1]?:=by
 rw[show((i:av)-1)=((i-1:ay):av)by omega];exact sG xs _
theorem aEX(s l d:av)(es:aj E)(i:ay)(Z:aH)(h:i<=es.length):rL [dG s l d es,.int i] Z=aD (.tup [.int (jE es i),.int (jF s es i)]) Z:=by
 have h2:(2:ay)<=az:=by decide
 by_cases j:i=0
 ·subst j;cases es with
  |nil=>simp[rL,yW,dG,encL,jE,jF,h2]
  |cons e es=>simp[rL,yW,dG,encL,bZ,jE,jF,h2]
 ·have U:eU (encL es) ((i:av)-1)=ai (bZ (es[i-1]?.getD (0,0,0))):=by
   rw[XJ _ _ (by omega),oQ,dR (by omega)];rfl
  have z:0<i:=by omega
  by_cases hl:i<es.length
  ·have a:eU (encL es) (i:av)=ai (bZ es[i]):=by rw[EF,oQ,dR hl];rfl
   have q:(i:av)<es.length:=by omega
   simp[rL,yW,dG,U,a,z,hl,q,h2,bZ,jE,jF,j]
  ·have q:¬(i:av)<es.length:=by omega
   simp[rL,yW,dG,U,z,hl,q,h2,bZ,jE,jF,j]
theorem aeC(e:E)(s l d:av)(es:aj E)(i:ay)(Z:aH)(h:i<=es.length):QM [bZ e,dG s l d es,.int i] Z=aD (bZ (e.1,e.2.1+jE es i,e.2.2+jF s es i)) Z:=by
 have j:(3:ay)<=az:=by decide
 have q:=λZ=>aEX s l d es i Z h;simp[QM,acK,q,bZ,j]
def tI(es fs:aj E):bh:=match es,fs with
 |[],_=>aq
 |_::_,[]=>ax
 |e::_,f::_=>decide (e.1<=f.1)
theorem aET(es fs:aj E)(i j:ay)(Z:aH)(hi:i<=es.length)(d:j<=fs.length):JS [.lst (encL es),.int i,.lst (encL fs),.int j] Z=aD (.bl (tI (es.drop i) (fs.drop j))) Z:=by
 by_cases h1:i=es.length
 ·subst h1;simp[JS,WR,tI]
 ·have hl:i<es.length:=by omega
  have c:eU (encL es) (i:av)=ai (bZ es[i]):=by rw[EF,oQ,dR hl];rfl
  have z:¬(i:av)=(es.length:av):=by omega
  by_cases h2:j=fs.length
  ·subst h2;have q:tI (es.drop i) []=ax:=by rw[ER hl];rfl
   simp[JS,WR,q,z]
  ·have U:j<fs.length:=by omega
   have b:eU (encL fs) (j:av)=ai (bZ fs[j]):=by rw[EF,oQ,dR U];rfl
   have a:¬(j:av)=(fs.length:av):=by omega
   have q:tI (es.drop i) (fs.drop j)=decide (es[i].1<=fs[j].1):=by rw[ER hl,ER U];rfl
   simp[JS,WR,q,z,a,c,b,bZ]
def fN(s t:av):ay->av->av->aj E->aj E->aj E
 |0,_,_,_,_=>[]
 |n+1,dn,j,es,fs=>match es,fs with
  |[],[]=>[]
  |e::eT,[]=>(e.1,e.2.1+j,e.2.2+t)::fN s t n e.2.1 j eT []
  |[],f::iY=>(f.1,f.2.1+dn,f.2.2+s)::fN s t n dn f.2.1 [] iY
  |e::eT,f::iY=>if e.1<=f.1 then(e.1,e.2.1+j,e.2.2+(f.2.2-1))::fN s t n e.2.1 j eT (f::iY)else(f.1,f.2.1+dn,f.2.2+(e.2.2-1))::fN s t n dn f.2.1 (e::eT) iY
def qW(s t:av)(es fs:aj E):aj E:=fN s t (es.length+fs.length) 0 0 es fs
theorem CT(es:aj E)(i:ay)(h:i<es.length):jE es (i+1)=es[i].2.1:=by simp[jE,h]
theorem US(s:av)(es:aj E)(i:ay)(h:i<es.length):jF s es i=es[i].2.2-1:=by simp[jF,h]
theorem UT(s:av)(es:aj E):jF s es es.length=s:=by simp[jF]
theorem aqV(a k m U g l:av)(es fs:aj E)(i j:ay)(acc:aj E)(Z:aH)(hi:i<=es.length)(p:j<=fs.length)(ha:acc.length<1000000) :
  IE [ai (dG a k m es),ai (dG U g l fs),aF Z.length,aB i,aB j] (Z++[.lst (encL acc)]) =
   if tI (es.drop i) (fs.drop j)then(match es[i]? with
    |some e=>ai (.nx,[ai (dG a k m es),ai (dG U g l fs),aF Z.length,aB (i+1:ay),aB j],Z++[.lst (encL (acc++[(e.1,e.2.1+jE fs j,e.2.2+jF U fs j)]))])
    | none=>ak)
   else(match fs[j]? with
    |some f=>ai (.nx,[ai (dG a k m es),ai (dG U g l fs),aF Z.length,aB i,aB (j+1:ay)],Z++[.lst (encL (acc++[(f.1,f.2.1+jE es i,f.2.2+jF a es i)]))])
    | none=>ak):=by
 have z:=λZ=>aET es fs i j Z hi p;have hl:wD (Z++[.lst (encL acc)]) (.aJ Z.length):=AJ (pI (ds:=encL acc) (by simp));have n:pO (Z++[.lst (encL acc)]) (.aJ Z.length)=ai (Z.length,encL acc):=BF (by simp);have o:acc.length<az:=by rw[lE];omega
 have r:∀x:E,encL acc++[bZ x]=encL (acc++[x]):=λx=>by simp[encL]
 cases c:tI (es.drop i) (fs.drop j)with
 |true =>
  have q:i<es.length:=by
   by_cases h:i<es.length
   ·exact h
   ·rw[List.drop_eq_nil_of_le (by omega)]at c;cases c
  have d:eU (encL es) (i:av)=ai (bZ es[i]):=by rw[EF,oQ,dR q];rfl
  have b:=λZ=>aeC es[i] U g l fs j Z p;rw[c]at z;simp only[dG]at b ⊢;simp[IE,z,b,d,hl,n,o,r,q]
 |false =>
  have q:j<fs.length\/fs.length<=j:=by omega
  rcases q with q|q
  ·have d:eU (encL fs) (j:av)=ai (bZ fs[j]):=by rw[EF,oQ,dR q];rfl
   have b:=λZ=>aeC fs[j] a k m es i Z hi;rw[c]at z;simp only[dG]at b ⊢;simp[IE,z,b,d,hl,n,o,r,q]
  ·have d:eU (encL fs) (j:av)=ak:=by rw[EF,oQ,YJ q];rfl
   rw[c]at z;simp only[dG]at ⊢;simp[IE,z,d,hl,n,q]
theorem Xb(z a c q U b:av)(es fs:aj E)(i j:ay)(k:ar A)(Z:aH) :
  EB [ai (dG z a c es),ai (dG q U b fs),k,aB i,aB j] Z=aD (decide (i<es.length\/j<fs.length)) Z:=by
 by_cases h1:i<es.length
 ·simp[EB,dG,h1]
 ·by_cases h2:j<fs.length
  ·simp[EB,dG,h1,h2]
  ·simp[EB,dG,h1,h2]
theorem aqW(e g p d f o:av)(es fs:aj E)(Z:aH):∀(m n i j:ay) (acc:aj E),i<=es.length->j<=fs.length->m=(es.length-i)+(fs.length-j)->m<n->acc.length+m<=1000000 ->
  lK EB IE n [ai (dG e g p es),ai (dG d f o fs),aF Z.length,aB i,aB j] (Z++[.lst (encL acc)]) =
   ai (.nx,[ai (dG e g p es),ai (dG d f o fs),aF Z.length,aB es.length,aB fs.length],Z++[.lst (encL (acc++fN e d m (jE es i) (jE fs j) (es.drop i) (fs.drop j)))]):=by
 intro m
 induction m with
 |zero =>
  intro n i j acc hi h hm hn ha;obtain⟨n,rfl⟩:∃k,n=k+1:=⟨n-1,by omega⟩;have h1:i=es.length:=by omega
  have h2:j=fs.length:=by omega
  subst h1 h2;rw[DP (Z1:=Z++[.lst (encL acc)]) (by rw[Xb];simp)];simp[fN]
 |succ m ih =>
  intro n i j acc hi h hm hn ha;obtain⟨n,rfl⟩:∃k,n=k+1:=⟨n-1,by omega⟩;have l:EB [ai (dG e g p es),ai (dG d f o fs),aF Z.length,aB i,aB j] (Z++[.lst (encL acc)])=aD ax (Z++[.lst (encL acc)]):=by
   rw[Xb,rC (by omega)]
  have q:=aqV e g p d f o es fs i j acc Z hi h (by omega)
  by_cases c:i<es.length
  ·have s:es[i]?=ai es[i]:=dR c;have b:=ER c
   by_cases z:j<fs.length
   ·have r:fs[j]?=ai fs[j]:=dR z;have a:=ER z
    by_cases hle:es[i].1<=fs[j].1
    ·have U:tI (es.drop i) (fs.drop j)=ax:=by rw[b,a];simp[tI,hle]
     rw[U,s]at q;rw[yO l q,ih n (i+1) j _ (by omega) h (by omega) (by omega) (by simp;omega),b,a,fN,a8 hle,CT _ _ c,US _ _ _ z,<-a];simp
    ·have U:tI (es.drop i) (fs.drop j)=aq:=by rw[b,a];simp[tI];omega
     rw[U,r]at q;rw[yO l q,ih n i (j+1) _ hi (by omega) (by omega) (by omega) (by simp;omega),b,a,fN,bb hle,CT _ _ z,US _ _ _ c,<-b];simp
   ·have u:j=fs.length:=by omega
    subst u;have U:tI (es.drop i) (fs.drop fs.length)=ax:=by rw[b,QE];rfl
    rw[U,s]at q;rw[yO l q,ih n (i+1) fs.length _ (by omega) h (by omega) (by omega) (by simp;omega),b,QE,fN,CT _ _ c,UT];simp
  ·have t:i=es.length:=by omega
   subst t;have z:j<fs.length:=by omega
   have r:fs[j]?=ai fs[j]:=dR z;have a:=ER z;have U:tI (es.drop es.length) (fs.drop j)=aq:=by rw[QE];rfl
   rw[U,r]at q;rw[yO l q,ih n es.length (j+1) _ hi (by omega) (by omega) (by omega) (by simp;omega),a,QE,fN,CT _ _ z,UT];simp
theorem aFB(n:ay)(e:E):Cl n (bZ e):=by simp[bZ,Cl,gC]
theorem ZK(n:ay):∀(es:aj E),gC n (encL es)
 |[]=>by simp[encL,gC]
 |e::es=>by simp only[encL,cV,gC];exact⟨aFB n e,ZK n es⟩
theorem aIB(n:ay)(s l d:av)(es:aj E):Cl n (dG s l d es):=by simp[dG,Cl,gC,ZK]
theorem aEJ(z a c j U b:av)(es fs:aj E)(Z:aH)(h:es.length+fs.length<=100000):YX [dG z a c es,dG j U b fs] Z=aD (.lst (encL (qW z j es fs))) Z:=by
 have q:=aqW z a c j U b es fs Z (es.length+fs.length) 1000000 0 0 [] TV TV (by omega) (by omega) (by simp;omega);have d:encL []=[]:=rfl;have l0:∀es,jE es 0=0:=λ_=>rfl;simp only[d,l0,List.drop_zero,EM,Int.ofNat_zero,YR]at q;have e:(0:ay)<=az:=BI _;simp[YX,acL,q,qW];rw[sX (by simp[Cl,ZK])]
theorem aeD(z a c j U b:av)(es fs:aj E)(Z:aH)(h:es.length+fs.length<=100000):BL [dG z a c es,dG j U b fs] Z=aD (dG (z+j) (a+U) (max c b) (qW z j es fs)) Z:=by
 have q:=λZ=>aEJ z a c j U b es fs Z h;have d:(4:ay)<=az:=by decide
 simp only[dG]at q ⊢;simp[BL,acM,q,d]
def Ch(l s:av):av->av->ar av->aj E->Prop
 |lo,j,_,[]=>lo=s/\j=s
 |lo,j,q,e::r=>(∀p,q=ai p->p<=e.1)/\(q=ai e.1\/e.2.2<=lo+l+1)/\lo<e.2.1/\j<e.2.2/\e.2.1<=e.2.2/\e.2.2-e.2.1<=l/\Ch l s e.2.1 e.2.2 (ai e.1) r
def abC(es:aj E):Prop:=∀e r,es=e::r->e.2.1=1/\e.2.2=1
structure GF(s l d:av)(es:aj E):Prop where
 s0:0<=s
 l0:0<=l
 d0:0<=d
 fst:abC es
 ch:Ch l s 0 0 ak es
theorem Ch.bound{l s:av}:∀{es:aj E} {lo j:av} {pr:ar av},Ch l s lo j pr es->lo<=s/\j<=s
 |[],_,_,_,h=>⟨Pd h.1,Pd h.2⟩
 |e::r,_,_,_,h=>by
  obtain⟨_,_,U,z,_,_,q⟩:=h;have:=Ch.bound q;omega
noncomputable def jG(s:av):aj E->av
 |[]=>s
 |e::_=>e.2.2-1
theorem Ch.Xm{l s lo j:av}{pr:ar av}{es:aj E}(h:Ch l s lo j pr es):lo<=jG s es/\j<=jG s es:=by
 cases es with
 |nil=>exact⟨Pd h.1,Pd h.2⟩
 |cons e r =>
  obtain⟨_,_,U,z,q,_,_⟩:=h;show lo<=e.2.2-1/\j<=e.2.2-1;omega
theorem AO(s:av):jG s []=s:=rfl
theorem DB(s:av)(e:E)(r:aj E):jG s (e::r)=e.2.2-1:=rfl
def Last(j p2 P:ar av)(U a c b z:av):Prop :=
 (P=j/\z=U+b/\(j=ak->p2=ak)/\∀p q,j=ai p->p2=ai q->q<p) \/
 (P=p2/\z=c+a/\p2≠ak/\∀p q,j=ai p->p2=ai q->p<=q)
theorem aCE{U z s t:av}{dn j l m k:av}{g p2 P:ar av}{e:E}{es fs:aj E}(h1:Ch U s dn l g (e::es))(h2:Ch z t j m p2 fs)(rX:0<=U)(x:0<=z)
  (I:∀p f r,g=ai p->fs=f::r->p<=f.1) (i:∀q,p2=ai q->q<e.1) (L:Last g p2 P l m (jG s (e::es)) (jG t fs) k) (n:∀f r,fs=f::r->e.1<=f.1)
  (ae:Ch (U+z) (s+t) (e.2.1+j) (e.2.2+jG t fs) (ai e.1) R):Ch (U+z) (s+t) (dn+j) k P ((e.1,e.2.1+j,e.2.2+jG t fs)::R):=by
 obtain⟨w,b,H,G,F,D,C⟩:=h1;obtain⟨B,A⟩:=h2.Xm;have y:jG t fs<=j+z:=by
  cases fs with
  |nil=>rw[AO];have:=h2.1;omega
  |cons f r =>
   obtain⟨_,d,_⟩:=h2;rw[DB]
   rcases d with d|d
   ·have:=i _ d;have:=n f r rfl;omega
   ·omega
 rw[DB]at L;refine⟨λp c=>?_,?_,by show dn+j<e.2.1+j;omega,?_,by show e.2.1+j<=e.2.2+jG t fs;omega,by show e.2.2+jG t fs-(e.2.1+j)<=U+z;omega,ae⟩
 ·rcases L with⟨a,_⟩|⟨a,_⟩
  ·rw[a]at c;exact w p c
  ·rw[a]at c;have:=i p c;show p<=e.1;omega
 ·rcases b with b|b
  ·left
   rcases L with⟨a,_⟩|⟨a,_,u,o⟩
   ·rw[a];exact b
   ·exfalso;cases h:p2 with
    |none=>exact u h
    |some q =>
     have:=o _ q b h;have:=i q h;omega
  ·right
   show e.2.2+jG t fs<=dn+j+(U+z)+1;omega
 ·show k<e.2.2+jG t fs
  rcases L with⟨_,v,_⟩|⟨_,v,_⟩ <;> omega
theorem ab5{j U s t:av}{dn d l m k:av}{b p2 P:ar av}{f:E}{es fs:aj E}(h1:Ch j s dn l b es)(h2:Ch U t d m p2 (f::fs))(rX:0<=j)(x:0<=U)
  (i:∀p,b=ai p->p<=f.1) (I:∀q e r,p2=ai q->es=e::r->q<e.1) (L:Last b p2 P l m (jG s es) (jG t (f::fs)) k) (n:∀e r,es=e::r->f.1<e.1)
  (ae:Ch (j+U) (s+t) (f.2.1+dn) (f.2.2+jG s es) (ai f.1) R):Ch (j+U) (s+t) (dn+d) k P ((f.1,f.2.1+dn,f.2.2+jG s es)::R):=by
 obtain⟨w,z,H,G,F,D,C⟩:=h2;obtain⟨B,A⟩:=h1.Xm;have y:jG s es<=dn+j:=by
  cases es with
  |nil=>rw[AO];have:=h1.1;omega
  |cons e r =>
   obtain⟨_,g,_⟩:=h1;rw[DB]
   rcases g with g|g
   ·have:=i _ g;have:=n e r rfl;omega
   ·omega
 rw[DB]at L;refine⟨λp c=>?_,?_,by show dn+d<f.2.1+dn;omega,?_,by show f.2.1+dn<=f.2.2+jG s es;omega,by show f.2.2+jG s es-(f.2.1+dn)<=j+U;omega,ae⟩
 ·rcases L with⟨a,_⟩|⟨a,_⟩
  ·rw[a]at c;exact i p c
  ·rw[a]at c;exact w p c
 ·rcases z with z|z
  ·left
   rcases L with⟨a,_,u,o⟩|⟨a,_⟩
   ·exfalso;cases h:b with
    |none=>rw[u h]at z;cases z
    |some p =>
     have:=o p _ h z;have:=i p h;omega
   ·rw[a];exact z
  ·right
   show f.2.2+jG s es<=dn+d+(j+U)+1;omega
 ·show k<f.2.2+jG s es
  rcases L with⟨_,v,_⟩|⟨_,v,_⟩ <;> omega
theorem aCF{l k s t:av}(rX:0<=l)(v:0<=k):∀(n:ay) (es fs:aj E) (dn U c d i:av) (b p2 P:ar av),n=es.length+fs.length->Ch l s dn c b es->Ch k t U d p2 fs ->
  (∀p f r,b=ai p->fs=f::r->p<=f.1)->(∀q e r,p2=ai q->es=e::r->q<e.1)->Last b p2 P c d (jG s es) (jG t fs) i ->
  Ch (l+k) (s+t) (dn+U) i P (fN s t n dn U es fs):=by
 intro n
 induction n with
 |zero =>
  intro es fs dn U c d i b p2 P hn h1 h2 a h L;have C:es=[]:=BK (by omega);have x:fs=[]:=BK (by omega);subst C x;obtain⟨a1,a2⟩:=h1;obtain⟨X,W⟩:=h2;simp only[AO]at L;refine⟨by omega,?_⟩
  rcases L with⟨_,x,_⟩|⟨_,x,_⟩ <;> omega
 |succ n ih =>
  intro es fs dn U c d i b p2 P hn h1 h2 a h L;cases es with
  |nil =>
   cases fs with
   |nil=>simp at hn
   |cons f fs =>
    simp only[iP,JD]at hn;have u:=h2;obtain⟨K,I,H,G,F,D,g⟩:=h2;have q:=ih [] fs dn f.2.1 c f.2.2 (s+f.2.2) b (ai f.1) (ai f.1) (by simp;omega) h1 g
     (λp m r j he=>by
      subst he;have:=a p f _ j rfl;have:=g.1 _ rfl;omega) (λq e r _ he=>by cases he)
     (.inr ⟨rfl,rfl,by simp,λp q j z=>by cases z;exact a p f _ j rfl⟩)
    have:=ab5 (es:=[]) h1 u rX v (λp j=>a p f _ j rfl) (λq e r _ he=>by cases he) L (λe r he=>by cases he) (R:=fN s t n dn f.2.1 [] fs) (by
     rw[AO,QH f.2.1,QH f.2.2];exact q)
    simp only[fN];rw[AO]at this;exact this
  |cons e es =>
   have w:=h1;obtain⟨V,T,S,Q,N,M,A⟩:=h1;have B:(∀f r,fs=f::r->e.1<=f.1)->Ch (l+k) (s+t) (dn+U) i P ((e.1,e.2.1+U,e.2.2+jG t fs)::fN s t n e.2.1 U es fs):=λy=>by
    have q:=ih es fs e.2.1 U e.2.2 d (e.2.2+jG t fs) (ai e.1) p2 (ai e.1) (by simp at hn ⊢;omega) A h2
     (λp m r j he=>by cases j;exact y m r he) (λq o r z he=>by
      subst he;have:=h q e _ z rfl;have:=A.1 _ rfl;omega)
     (.inl ⟨rfl,rfl,by simp,λp q j z=>by cases j;exact h q e _ z rfl⟩)
    exact aCE w h2 rX v a (λq z=>h q e _ z rfl) L y q
   cases fs with
   |nil =>
    have:=B (λf r he=>by cases he);simp only[fN];rw[AO]at this;exact this
   |cons f fs =>
    simp only[fN]
    by_cases hle:e.1<=f.1
    ·rw[a8 hle];have:=B (λm r he=>by cases he;exact hle);rw[DB]at this;exact this
    ·rw[bb hle];have u:=h2;obtain⟨K,I,H,G,F,D,g⟩:=h2;have q:=ih (e::es) fs dn f.2.1 c f.2.2 (jG s (e::es)+f.2.2) b (ai f.1) (ai f.1) (by simp at hn ⊢;omega) w g
      (λp m r j he=>by
       subst he;have:=a p f _ j rfl;have:=g.1 _ rfl;omega) (λq o r z he=>by cases z;cases he;omega)
      (.inr ⟨rfl,rfl,by simp,λp q j z=>by cases z;exact a p f _ j rfl⟩)
     have:=ab5 (es:=e::es) w u rX v (λp j=>a p f _ j rfl) (λq o r z he=>h q o r z he) L (λo r he=>by cases he;omega) (R:=fN s t n dn f.2.1 (e::es) fs) (by
      rw[QH f.2.1,QH f.2.2];exact q)
     rw[DB]at this;exact this
theorem Zt{l s:av}{es:aj E}(h:abC es)(c:Ch l s 0 0 ak es):jG s es=0:=by
 cases es with
 |nil=>exact c.1.symm
 |cons e r=>rw[DB,(h e r rfl).2];rfl
theorem axZ{z c i j U g:av}{es fs:aj E}(h1:GF z c i es)(h2:GF j U g fs):GF (z+j) (c+U) (max i g) (qW z j es fs):=by
 have l:=Zt h1.fst h1.ch;have d:=Zt h2.fst h2.ch;have q:=aCF h1.l0 h2.l0 (es.length+fs.length) es fs 0 0 0 0 0 ak ak ak rfl h1.ch h2.ch (λ_ _ _ h=>by cases h) (λ_ _ _ h=>by cases h) (.inl ⟨rfl,by rw[d];rfl,λ_=>rfl,λ_ _ h=>by cases h⟩);refine⟨by have:=h1.s0;have:=h2.s0;omega,by have:=h1.l0;have:=h2.l0;omega,by have:=h1.d0;omega,?_,q⟩;intro e r he;unfold qW at he;cases es with
 |nil =>
  cases fs with
  |nil=>simp[fN]at he
  |cons f fs =>
   rw[AO]at l;simp only[JD,iP,wX,fN,rK]at he;obtain⟨a,b⟩:=h2.fst f fs rfl;rw[<-he.1];exact⟨by show f.2.1+0=1;omega,by show f.2.2+z=1;omega⟩
 |cons x es =>
  obtain⟨a,b⟩:=h1.fst x es rfl;cases fs with
  |nil =>
   rw[AO]at d;simp only[JD,iP,Nat.add_zero,fN,rK]at he;rw[<-he.1];exact⟨by show x.2.1+0=1;omega,by show x.2.2+j=1;omega⟩
  |cons f fs =>
   obtain⟨n,m⟩:=h2.fst f fs rfl;have k:(x::es).length+(f::fs).length=(es.length+(f::fs).length)+1:=by simp only[iP];omega
   rw[k]at he;simp only[fN]at he;split at he
   ·simp only[rK]at he;rw[<-he.1];exact⟨by show x.2.1+0=1;omega,by show x.2.2+(f.2.2-1)=1;omega⟩
   ·simp only[rK]at he;rw[<-he.1];exact⟨by show f.2.1+0=1;omega,by show f.2.2+(x.2.2-1)=1;omega⟩
noncomputable def oG(l:av)(k y:E):bh:=decide (y.1=k.1)||decide (y.2.2<=k.2.1+l+1)
def pF(l:av):E->aj E->aj E
 |_,[]=>[]
 |k,x::r=>match r with
  |[]=>[x]
  |y::_=>if oG l k y=ax then pF l k r else x::pF l x r
def nD(l:av):aj E->aj E
 |[]=>[]
 |e::r=>e::pF l e r
theorem FW(l:av)(k x y:E)(r:aj E):pF l k (x::y::r)=if oG l k y=ax then pF l k (y::r)else x::pF l x (y::r):=rfl
theorem zY(l:av)(k y:E):oG l k y=ax<->(y.1=k.1\/y.2.2<=k.2.1+l+1):=by simp[oG]
theorem Km{l0 l s:av}(o:l0<=l):∀(xs:aj E) (k:E) (j c U:av),Ch l0 s c U (ai j) xs->k.1<=j->k.2.1<=c->k.2.2<=U->(xs=[]->k.2.1=c/\k.2.2=U)->(∀x r,xs=x::r->oG l k x=ax)->Ch l s k.2.1 k.2.2 (ai k.1) (pF l k xs)
 |[],k,j,c,U,h,_,_,_,he,_=>by
  obtain⟨a,b⟩:=he rfl;exact⟨a.trans h.1,b.trans h.2⟩
 |[x],k,j,c,U,h,h1,h2,v,_,hn=>by
  obtain⟨m,C,B,A,i,w,d⟩:=h;have n:=(zY l k x).mp (hn x [] rfl);have:=m j rfl;refine⟨λp g=>(by cases g;omega),?_,by omega,by omega,i,by omega,d⟩
  rcases n with n|n
  ·left;rw[n]
  ·right;exact n
 |x::y::r,k,j,c,U,h,h1,h2,v,_,hn=>by
  obtain⟨m,C,B,A,i,w,d⟩:=h;have D:=m j rfl;rw[FW]
  by_cases f:oG l k y=ax
  ·rw[a8 f];exact Km o (y::r) k x.1 x.2.1 x.2.2 d (by omega) (by omega) (by omega) (λe=>by cases e) (λt u e=>by cases e;exact f)
  ·rw[bb f];have n:=(zY l k x).mp (hn x _ rfl);have q:=Km o (y::r) x x.1 x.2.1 x.2.2 d yC yC yC (λe=>by cases e) (λt u e=>by
    cases e;rw[zY]
    rcases d.2.1 with z|z
    ·left;exact(kK z).symm
    ·right;omega)
   refine⟨λp g=>(by cases g;omega),?_,by omega,by omega,i,by omega,q⟩
   rcases n with n|n
   ·left;rw[n]
   ·right;exact n
theorem axY{s l d U:av}{es:aj E}(h:GF s l d es)(hl:l<=U):GF s U (d+1) (nD U es):=by
 refine⟨h.s0,by have:=h.l0;omega,by have:=h.d0;omega,?_,?_⟩
 ·intro e r he;cases es with
  |nil=>cases he
  |cons x q =>
   simp only[nD,rK]at he;rw[<-he.1];exact h.fst x q rfl
 ·cases es with
  |nil=>exact h.ch
  |cons x q =>
   obtain⟨g,j,f,c,b,i,a⟩:=h.ch;refine⟨g,?_,f,c,b,by omega,Km hl q x x.1 x.2.1 x.2.2 a yC yC yC (λ_=>⟨rfl,rfl⟩) (λy r e=>?_)⟩
   ·rcases j with j|j
    ·cases j
    ·right;omega
   ·subst e;rw[zY]
    rcases a.2.1 with z|z
    ·left;exact(kK z).symm
    ·right;omega
theorem SD(l:av):∀(xs:aj E) (k c:E),c∈pF l k xs->c∈xs
 |[],_,_,h=>by cases h
 |[x],_,_,h=>h
 |x::y::r,k,c,h=>by
  rw[FW]at h;split at h
  ·exact gJ _ (SD l (y::r) k c h)
  ·rcases eK.mp h with z|z
   ·rw[z];exact List.mem_cons_self ..
   ·exact gJ _ (SD l (y::r) x c z)
theorem OP{l s:av}:∀(xs:aj E) (lo j:av) (q:ar av),Ch l s lo j q xs->∀c∈xs,j<c.2.2/\lo<c.2.1/\c.2.2-c.2.1<=l/\c.2.1<=s/\c.2.2<=s
 |[],_,_,_,_,c,h=>by cases h
 |x::r,lo,j,q,h,c,a=>by
  obtain⟨p,o,i,g,n,f,U⟩:=h
  rcases eK.mp a with z|z
  ·subst z;have:=U.bound;exact⟨g,i,f,this.1,this.2⟩
  ·obtain⟨m,k,e,d,b⟩:=OP r _ _ _ U c z;exact⟨by omega,by omega,e,d,b⟩
def Ox(st:av):E->aj E->Prop
 |_,[]=>True
 |k,b::r=>(∀c j,r=c::j->k.2.1+st+2<=c.2.1)/\Ox st b r
theorem Gu{l0 st s:av}:∀(xs:aj E) (k:E) (lo a:av) (U:ar av),Ch l0 s lo a U xs->Ox st k (pF (l0+st) k xs)
 |[],_,_,_,_,_=>trivial
 |[x],_,_,_,_,_=>⟨λc d e=>(by cases e),trivial⟩
 |x::y::r,k,lo,a,U,h=>by
  obtain⟨o,n,m,l,i,g,j⟩:=h;rw[FW]
  by_cases q:oG (l0+st) k y=ax
  ·rw[a8 q];exact Gu (y::r) k _ _ _ j
  ·rw[bb q];refine⟨λc d e=>?_,Gu (y::r) x _ _ _ j⟩;have b:c∈y::r:=SD _ (y::r) x c (by rw[e];exact List.mem_cons_self ..);have hm:=OP _ _ _ _ j c b;have p:y.2.2<=c.2.2:=by
    rcases eK.mp b with z|z
    ·rw[z];exact zD _
    ·obtain⟨_,_,_,_,_,_,f⟩:=j;have:=(OP _ _ _ _ f c z).1;omega
   have hn:¬(y.1=k.1\/y.2.2<=k.2.1+(l0+st)+1):=λz=>q ((zY _ _ _).mpr z);have t:¬y.2.2<=k.2.1+(l0+st)+1:=λz=>hn (.inr z);omega
theorem Yc{st s:av}:∀(m:ay) (k:E) (ab:aj E),Ox st k ab->(∀c∈k::ab,c.2.1<=s)->2*m<=ab.length->k.2.1+m*(st+2)<=s
 |0,k,ab,_,h,_=>by have:=h k kP;simpa using this
 |m+1,k,ab,j,h,hl=>by
  match ab,j,hl with
  |[],_,hl=>simp at hl
  |[b],_,hl=>simp at hl;omega
  |b::c::r,j,hl =>
   obtain⟨a,U⟩:=j;have e:=a c r rfl;have q:=Yc m c r U.2 (λz d=>h z (gJ _ (gJ _ d))) (by simp at hl;omega);have:((m+1:ay):av)*(st+2)=(m:av)*(st+2)+(st+2):=by rw[Int.natCast_add,Int.add_mul];simp
   rw[this];omega
theorem ag5{s l d:av}{es:aj E}(h:GF s l d es)(keep:ay)(g:1<=keep):(nD (l+s/keep) es).length<=2*keep:=by
 cases es with
 |nil=>simp[nD]
 |cons x j =>
  obtain⟨t,r,p,o,n,m,U⟩:=h.ch;have f:=(h.fst x j rfl).1
  by_cases a:(nD (l+s/keep) (x::j)).length<=2*keep
  ·exact a
  ·exfalso;have hlen:2*keep<=(pF (l+s/keep) x j).length:=by simp only[nD,iP]at a;omega
   have q:=Yc keep x _ (Gu j x _ _ _ U) (λc b=>by
    rcases eK.mp b with z|z
    ·rw[z];exact U.bound.1
    ·exact(OP _ _ _ _ U c (SD _ _ _ _ z)).2.2.2.1) hlen
   have k:=Int.mul_ediv_add_emod s keep;have i:=YT s (show(0:av)<keep by omega);have e:(keep:av)*(s/keep+2)=keep*(s/keep)+2*keep:=by rw[YS];omega
   rw[e]at q;omega
end M
namespace V2
open PySem L2
@[simp] theorem ayD(neg:bh)(i j:bh)(Z:aH):uR neg (.bl i) (.bl j) Z=ai (.ok (.bl (if neg then !(i==j)else i==j)),Z):=by
 simp[uR,res,dW,gD]
@[simp] theorem aHW(i j:bh)(Z:aH):iX (.bl i) (.bl j) Z=ai (.ok (.bl (i==j)),Z):=ayD aq i j Z
end V2
namespace M
open PySem L2 V2
theorem aeB(l:av)(k y:E)(Z:aH):JP [bZ k,bZ y,.int l] Z=aD (.bl (oG l k y)) Z:=by
 by_cases h:y.1=k.1
 ·simp[JP,Ld,bZ,h,oG]
 ·simp[JP,Ld,bZ,h,oG]
theorem ad7(e:E)(p:av)(Z:aH):JM [bZ e,.int p] Z=aD (.bl (decide (e.2.1=p/\e.2.2=p))) Z:=by
 by_cases h:e.2.1=p
 ·by_cases h2:e.2.2=p <;> simp[JM,Ky,bZ,h,h2]
 ·simp[JM,Ky,bZ,h]
theorem aE1(e:E)(l:av)(Z:aH):QO [bZ e,.int l] Z=aD (.bl (decide (e.2.1<=e.2.2/\e.2.2-e.2.1<=l))) Z:=by
 by_cases h:e.2.1<=e.2.2
 ·simp[QO,Lk,bZ,h]
 ·simp[QO,Lk,bZ,h]
theorem aEY(e f:E)(l:av)(Z:aH):EZ [bZ e,bZ f,.int l] Z=aD (.bl (decide (e.1<=f.1/\e.2.1<f.2.1/\e.2.2<f.2.2)&&oG l e f)) Z:=by
 have q:=λZ=>aeB l e f Z;simp only[bZ]at q
 by_cases h1:e.1<=f.1
 ·have j:¬f.1<e.1:=by omega
  by_cases h2:e.2.1<f.2.1
  ·have z:¬f.2.1<=e.2.1:=by omega
   by_cases a:e.2.2<f.2.2
   ·have U:¬f.2.2<=e.2.2:=by omega
    simp[EZ,PB,bZ,h1,h2,a,j,z,U,q]
   ·have U:f.2.2<=e.2.2:=by omega
    simp[EZ,PB,bZ,h1,h2,a,j,z,U]
  ·have z:f.2.1<=e.2.1:=by omega
   simp[EZ,PB,bZ,h1,h2,j,z]
 ·have j:f.1<e.1:=by omega
  simp[EZ,PB,bZ,h1,j]
theorem Kd(es:aj E)(e:E):encL es++[bZ e]=encL (es++[e]):=by simp[encL]
theorem OK(e:E)(es:aj E):encL (e::es)=bZ e::encL es:=rfl
theorem UH(ok:aH->Prop)(aL:∀Z,ok Z)(es:aj E)(l:av)(Z:aH)(hz:es.length<=100000):∀(xs:aj E) (pre acc:aj E) (k:E) (a e:ar A),es=pre++xs->1<=pre.length->acc.length<=pre.length->∃U j,
  eV ok (hZ 2 (dF (gN 4) (dF (gN 5) iA))) BH (nW pre.length (encL xs)) [aX (encL es),aB l,aF Z.length,aB ((es.length:av)-1),a,e] (Z++[.lst (encL (acc++[k]))]) =
   ai (.nx,[aX (encL es),aB l,aF Z.length,aB ((es.length:av)-1),U,j],Z++[.lst (encL (acc++[k]++pF l k xs))])
 | [],pre,acc,k,a,e,_,_,_=>⟨a,e,by
   show eV _ _ _ [] _ _=_;rw[AZ (aL _)];simp[pF]⟩
 |x::r,pre,acc,k,a,e,he,o,p=>by
  have hL:∀ds,eL (Z++[.lst ds]) (.aJ Z.length)=ai ds:=λds=>pI (by simp);have g:∀ds,wD (Z++[.lst ds]) (.aJ Z.length):=λds=>AJ (hL ds);have h:∀ds,pO (Z++[.lst ds]) (.aJ Z.length)=ai (Z.length,ds):=λds=>BF (by simp);have hlen:es.length=pre.length+(r.length+1):=by rw[he];simp
  have i:acc.length+1<az:=by rw[lE];omega
  have d:((pre.length:av)==0)=aq:=by simp;intro z;simp[z]at o
  have m:eU (encL (acc++[k])) (-1)=ai (bZ k):=by rw[<-Kd];exact L2.aDH _ _
  have keep:∀(n:ar A),BH [aX (encL es),aB l,aF Z.length,aB ((es.length:av)-1),aB (pre.length:av),ai (bZ x)] (Z++[.lst (encL (acc++[k]))]) =
    ai (.nx,[aX (encL es),aB l,aF Z.length,aB ((es.length:av)-1),aB (pre.length:av),ai (bZ x)],Z++[.lst (encL (acc++[k]++(match r with
     |[]=>[x]
     | y::_=>if oG l k y=ax then []else [x])))]):=by
   intro _;cases r with
   |nil =>
    have b:((pre.length:av)==(es.length:av)-1)=ax:=by simp at hlen ⊢;omega
    simp[BH,-dy,-cc,d,b,g,h,i];rw[Kd];simp
   |cons y r =>
    have b:((pre.length:av)==(es.length:av)-1)=aq:=by simp at hlen ⊢;omega
    have f:eU (encL es) ((pre.length:av)+1)=ai (bZ y):=by
     rw[show((pre.length:av)+1)=((pre.length+1:ay):av)by omega,sG,oQ,he];simp
    have q:=λZ=>aeB l k y Z;cases hb:oG l k y with
    |true =>
     rw[hb]at q;simp[BH,-dy,-cc,d,b,hL,m,f,q,hb]
    |false =>
     rw[hb]at q;simp[BH,-dy,-cc,d,b,hL,m,f,q,g,h,i,hb];rw[Kd];simp
  have c:(pre++[x]).length=pre.length+1:=by simp
  rw[OK,nW];cases r with
  |nil =>
   obtain⟨U,j,ih⟩:=UH ok aL es l Z hz [] (pre++[x]) (acc++[k]) x (aB (pre.length:av)) (ai (bZ x)) (by rw[he];simp) (by simp) (by simp;omega);rw[c]at ih;refine⟨U,j,?_⟩;rw[oP (aL _) (by simp) (keep ak),ih];simp[pF]
  |cons y r =>
   cases hb:oG l k y with
   |true =>
    obtain⟨U,j,ih⟩:=UH ok aL es l Z hz (y::r) (pre++[x]) acc k (aB (pre.length:av)) (ai (bZ x)) (by rw[he];simp) (by simp) (by simp;omega);rw[c]at ih;refine⟨U,j,?_⟩;rw[oP (aL _) (by simp) (keep ak)];simp only[hb,kS,wZ];rw[ih,FW,a8 hb]
   |false =>
    obtain⟨U,j,ih⟩:=UH ok aL es l Z hz (y::r) (pre++[x]) (acc++[k]) x (aB (pre.length:av)) (ai (bZ x)) (by rw[he];simp) (by simp) (by simp;omega);rw[c]at ih;refine⟨U,j,?_⟩;rw[oP (aL _) (by simp) (keep ak)];simp only[hb,RF,rV];rw[ih,FW,bb (by rw[hb];simp)];simp
theorem aEN(es:aj E)(l:av)(Z:aH)(hz:es.length<=100000):QN [.lst (encL es),.int l] Z=aD (.lst (encL (nD l es))) Z:=by
 have z:∀ds,wD (Z++[.lst ds]) (.aJ Z.length):=λds=>AJ (pI (ds:=ds) (by simp));have U:∀ds,pO (Z++[.lst ds]) (.aJ Z.length)=ai (Z.length,ds):=λds=>BF (by simp);have a:(0:ay)<az:=by decide
 cases es with
 |nil =>
  simp[QN,Li,enumSrc,encL,nW,eV,nD];exact sX (by simp[Cl,gC])
 |cons x j =>
  obtain⟨c,b,q⟩:=UH (λ_=>True) (λ_=>trivial) (x::j) l Z hz j [x] [] x (aB 0) (ai (bZ x)) rfl (by simp) (by simp);have f:eV (λ_=>True) (hZ 2 (dF (gN 4) (dF (gN 5) iA))) BH (nW 0 (encL (x::j))) [aX (encL (x::j)),aB l,aF Z.length,aB (((x::j).length:av)-1),ak,ak] (Z++[.lst []]) =
   ai (.nx,[aX (encL (x::j)),aB l,aF Z.length,aB (((x::j).length:av)-1),c,b],Z++[.lst (encL (nD l (x::j)))]):=by
   rw[OK,nW,oP trivial (Y0:=[aX (encL (x::j)),aB l,aF Z.length,aB (((x::j).length:av)-1),aB 0,ai (bZ x)]) (Z0:=Z++[.lst []]) (by simp[OK])
    (Y1:=[aX (encL (x::j)),aB l,aF Z.length,aB (((x::j).length:av)-1),aB 0,ai (bZ x)]) (Z1:=Z++[.lst (encL ([]++[x]))]) (by simp[BH,z,U,a,encL])]
   exact q
  have hn:(((x::j).length:av)-1)=(j.length:av):=by simp
  rw[hn]at f;simp[QN,Li,enumSrc,f];exact sX (by simp[Cl,ZK])
theorem aD7(s l d:av)(es:aj E)(keep:av)(Z:aH)(a:1<=keep)(U:keep<1000000)(hz:es.length<=100000):QK [dG s l d es,.int keep] Z=aD (dG s (l+s/keep) (d+1) (nD (l+s/keep) es)) Z:=by
 have q:=λl Z=>aEN es l Z hz;have z:(4:ay)<=az:=by decide
 have hd:∀j,nM j keep:=λj=>⟨by omega,by omega⟩
 simp[QK,acH,dG,q,z,hd]
theorem Jd{s l d:av}{es:aj E}(h:GF s l d es):(s=0<->es=[]):=by
 cases es with
 |nil=>exact⟨λ_=>rfl,λ_=>h.ch.1.symm⟩
 |cons e r =>
  obtain⟨_,_,q,_,_,_,j⟩:=h.ch;have:=j.bound;exact⟨λz=>by omega,λz=>by cases z⟩
theorem aEQ{s l d:av}{es:aj E}(h:GF s l d es)(Z:aH):JR [dG s l d es] Z=aD (.bl ax) Z:=by
 have a:¬s<0:=by have:=h.s0;omega
 have U:¬l<0:=by have:=h.l0;omega
 have q:¬d<0:=by have:=h.d0;omega
 have e:=Jd h
 by_cases j:s=0
 ·have he:=e.mp j;subst he;simp[JR,Lj,dG,U,q,j]
 ·have he:¬es=[]:=λz=>j (e.mpr z);have c:(s==0)=aq:=by simpa using j
  have b:((es.length:av)==0)=aq:=by simpa using he
  simp[JR,Lj,dG,a,U,q,c,b]
theorem DX{l s:av}:∀(es:aj E) (lo a:av) (U:ar av) (i:ay) (e:E),Ch l s lo a U es->es[i]?=ai e->e.2.1<=e.2.2/\e.2.2-e.2.1<=l/\(i+1=es.length->e.2.1=s/\e.2.2=s)/\∀f,es[i+1]?=ai f->e.1<=f.1/\e.2.1<f.2.1/\e.2.2<f.2.2/\oG l e f=ax
 |[],_,_,_,_,_,_,h=>by simp at h
 |x::r,lo,a,U,0,e,h,he=>by
  obtain⟨A,w,v,u,c,b,q⟩:=h;simp at he;subst he;refine⟨c,b,λhl=>?_,λf j=>?_⟩
  ·have:r=[]:=BK (by simp only[iP]at hl;omega);subst this;exact q
  ·cases r with
   |nil=>simp at j
   |cons y r =>
    simp at j;subst j;obtain⟨t,p,o,n,_⟩:=q;refine⟨t _ rfl,o,n,?_⟩;rw[zY]
    rcases p with z|z
    ·left;exact(kK z).symm
    ·right;exact z
 |x::r,lo,a,U,i+1,e,h,he=>by
  obtain⟨A,w,v,u,c,b,q⟩:=h;simp at he;obtain⟨m,k,g,d⟩:=DX r _ _ _ i e q he;exact⟨m,k,λhl=>g (by simp only[iP]at hl;omega),λf j=>d f (by simpa using j)⟩
theorem aEV{s l d:av}{es:aj E}(h:GF s l d es)(i:ay)(hi:i<es.length)(Z:aH):EY [dG s l d es,.int i] Z=aD (.bl ax) Z:=by
 have U:eU (encL es) (i:av)=ai (bZ es[i]):=by rw[EF,oQ,dR hi];rfl
 obtain⟨y,w,v,_⟩:=DX es 0 0 ak i es[i] h.ch (dR hi);have j:=λZ=>aE1 es[i] l Z;rw[rC ⟨y,w⟩]at j;have b:=λZ=>ad7 es[i] 1 Z;have q:=λZ=>ad7 es[i] s Z;have g:((i:av)==(es.length:av)-1)=ax->es[i].2.1=s/\es[i].2.2=s:=λz=>v (by simp at z;omega)
 by_cases c:i=0
 ·subst c;have m:es[0].2.1=1/\es[0].2.2=1:=by
   cases es with
   |nil=>simp at hi
   |cons x r=>exact h.fst x r rfl
  rw[rC m]at b;cases hl:((0:ay):av)==(es.length:av)-1 with
  |true =>
   rw[rC (g hl)]at q;simp only[Int.ofNat_zero,YR]at *;simp[EY,OZ,dG,U,b,q,j,-dy,-cc,hl]
  |false =>
   simp only[Int.ofNat_zero,YR]at *;simp[EY,OZ,dG,U,b,j,-dy,-cc,hl]
 ·have k:i-1<es.length:=by omega
  have e:eU (encL es) ((i:av)-1)=ai (bZ es[i-1]):=by rw[XJ _ _ (by omega),oQ,dR k];rfl
  obtain⟨_,_,_,u⟩:=DX es 0 0 ak (i-1) es[i-1] h.ch (dR k);obtain⟨t,p,o,n⟩:=u es[i] (by rw[show i-1+1=i by omega];exact dR hi);have a:=λZ=>aEY es[i-1] es[i] l Z;rw[rC ⟨t,p,o⟩,n]at a;have f:((i:av)==0)=aq:=by simp;exact c
  cases hl:(i:av)==(es.length:av)-1 with
  |true =>
   rw[rC (g hl)]at q;simp[EY,OZ,dG,U,e,q,j,a,-dy,-cc,hl,f]
  |false=>simp[EY,OZ,dG,U,e,j,a,-dy,-cc,hl,f]
theorem ak2{f:Ev->Mo (aj A)}{Y:Ev}{Z Z':aH}{j:av}(h:f Y Z=aD [.int j] Z')(q:rQ j):sT f Y Z=aD (tD 0 j.toNat) Z':=by
 unfold sT;rw[dH h];show mb (oS (rQ j)) _ Z'=_;rw[Fv _ q];rfl
theorem ayL{fi:Ev->Mo Src}{g:A->MS}{b:MS}{Y:Ev}{Z Z':aH}{S:Src}(h:fi Y Z=aD S Z'):gB fi g b Y Z=eV S.ok g b S.ds Y Z':=by
 unfold gB;rw[fM h]
theorem aEM{s l d:av}{es:aj E}(h:GF s l d es)(hz:es.length<=100000)(Z:aH):YZ [dG s l d es] Z=aD (.bl ax) Z:=by
 obtain⟨c,j,q,a,rfl,rfl⟩:=wN (ok:=λ_=>True) (g:=gN 1) (b:=Lg) (λ_ z Z'=>∃a,z=[ai (dG s l d es),a]/\Z'=Z) (λ_ _ _ _=>trivial)
  ((List.range es.length).map λ(i:ay)=>A.int (0+(i:av))) 0 [ai (dG s l d es),ak] Z ⟨ak,rfl,rfl⟩
  (by
   rintro i x z Z' U ⟨a,rfl,rfl⟩;have hi:i<es.length:=by simpa using(dN.mp U).1
   obtain rfl:A.int (0+(i:av))=x:=by
    have:=(dN.mp U).2;simpa using this
   have q:=λZ=>aEV h i hi Z;rw[xB];exact⟨_,_,_,_,rfl,.inl (by simp[Lg,q]),aB (i:av),rfl,rfl⟩)
 have hh:=λZ=>aEQ h Z;have f:rQ (es.length:av):=⟨by omega,by omega⟩;have hr:(aC (aU fY (aC (aA aO aI gO) a0)) a0) [ai (dG s l d es),ak] j=aD [.int es.length] j:=by
  simp only[dG];simp
 have e:WM [ai (dG s l d es),ak] j=ai (.ret (.bl ax),[ai (dG s l d es),a],j):=by
  unfold WM;rw[bO (Y1:=[ai (dG s l d es),ak]) (Z':=j) (by simp[hh])];rw[bO (Y1:=[ai (dG s l d es),a]) (Z':=j) (by rw[ayL (ak2 hr f)];exact q)];rfl
 show trim j (eE (WM [ai (dG s l d es),ak] j))=_;rw[e];simp
structure Po where
 s:av
 l:av
 d:av
 es:aj E
def bD(p:Po):A:=dG p.s p.l p.d p.es
theorem Xa(s t:av):∀(n:ay) (dn j:av) (es fs:aj E),n=es.length+fs.length->(fN s t n dn j es fs).length=n:=by
 intro n
 induction n with
 |zero=>intro dn j es fs _;rfl
 |succ n ih =>
  intro dn j es fs h;cases es with
  |nil =>
   cases fs with
   |nil=>simp at h
   |cons f fs=>simp only[fN,iP];rw[ih _ _ _ _ (by simp at h ⊢;omega)]
  |cons e es =>
   cases fs with
   |nil=>simp only[fN,iP];rw[ih _ _ _ _ (by simp at h ⊢;omega)]
   |cons f fs =>
    simp only[fN];split
    ·simp only[iP];rw[ih _ _ _ _ (by simp at h ⊢;omega)]
    ·simp only[iP];rw[ih _ _ _ _ (by simp at h ⊢;omega)]
def mV(p q:Po):Po:=⟨p.s+q.s,p.l+q.l,max p.d q.d,qW p.s q.s p.es q.es⟩
def Sr(keep:av)(p:Po):Po:=⟨p.s,p.l+p.s/keep,p.d+1,nD (p.l+p.s/keep) p.es⟩
noncomputable def ay7(p:Po):A:=.int p.s
def vT(ps:aj Po):aH:=[.lst (ps.map bD),.lst (ps.map ay7)]
end M
namespace V2
open PySem L2
theorem Jy{ok:aH->Prop}{g:A->MS}{c:Ev->Mo bh}{e:Ev->Mo A}(F:A->ar A)(P:Ev->Prop)(Z0:aH)(aL:∀ys,ok (Z0++[.lst ys])):∀(xs:aj A) (Y:Ev) (acc:aj A),P Y->acc.length+xs.length<=1000000 ->
  (∀x∈xs,∀Y,P Y->∀ys,∃Y1,P Y1/\g x Y (Z0++[.lst ys])=ai (.nx,Y1,Z0++[.lst ys])/\((∃y,F x=ai y/\c Y1 (Z0++[.lst ys])=ai (.ok ax,Z0++[.lst ys])/\e Y1 (Z0++[.lst ys])=ai (.ok y,Z0++[.lst ys]))\/(F x=ak/\c Y1 (Z0++[.lst ys])=ai (.ok aq,Z0++[.lst ys])))) ->
  ∃Y',qI ok g c e Z0.length xs Y (Z0++[.lst acc])=ai (Y',Z0++[.lst (acc++xs.filterMap F)])
 |[],Y,acc,_,_,_=>⟨Y,by simp[qI,aL]⟩
 |x::xs,Y,acc,f,hl,turn=>by
  simp only[iP]at hl;obtain⟨Y1,b,a,q⟩:=turn x kP Y f acc;have d:acc.length<az:=by rw[lE];omega
  rcases q with⟨y,z,U,h⟩|⟨z,U⟩
  ·obtain⟨Y',ih⟩:=Jy F P Z0 aL xs Y1 (acc++[y]) b (by simp;omega) λx j=>turn x (gJ _ j);exact⟨Y',by simp[qI,aL,a,U,h,d,ih,z]⟩
  ·obtain⟨Y',ih⟩:=Jy F P Z0 aL xs Y1 acc b (by omega) λx j=>turn x (gJ _ j);exact⟨Y',by simp[qI,aL,a,U,ih,z]⟩
theorem RS{n:ay}{js:aj ay}{fi:Ev->Mo Src}{g:A->MS}{c:Ev->Mo bh}{e:Ev->Mo A}{Y:Ev}{Z Z0:aH}{S:Src}(F:A->ar A)(P:Ev->Prop)(j:fi Y Z=ai (.ok S,Z0))(aL:∀ys,S.ok (Z0++[.lst ys]))(a:P (uI n js Y))(hl:S.ds.length<=1000000)
  (turn:∀x∈S.ds,∀Y,P Y->∀ys,∃Y1,P Y1/\g x Y (Z0++[.lst ys])=ai (.nx,Y1,Z0++[.lst ys])/\((∃y,F x=ai y/\c Y1 (Z0++[.lst ys])=ai (.ok ax,Z0++[.lst ys])/\e Y1 (Z0++[.lst ys])=ai (.ok y,Z0++[.lst ys]))\/(F x=ak/\c Y1 (Z0++[.lst ys])=ai (.ok aq,Z0++[.lst ys]))))
  (U:gC Z0.length (S.ds.filterMap F)):mR aq n js fi g c e Y Z=ai (.ok (.lst (S.ds.filterMap F)),Z0):=by
 obtain⟨z,q⟩:=Jy F P Z0 aL S.ds (uI n js Y) [] a (by simpa using hl) turn;simp[mR,mb,j,q,Gj,U]
theorem ax9{a b c:A}{Z:aH}(ha:res Z 6 a=ai c)(hb:res Z 6 b=ai c)(j:dW 8 c=ax):kW a b Z=ai (.ok (.bl aq),Z):=by
 simp[kW,uR,ha,hb,j,ay0 8 c j]
theorem ax8{a:A}{Z:aH}(h:dW 8 a=ax):kW a a Z=ai (.ok (.bl aq),Z):=ax9 (vU h) (vU h) h
theorem LS{f:Ev->Mo (aj A)}{Y:Ev}{Z Z':aH}{j:av}(h:f Y Z=ai (.ok [.int j],Z'))(q:rQ j):sT f Y Z=ai (.ok (tD 0 j.toNat),Z'):=by
 unfold sT;rw[dH h];show mb (oS (rQ j)) _ Z'=_;rw[Fv _ q];rfl
theorem mZ{fi:Ev->Mo Src}{g:A->MS}{b:MS}{Y:Ev}{Z Z':aH}{S:Src}(h:fi Y Z=ai (.ok S,Z')):gB fi g b Y Z=eV S.ok g b S.ds Y Z':=by
 unfold gB;rw[fM h]
theorem uW{n:ay}:∀{as:aj A},(∀a∈as,Cl n a)->gC n as
 |[],_=>by simp only[gC]
 |a::as,h=>by simp only[gC];exact⟨h a kP,uW λb hb=>h b (gJ _ hb)⟩
end V2
namespace M
open PySem L2 V2
abbrev Rn:=av×av
noncomputable def gT(r:Rn):A:=.tup [.int r.1,.int r.2]
def aK(rs:aj Rn):aj A:=rs.map gT
theorem clT(n:ay)(r:Rn):Cl n (gT r):=by simp[gT,Cl,gC]
theorem WC(n:ay)(rs:aj Rn):gC n (aK rs):=uW λa h=>by
 obtain⟨r,_,rfl⟩:=fZ.mp h;exact clT n r
theorem Vk(rs:aj Rn):dW 8 (.lst (aK rs))=ax:=by
 simp[dW,aK,gT]
noncomputable def cP(rs:aj Rn)(n:av):av:=(rs.map λr=>if r.1<n then r.2 else 0).sum
noncomputable def cW(rs:aj Rn)(n:av):av:=(rs.map λr=>if r.1<=n then r.2 else 0).sum
noncomputable def fK(rs:aj Rn)(n:av):av:=(rs.map λr=>if r.1=n then r.2 else 0).sum
noncomputable def whole(rs:aj Rn):av:=(rs.map (·.2)).sum
noncomputable def gH(j:aj av)(f:av->av):aj (Key×A):=j.map λk=>(.inl k,.int (f k))
theorem Ab(j:aj av)(f:av->av)(n:av):fW (gH j f) (.inl n)=if n∈j then(aB (f n))else ak:=by
 induction j with
 |nil=>rfl
 |cons k j ih =>
  simp only[fW,gH,cV,BJ]at ih ⊢
  by_cases e:k=n
  ·subst e;simp
  ·have:(Sum.inl k:Key)≠Sum.inl n:=λz=>e (Sum.inl.inj z);simp only[this,decide_false];rw[ih];have q:¬n=k:=λz=>e z.symm;simp[q]
theorem aDN(j:aj av)(f:av->av)(n:av):((gH j f).any λq=>decide (q.1=(Sum.inl n:Key)))=decide (n∈j):=by
 induction j with
 |nil=>rfl
 |cons k j ih =>
  simp only[gH,cV,QF]at ih ⊢;rw[ih]
  by_cases e:k=n
  ·subst e;simp
  ·have h1:(Sum.inl k:Key)≠Sum.inl n:=λz=>e (Sum.inl.inj z);have U:¬n=k:=λz=>e z.symm;simp[h1,U]
noncomputable def qK(j:aj av)(n:av):aj av:=if n∈j then j else j++[n]
theorem amA(j:aj av)(f g:av->av)(n:av)(U:∀k∈j,k≠n->g k=f k):mH (gH j f) (.inl n) (.int (g n))=gH (qK j n) g:=by
 unfold mH qK;rw[aDN]
 by_cases h:n∈j
 ·simp only[h,decide_true,kS];simp only[gH,wY];refine JA λk q=>?_
  by_cases e:k=n
  ·subst e;simp
  ·have h1:(Sum.inl k:Key)≠Sum.inl n:=λz=>e (Sum.inl.inj z);simp[h1,U k q e]
 ·simp only[h,decide_false,rV];simp only[gH,EN,cV,rJ];rw[JA (g:=λk=>((Sum.inl k:Key),A.int (g k))) λk q=>by rw[U k q (λz=>h (z ▸ q))]];simp
def kR(j:aj av)(rs:aj Rn):aj av:=rs.foldl (λj r=>qK j r.1) j
theorem aDW{j:aj av}{n:av}(h:j.Nodup):(qK j n).Nodup:=by
 unfold qK;split
 ·exact h
 ·rename_i hn;rw[QB];refine⟨h,by simp,λa ha b hb e=>?_⟩;simp only[oX]at hb;exact hn (hb ▸ e ▸ ha)
theorem Xe{j:aj av}{n k:av}:k∈qK j n<->k∈j\/k=n:=by
 unfold qK;split
 ·rename_i h;exact⟨.inl,λz=>z.elim id λe=>e ▸ h⟩
 ·simp
theorem Xv(j:aj av)(n:av):(qK j n).length<=j.length+1:=by unfold qK;split <;> simp
theorem Gq:∀(rs:aj Rn) {j:aj av},j.Nodup->(kR j rs).Nodup
 |[],_,h=>h
 |r::rs,_,h=>Gq rs (aDW h)
theorem Fu:∀(rs:aj Rn) {j:aj av} {k:av},k∈kR j rs<->k∈j\/∃r∈rs,r.1=k
 |[],j,k=>by simp[kR]
 |r::rs,j,k=>by
  show k∈kR (qK j r.1) rs<->_;rw[Fu rs,Xe];simp only[eK,exists_eq_or_imp];constructor
  ·rintro((h|h)|h)
   ·exact .inl h
   ·exact .inr (.inl h.symm)
   ·exact .inr (.inr h)
  ·rintro(h|h|h)
   ·exact .inl (.inl h)
   ·exact .inl (.inr h.symm)
   ·exact .inr h
theorem Gi:∀(rs:aj Rn) (j:aj av),(kR j rs).length<=j.length+rs.length
 |[],j=>by simp[kR]
 |r::rs,j=>by
  have h1:=Gi rs (qK j r.1);have h2:=Xv j r.1;show(kR (qK j r.1) rs).length<=_;simp only[iP];omega
theorem sZ(r:Rn)(rs:aj Rn)(x:av):cP (r::rs) x=(if r.1<x then r.2 else 0)+cP rs x/\cW (r::rs) x=(if r.1<=x then r.2 else 0)+cW rs x:=⟨rfl,rfl⟩
theorem Ao(R S:aj Rn)(x:av):cP (R++S) x=cP R x+cP S x:=by simp[cP]
theorem An(R S:aj Rn)(x:av):cW (R++S) x=cW R x+cW S x:=by simp[cW]
theorem tX(R S:aj Rn):whole (R++S)=whole R+whole S:=by simp[whole]
def Tn(R:aj Rn):Prop:=∀r∈R,0<=r.2
theorem Tn.tail{r:Rn}{R:aj Rn}(h:Tn (r::R)):Tn R:=λq j=>h q (gJ _ j)
theorem Tn.head{r:Rn}{R:aj Rn}(h:Tn (r::R)):0<=r.2:=h r kP
theorem Tn.app{R S:aj Rn}(h:Tn R)(k:Tn S):Tn (R++S):=λq j=>(rH.mp j).elim (h q) (k q)
theorem CG:∀{R:aj Rn},Tn R->∀x,0<=cP R x
 |[],_,_=>by simp[cP]
 |r::R,h,x=>by
  rw[(sZ r R x).1];have:=CG h.tail x;have:=h.head;split <;> omega
theorem FR:∀{R:aj Rn},Tn R->∀{x y:av},x<=y->cP R x<=cP R y
 |[],_,_,_,_=>by simp[cP]
 |r::R,h,x,y,l=>by
  rw[(sZ r R x).1,(sZ r R y).1];have:=FR h.tail l;have:=h.head;split <;> split <;> omega
theorem FQ:∀{R:aj Rn},Tn R->∀{x y:av},x<=y->cW R x<=cW R y
 |[],_,_,_,_=>by simp[cW]
 |r::R,h,x,y,l=>by
  rw[(sZ r R x).2,(sZ r R y).2];have:=FQ h.tail l;have:=h.head;split <;> split <;> omega
theorem CF:∀{R:aj Rn},Tn R->∀{x y:av},x<y->cW R x<=cP R y
 |[],_,_,_,_=>by simp[cW,cP]
 |r::R,h,x,y,l=>by
  rw[(sZ r R x).2,(sZ r R y).1];have:=CF h.tail l;have:=h.head;split <;> split <;> omega
theorem vS:∀{R:aj Rn},Tn R->∀(x:av),cP R x<=cW R x
 |[],_,_=>by simp[cW,cP]
 |r::R,h,x=>by
  rw[(sZ r R x).2,(sZ r R x).1];have:=vS h.tail x;have:=h.head;split <;> split <;> omega
theorem FP:∀{R:aj Rn},Tn R->∀(x:av),cW R x<=whole R
 |[],_,_=>by simp[cW,whole]
 |r::R,h,x=>by
  rw[(sZ r R x).2];have e:whole (r::R)=r.2+whole R:=by simp[whole]
  have:=FP h.tail x;have:=h.head;rw[e];split <;> omega
def Pl(R:aj Rn):av->aj E->Prop
 |_,[]=>True
 |z,e::r=>∃p,z<p/\cP R e.1<p/\p<=cW R e.1/\e.2.1<=p/\p<=e.2.2/\Pl R p r
theorem Pl.low{R:aj Rn}{z j:av}:∀{es:aj E},Pl R z es->j<=z->Pl R j es
 |[],_,_=>trivial
 |_::_,⟨p,h,q⟩,l=>⟨p,by omega,q⟩
theorem Pl.sub{R:aj Rn}:∀{es fs:aj E} {z:av},es.Sublist fs->Pl R z fs->Pl R z es
 |_,_,_,.slnil,_=>trivial
 |_,_,_,.cons a s,⟨p,h,q⟩=>Pl.sub s (q.2.2.2.2.low (by omega))
 |_,_,_,.cons_cons a s,⟨p,h,d,c,b,U,j⟩=>⟨p,h,d,c,b,U,Pl.sub s j⟩
theorem As(l:av):∀(xs:aj E) (k:E),(pF l k xs).Sublist xs
 |[],k=>by simp[pF]
 |[x],k=>by simp[pF]
 |x::y::r,k=>by
  rw[FW];split
  ·exact .cons _ (As l (y::r) k)
  ·exact .cons_cons _ (As l (y::r) x)
theorem ag4(l:av)(es:aj E):(nD l es).Sublist es:=by
 cases es with
 |nil=>simp[nD]
 |cons x j=>exact .cons_cons _ (As l j x)
theorem Pl.nD{R:aj Rn}{es:aj E}(l:av)(h:Pl R 0 es):Pl R 0 (M.nD l es):=h.sub (ag4 l es)
def uZ(es:aj E):Prop:=es.Pairwise λa b=>a.1<=b.1
theorem uZ.tail{e:E}{es:aj E}(h:uZ (e::es)):uZ es:=(vD.mp h).2
theorem uZ.next{e f:E}{es:aj E}(h:uZ (e::f::es)):e.1<=f.1:=(vD.mp h).1 f kP
theorem am4{R S:aj Rn}(hR:Tn R)(hS:Tn S){s t:av}(I:s=whole R)(H:t=whole S):∀(n:ay) (es fs:aj E) (dn j U z Ω:av),n=es.length+fs.length->uZ es->uZ fs->Pl R U es->Pl S z fs->dn<=U->j<=z ->
  (∀f r,fs=f::r->U<=cW R f.1)->(∀e r,es=e::r->z<=cP S e.1) ->
  (∀e r,es=e::r->∀p,U<p->cP R e.1<p->Ω<p+cP S e.1)->(∀f r,fs=f::r->∀q,z<q->cP S f.1<q->Ω<q+cW R f.1) ->
  Pl (R++S) Ω (fN s t n dn j es fs):=by
 intro n
 induction n with
 |zero=>intro es fs dn j U z Ω _ _ _ _ _ _ _ _ _ _ _;exact trivial
 |succ n ih =>
  intro es fs dn j U z Ω hn i g h1 h2 M L2 P N L K;have F:∀e eT,es=e::eT->(∀f r,fs=f::r->e.1<=f.1)->∀hi,(∀x,x<=e.1->cP S x<=hi)->Pl (R++S) Ω ((e.1,e.2.1+j,e.2.2+hi)::fN s t n e.2.1 j eT fs):=by
   rintro e eT rfl m hi C;obtain⟨p,d,c,y,b,w,a⟩:=h1;have W:=N e _ rfl;have v:=L e _ rfl p d c;have V:=C e.1 yC;refine⟨p+cP S e.1,v,?_,?_,?_,?_,?_⟩
   ·rw[Ao];show cP R e.1+cP S e.1<_;omega
   ·rw[An];show _<=cW R e.1+cW S e.1;have:=vS hS e.1;omega
   ·show e.2.1+j<=_;omega
   ·show _<=e.2.2+hi;omega
   ·refine ih eT fs e.2.1 j p z (p+cP S e.1) (by simp at hn;omega) i.tail g a h2 b L2 ?_ ?_ ?_ ?_
    ·intro f r he;have:=FQ hR (m f r he);omega
    ·rintro B r rfl;have:=FR hS i.next;omega
    ·rintro B r rfl T u o;have:=FR hS i.next;omega
    ·intro f r he q u o;have:=FQ hR (m f r he);have:=FR hS (m f r he);omega
  have D:∀f k,fs=f::k->(∀e r,es=e::r->f.1<e.1)->∀hi,(cW R f.1<=hi)->Pl (R++S) Ω ((f.1,f.2.1+dn,f.2.2+hi)::fN s t n dn f.2.1 es k):=by
   rintro f k rfl he hi C;obtain⟨q,d,c,y,b,w,a⟩:=h2;have X:=P f _ rfl;have v:=K f _ rfl q d c;refine⟨q+cW R f.1,v,?_,?_,?_,?_,?_⟩
   ·rw[Ao];show cP R f.1+cP S f.1<_;have:=vS hR f.1;omega
   ·rw[An];show _<=cW R f.1+cW S f.1;omega
   ·show f.2.1+dn<=_;omega
   ·show _<=f.2.2+hi;omega
   ·refine ih es k dn f.2.1 U q (q+cW R f.1) (by simp at hn;omega) i g.tail h1 a M b ?_ ?_ ?_ ?_
    ·rintro A r rfl;have:=FQ hR g.next;omega
    ·intro e r l;have:=CF hS (he e r l);omega
    ·intro e r l p u o;have:=CF hS (he e r l);have:=CF hR (he e r l);omega
    ·rintro A r rfl Q u o;have:=FQ hR g.next;omega
  cases es with
  |nil =>
   cases fs with
   |nil=>simp at hn
   |cons f fs =>
    simp only[fN];exact D f fs rfl (λe r h=>by cases h) s (by rw[I];exact FP hR _)
  |cons e es =>
   cases fs with
   |nil =>
    simp only[fN];exact F e es rfl (λf r h=>by cases h) t (λx _=>by rw[H];exact JH (vS hS x) (FP hS x))
   |cons f fs =>
    simp only[fN]
    by_cases hle:e.1<=f.1
    ·rw[a8 hle];refine F e es rfl (λA r h=>by cases h;exact hle) (f.2.2-1) λx G=>?_;obtain⟨q,d,c,y,b,w,a⟩:=h2;have:=FR hS (JH G hle);omega
    ·rw[bb hle];refine D f fs rfl (λB r h=>by cases h;omega) (e.2.2-1) ?_;obtain⟨p,d,c,y,b,w,a⟩:=h1;have:=CF hR (show f.1<e.1 by omega);omega
theorem Pl.qW{R S:aj Rn}(hR:Tn R)(hS:Tn S){es fs:aj E}(z:uZ es)(j:uZ fs)(h1:Pl R 0 es)(h2:Pl S 0 fs):Pl (R++S) 0 (qW (whole R) (whole S) es fs):=by
 refine am4 hR hS rfl rfl _ es fs 0 0 0 0 0 rfl z j h1 h2 yC yC ?_ ?_ ?_ ?_
 ·intro f r _;exact JH (CG hR f.1) (vS hR f.1)
 ·intro e r _;exact CG hS e.1
 ·intro e r _ p a b;have:=CG hS e.1;omega
 ·intro f r _ q a b;have:=CG hR f.1;have:=vS hR f.1;omega
theorem ab6{l s:av}:∀{es:aj E} {lo j:av} {q:ar av},Ch l s lo j q es->uZ es/\∀p,q=ai p->∀e∈es,p<=e.1
 |[],_,_,_,_=>⟨.nil,λ_ _ _ h=>by cases h⟩
 |e::r,lo,j,q,h=>by
  obtain⟨h1,_,_,_,_,_,c⟩:=h;obtain⟨a,b⟩:=ab6 c;refine⟨vD.mpr ⟨λf U=>b e.1 rfl f U,a⟩,λp j f U=>?_⟩
  rcases eK.mp U with z|z
  ·rw[z];exact h1 p j
  ·exact JH (h1 p j) (b e.1 rfl f z)
theorem GF.Wx{s l d:av}{es:aj E}(h:GF s l d es):uZ es:=(ab6 h.ch).1
structure Gd(R:aj Rn)(p:Po):Prop where
 tn:Tn R
 gf:GF p.s p.l p.d p.es
 sz:p.s=whole R
 pl:Pl R 0 p.es
theorem Gd.merge{R S:aj Rn}{p q:Po}(h:Gd R p)(k:Gd S q):Gd (R++S) (mV p q):=by
 refine⟨h.tn.app k.tn,axZ h.gf k.gf,by show p.s+q.s=_;rw[tX,h.sz,k.sz],?_⟩;show Pl (R++S) 0 (M.qW p.s q.s p.es q.es);rw[h.sz,k.sz];exact Pl.qW h.tn k.tn h.gf.Wx k.gf.Wx h.pl k.pl
theorem Gd.nD{R:aj Rn}{p:Po}(h:Gd R p)(keep:av)(j:1<=keep):Gd R (Sr keep p):=by
 have hd:0<=p.s/keep:=Int.ediv_nonneg h.gf.s0 (by omega);exact⟨h.tn,axY h.gf (show p.l<=p.l+p.s/keep by omega),h.sz,Pl.nD _ h.pl⟩
theorem Vz(ok:aH->Prop)(aL:∀Z,ok Z)(L:A)(Z:aH):∀(rs:aj Rn) (j:aj av) (f:av->av) (x y:ar A),j.length+rs.length<=100000->(∀n,n∉j->f n=0) ->
  ∃a U,eV ok (hZ 2 (dF (gN 2) (dF (gN 3) iA))) WJ (aK rs) [ai L,aF Z.length,x,y] (Z++[.bH (gH j f)])
   = dP [ai L,aF Z.length,a,U] (Z++[.bH (gH (kR j rs) λk=>f k+fK rs k)]):=by
 intro rs
 induction rs with
 |nil =>
  intro j f x y _ _;refine⟨x,y,?_⟩;have e:(λk=>f k+fK [] k)=f:=by funext k;simp[fK]
  simp only[aK,rJ,AZ (aL _),kR,List.foldl_nil,e]
 |cons r rs ih =>
  intro j f x y hl b;simp only[iP]at hl;have m:=Xv j r.1
  let g:av->av:=λk=>if k=r.1 then f r.1+r.2 else f k
  obtain⟨a,U,q⟩:=ih (qK j r.1) g (aB r.1) (aB r.2) (by omega) (λn hn=>by
   rw[Xe]at hn;have h1:n∉j:=λz=>hn (.inl z);have h2:¬n=r.1:=λz=>hn (.inr z);simp only[g,h2,rV,b n h1])
  refine⟨a,U,?_⟩;have c:lL (Z++[.bH (gH j f)]) (.aJ Z.length)=ai (Z.length,gH j f):=yS (by simp);have hd:Gw (Z++[.bH (gH j f)]) (.aJ Z.length):=⟨_,_,c⟩;have hv:(fW (gH j f) (.inl r.1)).getD (.int 0)=.int (f r.1):=by
   rw[Ab]
   by_cases h:r.1∈j
   ·simp[h]
   ·simp[h,b _ h]
  have i:mH (gH j f) (.inl r.1) (.int (f r.1+r.2))=gH (qK j r.1) g:=by
   have:=amA j f g r.1 λk _ l=>by simp[g,l]
   simpa[g]using this
  have d:(gH j f).length<az:=by rw[lE];simp[gH];omega
  have st:WJ [ai L,aF Z.length,aB r.1,aB r.2] (Z++[.bH (gH j f)])=dP [ai L,aF Z.length,aB r.1,aB r.2] (Z++[.bH (gH (qK j r.1) g)]):=by
   simp[WJ,hd,c,lH,hv,d,i]
  show eV ok _ _ (gT r::aK rs) _ _=_;rw[oP (aL _) (Y0:=[ai L,aF Z.length,aB r.1,aB r.2]) (Z0:=Z++[.bH (gH j f)]) (by simp[gT]) st,q];have e:(λk=>g k+fK rs k)=λk=>f k+fK (r::rs) k:=by
   funext k;simp only[g,fK,cV,nK]
   by_cases h:k=r.1
   ·subst h;simp;omega
   ·have h':¬r.1=k:=λz=>h z.symm;simp[h,h']
  rw[e];rfl
def cU(rs:aj Rn):aj Rn:=(sortI (kR [] rs)).map λk=>(k,fK rs k)
theorem Yk(j:aj av)(f:av->av):intKeys (gH j f)=ai j:=by
 induction j with
 |nil=>rfl
 |cons k j ih =>
  simp only[gH,cV,intKeys]at ih ⊢;rw[ih];rfl
theorem aEE(rs:aj Rn)(hl:rs.length<=63)(Z:aH):JO [.lst (aK rs)] Z=aD (.lst (aK (cU rs))) Z:=by
 obtain⟨U,z,q⟩:=Vz (λZ'=>fB Z' (.lst (aK rs))=ai (aK rs)) (λ_=>rfl) (.lst (aK rs)) Z rs [] (λ_=>0) ak ak (by simp;omega) (λ_ _=>rfl);simp only[xB]at q;have d:=Gi rs [];simp only[JD,wX]at d;generalize i:kR [] rs=j at q d;have f:∀c,lL (Z ++ .bH (gH j λk=>fK rs k)::c) (.aJ Z.length)=ai (Z.length,gH j λk=>fK rs k):=λc=>yS (by simp);have m:=f [];have sl:=LN j;have l:j.length<64:=by omega
 have p:j.length<=az:=by rw[lE];omega
 have comp:Lc [aX (aK rs),aF Z.length,U,z] (Z++[.bH (gH j λk=>fK rs k)])=aD (.lst (aK (cU rs))) (Z++[.bH (gH j λk=>fK rs k)]):=by
  have g:((sortI j).map A.int).filterMap (λa=>match a with | .int k=>ai (gT (k,fK rs k))|_=>ak)=aK (cU rs):=by
   simp only[aeP,aK,cU,i,wY];rw[<-List.filterMap_eq_map];rfl
  rw[<-g];refine RS (S:=srcOf (.lst ((sortI j).map A.int)) ((sortI j).map A.int)) _ (λb=>∃v,b=[v,aF Z.length]) (by simp[m,Yk,l,sl]) (λ_=>rfl) ⟨ak,rfl⟩ (by simp[sl];omega) ?_ (by
   show gC _ (List.filterMap _ ((sortI j).map A.int));rw[g];exact WC _ _)
  rintro x o b ⟨v,rfl⟩ h;obtain⟨k,r,rfl⟩:=fZ.mp o;have s:k∈j:=(sortI_perm j).mem_iff.mp r;have h2:(2:ay)<=az:=by decide
  have hv:fW (gH j λk=>fK rs k) (.inl k)=(aB (fK rs k)):=by rw[Ab,a8 s]
  refine⟨[aB k,aF Z.length],⟨_,rfl⟩,by simp,.inl ⟨_,rfl,rfl,?_⟩⟩;have n:=f [.lst h];simp[n,lH,hv,h2,gT]
 show trim Z (eE (EA [aX (aK rs),ak,ak,ak] Z))=_;have e:EA [aX (aK rs),ak,ak,ak] Z=ai (.ret (.lst (aK (cU rs))),[aX (aK rs),aF Z.length,U,z],Z++[.bH (gH j λk=>fK rs k)]):=by
  unfold EA;rw[bO (Y1:=[aX (aK rs),aF Z.length,ak,ak]) (Z':=Z++[.bH []]) (by simp)];rw[bO (Y1:=[aX (aK rs),aF Z.length,U,z]) (Z':=Z++[.bH (gH j λk=>fK rs k)]) (by rw[mZ (S:=srcOf (.lst (aK rs)) (aK rs)) (Z':=Z++[.bH []]) (by simp)];exact q)];simp[comp]
 rw[e];simp only[eE];exact sX (by simp only[Cl];exact WC _ _)
theorem aEG(rs:aj Rn)(hl:rs.length<=63)(Z:aH):JO [.lst (aK rs)] Z=aD (.lst (aK (cU rs))) Z:=aEE rs (by omega) Z
noncomputable def na:aj Rn->av->av->ar av
 |[],_,_=>ak
 |r::rs,acc,p=>if p<=acc+r.2 then ai r.1 else na rs (acc+r.2) p
noncomputable def eB(ps:aj Rn):av:=(ps.map (·.2)).sum
theorem Yl(m t:av):∀{j:aj av},j.Nodup->(j.map λk=>if m=k then t else 0).sum=if m∈j then t else 0
 |[],_=>by simp
 |k::j,h=>by
  obtain⟨h1,h2⟩:=qO.mp h;simp only[cV,nK,Yl m t h2]
  by_cases e:m=k
  ·subst e;simp[h1]
  ·simp[e]
theorem To(f g:av->av):∀j:aj av,(j.map λk=>f k+g k).sum=(j.map f).sum+(j.map g).sum
 |[]=>by simp
 |k::j=>by simp only[cV,nK,To f g j];omega
theorem Sq(r:Rn)(rs:aj Rn)(k:av):fK (r::rs) k=(if r.1=k then r.2 else 0)+fK rs k:=by simp[fK]
theorem Rf:∀j:aj av,(j.map λ_=>(0:av)).sum=0
 |[]=>rfl
 |_::j=>by simp only[cV,nK,Rf j];rfl
theorem RW(P:av->Prop) [DecidablePred P]{ps:aj av}(hn:ps.Nodup):∀(rs:aj Rn),(∀r∈rs,(r.1∈ps<->P r.1))->(ps.map (fK rs)).sum=(rs.map λr=>if P r.1 then r.2 else 0).sum
 |[],_=>by
  have:fK []=λ_=>(0:av):=by funext k;simp[fK]
  rw[this,Rf];rfl
 |r::rs,h=>by
  have e:(ps.map (fK (r::rs)))=ps.map λk=>(if r.1=k then r.2 else 0)+fK rs k:=JA λk _=>Sq r rs k;rw[e,To,Yl _ _ hn,RW P hn rs λq j=>h q (gJ _ j)];have:=h r kP;simp only[cV,nK]
  by_cases hm:r.1∈ps
  ·rw[a8 hm,a8 (this.mp hm)]
  ·rw[bb hm,bb λz=>hm (this.mpr z)]
theorem UG(rs:aj Rn):(sortI (kR [] rs)).Pairwise (· < ·):=by
 have h1:=Tw (kR [] rs);have h2:(sortI (kR [] rs)).Nodup:=(sortI_perm _).nodup_iff.mpr (Gq rs List.nodup_nil);exact(List.Pairwise.and h1 h2).imp λ⟨a,b⟩=>by omega
theorem mem_keys(rs:aj Rn)(k:av):k∈sortI (kR [] rs)<->∃r∈rs,r.1=k:=by
 rw[(sortI_perm _).mem_iff,Fu];simp
theorem Be(rs:aj Rn)(j:aj av):eB (j.map λk=>(k,fK rs k))=(j.map (fK rs)).sum:=by
 simp[eB,wY];rfl
theorem afA(rs:aj Rn):eB (cU rs)=whole rs:=by
 unfold cU;rw[Be,RW (λ_=>True) ((UG rs).imp λz=>Int.ne_of_lt z) rs λr hr=>⟨λ_=>trivial,λ_=>(mem_keys rs _).mpr ⟨r,hr,rfl⟩⟩];simp[whole]
theorem Am(rs:aj Rn)(j:av):cW rs j=cP rs j+fK rs j:=by
 induction rs with
 |nil=>rfl
 |cons r rs ih =>
  simp only[cW,cP,fK,cV,nK]at ih ⊢;rw[ih]
  by_cases a:r.1<j
  ·have b:r.1<=j:=by omega
   have c:¬r.1=j:=by omega
   simp only[a,b,c,kS,rV];omega
  ·by_cases c:r.1=j
   ·have b:r.1<=j:=by omega
    simp only[a,b,c,kS,rV];simp;omega
   ·have b:¬r.1<=j:=by omega
    simp only[a,b,c,rV];omega
noncomputable def fT:av->aj Rn->aj (Key×A)
 |_,[]=>[]
 |acc,r::rs=>(.inl r.1,.tup [.int (acc+1),.int (acc+r.2)])::fT (acc+r.2) rs
theorem Bf(a b:aj Rn):eB (a++b)=eB a+eB b:=by simp[eB]
theorem Eo:∀(as bs:aj Rn) (acc:av),fT acc (as++bs)=fT acc as++fT (acc+eB as) bs
 |[],bs,acc=>by simp[fT,eB]
 |a::as,bs,acc=>by
  have e:eB (a::as)=a.2+eB as:=by simp[eB]
  simp only[Ou,fT];rw[Eo as bs,e,Int.add_assoc]
theorem TJ:∀(as:aj Rn) (acc:av),(fT acc as).map (·.1)=as.map λr=>(Sum.inl r.1:Key)
 |[],_=>rfl
 |a::as,acc=>by simp only[fT,cV];rw[TJ as]
theorem am5(as:aj Rn)(acc:av):(fT acc as).length=as.length:=by
 have:=c7 List.length (TJ as acc);simpa using this
theorem al7{kvs:aj (Key×A)}{k:Key}{a:A}(h:k∉kvs.map (·.1)):mH kvs k a=kvs++[(k,a)]:=by
 unfold mH;rw[bb];intro j;rw[YM]at j;obtain⟨x,q,e⟩:=j;exact h (fZ.mpr ⟨x,q,by simpa using e⟩)
theorem En(ok:aH->Prop)(aL:∀Z,ok Z)(L:A)(Z:aH):∀(ae pre:aj Rn) (x y:ar A),((pre++ae).map (·.1)).Pairwise (· < ·)->pre.length+ae.length<=1000 ->
  ∃z j,eV ok (hZ 2 (dF (gN 3) (dF (gN 4) iA))) Lb (aK ae) [ai L,aF Z.length,aB (eB pre),x,y] (Z++[.bH (fT 0 pre)])
   = dP [ai L,aF Z.length,aB (eB (pre++ae)),z,j] (Z++[.bH (fT 0 (pre++ae))])
 |[],pre,x,y,_,_=>⟨x,y,by simp[aK,eV,aL]⟩
 |r::ae,pre,x,y,U,hl=>by
  have d:pre++r::ae=(pre++[r])++ae:=by simp
  have b:(Sum.inl r.1:Key)∉(fT 0 pre).map (·.1):=by
   rw[TJ];intro a;obtain⟨q,g,e⟩:=fZ.mp a;rw[EN,List.pairwise_append]at U;have:=U.2.2 q.1 (QC g) r.1 (by simp);have h:q.1=r.1:=by injection e
   omega
  have c:mH (fT 0 pre) (.inl r.1) (.tup [.int (eB pre+1),.int (eB pre+r.2)])=fT 0 (pre++[r]):=by
   rw[al7 b,Eo];simp[fT]
  obtain⟨z,j,q⟩:=En ok aL L Z ae (pre++[r]) (aB r.1) (aB r.2) (by rw[<-d];exact U) (by simp at hl ⊢;omega);refine⟨z,j,?_⟩;rw[d,<-q];have a:lL (Z++[.bH (fT 0 pre)]) (.aJ Z.length)=ai (Z.length,fT 0 pre):=yS (by simp);have f:(fT 0 pre).length<az:=by rw[am5,lE];simp only[iP]at hl;omega
  have h2:(2:ay)<=az:=by decide
  have es:eB (pre++[r])=eB pre+r.2:=by rw[Bf];simp[eB]
  have e:aK (r::ae)=gT r::aK ae:=rfl;rw[e,es];exact oP (aL _) (Y0:=[ai L,aF Z.length,aB (eB pre),aB r.1,aB r.2]) (Z0:=Z++[.bH (fT 0 pre)]) (by simp[gT]) (by simp[Lb,a,lH,f,c,h2])
theorem Ep(rs:aj Rn):((cU rs).map (·.1)).Pairwise (· < ·):=by
 have e:(cU rs).map (·.1)=sortI (kR [] rs):=by unfold cU;rw[List.map_map];exact List.map_id _
 rw[e];exact UG rs
theorem CN(rs:aj Rn):(cU rs).length<=rs.length:=by
 have j:=Gi rs [];unfold cU;rw[lB,LN];simpa using j
theorem aEC(rs:aj Rn)(hl:rs.length<=63)(Z:aH):JN [.lst (aK rs)] Z=aD (.aJ Z.length) (Z++[.bH (fT 0 (cU rs))]):=by
 have a:=λZ=>aEG rs hl Z;have b:=CN rs;obtain⟨z,j,q⟩:=En (λZ'=>fB Z' (.lst (aK (cU rs)))=ai (aK (cU rs))) (λ_=>rfl) (.lst (aK rs)) Z (cU rs) [] ak ak (by simpa using Ep rs) (by simp;omega);simp only[EM]at q;have s0:eB []=0:=rfl;rw[s0]at q;have U:fT 0 []=[]:=rfl;rw[U]at q;show trim Z (eE (DZ [aX (aK rs),ak,ak,ak,ak] Z))=_;have e:DZ [aX (aK rs),ak,ak,ak,ak] Z=ai (.ret (.aJ Z.length),[aX (aK rs),aF Z.length,aB (eB (cU rs)),z,j],Z++[.bH (fT 0 (cU rs))]):=by
  unfold DZ;rw[bO (Y1:=[aX (aK rs),aF Z.length,ak,ak,ak]) (Z':=Z++[.bH []]) (by simp)];rw[bO (Y1:=[aX (aK rs),aF Z.length,aB 0,ak,ak]) (Z':=Z++[.bH []]) (by simp)];rw[bO (Y1:=[aX (aK rs),aF Z.length,aB (eB (cU rs)),z,j]) (Z':=Z++[.bH (fT 0 (cU rs))]) (by
   rw[mZ (S:=srcOf (.lst (aK (cU rs))) (aK (cU rs))) (Z':=Z++[.bH []]) (by simp[bN,a])];exact q)]
  simp
 rw[e];simp[trim,Cl]
theorem af5{as bs:aj (Key×A)}{k:Key}(h:k∉as.map (·.1)):fW (as++bs) k=fW bs k:=by
 unfold fW;rw[List.find?_append];have:as.find? (λj=>decide (j.1=k))=ak:=by
  rw[List.find?_eq_none];intro x q e;exact h (fZ.mpr ⟨x,q,by simpa using e⟩)
 rw[this];rfl
theorem af4{R:aj Rn}(n:av)(h:n∈R.map (·.1)):fW (fT 0 (cU R)) (.inl n)=ai (.tup [.int (cP R n+1),.int (cW R n)]):=by
 have hm:n∈sortI (kR [] R):=by
  rw[mem_keys];obtain⟨r,hr,e⟩:=fZ.mp h;exact⟨r,hr,e⟩
 obtain⟨j,a,U⟩:=List.append_of_mem hm;have c:=UG R;rw[U]at c;have f:∀k,k∈j++n::a<->∃r∈R,r.1=k:=λk=>by rw[<-U];exact mem_keys R k
 obtain⟨l,i,b⟩:=List.pairwise_append.mp c;obtain⟨g,v⟩:=vD.mp i;have nd:j.Nodup:=l.imp λz=>Int.ne_of_lt z;have m:eB (j.map λk=>(k,fK R k))=cP R n:=by
  rw[Be];refine RW (λk=>k<n) nd R λr hr=>⟨λz=>b _ z _ kP,λz=>?_⟩
  rcases rH.mp ((f r.1).mpr ⟨r,hr,rfl⟩)with y|y
  ·exact y
  ·rcases eK.mp y with y|y
   ·omega
   ·have:=g _ y;omega
 have o:=Am R n;have e:cU R=(j.map λk=>(k,fK R k))++(n,fK R n)::(a.map λk=>(k,fK R k)):=by
  unfold cU;rw[U];simp
 rw[e,Eo,m,af5]
 ·simp only[fT,fW,BJ,decide_true,EI,xB];rw[o]
 ·rw[TJ];intro s;obtain⟨q,p,u⟩:=fZ.mp s;obtain⟨k,HA,t⟩:=fZ.mp p;have d:q.1=n:=by injection u
  have:=b _ HA n kP;rw[<-t]at d;simp only at d;omega
theorem as4{R:aj Rn}{n:av}(h:cP R n<cW R n):n∈R.map (·.1):=by
 by_cases hm:n∈R.map (·.1)
 ·exact hm
 ·have j:fK R n=0:=by
   have:∀(R:aj Rn),n∉R.map (·.1)->fK R n=0:=by
    intro R
    induction R with
    |nil=>intro _;simp[fK]
    |cons r R ih =>
     intro h;rw[Sq,ih λz=>h (by simp only[cV];exact gJ _ z)];have:¬r.1=n:=λz=>h (by rw[<-z];simp);simp[this]
   exact this R hm
  have:=Am R n;omega
theorem Xk(ok:aH->Prop)(L:A)(R:aj Rn)(k:ay)(Z:aH)(aL:ok Z)(c:Z[k]?=ai (.bH (fT 0 (cU R)))):∀(es:aj E) (z:av) (i:ay) (x y u:ar A),Pl R z es ->
  ∃j a U b,eV ok (hZ 2 (dF (gN 3) (dF (gN 4) iA))) Lh (nW i (encL es)) [aF k,ai L,aB z,x,y,u] Z=dP [aF k,ai L,aB j,a,U,b] Z
 |[],z,i,x,y,u,_=>⟨z,x,y,u,by simp[encL,nW,eV,aL]⟩
 |e::es,z,i,x,y,u,⟨p,h1,h2,o,m,l,h⟩=>by
  have hv:=af4 e.1 (as4 (R:=R) (n:=e.1) (by omega));have g:=yS c;have hle:max (z+1) (max e.2.1 (cP R e.1+1))<=p:=by omega
  obtain⟨j,a,U,b,q⟩:=Xk ok L R k Z aL c es (max (z+1) (max e.2.1 (cP R e.1+1))) (i+1) (aB i) (ai (bZ e)) (ai (.tup [.int (cP R e.1+1),.int (cW R e.1)])) (h.low hle);refine⟨j,a,U,b,?_⟩;rw[<-q,OK];have f:¬e.2.2<max (z+1) (max e.2.1 (cP R e.1+1)):=by omega
  have d:¬cW R e.1<max (z+1) (max e.2.1 (cP R e.1+1)):=by omega
  exact oP aL (Y0:=[aF k,ai L,aB z,aB i,ai (bZ e),u]) (Z0:=Z) (by simp) (by simp[Lh,bZ,g,lH,hv,f,d])
theorem aEL(R:aj Rn)(es:aj E)(k:ay)(Z:aH)(b:Z[k]?=ai (.bH (fT 0 (cU R))))(h:Pl R 0 es):Pm [.aJ k,.lst (encL es)] Z=aD (.dE) Z:=by
 obtain⟨j,U,z,a,q⟩:=Xk (λZ'=>eL Z' (.lst (encL es))=ai (encL es)) (.lst (encL es)) R k Z rfl b es 0 0 ak ak ak h;show trim Z (eE (WN [aF k,aX (encL es),ak,ak,ak,ak] Z))=_;have e:WN [aF k,aX (encL es),ak,ak,ak,ak] Z=dP [aF k,aX (encL es),aB j,U,z,a] Z:=by
  unfold WN;rw[bO (Y1:=[aF k,aX (encL es),aB 0,ak,ak,ak]) (Z':=Z) (by simp)];rw[mZ (S:=enumSrc (.lst (encL es)) (encL es)) (Z':=Z) (by simp)];exact q
 rw[e];simp
theorem Xj(ok:aH->Prop)(aL:∀Z,ok Z)(L:A)(Z:aH):∀(rs:aj Rn) (acc:av) (i:ay) (x y u:ar A),(∀r∈rs,1<=r.2)->acc+whole rs<=1000000000 ->
  ∃U z b,eV ok (hZ 2 (dF (gN 2) (dF (gN 3) iA))) Le (nW i (aK rs)) [ai L,aB acc,x,y,u] Z=dP [ai L,aB (acc+whole rs),U,z,b] Z
 |[],acc,i,x,y,u,_,_=>⟨x,y,u,by simp[aK,nW,eV,aL,whole]⟩
 |r::rs,acc,i,x,y,u,h,hl=>by
  have e:whole (r::rs)=r.2+whole rs:=by simp[whole]
  rw[e]at hl ⊢;have hr:=h r kP;have g:0<=whole rs:=by
   have:∀rs:aj Rn,(∀r∈rs,1<=r.2)->0<=whole rs:=by
    intro rs
    induction rs with
    |nil=>intro _;simp[whole]
    |cons a c ih =>
     intro h;have e:whole (a::c)=a.2+whole c:=by simp[whole]
     have:=h a kP;have:=ih λq j=>h q (gJ _ j);omega
   exact this rs λq j=>h q (gJ _ j)
  obtain⟨U,z,b,q⟩:=Xj ok aL L Z rs (acc+r.2) (i+1) (aB i) (ai (gT r)) (aB r.2) (λq j=>h q (gJ _ j)) (by omega);refine⟨U,z,b,?_⟩;rw[<-Int.add_assoc,<-q];have f:¬r.2<1:=by omega
  have d:¬1000000000<acc+r.2:=by omega
  exact oP (aL Z) (Y0:=[ai L,aB acc,aB i,ai (gT r),u]) (Z0:=Z) (by simp[gT]) (by simp[Le,gT,f,d])
theorem aeE(rs:aj Rn)(h:∀r∈rs,1<=r.2)(hl:whole rs<=1000000000)(Z:aH):YY [.lst (aK rs)] Z=aD (.int (whole rs)) Z:=by
 obtain⟨z,j,U,q⟩:=Xj (λZ'=>eL Z' (.lst (aK rs))=ai (aK rs)) (λ_=>rfl) (.lst (aK rs)) Z rs 0 0 ak ak ak h (by omega);rw[xB]at q;show trim Z (eE (Lf [aX (aK rs),ak,ak,ak,ak] Z))=_;unfold Lf;rw[bO (Y1:=[aX (aK rs),aB 0,ak,ak,ak]) (Z':=Z) (by simp)];rw[bO (Y1:=[aX (aK rs),aB (whole rs),z,j,U]) (Z':=Z) (by
  rw[mZ (S:=enumSrc (.lst (aK rs)) (aK rs)) (Z':=Z) (by simp)];exact q)]
 simp
theorem Vs{R as bs:aj Rn}{r:Rn}(e:cU R=as++r::bs):eB as=cP R r.1/\eB as+r.2=cW R r.1/\r.1∈R.map (·.1):=by
 have c:=UG R;have d:=e;unfold cU at d;obtain⟨a,s,f,p,o⟩:=List.map_eq_append_iff.mp d;obtain⟨j,q,rfl,n,_⟩:=List.map_eq_cons_iff.mp o;subst n;rw[f]at c;have U:∀k,k∈a++j::q<->∃r∈R,r.1=k:=λk=>by rw[<-f];exact mem_keys R k
 obtain⟨l,i,h⟩:=List.pairwise_append.mp c;obtain⟨g,t⟩:=vD.mp i;have nd:a.Nodup:=l.imp λz=>Int.ne_of_lt z;have b:eB as=cP R j:=by
  rw[<-p,Be];refine RW (λk=>k<j) nd R λr hr=>⟨λz=>h _ z _ kP,λz=>?_⟩
  rcases rH.mp ((U r.1).mpr ⟨r,hr,rfl⟩)with y|y
  ·exact y
  ·rcases eK.mp y with y|y
   ·omega
   ·have:=g _ y;omega
 have m:=Am R j;refine⟨b,by rw[b];exact m.symm,?_⟩;obtain⟨r,hr,e⟩:=(U j).mp (tP _ kP);exact fZ.mpr ⟨r,hr,e⟩
theorem agV{R:aj Rn}(h:∀r∈R,1<=r.2){r:Rn}(hr:r∈cU R):1<=r.2:=by
 obtain⟨l,bs,e⟩:=List.append_of_mem hr;obtain⟨h1,h2,b⟩:=Vs e;have hT:Tn R:=λq U=>by have:=h q U;omega
 obtain⟨q,U,k⟩:=fZ.mp b;have:cP R r.1<cW R r.1:=by
  have:∀(S:aj Rn),(∀q∈S,1<=q.2)->q∈S->cP S r.1<cW S r.1:=by
   intro S
   induction S with
   |nil=>intro _ z;cases z
   |cons x S ih =>
    intro hS hm;have a:Tn S:=λy j=>by have:=hS y (by simp[j]);omega
    obtain⟨g,f⟩:=sZ x S r.1;rw[g,f];have i:=hS x (by simp)
    rcases eK.mp hm with z|z
    ·subst z;have:=vS a r.1;have d:¬q.1<r.1:=by omega
     have c:q.1<=r.1:=by omega
     rw[bb d,a8 c];omega
    ·have:=ih (λy j=>hS y (by simp[j])) z;split <;> split <;> omega
  exact this R h U
 omega
noncomputable def iM:av->aj Rn->aj E
 |_,[]=>[]
 |acc,r::rs=>(r.1,acc+1,acc+1)::((if acc+1=acc+r.2 then []else [(r.1,acc+r.2,acc+r.2)])++iM (acc+r.2) rs)
theorem SM(r:Rn)(rs:aj Rn):eB (r::rs)=r.2+eB rs:=by simp[eB]
theorem Tp:∀{ps:aj Rn},(∀r∈ps,1<=r.2)->0<=eB ps
 |[],_=>by simp[eB]
 |r::j,h=>by
  have:=Tp (ps:=j) λq z=>h q (by simp[z]);have:=h r (by simp);rw[SM];omega
theorem Wo:∀(ps:aj Rn) (acc:av) (a:ar av),(∀r∈ps,1<=r.2)->(ps.map (·.1)).Pairwise (· < ·)->(∀p,a=ai p->∀r∈ps,p<=r.1)->Ch 0 (acc+eB ps) acc acc a (iM acc ps)
 |[],acc,a,_,_,_=>by simp[iM,Ch,eB]
 |r::z,acc,a,h1,h2,b=>by
  have hr:=h1 r (by simp);rw[cV,vD]at h2;have ih:=Wo z (acc+r.2) (ai r.1) (λq j=>h1 q (by simp[j])) h2.2 (λp U q j=>by
   cases U;have:=h2.1 q.1 (fZ.mpr ⟨q,j,rfl⟩);omega)
  have es:acc+eB (r::z)=acc+r.2+eB z:=by rw[SM];omega
  rw[es];unfold iM;refine⟨λp U=>b p U r (by simp),.inr (by show acc+1<=acc+0+1;omega),by show acc<acc+1;omega,by show acc<acc+1;omega,zD _,by show acc+1-(acc+1)<=0;omega,?_⟩;show Ch 0 (acc+r.2+eB z) (acc+1) (acc+1) (ai r.1) ((if acc+1=acc+r.2 then []else [(r.1,acc+r.2,acc+r.2)])++iM (acc+r.2) z)
  by_cases j:acc+1=acc+r.2
  ·rw[a8 j,EM,j];exact ih
  ·rw[bb j];exact⟨λp U=>by cases U;exact zD _,.inl rfl,by show acc+1<acc+r.2;omega,by show acc+1<acc+r.2;omega,zD _,by show acc+r.2-(acc+r.2)<=0;omega,ih⟩
theorem Wn{R:aj Rn}(h:∀r∈cU R,1<=r.2):∀(ps as:aj Rn) (z:av),cU R=as++ps->z<=eB as->Pl R z (iM (eB as) ps)
 |[],as,z,_,_=>trivial
 |r::q,as,z,e,U=>by
  obtain⟨h1,h2,a⟩:=Vs e;have hr:=h r (by rw[e];simp);have ih:=Wn h q (as++[r]) (eB as+r.2) (by rw[e];simp) (by rw[Bf,SM];simp[eB]);have es:eB (as++[r])=eB as+r.2:=by rw[Bf,SM];simp[eB]
  rw[es]at ih;unfold iM;refine⟨eB as+1,by omega,by show cP R r.1<eB as+1;omega,by show eB as+1<=cW R r.1;omega,zD _,zD _,?_⟩
  by_cases j:eB as+1=eB as+r.2
  ·rw[a8 j,EM];exact ih.low (by omega)
  ·rw[bb j];exact⟨eB as+r.2,by omega,by show cP R r.1<eB as+r.2;omega,by show eB as+r.2<=cW R r.1;omega,zD _,zD _,ih⟩
def kO(R:aj Rn):Po:=⟨whole R,0,0,iM 0 (cU R)⟩
theorem DL{R:aj Rn}(h:∀r∈R,1<=r.2):Gd R (kO R):=by
 have q:∀r∈cU R,1<=r.2:=λr hr=>agV h hr;have hw:=afA R;refine⟨λr hr=>by have:=h r hr;omega,⟨?_,zD _,zD _,?_,?_⟩,rfl,?_⟩
 ·show 0<=whole R;rw[<-hw];exact Tp q
 ·intro e r he;have j:iM 0 (cU R)=e::r:=he;cases z:cU R with
  |nil=>rw[z]at j;cases j
  |cons a b =>
   rw[z]at j;unfold iM at j;cases j;exact⟨rfl,rfl⟩
 ·have:=Wo (cU R) 0 ak q (Ep R) (λp q=>by cases q);rw[xB,hw]at this;exact this
 ·exact Wn q (cU R) [] 0 rfl yC
theorem apA(q:ar A)(f:ay)(k a b:av)(done:aj A)(hd:done.length<=1000)(Z:aH)(U:Z[f]?=ai (.lst done)) :
  WK [q,aF f,aB k,ai (.tup [.int a,.int b])] Z=dP [q,aF f,aB k,ai (.tup [.int a,.int b])] (Z.set f (.lst (done++bZ (k,a,a)::(if a=b then []else [bZ (k,b,b)])))):=by
 have fl:f<Z.length:=(dN.mp U).1;have cl:pO Z (.aJ f)=ai (f,done):=BF U;have i:wD Z (.aJ f):=AJ (pI U);have c:(3:ay)<=az:=by decide
 have l:done.length<az:=by rw[lE];omega
 unfold WK;have g:(Z.set f (.lst (done++[bZ (k,a,a)])))[f]?=ai (.lst (done++[bZ (k,a,a)])):=gK fl;rw[bO (Y1:=[q,aF f,aB k,ai (.tup [.int a,.int b])]) (Z':=Z.set f (.lst (done++[bZ (k,a,a)]))) (by simp[cl,i,l,c,bZ,XI])];have j:pO (Z.set f (.lst (done++[bZ (k,a,a)]))) (.aJ f)=ai (f,done++[bZ (k,a,a)]):=BF g;have e:wD (Z.set f (.lst (done++[bZ (k,a,a)]))) (.aJ f):=AJ (pI g);have m:done.length+1<az:=by rw[lE];omega
 generalize d:Z.set f (.lst (done++[bZ (k,a,a)]))=h at j e
 by_cases z:a=b
 ·subst z;simp[XI,Mw,<-d]
 ·have gV:¬(a==b)=ax:=by simpa using z
  simp[XI,Mw,z,j,e,m,c,bZ];rw[<-d,pR]
theorem Wl(ok:aH->Prop)(aL:∀Z,ok Z)(z:ar A)(Z:aH)(D:Cell):∀(ps:aj Rn) (acc:av) (done:aj A) (a U:ar A),done.length+2*ps.length<=1000 ->
  ∃d c,eV ok (hZ 2 (dF (gN 2) (dF (gN 3) iA))) WK ((fT acc ps).map mW) [z,aF Z.length,a,U] (Z++[.lst done,D])=dP [z,aF Z.length,d,c] (Z++[.lst (done++encL (iM acc ps)),D])
 |[],acc,done,a,U,_=>⟨a,U,by simp[fT,eV,aL,iM,encL]⟩
 |r::j,acc,done,a,U,hl=>by
  have h:done.length+2*(j.length+1)<=1000:=hl;have t:=apA z Z.length r.1 (acc+1) (acc+r.2) done (by omega) (Z++[.lst done,D]) (by simp);have hd2:(done++bZ (r.1,acc+1,acc+1)::(if acc+1=acc+r.2 then []else [bZ (r.1,acc+r.2,acc+r.2)])).length<=done.length+2:=by
   split <;> simp
  obtain⟨d,c,q⟩:=Wl ok aL z Z D j (acc+r.2) (done++bZ (r.1,acc+1,acc+1)::(if acc+1=acc+r.2 then []else [bZ (r.1,acc+r.2,acc+r.2)])) (aB r.1) (ai (.tup [.int (acc+1),.int (acc+r.2)])) (by omega);refine⟨d,c,?_⟩;have es:(Z++[Cell.lst done,D]).set Z.length (.lst (done++bZ (r.1,acc+1,acc+1)::(if acc+1=acc+r.2 then []else [bZ (r.1,acc+r.2,acc+r.2)])))=Z++[.lst (done++bZ (r.1,acc+1,acc+1)::(if acc+1=acc+r.2 then []else [bZ (r.1,acc+r.2,acc+r.2)])),D]:=by simp
  rw[es]at t;have e:done++encL (iM acc (r::j))=(done++bZ (r.1,acc+1,acc+1)::(if acc+1=acc+r.2 then []else [bZ (r.1,acc+r.2,acc+r.2)]))++encL (iM (acc+r.2) j):=by
   have f:iM acc (r::j)=(r.1,acc+1,acc+1)::((if acc+1=acc+r.2 then []else [(r.1,acc+r.2,acc+r.2)])++iM (acc+r.2) j):=rfl;rw[f];generalize iM (acc+r.2) j=g
   by_cases b:acc+1=acc+r.2
   ·rw[a8 b,a8 b];simp[encL]
   ·rw[bb b,bb b];simp[encL]
  rw[e,<-q];simp only[fT,cV];refine oP (aL _) (Y0:=[z,aF Z.length,aB r.1,ai (.tup [.int (acc+1),.int (acc+r.2)])]) (Z0:=Z++[.lst done,D]) ?_ t;simp[mW,kA]
theorem aEI(R:aj Rn)(h:∀r∈R,1<=r.2)(hl:R.length<=63)(hw:whole R<=1000000000)(Z:aH):QL [.lst (aK R)] Z=aD (dG (whole R) 0 0 (iM 0 (cU R))) Z:=by
 have pl:=aEC R hl (Z++[.lst []]);have pn:=CN R;obtain⟨b,U,q⟩:=Wl (λ_=>True) (λ_=>trivial) (ai (.lst (aK R))) Z .dead (cU R) 0 [] ak ak (by simp;omega);have d:(4:ay)<=az:=by decide
 show trim Z (eE (WL [aX (aK R),ak,ak,ak] Z))=_;have e:WL [aX (aK R),ak,ak,ak] Z=ai (.ret (dG (whole R) 0 0 (iM 0 (cU R))),[aX (aK R),aF Z.length,b,U],Z++[.dead,.dead]):=by
  have z:=aeE R h hw (Z++[.lst (encL (iM 0 (cU R))),.dead]);unfold WL;rw[bO (Y1:=[aX (aK R),aF Z.length,ak,ak]) (Z':=Z++[.lst []]) (by simp[jR])];rw[bO (Y1:=[aX (aK R),aF Z.length,b,U]) (Z':=Z++[.lst (encL (iM 0 (cU R))),.dead]) (by
   rw[mZ (S:=MM (fT 0 (cU R))) (Z':=Z++[.lst [],.dead]) (by
    generalize aK R=c at pl;have f:lL (Z++[Cell.lst [],Cell.bH (fT 0 (cU R))]) (.aJ (Z.length+1))=ai (Z.length+1,fT 0 (cU R)):=by simp[lL]
    have j:JN [.lst c] (Z++[Cell.lst []])=aD (.aJ (Z.length+1)) (Z++[Cell.lst [],.bH (fT 0 (cU R))]):=by
     rw[pl];simp
    simp[bN,j,f])]
   rw[EM]at q;exact q)]
  unfold dG;generalize encL (iM 0 (cU R))=c at z;generalize aK R=g at z;simp[bN,z,d]
 rw[e];simp only[xU];exact sX (by
  simp only[dG,Cl,gC,and_true,true_and];exact uW λa ha=>by
   obtain⟨e,_,rfl⟩:=fZ.mp ha;simp[bZ,Cl,gC])
end M
namespace V2
open PySem PySem.Spec PyProof.Rows L2
theorem _root_.L2.JY.alias{P:bf}{w:bo}{K:bg}{mg:a5->ar ao}{base:bx}{x y:a5}{k:ay}{ps:aj a5}{sp:Sp}(D:JY P w K mg base x k ps sp)(e:mg y=mg x):JY P w K mg base y k ps sp:=by
 obtain⟨f,fd,F,hm,j,hb⟩:=D.ex;exact⟨f,fd,F,e.trans hm,j,hb⟩
@[elab_as_elim] theorem us6{P:aj ao->Prop}(us:aj ao)(h:us.length=6)(f:∀a b c d e g,P [a,b,c,d,e,g]):P us:=by
 cases us with
 |nil=>simp at h
 |cons a r=>exact Sh (P:=λr=>P (a::r)) r (by simpa using h) (f a)
end V2
namespace L2
open PySem
theorem cZ.m{j k:ay}{A:br}(r:cZ k A)(h:j<=k:=by first|decide|omega):cZ j A:=r.mono h
end L2
namespace V2
open PySem L2 PyProof.Rows
variable{P:bf}{w:bo}{K:bg}{mg:a5->ar ao}{base:bx}
theorem aB3{h:bx}{x:a5}{v:av}{t:Tok}(X:K.In h)(G:h.Ns bc mg)(a:dz K bc x=ai (ai (.int v t))):∃t,mg x=ai (.int v t):=⟨_,mg_of X G a⟩
structure lP(K:bg)(X:au)(m q:a5)(st:bt):Prop where
 ex:∃f fd,Meth K X m f/\tQ K m q st f fd
theorem mU{X f:au}{m q:a5}{st:bt}{U:ao}{od d:ar au}{b:bq (ar ao)}{kV doc z j ct:ao}(a:c6 K (.ref X) m=ai (ai (.ref f)))
  (l:K.lookup f=ai ⟨U,od,.func (dw m q (iZ st) (fI st) (bC st) .none kV doc z d j ct),b⟩) (c:codeIn K j q=ax) (k:di K (.ref f)=ax) (i:isFn K (.ref f)=ax):lP K X m q st:=⟨f,_,⟨a,i,k⟩,OE l c k⟩
theorem lP.has{h:bx}{cls m q:a5}{st:bt}{C:au}(M:lP K C m q st)(X:K.In h)(G:h.Ns bc mg)(n:dz K bc cls=ai (ai (.ref C)))(L:nL K C):lQ K mg cls m q st :=
 let ⟨f,fd,a,b⟩:=M.ex; ⟨C,f,fd,n,mg_of X G n,L,a,b⟩
structure YU(K:bg)(X:au)(q:a5)(st:bt):Prop where
 ex:∃f fd,Mk K X f/\tQ K "__init__" q st f fd
theorem as3{X f:au}{q:a5}{st:bt}{U:ao}{od e:ar au}{d:bq (ar ao)}{kV doc z j ct:ao}(a:c6 K (.ref X) "__init__" = ai (ai (.ref f)))
  (l:K.lookup f=ai ⟨U,od,.func (dw "__init__" q (iZ st) (fI st) (bC st) .none kV doc z e j ct),d⟩) (c:codeIn K j q=ax) (k:di K (.ref f)=ax) (i:isFn K (.ref f)=ax)
  (mk:makesIn K X=ax) (b:di K (.ref X)=ax):YU K X q st:=⟨f,_,⟨mk,a,i,b⟩,OE l c k⟩
theorem YU.has{h:bx}{cls q:a5}{st:bt}{C:au}(M:YU K C q st)(X:K.In h)(G:h.Ns bc mg)(n:dz K bc cls=ai (ai (.ref C))):Pg K mg cls q st :=
 let ⟨f,fd,a,b⟩:=M.ex; ⟨C,f,fd,n,mg_of X G n,a,b⟩
structure YD(K:bg)(X:au)(m q:a5)(st:bt)(dv:bq ao):Prop where
 ex:∃f fd T o n,Meth K X m f/\aeU K m q st f T fd/\K.lookup T=ai o/\o.data=.seq dv n
theorem aqO{X f T:au}{m q:a5}{st:bt}{d tc:ao}{od g td:ar au}{e U:bq (ar ao)}{kV doc b z ct:ao}{n:ay}{j:bq ao}(a:c6 K (.ref X) m=ai (ai (.ref f)))
  (l:K.lookup f=ai ⟨d,od,.func (dw m q (iZ st) (fI st) (bC st) (.ref T) kV doc b g z ct),e⟩) (c:codeIn K z q=ax) (k:di K (.ref f)=ax) (i:isFn K (.ref f)=ax)
  (t:K.lookup T=ai ⟨tc,td,.seq j n,U⟩):YD K X m q st j:=⟨f,_,T,_,n,⟨a,i,k⟩,⟨⟨_,_,_,_,_,_,_,_,_,rfl,l,c⟩⟩,t,rfl⟩
theorem YD.has{h:bx}{cls m q:a5}{st:bt}{C:au}{j:bq ao}(M:YD K C m q st j)(X:K.In h)(G:h.Ns bc mg)(n:dz K bc cls=ai (ai (.ref C)))(L:nL K C):YV K mg cls m q st j :=
 let ⟨f,fd,T,o,k,a,b,c,d⟩:=M.ex; ⟨C,f,fd,T,o,k,n,mg_of X G n,L,a,b,c,d⟩
theorem dM{N P:aj a5}{sc:b9}(a:sc.kind=.function:=by rfl)(b:sc.isCoroutine=aq:=by rfl)(c:sc.isGenerator=aq:=by rfl)(d:N.Nodup:=by decide +kernel)(e:N.take P.length=P:=by rfl)(f:∀x∈P,sc.names.lookup x=ai .local\/sc.names.lookup x=ai .cell:=by decide +kernel)(g:∀y∈sc.names,y.2≠.free:=by decide +kernel):cM N P sc:=⟨a,b,c,d,e,f,g⟩
theorem lcO{X:Cx}{scope:b9}{q:aj a5}{js:aj ay}(sc:b9)(N:aj a5)(j:X.env.scope=sc:=by rfl)(z:X.N=N:=by rfl)(ok:UD scope sc N js=ax:=by decide +kernel):zB X scope q js:=.of sc N j z ok
end V2
namespace M
open PySem V2
noncomputable section
def acJ:Ev->Mo A :=
 (mR aq 1 [] (eW aI) (gN 0) nB (aA aO aI bP))
def acI:Ev->Mo A :=
 (mR aq 1 [] (eW aI) (gN 0) nB (aA aO aI bQ))
def WI:MS :=
 (bV (mQ (aC (aU wL (aC acI a0)) (aC (aU wL (aC acJ a0)) a0))))
def JL:aj A->Mo A:=cN 1 WI
end
end M
namespace PySem
open PyProof.Rows
def wW(xs:bq ay):Prop:=∀i j a b:ay,i<j->xs[i]?=ai a->xs[j]?=ai b->a<b
theorem Ku(xs:bq ay)(j:ay)(hr:wW xs):∀(fuel lo hi:ay),lo<=hi->hi<=xs.size->hi-lo<=fuel->(∀i a,i<lo->xs[i]?=ai a->a<j)->(∀i a,hi<=i->xs[i]?=ai a->j<=a) ->
  lo<=SetTable.below.go xs j fuel lo hi/\SetTable.below.go xs j fuel lo hi<=xs.size/\(∀i a,i<SetTable.below.go xs j fuel lo hi->xs[i]?=ai a->a<j)/\(∀i a,SetTable.below.go xs j fuel lo hi<=i->xs[i]?=ai a->j<=a)
 |0,lo,hi,h1,h2,k,e,U=>by
  have:lo=hi:=by omega
  subst this;exact⟨vA _,h2,e,U⟩
 |fuel+1,lo,hi,h1,h2,k,e,U=>by
  unfold SetTable.below.go
  by_cases g:lo<hi
  ·rw[a8 g];have hm:(lo+hi)/2<xs.size:=by omega
   have q:xs[(lo+hi)/2]?=ai xs[(lo+hi)/2]:=Je xs _ hm;have hd:xs.getD ((lo+hi)/2) j=xs[(lo+hi)/2]:=by simp[Array.getD,hm]
   show lo<=(if xs.getD ((lo+hi)/2) j<j then SetTable.below.go xs j fuel ((lo+hi)/2+1) hi else SetTable.below.go xs j fuel lo ((lo+hi)/2))/\(if xs.getD ((lo+hi)/2) j<j then SetTable.below.go xs j fuel ((lo+hi)/2+1) hi else SetTable.below.go xs j fuel lo ((lo+hi)/2))<=xs.size/\(∀i a,i<(if xs.getD ((lo+hi)/2) j<j then SetTable.below.go xs j fuel ((lo+hi)/2+1) hi else SetTable.below.go xs j fuel lo ((lo+hi)/2))->xs[i]?=ai a->a<j)/\(∀i a,(if xs.getD ((lo+hi)/2) j<j then SetTable.below.go xs j fuel ((lo+hi)/2+1) hi else SetTable.below.go xs j fuel lo ((lo+hi)/2))<=i->xs[i]?=ai a->j<=a);rw[hd]
   by_cases f:xs[(lo+hi)/2]<j
   ·rw[a8 f];obtain⟨a,b,c,d⟩:=Ku xs j hr fuel ((lo+hi)/2+1) hi (by omega) h2 (by omega) (λi a h ha=>by
     rcases Nz i ((lo+hi)/2)with z|z
     ·have:=hr i ((lo+hi)/2) a _ z ha q;omega
     ·have:i=(lo+hi)/2:=by omega
      subst this;rw[q]at ha;cases ha;exact f) U
    exact⟨by omega,b,c,d⟩
   ·rw[bb f];obtain⟨a,b,c,d⟩:=Ku xs j hr fuel lo ((lo+hi)/2) (by omega) (by omega) (by omega) e (λi a h ha=>by
     rcases Nz ((lo+hi)/2) i with z|z
     ·have:=hr ((lo+hi)/2) i _ a z q ha;omega
     ·have:i=(lo+hi)/2:=by omega
      subst this;rw[q]at ha;cases ha;omega)
    exact⟨a,b,c,d⟩
  ·rw[bb g];have:lo=hi:=by omega
   subst this;exact⟨vA _,h2,e,U⟩
theorem Kt{xs:bq ay}(hr:wW xs)(j:ay):SetTable.below xs j<=xs.size/\(∀i a,i<SetTable.below xs j->xs[i]?=ai a->a<j)/\(∀i a,SetTable.below xs j<=i->xs[i]?=ai a->j<=a):=by
 obtain⟨_,b,c,d⟩:=Ku xs j hr xs.size 0 xs.size TV dD (by omega) (λi a h=>bu h (Nat.not_lt_zero _)) (λi a h ha=>by
  have:=(RG.mp ha).1;omega)
 exact⟨b,c,d⟩
theorem aC9{xs:bq ay}(hr:wW xs){i a:ay}(h:xs[i]?=ai a):SetTable.below xs (a+1)=i+1:=by
 obtain⟨b,c,d⟩:=Kt hr (a+1);have hi:=(RG.mp h).1
 rcases Nat.lt_trichotomy (SetTable.below xs (a+1)) (i+1)with z|z|z
 ·have:=d i a (by omega) h;omega
 ·exact z
 ·have hl:i+1<xs.size:=by omega
  have j:xs[i+1]?=ai xs[i+1]:=Je xs _ hl;have h1:=c (i+1) _ z j;have h2:=hr i (i+1) a _ (by omega) h j;omega
theorem aC7{xs:bq ay}(hr:wW xs):SetTable.below xs 0=0:=by
 obtain⟨b,c,d⟩:=Kt hr 0
 rcases Nat.eq_zero_or_pos (SetTable.below xs 0)with z|z
 ·exact z
 ·have hl:0<xs.size:=by omega
  have j:xs[0]?=ai xs[0]:=Je xs _ hl;have:=c 0 _ z j;omega
theorem as2{α:Type}(xs:bq α)(p:ay)(x:α)(U:p<=xs.size)(i:ay):(SetTable.insertAt xs p x)[i]?=if i<p then xs[i]? else if i=p then ai x else xs[i-1]?:=by
 unfold SetTable.insertAt;have j:(xs.extract 0 p).size=p:=by simp;omega
 have z:((xs.extract 0 p).push x).size=p+1:=by rw[Array.size_push,j]
 rw[Array.getElem?_append,z]
 by_cases h1:i<p
 ·rw[a8 (by omega),a8 h1,Array.getElem?_push,j,bb (by omega),Array.getElem?_extract];simp;intro h;omega
 ·rw[bb h1]
  by_cases h2:i=p
  ·rw[a8 (by omega),a8 h2,Array.getElem?_push,j,a8 h2]
  ·rw[bb (by omega),bb h2,Array.getElem?_extract]
   by_cases q:i-(p+1)<xs.size-p
   ·rw[a8 (by simpa using q),show(p+(i-(p+1)))=i-1 by omega]
   ·rw[bb (by simpa using q),eq_comm,ae2];omega
theorem ak4{xs:bq ay}(hr:wW xs)(j:ay)(hn:xs[SetTable.below xs j]?≠ai j):wW (SetTable.insertAt xs (SetTable.below xs j) j):=by
 obtain⟨b,c,d⟩:=Kt hr j;have d':∀i a,SetTable.below xs j<=i->xs[i]?=ai a->j<a:=λi a h1 h2=>by
  have e:=d i a h1 h2
  rcases Nz j a with z|z
  ·exact z
  ·exfalso;have:a=j:=by omega
   subst this
   rcases Nz (SetTable.below xs a) i with y|y
   ·have hl:SetTable.below xs a<xs.size:=by have:=(RG.mp h2).1;omega
    have g:xs[SetTable.below xs a]?=ai xs[SetTable.below xs a]:=Je xs _ hl;have l:=d _ _ dD g;have h:=hr _ i _ a y g h2;omega
   ·have:i=SetTable.below xs a:=by omega
    subst this;exact hn h2
 intro i k x y f U q;rw[as2 _ _ _ b]at U q
 by_cases h1:i<SetTable.below xs j
 ·rw[a8 h1]at U
  by_cases h2:k<SetTable.below xs j
  ·rw[a8 h2]at q;exact hr i k x y f U q
  ·rw[bb h2]at q
   by_cases e:k=SetTable.below xs j
   ·rw[a8 e]at q;cases q;exact c i x h1 U
   ·rw[bb e]at q;exact hr i (k-1) x y (by omega) U q
 ·rw[bb h1]at U;rw[bb (by omega),bb (by omega)]at q
  by_cases e:i=SetTable.below xs j
  ·rw[a8 e]at U;cases U;exact d' (k-1) y (by omega) q
  ·rw[bb e]at U;exact hr (i-1) (k-1) x y (by omega) U q
theorem ak3(n:ay):wW (Array.range n):=by
 intro i j a b c ha hb;have h1:=(RG.mp ha);have h2:=(RG.mp hb);obtain⟨p,q⟩:=h1;obtain⟨U,z⟩:=h2;simp at q z;omega
theorem ak5{l:aj ay}(h:l.Pairwise (· < ·)):wW l.toArray:=by
 intro i j a b c ha hb;simp only[List.getElem?_toArray]at ha hb;obtain⟨p,q⟩:=dN.mp ha;obtain⟨U,z⟩:=dN.mp hb;have:=List.pairwise_iff_getElem.mp h i j p U c;rw[q,z]at this;exact this
theorem Em(t:b8)(ha:ay->av)(h:av):∀(fuel:ay) (p:SetTable.Probe) (j:ay) (q:ar ay),SetTable.probe.go t ha h fuel p=ai (.empty j q)->t.slot j=.empty/\∀d,q=ai d->p.dummy=ai d\/t.slot d=.dummy
 |0,p,j,q,e=>by cases e
 |fuel+1,p,j,q,e=>by
  unfold SetTable.probe.go at e;cases U:t.slot p.j with
  |empty =>
   rw[U]at e;dsimp only at e;cases e;exact⟨U,λd hd => .inl hd⟩
  |dummy =>
   rw[U]at e;dsimp only at e;obtain⟨a,b⟩:=Em t ha h fuel _ j q e;refine⟨a,λd hd=>?_⟩
   rcases b d hd with z|z
   ·have c:(t.advance {p with dummy:=ai p.j}).dummy=ai p.j:=by
     unfold SetTable.advance;split <;> rfl
    rw[c]at z;cases z;exact .inr U
   ·exact .inr z
  |live i =>
   rw[U]at e;dsimp only at e
   by_cases hh:(ha i==h)=ax
   ·rw[a8 hh]at e;cases e
   ·rw[bb hh]at e;obtain⟨a,b⟩:=Em t ha h fuel _ j q e;refine⟨a,λd hd=>?_⟩
    rcases b d hd with z|z
    ·have c:(t.advance p).dummy=p.dummy:=by
      unfold SetTable.advance;split <;> rfl
     rw[c]at z;exact .inl z
    ·exact .inr z
theorem Ua{t:b8}{j:ay}(h:t.slot j=.empty\/t.slot j=.dummy):t.place[SetTable.below t.place j]?≠ai j:=by
 intro z;unfold SetTable.slot at h;simp only[z,beq_self_eq_true,kS]at h
 rcases h with h|h <;> cases h
theorem ayI{t:b8}{h:av}{j:ay}{b:bh}(e:t.freeSlot h=ai (j,b)):t.place[SetTable.below t.place j]?≠ai j:=by
 unfold SetTable.freeSlot at e;split at e
 ·next U q f =>
  cases e;obtain⟨a,c⟩:=Em t _ h _ _ U q f;cases q with
  |none=>exact Ua (.inl a)
  |some d =>
   rcases c d rfl with z|z
   ·cases z
   ·exact Ua (.inr z)
 ·cases e
structure pP(led:bh)(t:b8):Prop where
 rise:wW t.place
 led:t.led=led
theorem agZ(led:bh):pP led (.fresh 0 0 led):=⟨λi j a b _ h=>by simp[SetTable.fresh]at h,rfl⟩
theorem RX{led:bh}{t:b8}(h:pP led t)(n:ay):pP led (t.standIn n):=⟨ak3 n,h.led⟩
theorem agY{led:bh}{t:b8}(h:pP led t)(es:bq (av×ao))(q:av)(x:ao):pP led (layNew t es q x).2.1:=by
 unfold layNew;split
 ·next slot z e =>
  show pP led ((t.put slot).1.orStandIn _);have j:pP led (t.put slot).1:=⟨ak4 h.rise slot (ayI e),h.led⟩;unfold SetTable.orStandIn;split
  ·exact j
  ·exact RX j _
 ·exact RX h _
theorem agW{led:bh}{t:b8}(h:pP led t)(es:bq (av×ao))(w:ay):pP led (relayAll t es w).2.1:=by
 unfold relayAll;split
 ·next j order e =>
  show pP led (if(coversAll order es.size&&j.fits (order.filterMap (es[·]?)).size)=ax then(order.filterMap (es[·]?),j,aq)else(es,t.standIn es.size,ax)).2.1;split
  ·show pP led j;unfold SetTable.relaid SetTable.laid at e;cases U:SetTable.layClean (SetTable.sizeAbove w-1) (es.map (·.1))with
   |none=>rw[U]at e;cases e
   |some f =>
    rw[U]at e;simp at e;obtain⟨c,g⟩:=e;subst c;refine⟨ak5 ?_,h.led⟩;rw[List.map_filterMap];refine List.Pairwise.filterMap _ (R:=(· < ·)) (λa b d x z y q=>?_) List.pairwise_lt_range;simp at z q;obtain⟨_,_,rfl⟩:=z;obtain⟨_,_,rfl⟩:=q;exact d
  ·exact RX h _
 ·exact RX h _
theorem agX{led:bh}{t:b8}(h:pP led t)(b:bh):pP led {t with plain:=b}:=⟨h.rise,h.led⟩
noncomputable def oH(w:bo):bh:=!w.params.followText "set-order"
def lN(prog:bf)(w:bo)(h:bx)(a:au)(es:bq (av×ao)):Prop :=
 ∃o ep t,h.get? a=ai o/\o.ExactSet/\o.data=.set es ep t/\ElemsOf (cu prog w) es.toList/\es.size<dq/\t.fits es.size=ax/\pP (oH w) t
section
variable{prog:bf}{w:bo}{A:br}{E:ao->aw->Prop}{s:aw}
theorem lN.at{h h':bx}{a:au}{es:bq (av×ao)}(x:lN prog w h a es)(e:∀o,h.get? a=ai o->h'.get? a=ai o):lN prog w h' a es :=
 let ⟨o,q,t,j,r⟩:=x; ⟨o,q,t,e _ j,r⟩
theorem lN.typeIs{a:au}{es:bq (av×ao)}(x:lN prog w s.heap a es):s.TypeIs (.ref a) "set":=let ⟨o,_,_,q,j,_⟩:=x; ⟨o,q,j.1⟩
theorem lN.lt{h:bx}{a:au}{es:bq (av×ao)}(x:lN prog w h a es):a<h.objs.size:=let ⟨_,_,_,j,_⟩:=x;eY j
theorem ac5{g:bh->Sem Unit}(v:∀(b:bh) (s₁:aw) (p:Unit->aw->Prop),p () s₁->wpAny (bj prog w) A (g b) p E s₁)
  {a:au} {o:cq} {es:bq (av×ao)} {ep:ay} {t:b8} (d:s.heap.get? a=ai o) (hex:o.ExactSet) (hd:o.data=.set es ep t)
  {j:bq (av×ao)} {q:b8} (r:ElemsOf (cu prog w) j.toList) (NU:j.size<dq) (B:q.fits j.size=ax) (hT:pP (oH w) q) {C:bh} {R:ar bh->aw->Prop}
  (h:∀h' eT,Heap.SameBut a s.heap h'->lN prog w h' a eT->eT.toList.Perm j.toList->R (ai ax) {s with heap:=h' }) :
  wpAny (bj prog w) A (do
    storeSet a j q
    if(!C&&q.tooFull)=ax then do
      g (relayAll q j (SetTable.grown j.size)).2.2
      storeSet a (relayAll q j (SetTable.grown j.size)).1 (relayAll q j (SetTable.grown j.size)).2.1
      pure (ai ax)
     else pure (ai ax)) R E s:=by
 have store:∀{h:bx} {o:cq} {es:bq (av×ao)} {ep:ay} {t:b8} (eT:bq (av×ao)) (z:b8),h.get? a=ai o->o.data=.set es ep t->(h.update a (Obj.putSet eT z)).get? a=ai {o with data:=.set eT (ep+1) z}:=λ{h o es ep t} eT z d hd=>by
  have:=QJ (Obj.putSet eT z) d (by rw[putSet_of eT z hd];rfl);rw[putSet_of eT z hd]at this;exact this
 refine aM (wpAny_storeSet_of d hd ?_ (Jv NU));have l:=store j q d hd;have n:=Heap.SameBut.update s.heap a (Obj.putSet j q);split
 ·have U:=relayAll_perm q j (SetTable.grown j.size);have i:=relayAll_fits q j (SetTable.grown j.size);have k:=agW hT j (SetTable.grown j.size);generalize x:relayAll q j (SetTable.grown j.size)=Rl at U i k ⊢;obtain⟨c,m,y⟩:=Rl;dsimp only at U i k ⊢;have f:ElemsOf (cu prog w) c.toList:=r.perm U;have e:c.size=j.size:=by rw[<-tT,U.length_eq,tT]
  have kU:c.size<dq:=by rw[e];exact NU
  refine aM (v _ _ _ ?_);refine aM (wpAny_storeSet_of l rfl ?_ (Jv kU));have u:=store c m l rfl;exact bS (h _ c (n.trans (Heap.SameBut.update _ a _)) ⟨_,_,m,u,hex,rfl,f,kU,i,k⟩ U)
 ·exact bS (h _ j n ⟨_,_,q,l,hex,rfl,r,NU,B,hT⟩ (QG _))
theorem aDX{a:au}{es:bq (av×ao)}{k:av}{x:ao}{Q:bh->aw->Prop}(B:(cu prog w).is k x=ax)(p:x.scannable=ax)(hS:lN prog w s.heap a es)(I:es.size+1<dq)
  (h:∀b h' eT,Heap.SameBut a s.heap h'->lN prog w h' a eT->(((∃e∈es.toList,(cu prog w).is k e.2=ax)/\eT=es)\/((∀e∈es.toList,(cu prog w).is k e.2≠ax)/\eT.toList.Perm (es.toList++[((cu prog w).hash k,x)])))->Q b {s with heap:=h' }) :
  wpAny (bj prog w) A (setAddHashed a x ((cu prog w).hash k)) Q E s:=by
 obtain⟨o,G,t,d,hex,hd,n,hb,y,hT⟩:=hS;unfold setAddHashed setAddHashedIn;refine vK (aM (BW d hd y ?_));dsimp only;rw[byScan_of p hb n];simp only[↓reduceIte];unfold setAddByScan;refine aM ?_;refine aM (wpAny_rule ?_);refine aM (wpAny_setScan_of B d hd y n ?_);cases hr:List.findIdx? (λe=>(cu prog w).is k e.2) es.toList with
 |some j =>
  dsimp only;obtain⟨F,u,_⟩:=List.findIdx?_eq_some_iff_getElem.mp hr;refine bS (bS ?_);have e:s={s with heap:=s.heap}:=by cases s;rfl
  rw[e];exact h _ s.heap es (Heap.SameBut.refl a s.heap) ⟨o,G,t,d,hex,hd,n,hb,y,hT⟩ (.inl ⟨⟨es.toList[j],zA F,u⟩,rfl⟩)
 |none =>
  dsimp only;have D:∀e∈es.toList,(cu prog w).is k e.2≠ax:=λe he z=>by
   have:=List.findIdx?_eq_none_iff.mp hr e he;rw[z]at this;exact Bool.noConfusion this
  have v:∀(b:bh) {s₁:aw} {i:Unit->aw->Prop},i () s₁->wpAny (bj prog w) A (match b with|true=>rule "set.scan.the-table-gave-way" | false=>pure ()) i E s₁ :=
   λb s₁ i q=>by cases b <;> first|exact bS q|exact wpAny_rule q
  have U:=layNew_perm t es ((cu prog w).hash k) x;have m:=layNew_fits t es ((cu prog w).hash k) x;have l:=agY hT es ((cu prog w).hash k) x;generalize hL:layNew t es ((cu prog w).hash k) x=L at U m l ⊢;obtain⟨r,t1,K,H⟩:=L;dsimp only at U m l ⊢;rw[Array.toList_push]at U;have C:ElemsOf (cu prog w) r.toList:=(n.push B p).perm U;have f:r.size<dq:=by rw[<-tT,U.length_eq,vE,tT];simpa using I
  refine aM (v _ ?_);have g:∀b h' eT,Heap.SameBut a s.heap h'->lN prog w h' a eT->eT.toList.Perm r.toList->Q b {s with heap:=h' }:=λb h' eT c nH z=>h b h' eT c nH (.inr ⟨D,z.trans U⟩);split
  ·refine aM ?_;rw[hashByValue_scannable 8 p];refine bS ?_;refine ac5 ?_ d hex hd C f ?_ ?_ ?_
   ·intro b s₁ i q;cases b <;> first|exact bS q|exact wpAny_rule q
   ·split
    ·exact m
    ·exact SetTable.fits_plain_off m
   ·split
    ·exact l
    ·exact agX l _
   ·intro h' eT c nH z;dsimp only;exact wpAny_pure (g _ h' eT c nH z)
  ·refine aM (bS ?_);simp only[↓reduceIte];refine ac5 ?_ d hex hd C f m l ?_
   ·intro b s₁ i q;cases b <;> first|exact bS q|exact wpAny_rule q
   ·intro h' eT c nH z;dsimp only;exact wpAny_pure (g _ h' eT c nH z)
end
def Nums(es:bq (av×ao))(ms:aj av):Prop:=c4 (es.toList.map (·.2)) ms
theorem apY{es eT:bq (av×ao)}{ms:aj av}(h:Nums es ms){l:aj (av×ao)}(hl:eT.toList.Perm l){nS:aj av}(h2:c4 (l.map (·.2)) nS):∃j,Nums eT j/\j.Perm nS:=by
 have hall:∀v∈eT.toList.map (·.2),∃n t,v=.int n t:=λv hv=>by
  have:=(hl.map (·.2)).mem_iff.mp hv;exact IntsAre.all h2 v this
 refine⟨_,intsAre_map _ hall,?_⟩;have:=(hl.map (·.2)).map numOf;rw[IntsAre.nums h2]at this;exact this
theorem ints_snoc:∀{vs:aj ao} {ns:aj av},c4 vs ns->∀(n:av) (t:Tok),c4 (vs++[.int n t]) (ns++[n])
 |_,_,.nil,n,t => .cons n t .nil
 |_,_,.cons m u h,n,t => .cons m u (ints_snoc h n t)
open PyProof.Rows PySem.Spec
set_option maxRecDepth 100000
set_option compiler.extract_closed false
set_option genSizeOf false
set_option bootstrap.genMatcherCode false
theorem Xc{prog:bf}{w:bo}:∀{l:aj (av×ao)} {ms:aj av},c4 (l.map (·.2)) ms->∀k:av,(∃e∈l,(cu prog w).is k e.2=ax)<->k∈ms
 |[],_,h,k=>by
  cases h;constructor
  ·rintro⟨e,he,_⟩;cases he
  ·intro z;cases z
 |(q,v)::l,_,h,k=>by
  cases h with
  |cons n t h =>
   have ih:=Xc (prog:=prog) (w:=w) h k;constructor
   ·rintro⟨e,he,j⟩
    rcases eK.mp he with z|z
    ·subst z;have:=(cu prog w).inj _ _ _ j (intKind_is prog w n t);rw[this];exact List.mem_cons_self ..
    ·exact gJ _ (ih.mp ⟨e,z,j⟩)
   ·intro z
    rcases eK.mp z with z|z
    ·subst z;exact⟨_,List.mem_cons_self ..,intKind_is prog w k t⟩
    ·obtain⟨e,he,j⟩:=ih.mpr z;exact⟨e,gJ _ he,j⟩
section
variable{prog:bf}{w:bo}{A:br}{R:Result->aw->Prop}{I:au}{fp wr:aj au}{G:bq GenState->bq GenState->Prop}{n:ay}{P:ay->ao->Prop}{St:ay->aw->Prop}
theorem aB7(W:WalksS prog w A.in1 I fp wr G n P St)(S:au)(DJ:S∉fp)
  (val:ay->av) (Hb:∀i v,P i v->∃t,v=.int (val i) t) (hb:n+1<dq) :
  ∀(k i:ay) (s:aw) (es:bq (av×ao)) (ms:aj av),n-i=k->i<=n->St i s ->
   lN prog w s.heap S es->Nums es ms->ms.Perm (firstMet val i) ->
   (∀s' eT nS,Moved (S::wr) G s s'->lN prog w s'.heap S eT->Nums eT nS->nS.Perm (firstMet val n)->R (.ok (.ret .none)) s') ->
   codeAny (bj prog w) A (.builtin "set.update.loop" ⟨[.ref S,.ref I],[]⟩) R s:=by
 have c:S∉wr:=λh=>DJ (W.sub _ h);have hsub:∀b∈wr,b∈S::wr:=λb hb=>gJ _ hb;intro k
 induction k with
 |zero =>
  intro i s es ms hk hi g hS q j hR;have N:i=n:=by omega
  subst N;refine OM aD2 ?_;rw[ZL ad0 _];show wpAny _ A.in1 (du (.ref I) >>= _) _ _ s;refine aM (W.done s _ _ g λs' hm=>?_);show wpAny _ A.in1 (ret Value.none) _ _ s';exact bS (hR s' es ms (hm.mono hsub) (hS.at λo e=>hm.heap S _ c e) q j)
 |succ k ih =>
  intro i s es ms hk hi g hS q j hR;have V:i<n:=by omega
  refine OM aD2 ?_;rw[ZL ad0 _];show wpAny _ A.in1 (du (.ref I) >>= _) _ _ s;refine aM (W.item i s _ _ V g λv s' u H hm=>?_);obtain⟨t,rfl⟩:=Hb i v u;have nH:lN prog w s'.heap S es:=hS.at λo e=>hm.heap S _ c e;show wpAny _ A.in1 (dh [Value.int (val i) t] (setAdd S (.int (val i) t)) >>= _) _ _ s';refine aM (vK ?_);unfold setAdd;refine vK ?_;refine aM ((cu prog w).pyHash (k:=val i) (intKind_is _ _ _ _) ?_);have hsz:es.size=(firstMet val i).length:=by
   have h1:=IntsAre.length q;rw[lB,tT]at h1;rw[h1];exact j.length_eq
  have Hg:es.size+1<dq:=by have:=firstMet_length_le val i;omega
  refine aDX (s:={s' with toks:=s'.toks+1}) (intKind_is _ _ _ _) rfl nH Hg λb h' eT T r m=>?_;have Zy:∀U,Nums eT U->U.Perm (firstMet val (i+1))->_:=λU L d =>
   bS (M:=bj prog w) (A:=A.in1) (s:={s' with heap:=h',toks:=s'.toks+1}) (a:=PySem.Fin.again (.builtin "set.update.loop" ⟨[.ref S,.ref I],[]⟩)) (Q:=λfin s'=>match fin with | .done f=>R (.ok f) s' | .again X=>X.quiet=ax/\codeAny (bj prog w) A X R s') (E:=λe s'=>R (.error e) s')
    ⟨TC ad0 _,ih (i+1) _ eT U (by omega) V (W.frame _ s' _ _ H (IQ _) λb hb o e=>by
     rw[T.2 b (λh:b=S=>DJ (by rw[<-h];exact hb))];exact e) r L d λCJ x K F D B C=>by
     refine hR CJ x K (Moved.trans W.gtrans ((hm.mono hsub).then_heap (IQ _) λb o hb e=>?_) F) D B C;rw[T.2 b (λh:b=S=>hb (by rw[h];exact List.mem_cons_self))];exact e⟩
  have ND:=Xc (prog:=prog) (w:=w) q (val i)
  rcases m with⟨N,rfl⟩|⟨uN,hp⟩
  ·refine Zy ms q ?_;have wH:val i∈firstMet val i:=j.mem_iff.mp (ND.mp N);rw[firstMet_succ];unfold dk;rw[a8 (by rw[YM];exact⟨_,wH,by simp⟩)];exact j
  ·have p:val i∉firstMet val i:=λz=>by
    obtain⟨e,he,l⟩:=ND.mpr (j.mem_iff.mpr z);exact uN e he l
   have h2:c4 ((es.toList++[((cu prog w).hash (val i),Value.int (val i) t)]).map (·.2)) (ms++[val i]):=by
    rw[EN];exact ints_snoc q (val i) t
   obtain⟨U,L,d⟩:=apY q hp h2;refine Zy U L ?_;rw[firstMet_succ];unfold dk;rw[bb (by rw[YM];rintro⟨y,hy,e⟩;simp at e;subst e;exact p hy)];exact d.trans (j.append_right _)
end
section
variable{prog:bf}{w:bo}{A:br}{E:ao->aw->Prop}{s:aw}
theorem aiR(a:ao){Q₁:ao->aw->Prop}
  (h:Q₁ (.ref s.heap.objs.size) {s with heap:=s.heap.push {cls:=.type "set",dict:=ak,data:=.set #[] 0 (.fresh 0 0 (oH w))} }) :
  codeAny (bj prog w) A (.call (.builtin "set.__new__") ⟨[.type "set",a],[]⟩) (wants Q₁ E) s:=by
 refine codeAny_of_tree ?_;show wpAny _ A.in1 (do checkBuiltinCall "set.__new__" ⟨[.type "set",a],[]⟩;again (.builtin "set.__new__" ⟨[.type "set",a],[]⟩)) _ _ s;refine aM (wpAny_of_eq (F.newCall_set_1 a) (bS ⟨TC F.plain_set_new _,OM F.entry_set_new ?_⟩));rw[ZL F.plain_set_new _];unfold Builtin.«set.__new__» Builtin.Frozenset.newClass;have hsub:=sub_set_self;obtain⟨j,g,d,tk,os⟩:=s;dsimp only
 wp_walk
 refine BZ (bS ?_);dsimp only;simp only[newObj];refine aM (wpAny_alloc (bS ?_));exact bS h
set_option maxHeartbeats 3200000 in
theorem aCN{l:au}{items:bq ao}{ns:aj av}{Q:ao->aw->Prop}
  (hh:A.handled=ak) (hl:s.heap.IsList l items) (hi:PyProof.Rows.IntsAre items.toList ns) (hb:items.size+1<dq)
  (h:∀(h':bx) (tk:ay) es ms,lN prog w h' s.heap.objs.size es->Nums es ms->ms.Perm (firstMet (λi=>ns.getD i 0) items.size) ->
   (∀b o,b<s.heap.objs.size->s.heap.get? b=ai o->h'.get? b=ai o)->Q (.ref s.heap.objs.size) {s with heap:=h',toks:=tk}) :
  wpAny (bj prog w) A (call (.type "set") [.ref l]) Q E s:=by
 obtain⟨c,tl,aG8⟩:=F.called_set.mro;have aHC:=F.called_set.made;have hsub:=F.called_set.sub;refine BY (codeAny_of_tree ?_);show wpAny _ _ (callAny (.type "set") _) _ _ _;refine bS ⟨Code.quiet_builtin _ (by decide +kernel),OM F.entry_type_call ?_⟩;rw[Around.under_plain (weight_type_call_type "set" [.ref l] []) rfl];have h1:=F.called_set.notType;have h2:=F.called_set.canCreate;have hct:=F.typeCall_set_1 (.ref l)
 repeat (any_goals (first|assumption|wp_step))
 refine tN (aiR (.ref l) (E:=E) (Q₁:=λobj s₁=>obj=.ref s.heap.objs.size/\s₁={s with heap:=s.heap.push {cls:=.type "set",dict:=ak,data:=.set #[] 0 (.fresh 0 0 (oH w))} }) ⟨rfl,rfl⟩) λr s₁ hr=>?_;cases r with
 |error e=>exact hr
 |ok fl =>
  cases fl with
  |ret obj =>
   obtain⟨rfl,rfl⟩:=hr;have hS:(s.heap.push {cls:=.type "set",dict:=ak,data:=.set #[] 0 (.fresh 0 0 (oH w))}).get? s.heap.objs.size=ai {cls:=.type "set",dict:=ak,data:=.set #[] 0 (.fresh 0 0 (oH w))}:=hU _ rfl;have hT:Shared.TypeIs {s with heap:=s.heap.push {cls:=.type "set",dict:=ak,data:=.set #[] 0 (.fresh 0 0 (oH w))} } (.ref s.heap.objs.size) "set":=⟨_,hS,rfl⟩;have hli:=F.called_set.init.lookup;have hbi:=F.called_set.init.bind (.ref s.heap.objs.size)
   repeat (any_goals (first|assumption|wp_step))
   refine tN (codeAny_call_builtin (R:=wants (λr s₂=>r=.none/\∃h' tk es ms,s₂={s with heap:=h',toks:=tk} /\
     lN prog w h' s.heap.objs.size es/\Nums es ms/\ms.Perm (firstMet (λi=>ns.getD i 0) items.size) /\
     (∀b o,b<s.heap.objs.size->s.heap.get? b=ai o->h'.get? b=ai o)) E) F.called_set.init.plain F.entry_set_init (check_set_init_1 hT ?_)) λr₂ s₂ Hf=>?_
   ·obtain⟨ol,UN,gW,nl,Ie⟩:=hl;obtain⟨aGK,apH,aGJ,aoK⟩:=ol;simp only at gW Ie;subst gW;subst Ie;have auB:(s.heap.push {cls:=.type "set",dict:=ak,data:=.set #[] 0 (.fresh 0 0 (oH w))}).get? l=ai {cls:=.type "list",dict:=apH,data:=.seq items nl,slots:=aoK}:=eN _ UN;have aG1:=F.sub_list_set;have aG2:=F.sub_list_frozenset;have gV:(Value.type "list" == Value.type "dict")=aq:=by decide
    have rX:(s.heap.push {cls:=.type "set",dict:=ak,data:=.set #[] 0 (.fresh 0 0 (oH w))}).IsList l items:=⟨_,auB,rfl,nl,rfl⟩;unfold Builtin.«set.__init__» noKeywords Builtin.Frozenset.updateFrom;generalize hPI:pyIter=PI
    wp_walk
    subst hPI;refine wpAny_pyIter_list rX ?_;refine aM (wpAny_runValue ?_);have NH:l<s.heap.objs.size:=eY UN;have hh3:A.in1.in1.in1.handled=ak:=by simp[hh]
    have auJ:l≠(s.heap.push {cls:=.type "set",dict:=ak,data:=.set #[] 0 (.fresh 0 0 (oH w))}).objs.size:=by
     rw[JI];exact iB (Ny NH)
    have DJ:s.heap.objs.size∉[(s.heap.push {cls:=.type "set",dict:=ak,data:=.set #[] 0 (.fresh 0 0 (oH w))}).objs.size,l]:=by
     rw[JI];simp only[eK,oX,yZ,xW,not_or];exact⟨iB (YC _),IP NH⟩
    have Hb:∀(i:ay) (v:ao),items[i]?=ai v->∃t,v=.int ((λi=>ns.getD i 0) i) t:=λi v hv =>
     PyProof.Rows.IntsAre.int_at hi i v (by rw[Qx];exact hv)
    refine aB7 ((Walks.list hh3 _ l auJ items).toS) s.heap.objs.size
     DJ (λi=>ns.getD i 0) Hb hb (items.size-0) 0 _ #[] [] (by omega) TV
     ⟨⟨_,hU _ rfl,rfl,rfl⟩,(rX.push _)⟩ ?hS0 .nil (QG _) ?hR
    case hS0 =>
     have avD:((s.heap.push {cls:=.type "set",dict:=ak,data:=.set #[] 0 (.fresh 0 0 (oH w))}).push {cls:=.type "list_iterator",data:=.fields #[.ref l,.int 0 0]}).get? s.heap.objs.size
       = ai {cls:=.type "set",dict:=ak,data:=.set #[] 0 (.fresh 0 0 (oH w))}:=eN _ hS
     exact⟨_,0,_,avD,⟨rfl,rfl,rfl⟩,rfl,λe he=>by simp at he,by decide,rfl,agZ _⟩
    case hR =>
     intro s' eT nS hm nH Ir OA;obtain⟨h',g',d',SA,Ey⟩:=s';have eg:g'=s.gens:=hm.gens;have ed:d'=s.drawn:=hm.drawn;have eo:Ey=s.os:=hm.os;subst eg;subst ed;subst eo;show wpAny _ _ _ _ _ _;refine bS ?_;show wpAny _ _ (ret Value.none) _ _ _;refine bS ⟨rfl,h',SA,eT,nS,rfl,nH,Ir,OA,λb o hb e=>?_⟩;have NU:b≠s.heap.objs.size:=iB hb;have kU:b≠(s.heap.push {cls:=.type "set",dict:=ak,data:=.set #[] 0 (.fresh 0 0 (oH w))}).objs.size:=by
      rw[JI];exact iB (Ny hb)
     exact hm.heap b o (by simp only[eK,oX,yZ,xW,not_or];exact⟨NU,kU⟩) (eN _ (eN _ e))
   ·cases r₂ with
    |error e=>exact Hf
    |ok fl₂ =>
     cases fl₂ with
     |ret r =>
      obtain⟨rfl,h',tk,es,ms,rfl,nH,Ir,OA,HA⟩:=Hf
      repeat (any_goals (first|assumption|wp_step))
      exact h _ _ es ms nH Ir OA HA
     |_=>exact Hf.elim
  |_=>exact hr.elim
end
set_option maxRecDepth 100000
set_option compiler.extract_closed false
set_option genSizeOf false
set_option bootstrap.genMatcherCode false
theorem pG:Slot "set_iterator" "__next__" "set_iterator.__next__" :=
 .of (owner := "set_iterator") (n := "__next__") (by rw[typeLookup_type,builtinLookup_eq_fast];kernel_rfl) (by decide +kernel) (by decide +kernel) (by decide +kernel)
  (by first|exact .inl (by decide +kernel)|exact .inr (by decide +kernel)) (by rw[isSubtype_type];kernel_rfl)
theorem Tz:Slot "set_iterator" "__iter__" "set_iterator.__iter__" :=
 .of (owner := "set_iterator") (n := "__iter__") (by rw[typeLookup_type,builtinLookup_eq_fast];kernel_rfl) (by decide +kernel) (by decide +kernel) (by decide +kernel)
  (by first|exact .inl (by decide +kernel)|exact .inr (by decide +kernel)) (by rw[isSubtype_type];kernel_rfl)
theorem HS:entryFor table "set_iterator.__next__" = ai Builtin.«set_iterator.__next__»:=entryFor_of_tree (by kernel_rfl)
theorem ay4:entryFor table "set_iterator.__iter__" = ai Builtin.«dict_keyiterator.__iter__»:=entryFor_alias (id' := "dict_keyiterator.__iter__") (by kernel_rfl) rfl (by decide +kernel) (by kernel_rfl)
theorem ay5:entryFor table "set.__iter__" = ai Builtin.«frozenset.__iter__»:=entryFor_alias (id' := "frozenset.__iter__") (by kernel_rfl) rfl (by decide +kernel) (by kernel_rfl)
theorem Wa:Manifest.owners.lookup (String.ofList ['r','o','t','a','r','e','t','i','_','t','e','s'].reverse)=ai Manifest.sig_set_iterator:=by kernel_rfl
theorem II(a:ao):argsOk "set_iterator.__next__" ⟨[a],[]⟩:=by
 unfold argsOk;rw[signature?_of (id := "set_iterator.__next__") (n:=['_','_','t','x','e','n','_','_']) (o:=['r','o','t','a','r','e','t','i','_','t','e','s']) (by kernel_rfl) Wa];kernel_rfl
theorem aDK(a:ao):argsOk "set_iterator.__iter__" ⟨[a],[]⟩:=by
 unfold argsOk;rw[signature?_of (id := "set_iterator.__iter__") (n:=['_','_','r','e','t','i','_','_']) (o:=['r','o','t','a','r','e','t','i','_','t','e','s']) (by kernel_rfl) Wa];kernel_rfl
def lY(h:bx)(I a:au)(first:ao)(i n ep:ay):Prop:=h.get? I=ai {cls:=.type "set_iterator",data:=.fields #[first,.int i 0,.ref a,.int n 0,.int ep 0]}
def rF(w:bo)(h:bx)(a:au)(es:bq (av×ao))(ep:ay)(t:b8):Prop:=∃o,h.get? a=ai o/\o.data=.set es ep t/\t.fits es.size=ax/\pP (oH w) t
theorem lY.typeIs{s:aw}{I a:au}{f:ao}{i n ep:ay}(x:lY s.heap I a f i n ep):s.TypeIs (.ref I) "set_iterator":=⟨_,x,rfl⟩
theorem lY.at{h h':bx}{I a:au}{f:ao}{i n ep:ay}(x:lY h I a f i n ep)(e:∀o,h.get? I=ai o->h'.get? I=ai o):lY h' I a f i n ep:=e _ x
theorem rF.at{w:bo}{h h':bx}{a:au}{es:bq (av×ao)}{ep:ay}{t:b8}(x:rF w h a es ep t)(e:∀o,h.get? a=ai o->h'.get? a=ai o):rF w h' a es ep t:=let ⟨o,j,r⟩:=x; ⟨o,e _ j,r⟩
noncomputable def zN(t:b8)(i:ay):ay:=if i=0 then 0 else t.place.getD (i-1) 0+1
theorem Ub{t:b8}(h:wW t.place){i:ay}(hi:i<=t.place.size):SetTable.below t.place (zN t i)=i:=by
 unfold zN
 by_cases j:i=0
 ·rw[a8 j,aC7 h,j]
 ·rw[bb j];have hl:i-1<t.place.size:=by omega
  have q:t.place[i-1]?=ai (t.place.getD (i-1) 0):=by simp[Array.getD,hl]
  rw[aC9 h q];omega
section
variable{prog:bf}{w:bo}{A:br}{E:ao->aw->Prop}{s:aw}
theorem aqB{I a:au}{es:bq (av×ao)}{ep i:ay}{t:b8}{x:av×ao}{Q:ar ao->aw->Prop}(hit:lY s.heap I a (.int (zN t i) 0) i es.size ep)(d:rF w s.heap a es ep t)
  (hb:w.params.followText "set-order" = aq) (hd:(!t.plain&&decide (es.size>1))=aq) (b:es[i]?=ai x)
  (e:∀h',lY h' I a (.int (zN t (i+1)) 0) (i+1) es.size ep->Heap.SameBut I s.heap h'->Q (ai x.2) {s with heap:=h' }):wpAny (bj prog w) A (du (.ref I)) Q E s:=by
 obtain⟨os,U,z,j,hT⟩:=id d;have k:=j;simp only[SetTable.fits,nN,yU,WB]at k;have n:i<es.size:=(RG.mp b).1;have q:i<t.place.size:=by omega
 have f:t.place[i]?=ai (t.place.getD i 0):=by simp[Array.getD,q]
 have l:(!t.led && !es.isEmpty)=aq:=by rw[hT.led];simp[oH,hb]
 unfold du;refine aM (KP (FE (name:=Str.ofString "__next__") hit.typeIs pG
  (tU pG hit.typeIs HS ?_ (II _))))
 unfold Builtin.«set_iterator.__next__»;refine aM (bS ?_);refine aM (KO hit rfl ?_);dsimp only;refine aM (FC U z j ?_);rw[bb (by simp)];refine aM ?_;unfold setNext;refine aM (BW U z j ?_);dsimp only;unfold setsByText;refine aM (aM (BZ (bS ?_)));refine vJ (oR (show ¬(w.params.followText "set-order" = ax)by rw[hb];simp)) ?_;refine vJ (oR (show ¬((!t.plain&&decide (es.size>1))=ax)by rw[hd];simp)) ?_;refine aM ?_;show wpAny (bj prog w) A.in1 (if(!t.led && !es.isEmpty)=ax then unsupported "set:maker-not-led" else pure ()) _ _ _;refine vJ (by simp[l]) (bS ?_);rw[EV,Ub hT.rise (by omega),b,f];refine bS ?_;dsimp only;refine aM (zJ hit (by simp) λh1 h c=>?_);refine aM (zJ h (by simp) λh2 g m=>?_);refine bS ⟨_,rfl,bS (e h2 ?_ (c.trans m))⟩;unfold lY;rw[g];have:zN t (i+1)=t.place.getD i 0+1:=by unfold zN;simp
 rw[this];simp[b7]
theorem aqC{I a:au}{es:bq (av×ao)}{ep:ay}{t:b8}{Q:ar ao->aw->Prop}(hh:A.handled=ak)(hit:lY s.heap I a (.int (zN t es.size) 0) es.size es.size ep)(c:rF w s.heap a es ep t)
  (hb:w.params.followText "set-order" = aq) (hd:(!t.plain&&decide (es.size>1))=aq)
  (d:∀h',Heap.ExtBut I s.heap h'->Q ak {s with heap:=h' }):wpAny (bj prog w) A (du (.ref I)) Q E s:=by
 obtain⟨os,z,q,j,hT⟩:=id c;have e:=j;simp only[SetTable.fits,nN,yU,WB]at e;have f:(!t.led && !es.isEmpty)=aq:=by rw[hT.led];simp[oH,hb]
 unfold du;refine aM (KP (FE (name:=Str.ofString "__next__") hit.typeIs pG
  (tU pG hit.typeIs HS ?_ (II _))))
 unfold Builtin.«set_iterator.__next__»;refine aM (bS ?_);refine aM (KO hit rfl ?_);dsimp only;refine aM (FC z q j ?_);rw[bb (by simp)];refine aM ?_;unfold setNext;refine aM (BW z q j ?_);dsimp only;unfold setsByText;refine aM (aM (BZ (bS ?_)));refine vJ (oR (show ¬(w.params.followText "set-order" = ax)by rw[hb];simp)) ?_;refine vJ (oR (show ¬((!t.plain&&decide (es.size>1))=ax)by rw[hd];simp)) ?_;refine aM ?_;show wpAny (bj prog w) A.in1 (if(!t.led && !es.isEmpty)=ax then unsupported "set:maker-not-led" else pure ()) _ _ _;refine vJ (by simp[f]) (bS ?_);rw[EV,Ub hT.rise (by omega),Array.getElem?_eq_none dD];refine bS ?_;dsimp only;refine aM (zJ hit (by simp) λh1 g U=>?_);show wpAny _ _ (newExc (.type "StopIteration") [] >>= _) _ _ _;refine aM ?_;simp only[newExc,newTuple];refine aM (pU ?_ (by size_fits));refine aM (m:=dm _ _) (wpAny_of_eq (a:=Value.none) (by first|rfl|(simp only[dm];rfl)) ?_);refine pU ?_ (by size_fits);simp only[raiseNew];refine aM (wpAny_handled ?_);rw[show A.in1.handled=ak from hh];refine aM (bS (wpAny_throw ?_));refine aM (ZN (T := "StopIteration") (b:=ax) ⟨_,hU _ rfl,rfl⟩ isSubtype_stop ?_);exact bS (d _ ((U.extBut.push _).push _))
end
set_option maxRecDepth 100000
set_option compiler.extract_closed false
set_option genSizeOf false
set_option bootstrap.genMatcherCode false
theorem Jz{α:Type}:∀(l:aj α) (i:ay) (h:i<l.length),(l[i]::l.eraseIdx i).Perm l
 |[],i,h=>bu h (Nat.not_lt_zero _)
 |x::l,0,h=>QG _
 |x::l,i+1,h=>by
  have ih:=Jz l i (by simpa using h);simp only[List.getElem_cons_succ,List.eraseIdx_cons_succ];exact(List.Perm.swap _ _ _).trans (ih.cons x)
theorem Vu{α:Type}(f:ay->ay):∀(fuel k:ay) (left:aj α) (ab:bq α),left.length=fuel->(pickOrder.go f fuel k left ab).toList.Perm (ab.toList++left)
 |0,k,left,ab,h=>by
  have:left=[]:=List.length_eq_zero_iff.mp h;subst this;unfold pickOrder.go;simp
 |fuel+1,k,left,ab,h=>by
  have hi:f k%left.length<left.length:=Nat.mod_lt _ (by omega);unfold pickOrder.go;rw[dR hi];have ih:=Vu f fuel (k+1) (left.eraseIdx (f k%left.length)) (ab.push left[f k%left.length]) (by rw[List.length_eraseIdx_of_lt hi];omega);refine ih.trans ?_;rw[Array.toList_push,aeQ];exact(Jz _ _ hi).append_left _
theorem Et{α:Type}(f:ay->ay)(xs:bq α):(pickOrder f xs).toList.Perm xs.toList:=by
 have h:=Vu f xs.size 0 xs.toList #[] (by simp);simp only[EM]at h;exact h
section
variable{prog:bf}{w:bo}{A:br}{E:ao->aw->Prop}{s:aw}
theorem Rm{a:au}{es:bq (av×ao)}{ep:ay}{t:b8}{Q:bq (av×ao)->aw->Prop}(z:rF w s.heap a es ep t)(hb:w.params.followText "set-order" = ax)
  (h:Q (pickOrder (w.params.setOrder a ep) es) s):wpAny (bj prog w) A (setWalk a) Q E s:=by
 obtain⟨os,q,j,U,hT⟩:=id z;unfold setWalk;refine aM (BW q j U ?_);dsimp only;unfold setsByText;refine aM (aM (BZ (bS ?_)));refine ZM (rC (show w.params.followText "set-order" = ax from hb)) ?_;exact aM (BZ (bS h))
theorem aqD{I a:au}{es:bq (av×ao)}{ep i:ay}{t:b8}{x:av×ao}{Q:ar ao->aw->Prop}(hit:lY s.heap I a (.int 0 0) i es.size ep)(z:rF w s.heap a es ep t)
  (hb:w.params.followText "set-order" = ax) (c:(pickOrder (w.params.setOrder a ep) es)[i]?=ai x)
  (d:∀h',lY h' I a (.int 0 0) (i+1) es.size ep->Heap.SameBut I s.heap h'->Q (ai x.2) {s with heap:=h' }):wpAny (bj prog w) A (du (.ref I)) Q E s:=by
 obtain⟨os,q,j,U,hT⟩:=id z;unfold du;refine aM (KP (FE (name:=Str.ofString "__next__") hit.typeIs pG
  (tU pG hit.typeIs HS ?_ (II _))))
 unfold Builtin.«set_iterator.__next__»;refine aM (bS ?_);refine aM (KO hit rfl ?_);dsimp only;refine aM (FC q j U ?_);rw[bb (by simp)];refine aM ?_;unfold setNext;refine aM (BW q j U ?_);dsimp only;unfold setsByText;refine aM (aM (BZ (bS ?_)));refine ZM (rC (show w.params.followText "set-order" = ax from hb)) ?_;refine vJ (by simp) ?_;refine aM (Rm z hb ?_);rw[EV,c];refine bS ?_;simp only[EI];refine aM (zJ hit (by simp) λh1 f b=>?_);refine aM (zJ f (by simp) λh2 e g=>?_);refine bS ⟨_,rfl,bS (d h2 ?_ (b.trans g))⟩;unfold lY;rw[e];simp[b7]
theorem aqE{I a:au}{es:bq (av×ao)}{ep:ay}{t:b8}{Q:ar ao->aw->Prop}(hh:A.handled=ak)(hit:lY s.heap I a (.int 0 0) es.size es.size ep)(z:rF w s.heap a es ep t)
  (hb:w.params.followText "set-order" = ax)
  (e:∀h',Heap.ExtBut I s.heap h'->Q ak {s with heap:=h' }):wpAny (bj prog w) A (du (.ref I)) Q E s:=by
 obtain⟨os,q,j,U,hT⟩:=id z;have d:(pickOrder (w.params.setOrder a ep) es)[es.size]?=ak:=by
  rw[ae2];have:=(Et (w.params.setOrder a ep) es).length_eq;simp only[tT]at this;omega
 unfold du;refine aM (KP (FE (name:=Str.ofString "__next__") hit.typeIs pG
  (tU pG hit.typeIs HS ?_ (II _))))
 unfold Builtin.«set_iterator.__next__»;refine aM (bS ?_);refine aM (KO hit rfl ?_);dsimp only;refine aM (FC q j U ?_);rw[bb (by simp)];refine aM ?_;unfold setNext;refine aM (BW q j U ?_);dsimp only;unfold setsByText;refine aM (aM (BZ (bS ?_)));refine ZM (rC (show w.params.followText "set-order" = ax from hb)) ?_;refine vJ (by simp) ?_;refine aM (Rm z hb ?_);rw[EV,d];refine bS ?_;simp only[Option.map_none];refine aM (zJ hit (by simp) λh1 f c=>?_);show wpAny _ _ (newExc (.type "StopIteration") [] >>= _) _ _ _;refine aM ?_;simp only[newExc,newTuple];refine aM (pU ?_ (by size_fits));refine aM (m:=dm _ _) (wpAny_of_eq (a:=Value.none) (by first|rfl|(simp only[dm];rfl)) ?_);refine pU ?_ (by size_fits);simp only[raiseNew];refine aM (wpAny_handled ?_);rw[show A.in1.handled=ak from hh];refine aM (bS (wpAny_throw ?_));refine aM (ZN (T := "StopIteration") (b:=ax) ⟨_,hU _ rfl,rfl⟩ isSubtype_stop ?_);exact bS (e _ ((c.extBut.push _).push _))
theorem ae9{src:Source}{n:ay}{Q:ay->aw->Prop}(hn:n≠0)(h:∀i,i<n->Q i {s with drawn:=s.drawn.bump src}):wpAny (bj prog w) A (choose src n) Q E s:=λj p _=>by
 unfold choose;rw[Sem.wp_choose];exact⟨hn,h _ (Nat.mod_lt _ (by omega))⟩
theorem Ri{α:Type}:∀(n:ay) (xs:aj α) (s:aw) {Q:aj α->aw->Prop},xs.length=n->(∀ys d,ys.Perm xs->Q ys {s with drawn:=d})->wpAny (bj prog w) A (drawOrder n xs) Q E s
 |0,xs,s,Q,hl,h=>by
  have:xs=[]:=List.length_eq_zero_iff.mp hl;subst this;unfold drawOrder;have e:s={s with drawn:=s.drawn}:=by cases s;rfl
  rw[e];exact bS (h [] s.drawn (QG _))
 |n+1,[],s,Q,hl,h=>by simp at hl
 |n+1,x::xs,s,Q,hl,h=>by
  unfold drawOrder;refine aM (ae9 (by simp) λi hi=>?_);rw[dR hi];dsimp only;refine aM (Ri n ((x::xs).eraseIdx i) _ (by rw[List.length_eraseIdx_of_lt hi];omega) λys d j=>?_);refine bS (h ((x::xs)[i]::ys) d ?_);exact(j.cons _).trans (Jz _ _ hi)
end
set_option maxRecDepth 100000
set_option compiler.extract_closed false
set_option genSizeOf false
set_option bootstrap.genMatcherCode false
def JG(h:bx)(T:au)(ps:aj ay):Prop:=h.get? T=ai {cls:=.type "tuple",data:=.seq (ps.map λi:ay=>b7 (i:av)).toArray}
section
variable{prog:bf}{w:bo}{A:br}{E:ao->aw->Prop}{s:aw}
theorem ap9{I a T:au}{es:bq (av×ao)}{ep i j:ay}{t:b8}{ps:aj ay}{x:av×ao}{Q:ar ao->aw->Prop}(hit:lY s.heap I a (.ref T) i es.size ep)(d:rF w s.heap a es ep t)(hT:JG s.heap T ps)
  (f:ps[i]?=ai j) (c:es[j]?=ai x)
  (g:∀h',lY h' I a (.ref T) (i+1) es.size ep->Heap.SameBut I s.heap h'->Q (ai x.2) {s with heap:=h' }):wpAny (bj prog w) A (du (.ref I)) Q E s:=by
 obtain⟨os,z,q,U,_⟩:=id d;unfold du;refine aM (KP (FE (name:=Str.ofString "__next__") hit.typeIs pG
  (tU pG hit.typeIs HS ?_ (II _))))
 unfold Builtin.«set_iterator.__next__»;refine aM (bS ?_);refine aM (KO hit rfl ?_);dsimp only;refine aM (FC z q U ?_);rw[bb (by simp)];refine aM (wpAny_seqItems hT rfl ?_);have e:(ps.map λi:ay=>b7 (i:av)).toArray[i]?=ai (b7 (j:av)):=by simp[f]
 dsimp only;rw[EV,e];show wpAny _ _ (setNextDrawn a (j:av).toNat (ep:av).toNat >>= _) _ _ _;refine aM ?_;unfold setNextDrawn;refine aM (BW z q U ?_);dsimp only;refine vJ (by simp) ?_;rw[EV,c];refine bS ?_;refine aM (zJ hit (by simp) λh1 h b=>?_);refine bS ⟨_,rfl,bS (g h1 ?_ b)⟩;unfold lY;rw[h];simp[b7]
theorem aqA{I a T:au}{es:bq (av×ao)}{ep:ay}{t:b8}{ps:aj ay}{Q:ar ao->aw->Prop}(hh:A.handled=ak)(hit:lY s.heap I a (.ref T) es.size es.size ep)(c:rF w s.heap a es ep t)(hT:JG s.heap T ps)
  (e:ps.length=es.size)
  (g:∀h',Heap.ExtBut I s.heap h'->Q ak {s with heap:=h' }):wpAny (bj prog w) A (du (.ref I)) Q E s:=by
 obtain⟨os,U,z,f,_⟩:=id c;unfold du;refine aM (KP (FE (name:=Str.ofString "__next__") hit.typeIs pG
  (tU pG hit.typeIs HS ?_ (II _))))
 unfold Builtin.«set_iterator.__next__»;refine aM (bS ?_);refine aM (KO hit rfl ?_);dsimp only;refine aM (FC U z f ?_);rw[bb (by simp)];refine aM (wpAny_seqItems hT rfl ?_);have d:(ps.map λi:ay=>b7 (i:av)).toArray[es.size]?=ak:=by simp[<-e]
 dsimp only;rw[EV,d];refine aM (zJ hit (by simp) λk h j=>?_);refine aM (zJ h (by simp) λh1 l q=>?_);show wpAny _ _ (newExc (.type "StopIteration") [] >>= _) _ _ _;refine aM ?_;simp only[newExc,newTuple];refine aM (pU ?_ (by size_fits));refine aM (m:=dm _ _) (wpAny_of_eq (a:=Value.none) (by first|rfl|(simp only[dm];rfl)) ?_);refine pU ?_ (by size_fits);simp only[raiseNew];refine aM (wpAny_handled ?_);rw[show A.in1.handled=ak from hh];refine aM (bS (wpAny_throw ?_));refine aM (ZN (T := "StopIteration") (b:=ax) ⟨_,hU _ rfl,rfl⟩ isSubtype_stop ?_);exact bS (g _ (((j.trans q).extBut.push _).push _))
theorem El{I a:au}{f:ao}{i n ep:ay}{Q:ao->aw->Prop}(hit:lY s.heap I a f i n ep)(h:Q (.ref I) s):wpAny (bj prog w) A (pyIter (.ref I)) Q E s:=by
 refine wpAny_pyIter_slot hit.typeIs Tz (tU Tz hit.typeIs ay4 ?_ (aDK _));show wpAny _ _ (ret (.ref I)) _ _ s;exact bS ⟨_,rfl, "set_iterator",_,hit.typeIs,pG.lookup,h⟩
theorem JG.at{h h':bx}{T:au}{ps:aj ay}(x:JG h T ps)(e:∀o,h.get? T=ai o->h'.get? T=ai o):JG h' T ps:=e _ x
theorem afD(hh:A.handled=ak)(I a:au)(gV:a≠I)(es:bq (av×ao))(ep:ay)(t:b8)(hb:w.params.followText "set-order" = ax) :
  Walks prog w A I [I,a] [I] es.size (λi v=>((pickOrder (w.params.setOrder a ep) es).toList.map (·.2))[i]?=ai v) (λi h=>lY h I a (.int 0 0) i es.size ep/\rF w h a es ep t)where
 sub:=λb hb=>by simp at hb;simp[hb]
 frame:=λ_ _ _ st z=>⟨st.1.at λo e=>z I (by simp) o e,st.2.at λo e=>z a (by simp) o e⟩
 item:=λi s Q E hi st j=>by
  have hl:i<(pickOrder (w.params.setOrder a ep) es).size:=by
   have:=(Et (w.params.setOrder a ep) es).length_eq;simp only[tT]at this;omega
  have c:=Qy hl;refine aqD st.1 st.2 hb c λh' d q=>?_;exact j _ h' s.toks (by simp[hl]) ⟨d,st.2.at λo e=>q.extBut a o gV e⟩ λb o hb e=>q.extBut b o (λh=>hb (by simp[h])) e
 done:=λs Q E st j=>aqE hh st.1 st.2 hb λh' U=>j h' s.toks λb o hb e=>U b o (λh=>hb (by simp[h])) e
 self:=λ_ _ _ _ st j=>El st.1 j
theorem afC(hh:A.handled=ak)(I a:au)(gV:a≠I)(es:bq (av×ao))(ep:ay)(t:b8)(hb:w.params.followText "set-order" = aq)(hd:(!t.plain&&decide (es.size>1))=aq) :
  Walks prog w A I [I,a] [I] es.size (λi v=>(es.toList.map (·.2))[i]?=ai v) (λi h=>lY h I a (.int (zN t i) 0) i es.size ep/\rF w h a es ep t)where
 sub:=λb hb=>by simp at hb;simp[hb]
 frame:=λ_ _ _ st z=>⟨st.1.at λo e=>z I (by simp) o e,st.2.at λo e=>z a (by simp) o e⟩
 item:=λi s Q E hi st j=>by
  have c:=Qy hi;refine aqB st.1 st.2 hb hd c λh' d q=>?_;exact j _ h' s.toks (by simp[hi]) ⟨d,st.2.at λo e=>q.extBut a o gV e⟩ λb o hb e=>q.extBut b o (λh=>hb (by simp[h])) e
 done:=λs Q E st j=>aqC hh st.1 st.2 hb hd λh' U=>j h' s.toks λb o hb e=>U b o (λh=>hb (by simp[h])) e
 self:=λ_ _ _ _ st j=>El st.1 j
theorem afB(hh:A.handled=ak)(I a T:au)(gV:a≠I)(d:T≠I)(es:bq (av×ao))(ep:ay)(t:b8)(ps:aj ay)(U:ps.Perm (List.range es.size)) :
  Walks prog w A I [I,a,T] [I] es.size (λi v=>(ps.map λj=>(es.getD j (0,.none)).2)[i]?=ai v) (λi h=>lY h I a (.ref T) i es.size ep/\rF w h a es ep t/\JG h T ps)where
 sub:=λb hb=>by simp at hb;simp[hb]
 frame:=λ_ _ _ st c=>⟨st.1.at λo e=>c I (by simp) o e,st.2.1.at λo e=>c a (by simp) o e,st.2.2.at λo e=>c T (by simp) o e⟩
 item:=λi s Q E hi st q=>by
  have hl:i<ps.length:=by rw[U.length_eq];simpa using hi
  have hm:ps[i]<es.size:=by
   have:=U.mem_iff.mp (zA hl);simpa using this
  refine ap9 (j:=ps[i]) (x:=es[ps[i]]) st.1 st.2.1 st.2.2 (dR hl) (Qy hm) λh' g z=>?_;exact q _ h' s.toks (by simp[hl,Array.getD,hm]) ⟨g,st.2.1.at λo e=>z.extBut a o gV e,st.2.2.at λo e=>z.extBut T o d e⟩ λb o hb e=>z.extBut b o (λh=>hb (by simp[h])) e
 done:=λs Q E st q=>aqA hh st.1 st.2.1 st.2.2 (by rw[U.length_eq];simp) λh' f=>q h' s.toks λb o hb e=>f b o (λh=>hb (by simp[h])) e
 self:=λ_ _ _ _ st q=>El st.1 q
end
set_option maxRecDepth 100000
set_option compiler.extract_closed false
set_option genSizeOf false
set_option bootstrap.genMatcherCode false
theorem lN.aiW{prog:bf}{w:bo}{h:bx}{a:au}{es:bq (av×ao)}(x:lN prog w h a es):∃ep t,rF w h a es ep t:=let ⟨o,ep,t,j,_,hd,_,_,hf,hT⟩:=x; ⟨ep,t,o,j,hd,hf,hT⟩
section
variable{prog:bf}{w:bo}{A:br}{E:ao->aw->Prop}{s:aw}
theorem al5{a:au}{es:bq (av×ao)}{Q:ao->aw->Prop}(hh:A.handled=ak)(hS:lN prog w s.heap a es)
  (r:∀(I:au) (h':bx) (d:Drawn) (ord:aj ao) (fp:aj au) (St:ay->bx->Prop),ord.Perm (es.toList.map (·.2))->(∀b o,s.heap.get? b=ai o->h'.get? b=ai o)->(∀b∈fp,b=a\/s.heap.objs.size<=b)->s.heap.objs.size<=I ->
   Walks prog w A I fp [I] es.size (λi v=>ord[i]?=ai v) St->St 0 h'->Q (.ref I) {s with heap:=h',drawn:=d}):wpAny (bj prog w) A (pyIter (.ref a)) Q E s:=by
 obtain⟨U,t,l⟩:=hS.aiW;obtain⟨os,g,f,h,hT⟩:=id l;have k:=hS.typeIs;have u:a<s.heap.objs.size:=hS.lt;have m:es.size<dq:=let ⟨_,_,_,_,_,_,_,hb,_,_⟩:=hS;hb;refine wpAny_pyIter_slot k F.slot_set_iter (tU F.slot_set_iter k ay5 ?_ (F.args_set_iter_1 _));unfold Builtin.«frozenset.__iter__»;refine aM (bS ?_);refine aM ?_;unfold Builtin.Frozenset.sizeOf;refine aM (FC g f h (bS ?_));refine aM ?_;unfold setDrawn;refine aM (BW g f h ?_);dsimp only;unfold setsByText;refine aM (aM (BZ (bS (bS ?_))));cases hb:w.params.followText "set-order" with
 |true =>
  refine vJ (oR (show ¬((!w.params.followText "set-order" && (!t.plain&&decide (es.size>1)))=ax)by rw[hb];simp)) (aM (bS ?_));refine aM (wpAny_setEpoch_of g f h ?_);refine aM (pU (bS ⟨_,rfl, "set_iterator",_,⟨_,hU _ rfl,rfl⟩,pG.lookup,?_⟩));have e:s={s with drawn:=s.drawn}:=by cases s;rfl
  have:=r s.heap.objs.size (s.heap.push {cls:=.type "set_iterator",data:=.fields #[.int 0 0,.int 0 0,.ref a,.int es.size 0,.int U 0]}) s.drawn _ _ _ ((Et (w.params.setOrder a U) es).map (·.2)) (λb o e=>eN _ e) (λb hb=>by
   simp only[eK,yZ,xW]at hb
   rcases hb with z|z
   ·exact .inr (by rw[z];exact vA _)
   ·exact .inl z) dD (afD hh _ a (iB u) es U t hb) ⟨hU _ rfl,l.at λo e=>eN _ e⟩
  simpa[b7]using this
 |false =>
  cases hd:(!t.plain&&decide (es.size>1))with
  |false =>
   refine vJ (oR (show ¬((!w.params.followText "set-order" && (!t.plain&&decide (es.size>1)))=ax)by rw[hd];simp)) (aM (bS ?_));refine aM (wpAny_setEpoch_of g f h ?_);refine aM (pU (bS ⟨_,rfl, "set_iterator",_,⟨_,hU _ rfl,rfl⟩,pG.lookup,?_⟩));have:=r s.heap.objs.size (s.heap.push {cls:=.type "set_iterator",data:=.fields #[.int 0 0,.int 0 0,.ref a,.int es.size 0,.int U 0]}) s.drawn _ _ _ (QG _) (λb o e=>eN _ e) (λb hb=>by
    simp only[eK,yZ,xW]at hb
    rcases hb with z|z
    ·exact .inr (by rw[z];exact vA _)
    ·exact .inl z) dD (afC hh _ a (iB u) es U t hb hd) ⟨hU _ rfl,l.at λo e=>eN _ e⟩
   simpa[b7]using this
  |true =>
   refine ZM (rC (show(!w.params.followText "set-order" && (!t.plain&&decide (es.size>1)))=ax by rw[hb,hd];simp)) ?_;refine aM (Ri es.size (List.range es.size) s (by simp) λc d p=>?_);have B:c.length=es.size:=by rw[p.length_eq];simp
   refine aM (wpAny_newTuple ?_ (by rw[lB,B];exact Jv m));have k1:∀b o,s.heap.get? b=ai o->(s.heap.push {cls:=.type "tuple",data:=.seq (c.map λi:ay=>b7 (i:av)).toArray}).get? b=ai o:=λb o e=>eN _ e;refine aM (wpAny_setEpoch_of (k1 a _ g) f h ?_);refine aM (pU (bS ⟨_,rfl, "set_iterator",_,⟨_,hU _ rfl,rfl⟩,pG.lookup,?_⟩));have y:(s.heap.push {cls:=.type "tuple",data:=.seq (c.map λi:ay=>b7 (i:av)).toArray}).objs.size=s.heap.objs.size+1:=JI _ _;have n:(c.map λj=>(es.getD j (0,.none)).2).Perm (es.toList.map (·.2)):=by
    have h1:=p.map λj=>(es.getD j (0,.none)).2;have h2:(List.range es.size).map (λj=>(es.getD j (0,Value.none)).2)=es.toList.map (·.2):=by
     apply YL;intro j;rw[lC,lC]
     by_cases x:j<es.size
     ·simp[x,Array.getD]
     ·simp[x]
    rw[h2]at h1;exact h1
   have:=r (s.heap.objs.size+1) ((s.heap.push {cls:=.type "tuple",data:=.seq (c.map λi:ay=>b7 (i:av)).toArray}).push {cls:=.type "set_iterator",data:=.fields #[.ref s.heap.objs.size,.int 0 0,.ref a,.int es.size 0,.int U 0]}) d _ _ _ n (λb o e=>eN _ (k1 b o e)) (λb hb=>by
    simp only[eK,yZ,xW]at hb
    rcases hb with z|z|z
    ·exact .inr (by rw[z];exact IQ _)
    ·exact .inl z
    ·exact .inr (by rw[z];exact vA _)) (IQ _) (afB hh _ a s.heap.objs.size (iB (Ny u)) (iB (YC _)) es U t c p) ⟨by
     unfold lY;have q:=hU (s.heap.push {cls:=.type "tuple",data:=.seq (c.map λi:ay=>b7 (i:av)).toArray}) (o:={cls:=.type "set_iterator",data:=.fields #[.ref s.heap.objs.size,.int 0 0,.ref a,.int es.size 0,.int U 0]}) rfl;rw[y]at q;exact q,l.at λo e=>eN _ (k1 a o e),eN _ (hU _ rfl)⟩
   rw[<-y]at this;simpa[b7]using this
end
set_option maxRecDepth 100000
set_option compiler.extract_closed false
set_option genSizeOf false
set_option bootstrap.genMatcherCode false
section
variable{prog:bf}{w:bo}{A:br}{E:ao->aw->Prop}{s:aw}
theorem au2{r:au}{Q:bh->aw->Prop}(hT:s.TypeIs (.ref r) "set")(h:Q aq s):wpAny (bj prog w) A (Builtin.List.listLengthHint (.ref r)) Q E s:=by
 unfold Builtin.List.listLengthHint;refine aM (wpAny_specialOf hT F.slot_set_len.lookup ?_);generalize z:("set.__len__" : cy)=j
 wp_delta
 rw[show splitId j=ai ("set", "__len__")from by subst z;decide +kernel];subst z;refine aM (ZN (T := "set") (b:=ax) hT (by rw[isSubtype_type];kernel_rfl) ?_);refine wpAny_ite_split (λq=>bu q (by decide)) (λ_=>?_);refine wpAny_ite_split (λ_=>?_) (λq=>bu (by decide +kernel) q);refine aM (wpAny_typeOf hT ?_);exact bS h
theorem asT{ord:aj ao}{acc:bq ao}(h:ItemsOf (λi v=>ord[i]?=ai v) acc ord.length):acc.toList=ord:=by
 apply YL;intro i;rw[Qx];cases e:acc[i]? with
 |some v=>exact(h.2 i v e).symm
 |none =>
  rw[eq_comm,List.getElem?_eq_none_iff];rw[ae2,h.1]at e;exact e
theorem ayT{R:Result->aw->Prop}{r:au}{es:bq (av×ao)}(hh:A.handled=ak)(hS0:lN prog w s.heap r es)(S:au)(g:S≠r)(res:ao)(U:ay)(hS:s.heap.get? S=ai {cls:=.type "list",data:=.seq #[] U})
  (hR:∀h' tk d k c',(∀b o,b≠S->s.heap.get? b=ai o->h'.get? b=ai o)->h'.get? S=ai {cls:=.type "list",dict:=ak,data:=.seq k c',slots:=#[]}->k.toList.Perm (es.toList.map (·.2))->R (.ok (.ret res)) {s with heap:=h',toks:=tk,drawn:=d}) :
  wpAny (bj prog w) A.in1 (Builtin.List.listExtendWith (.ref S) (.ref r) res)
   (λfin s'=>match fin with | .done f=>R (.ok f) s' | .again c'=>c'.quiet=ax/\codeAny (bj prog w) A c' R s') (λe s'=>R (.error e) s') s:=by
 have n:es.size<dq:=let ⟨_,_,_,_,_,_,_,hb,_,_⟩:=hS0;hb;have NH:S<s.heap.objs.size:=eY hS;unfold Builtin.List.listExtendWith;refine aM (wpAny_typeOf (T := "set") hS0.typeIs ?_);have h1:Builtin.List.listSameRef (.ref S) (.ref r)=aq:=by simp[Builtin.List.listSameRef,g]
 have x:(Value.type "set" == Value.type "list")=aq:=by decide
 have v:(Value.type "set" == Value.type "tuple")=aq:=by decide
 simp only[h1,x,v,Bool.or_false,RF,rV];refine aM (al5 (A:=A.in1) hh hS0 λI D d ord E St p l H t W st=>?_);have UN:ord.length=es.size:=by rw[p.length_eq];simp
 have DJ:S∉E:=λhm=>by
  rcases H S hm with z|z
  ·exact g z
  ·exact bu NH (Nat.not_lt.mpr z)
 have C:S≠I:=λz=>bu NH (by rw[z];exact Nat.not_lt.mpr t);have key:∀(h:bx) (q tk:ay),St 0 h->(∀b o,b≠S->s.heap.get? b=ai o->h.get? b=ai o) ->
   h.get? S=ai {cls:=.type "list",data:=.seq #[] q}->codeAny (bj prog w) A (.builtin "list.extend.loop" ⟨[.ref S,.ref I,res],[]⟩) R {s with heap:=h,toks:=tk,drawn:=d}:=by
  intro h q tk y B i;refine codeAny_extend_loopS W.toS (Jv n) S DJ res es.size 0 _ #[] q rfl TV y i (ItemsOf.nil _) λs' k c' hm nH u=>?_;rw[Moved.eq_with hm];refine hR s'.heap s'.toks d k c' (λb o hb e=>hm.heap b o (λm=>?_) (B b o hb e)) nH (by rw[asT (ord:=ord) (by rw[UN];exact u)];exact p)
  rcases eK.mp m with G|m
  ·exact hb G
  ·exact bu (eY e) (by rw[oX.mp m];exact Nat.not_lt.mpr t)
 have i:=l S _ hS;refine aM (vK (au2 (lN.typeIs (s:={s with heap:=D,drawn:=d}) (hS0.at λo e=>l r o e)) ?_));refine wpAny_ite_split (λ_=>?_) (λ_=>bS ⟨TC PySem.F.plain_extend_loop _,key _ U _ st (λb o _ e=>l b o e) i⟩);refine aM (wpAny_rule ?_);refine aM ?_;show wpAny _ _ (updateSeq S (·.push .none) >>= λ_=>updateSeq S (·.pop)) _ _ _;refine aM (wpAny_updateSeq i rfl ?_);have j:=QJ (Obj.mapSeq (·.push Value.none)) i rfl;refine wpAny_updateSeq (hz:=by seq_fits) j rfl ?_;have a:=QJ (Obj.mapSeq (·.pop)) j rfl;refine bS ⟨TC PySem.F.plain_extend_loop _,key _ _ _ ?_ (λb o hb e=>?_) a⟩
 ·refine W.frame 0 _ _ st λb hb o e=>?_;have c:b≠S:=λh=>DJ (h ▸ hb);exact(sP _ _ (eM c)).trans ((sP _ _ (eM c)).trans e)
 ·exact(sP _ _ (eM hb)).trans ((sP _ _ (eM hb)).trans (l b o e))
theorem aB6{R:aj ao->aw->Prop}{r:au}{es:bq (av×ao)}(hh:A.handled=ak)(hS0:lN prog w s.heap r es)
  (h:∀(h':bx) (tk:ay) (d:Drawn) (acc:bq ao),(∀b o,s.heap.get? b=ai o->h'.get? b=ai o)->acc.toList.Perm (es.toList.map (·.2))->R acc.toList {s with heap:=h',toks:=tk,drawn:=d}) :
  wpAny (bj prog w) A (collect (.ref r)) R E s:=by
 have g:=hS0.lt;unfold collect;refine aM (wpAny_runValue (OM entry_proto_collect' ?_));rw[ZL PySem.F.plain_proto_collect _];show wpAny _ A.in1 (newList [] >>= λl=>again (.builtin "list.__iadd__" ⟨[l,.ref r],[]⟩)) _ _ s;refine aM (pU ?_);refine bS ⟨TC PySem.F.plain_list_iadd _,OM entry_list_iadd' ?_⟩;rw[ZL PySem.F.plain_list_iadd _];have k:(s.heap.push {cls:=.type "list",data:=.seq ([]:aj ao).toArray}).get? s.heap.objs.size=ai {cls:=.type "list",data:=.seq #[]}:=hU _ rfl;show wpAny _ A.in1 (Builtin.List.listExtendWith (.ref s.heap.objs.size) (.ref r) (.ref s.heap.objs.size)) _ _ _;have key:=ayT (A:=A) (s:={s with heap:=s.heap.push {cls:=.type "list",data:=.seq ([]:aj ao).toArray} }) (es:=es)
  (R:=λ(q:Result) (s':aw)=>∃(h':bx) (tk:ay) (d:Drawn) (j:bq ao) (a:ay),q=.ok (.ret (.ref s.heap.objs.size))/\s'={s with heap:=h',toks:=tk,drawn:=d} /\
   (∀b o,s.heap.get? b=ai o->h'.get? b=ai o)/\h'.get? s.heap.objs.size=ai {cls:=.type "list",dict:=ak,data:=.seq j a,slots:=#[]}/\j.toList.Perm (es.toList.map (·.2)))
  hh (hS0.at λo e=>eN _ e) s.heap.objs.size (IP g) (.ref s.heap.objs.size) 0 k
  (λh' tk d j a U nH z=>⟨h',tk,d,j,a,rfl,rfl,λb o e=>U b o (iB (eY e)) (eN _ e),nH,z⟩)
 refine pV key (λfin s' x=>?_) λe s' x=>?_
 ·cases fin with
  |done f =>
   obtain⟨h',tk,d,j,a,e,rfl,U,nH,z⟩:=x;cases e;show wpAny _ A (load s.heap.objs.size >>= _) _ _ _;refine aM (wpAny_load nH ?_);exact bS (h h' tk d j U z)
  |again c =>
   refine⟨x.1,tN x.2 λq s₂ y=>?_⟩;obtain⟨h',tk,d,j,a,rfl,rfl,U,nH,z⟩:=y;show wpAny _ A (load s.heap.objs.size >>= _) _ _ _;refine aM (wpAny_load nH ?_);exact bS (h h' tk d j U z)
 ·obtain⟨_,_,_,_,_,i,_⟩:=x;cases i
end
end PySem
namespace L2
open PySem PySem.Spec PyProof.Rows
section
variable{X:Cx}
def IK(P:bf)(w:bo)(a:au)(ms:aj av)(h:bx):Prop:=∃es nS,lN P w h a es/\Nums es nS/\nS.Perm ms
noncomputable def sC(ns:aj av):aj av:=ns.foldl dk []
theorem alB(ns:aj av):(List.range ns.length).map (λi=>ns.getD i 0)=ns:=by
 apply YL;intro i;rw[lC]
 by_cases h:i<ns.length
 ·rw[List.getElem?_range h];simp[List.getD,h]
 ·rw[YJ (by simp;omega),YJ (by omega)];rfl
theorem aiU{P:bf}{w:bo}{a:au}{ms:aj av}{H:Hp}{h:bx}(x:IK P w a ms h):jA P w H h a (.ext (IK P w a ms)):=by
 refine⟨x,?_,λh1 h2 y k=>?_⟩
 ·obtain⟨es,nS,j,_⟩:=x;obtain⟨o,_,_,z,_⟩:=j;exact⟨o,z⟩
 ·obtain⟨es,nS,j,q⟩:=y;exact⟨es,nS,j.at k,q⟩
theorem aCO(g:X.calm=ax):pS X (.type "set") (λxs H Q=>∃(a:au) (ns:aj av),xs=[.ref a]/\fE X.K H a (ns.map V.int)/\ns.length<4000 /\
  ∀l,H l=ak->Q (.ref l) (upd H l (.ext (IK X.prog X.w l (sC ns))))):=by
 intro aa s J H xs m Q I r h;obtain⟨a,ns,rfl,d,p,q⟩:=h;obtain⟨u,rfl,c⟩:=vals1 r;cases c;obtain⟨U,z,pl,n⟩:=I.list d;have k:c4 U ns:=intsAre_of z;have hl:U.length=ns.length:=by rw[<-z.length,lB]
 refine aCN (I.ok.hd g) pl.isList k (by rw[jB,hl];show ns.length+1<4096;omega) λh' tk es ms hT i j f=>?_;rw[jB,hl]at j;unfold firstMet at j;rw[alB]at j;exact⟨.ref s.heap.objs.size,_,I.laid (t':=tk) (o:=.ext (IK X.prog X.w s.heap.objs.size (sC ns))) (λb o e=>f b o (eY e) e) dD (aiU ⟨es,ms,hT,i,j⟩),rfl,q _ (I.aL.fresh dD)⟩
theorem Inv.drawn{aa:aj (au×cq)}{J:St}{H:Hp}{s:aw}(I:Inv X aa J H s)(d:Drawn):Inv X aa J H {s with drawn:=d} :=
 ⟨I.ok,I.os,I.bare,I.base,I.loc,I.cell,I.free,I.nV,I.pin,I.aL,I.len⟩
theorem as1:∀{l q:aj ao},q.Perm l->∀{ms:aj av},c4 l ms->∃nS,c4 q nS/\nS.Perm ms:=by
 intro l q h
 induction h with
 |nil=>intro ms h;exact⟨ms,h,QG _⟩
 |cons x _ ih =>
  intro ms h;cases h with
  |cons n t r=>obtain⟨nS,a,b⟩:=ih r;exact⟨n::nS,.cons n t a,b.cons n⟩
 |swap x y l =>
  intro ms h;cases h with
  |cons n t r =>
   cases r with
   |cons j U r=>exact⟨j::n::_,.cons j U (.cons n t r),.swap n j _⟩
 |trans _ _ z i =>
  intro ms h;obtain⟨k,g,e⟩:=i h;obtain⟨c,f,d⟩:=z g;exact⟨c,f,d.trans e⟩
theorem aCL(F:X.calm=ax):pS X (.builtin "sorted") (λxs H Q=>∃(d:au) (j:aj av),xs=[.ref d]/\H d=ai (.ext (IK X.prog X.w d j))/\j.length<64 /\
  ∀(ms:aj av) (l:au),ms.Perm j->ms.Pairwise (· <= ·)->H l=ak->Q (.ref l) (upd H l (.lst (ms.map V.int)))):=by
 intro aa s J H xs S Q I r h;obtain⟨d,j,rfl,hd,T,q⟩:=h;obtain⟨u,rfl,y⟩:=vals1 r;cases y;obtain⟨⟨es,C,hT,K,G⟩,_,_⟩:=I.aL _ _ hd;have D:(64:ay)<=az:=by decide
 refine Calls.call_function_entry kind_sorted plain_sorted entry_sorted (args_sorted1 _) ?_;unfold Builtin.«sorted»;refine aM (m:=checkCount "sorted" 1 1 _) (bS ?_);refine aM (aB6 (A:=X.A.in1) (I.ok.hd F) hT λh' tk o acc N B=>?_);obtain⟨f,i,OA⟩:=as1 B K;have U:f.Perm j:=OA.trans G;have hl:acc.toList.length=j.length:=by
  have:∀{c:aj ao} {ns:aj av},c4 c ns->c.length=ns.length:=by
   intro c ns h
   induction h with
   |nil=>rfl
   |cons n t _ ih=>simp[ih]
  rw[this i,U.length_eq]
 refine aM (wpAny_newList ?_ (by rw[hl];omega));have a:(h'.push (dj "list" acc.toList.toArray 0)).get? h'.objs.size=ai (dj "list" acc.toList.toArray 0):=hU _ rfl;refine aM (vK (tU slot_list_sort ⟨_,a,rfl⟩ entry_list_sort (list_sort_tree a i (by omega) λab z M p L=>⟨_,rfl,?_⟩) (args_list_sort _)));refine bS ⟨_,rfl,?_⟩;have v:Inv X aa J H {s with heap:=h',toks:=tk,drawn:=o}:=(I.kept (t':=tk) N).drawn o;have E:H h'.objs.size=ak:=v.aL.fresh dD;obtain⟨k,R⟩:∃k,((h'.push (dj "list" acc.toList.toArray 0)).update h'.objs.size (Obj.mapSeq λ_=>#[])).get? h'.objs.size=ai (dj "list" #[] k):=⟨_,get?_update_seq a (λ_=>#[])⟩;have x:=eN (dj "list" #[] 0) (eN (dj "tuple" acc.toList.toArray 0) R);obtain⟨g,P⟩:∃g,(sortedHeap (h'.push (dj "list" acc.toList.toArray 0)) h'.objs.size acc.toList ab).get? h'.objs.size=ai (dj "list" ab g):=⟨_,get?_update_seq x (λ_=>ab)⟩;have kp:∀b u,h'.get? b=ai u->(sortedHeap (h'.push (dj "list" acc.toList.toArray 0)) h'.objs.size acc.toList ab).get? b=ai u:=λb u e=>by
  have hb:b≠h'.objs.size:=iB (eY e);unfold sortedHeap;exact(sP _ _ (eM hb)).trans (eN _ (eN _ ((sP _ _ (eM hb)).trans (eN _ e))))
 have hv:Vals (z.map V.int) ab.toList:=RP M;have W:z.length=j.length:=(p.trans U).length_eq;refine⟨.ref h'.objs.size,upd H h'.objs.size (.lst (z.map V.int)),v.laid (t':=tk) kp dD ?_,rfl,q z _ (p.trans U) L E⟩;exact⟨by rw[lB];omega,ab.toList,g,hv,P⟩
end
end L2
namespace PySem
open PyProof.Rows PySem.Spec
set_option maxRecDepth 100000
set_option compiler.extract_closed false
set_option genSizeOf false
set_option bootstrap.genMatcherCode false
end PySem
namespace V2
open PySem PySem.Spec PyProof.Rows L2
section
variable{X:Cx}{W:WX}{e o:bp}
@[simp] def RQ(c:bh)(f:Ev->Mo A):Ev->Mo A:=λY=>mb (f Y) λa Z=>match (eL Z a).bind intsOf with
 |some ns=>if ns.length<4000/\(sC ns).length<64 then jR c ((sortI (sC ns)).map A.int) Z else ak
 |none=>ak
theorem afR{f:Ev->Mo A}{E p2 D q:cx}(c:bh)(i:X.calm=ax)(d:Gl X "sorted")(U:X.mg "sorted" = ak)(b:Gl X "set")(z:X.mg "set" = ak)(he:VE X W e f)
  (g:ba [.Call (.Name "set" p2) [e] [] q] X.env=(aq,bz (.Call (.Name "set" p2) [e] [] q) X.env)::ba [] X.env:=by rfl)
  (m:ba [e] X.env=(aq,bz e X.env)::ba [] X.env:=by rfl) :
  VE X W (.Call (.Name "sorted" E) [.Call (.Name "set" p2) [e] [] q] [] D) (RQ c f):=by
 obtain⟨t,p,s⟩:=he;refine⟨_,Ew (aCL i) d U boot_sorted (zW (Vx (aCO i) b z PyProof.Rows.boot_set (zW p CO m) (by decide) (by decide) m rfl) CO g) (by decide) (by decide) g rfl,λG x B H J o Q w r h=>?_⟩;show t J H _;refine s G x B H J o _ w r (cA.mb h λa y v T V u R j M h1=>?_);split at h1
 ·rename_i ns k;split at h1
  ·rename_i hl;rw[YB]at k;obtain⟨ds,L,K⟩:=k;obtain⟨p,P,rfl,h2,I⟩:=qY j M L;rw[MR K I]at h2;refine⟨p,ns,rfl,h2,hl.1,λl n=>?_⟩;refine⟨l,sC ns,rfl,eX,hl.2,λms S F C N=>?_⟩;rw[Tv F C];exact AA (j.new n (.ext (IK X.prog X.w l (sC ns)))) N (OL _) (h1.ext (Ext.new (j.oN n) _))
  ·exact False.elim h1
 ·exact False.elim h1
theorem Rw:∀{kvs:aj (Key×V)} {vs:aj (Key×ao)},KV kvs vs->Vals (kvs.map (·.2)) (vs.map (·.2))
 |_,_,.nil => .nil
 |_,_,.cons r t => .cons r.2 (Rw t)
theorem anT{td:TE}{G af m U:cx}(N:X.calm=ax)(V:Gl X "list")(GV:X.mg "list" = ak)(M:PE X o td)
  (u:ba [.Call (.Attribute o "values" af) [] [] U] X.env=[(aq,bz (.Call (.Attribute o "values" af) [] [] U) X.env)]:=by rfl)
  (D:b0 o "values" X.env (bz o X.env)=bz o X.env:=by rfl) (E:(af.endLine==U.line)=ax:=by rfl) :
  PE X (.Call (.Name "list" G) [.Call (.Attribute o "values" af) [] [] U] [] m) (λJ H Q=>td J H λx H1=>∃a kvs,x=.ref a/\H1 a=ai (.dK kvs) /\
   ∀(l:au),H1 l=ak->Q (.ref l) (upd H1 l (.lst (kvs.map (·.2))))):=by
 intro aa s J H Q I h;refine tV (AE I V GV XZ ?_);refine PY ?_ u rfl;rw[u];show wpAny _ _ (spliced ((aq,bz (.Call (.Attribute o "values" af) [] [] U) X.env)::[])) _ _ s;refine KL ?_;refine Rj D E (bT (M aa s J H _ I h) λv j ⟨x,H1,p,C,m⟩=>?_);obtain⟨a,kvs,rfl,A,q⟩:=m;cases C;obtain⟨h1,h2,S⟩:=MQ p (.inl ⟨kvs,.inl A⟩);obtain⟨z,_,f,rel,n⟩:=HV p.aL A;refine⟨"dict", "dict.values",PySem.F.plainAttrs_dict,PySem.F.slot_dict_values,PySem.F.type_dict_values,h1,h2,RD rfl (PySem.evalArgs_none ?_)⟩;refine OQ PySem.F.slot_dict_values n.typeIs PySem.F.entry_dict_values (PySem.F.args_dict_values_1 _) (meets_dict_values (kI X.prog X.w) a S) ⟨⟨f,n⟩,?_⟩;refine RC ?_;have g:Inv X aa J H1 {j with heap:=j.heap.push {cls:=.type "dict_values",data:=.fields #[.ref a]} }:=p.kept (t':=j.toks) λb o e=>eN _ e;obtain⟨ep,K⟩:=n.dictAt;have L:kvs.length=f.length:=rel.length;refine PySem.W.kdl_call (s:={j with heap:=j.heap.push {cls:=.type "dict_values",data:=.fields #[.ref a]} }) (PySem.W.kdl_values (knd:=kI X.prog X.w) (r:=j.heap.objs.size) (d:=a) (kvs:=f) (ep:=ep)) (g.ok.hd N) ⟨⟨_,hU _ rfl,rfl,rfl⟩,K.push _⟩ (by omega) λh' tk acc c y hS t=>?_;generalize uL:({j with heap:=j.heap.push {cls:=.type "dict_values",data:=.fields #[.ref a]} }:aw)=B at g y hS;have P:acc.toList=f.map (·.2):=by
  apply YL;intro i
  by_cases hi:i<acc.toList.length
  ·obtain⟨k,R⟩:=t.2 i _ (by rw[<-Qx];exact dR hi);rw[dR hi,lC,R];rfl
  ·have:=t.1;rw[tT]at hi;rw[YJ (by rw[tT];omega),YJ (by rw[lB];omega)]
 have hv:Vals (kvs.map (·.2)) acc.toList:=by rw[P];exact Rw rel
 have T:=g.laid (t':=tk) (o:=.lst (kvs.map (·.2))) y dD ⟨by rw[lB];omega,acc.toList,c,hv,by simpa using hS⟩;exact⟨.ref B.heap.objs.size,_,T,rfl,q _ (g.aL.fresh dD)⟩
theorem Sk{l:au}:∀(as:aj au) (j:aj (aj V)) (H:Hp),l∉as->tZ H as j l=H l
 |[],j,H,_=>by cases j <;> rfl
 |_::_,[],H,_=>rfl
 |b::as,t::j,H,h=>by
  show tZ (upd H b (.tup t)) as j l=H l;rw[Sk as j _ λz=>h (gJ _ z),cD λz=>h (by rw[z];exact List.mem_cons_self ..)]
end
@[simp] def jO(cs:aj a5)(i:ay)(f:a5)(k:aj (Key×A)->Mo A):Ev->Mo A:=λY Z=>match uE cs i f Y Z with
 |some (_,_,_,.bH kvs)=>k kvs Z
 |_=>ak
section
variable{X:Cx}{W:WX}{e:bp}{i:ay}{f:a5}{cs:aj a5}{mY:cx}
theorem RN{te:TE}{k:aj (Key×A)->Mo A}{R:V->Hp->VK->Prop}(s:fJ X.K (Den X.K) W te (dA i))(n:fG X.K cs f)
  (m:∀G O Z H J b vs kvs Q,Wd X.K G O Z H->H b=ai (.dK vs)->vs.map (·.1)=kvs.map (·.1)->bJ X.K G O (vs.map (·.2)) (kvs.map (·.2))->cA X.K (Den X.K) W G O J Q (k kvs Z)->R (.ref b) H Q) :
  fJ X.K (Den X.K) W (λJ H Q=>LG X.K te f J H λx H1=>R x H1 Q) (jO cs i f k):=by
 intro G O Z H J q Q w r h;unfold jO at h;split at h
 ·rename_i s0 cls fs kvs eo;obtain⟨h1,h2,y,t⟩:=Wb eo;show te J H _;refine s G O Z H J q _ w r ?_;show cA X.K (Den X.K) W G O J _ (need (q[i]?).join Z);rw[h1];intro v H1 M j c z L;obtain⟨a,C,I,d,rfl,ha,N,B,o,p⟩:=z.ins h2 L;obtain⟨T,U,g,e⟩:=n cls y;rw[B]at U;cases U;obtain⟨u,l,b,vs,rfl,S,P,F,E,D⟩:=p.look t;exact⟨a,C,I,d,.ref b,rfl,o,g,e,l,m M j Z H1 J b vs kvs Q z F E D (h.ext c)⟩
 ·exact h.elim
theorem afY{c U:cx}(he:VE X W e (dA i))(g:fG X.K cs f)(d:Gl X "len")(hm:X.mg "len" = ak)
  (hb:b0 e f X.env (bz e X.env)=bz e X.env:=by rfl)
  (q:ba [.Attribute e f mY] X.env=(aq,bz (.Attribute e f mY) X.env)::ba [] X.env:=by rfl) :
  VE X W (.Call (.Name "len" c) [.Attribute e f mY] [] U) (jO cs i f λkvs=>ret (.int kvs.length)):=by
 obtain⟨t,p,s⟩:=he;refine⟨_,Ew aCV d hm PySem.boot_len (zW (LY p hb) CO q) (by decide) (by decide) q rfl,?_⟩;refine RN (R:=λx H Q=>∃a kvs,[x]=[V.ref a]/\H a=ai (.dK kvs)/\Q (.int kvs.length) H) s g λG z k H J b j kvs Q w hb k1 l h=>?_;have hl:j.length=kvs.length:=by have:=c7 List.length k1;simpa using this
 exact⟨b,j,rfl,hb,h _ H G z (Ext.refl _ _) w (by simp only[Den];rw[hl])⟩
theorem ZZ(c:bh){r af o q:cx}(D:X.calm=ax)(he:VE X W e (dA i))(A:fG X.K cs f)(y:Gl X "list")(hm:X.mg "list" = ak)
  (hb:b0 e f X.env (bz e X.env)=bz e X.env:=by rfl)
  (v:ba [.Call (.Attribute (.Attribute e f mY) "items" af) [] [] q] X.env=[(aq,bz (.Call (.Attribute (.Attribute e f mY) "items" af) [] [] q) X.env)]:=by rfl)
  (m:b0 (.Attribute e f mY) "items" X.env (bz (.Attribute e f mY) X.env)=bz (.Attribute e f mY) X.env:=by rfl) (n:(af.endLine==q.line)=ax:=by rfl) :
  VE X W (.Call (.Name "list" r) [.Call (.Attribute (.Attribute e f mY) "items" af) [] [] q] [] o) (jO cs i f λkvs=>jR c (kvs.map mW)):=by
 obtain⟨t,p,s⟩:=he;refine⟨_,anU D y hm (LY p hb) v m n,?_⟩;refine RN (R:=λx z Q=>∃a kvs,x=.ref a/\z a=ai (.dK kvs) /\
   ∀(j:aj au) (l:au),j.length=kvs.length->j.Nodup->l∉j->(∀b∈j,z b=ak)->z l=ak->Q (.ref l) (upd (tZ z j (kvs.map λd=>[kV d.1,d.2])) l (.lst (j.map V.ref)))) s A λG g I H J b U kvs Q w hb k1 u h=>?_
 refine⟨b,U,rfl,hb,λj l hl hn F hb E=>?_⟩;obtain⟨L,B,k,C⟩:=Sn j U kvs G H g w hl hn hb k1 u;exact AA k (by rw[Sk j _ _ F];exact E) C (h.ext B)
end
theorem aDC{K:bg}{mg:a5->ar ao}{h:bx}{j m q:a5}{st:bt}{R f:au}{a:ao}{od d:ar au}{b:bq (ar ao)}{kV doc U z ct:ao}(X:K.In h)(G:h.Ns bc mg)(n:dz K bc j=ai (ai (.ref R)))
  (r:PySem.W.readsIn K R (.type "type")=ax) (fi:PySem.W.findCls K (.ref R) (.type "type") m=ai (.val (.ref f))) (ga:specialIn K (.ref R) "__getattribute__" = ai (ai (.builtin "type.__getattribute__")))
  (l:K.lookup f=ai ⟨a,od,.func (dw m q (iZ st) (fI st) (bC st) .none kV doc U d z ct),b⟩) (c:codeIn K z q=ax) (k:di K (.ref f)=ax):YW K mg j m q st :=
 ⟨R,f,_,mg_of X G n,⟨r,fi,ga,k⟩,OE l c k⟩
end V2
namespace L2
open PySem PySem.Spec PyProof.Rows
structure aeS(K:bg)(C:au):Prop where
 cls:nL K C
 ha:c6 K (.ref C) "__class__" = ai (ai (.builtin "object.__class__"))
 hn:specialIn K (.builtin "object.__class__") "__get__" = ai (ai (.builtin "getset_descriptor.__get__"))
 tk:takesIn K (.builtin "object.__class__")=ai ax
 mro:mroIn K C (.type "object")=ai ax
section
variable{X:Cx}
theorem aCX:pS X (.builtin "isinstance") (λxs H Q=>∃(a C D dx:au) (fs:aj (a5×V)) (b:bh),xs=[.ref a,.ref D]/\H a=ai (.ins C dx fs)/\aeS X.K C/\kitOne X.K (.ref C) (.ref D)=ai b/\Q (.bl b) H):=by
 intro aa s J H xs i Q I r h;obtain⟨a,C,D,dx,fs,b,rfl,g,iso,e,q⟩:=h;obtain⟨u,v,rfl,U,j⟩:=vals2 r;obtain rfl:u=.ref a:=U;obtain rfl:v=.ref D:=j;obtain⟨d,z,ne,c,m,n,k,l⟩:=I.aL a _ g;obtain⟨od,hd⟩:∃od,s.heap.get? dx=ai od:=by
  obtain⟨o,_,_,f,_⟩:=n;exact⟨o,f⟩
 have Ω:=PySem.W.kitx_own (x:=a) (D:=C) (ox:=instObj C dx) (od:=od) (iso.cls.get _) iso.cls.hd iso.ha iso.hn iso.tk iso.mro;exact kia_one Ω I.gG ⟨c,rfl,rfl,hd⟩ e (by intro z;cases z) λtk=>⟨.bl b,H,I.tok tk,rfl,q⟩
end
end L2
namespace V2
open PySem PySem.Spec PyProof.Rows L2
def Pb(K:bg)(cs:aj a5):Prop:=∀c∈cs,∀d∈cs,∃C D,dz K bc c=ai (ai (.ref C))/\dz K bc d=ai (ai (.ref D))/\aeS K C/\kitOne K (.ref C) (.ref D)=ai (decide (c=d))
theorem ar1{K:bg}{C:au}:kitOne K (.ref C) (.ref C)=ai ax:=by
 unfold kitOne;rw[a8 (by simp)]
theorem asV{K:bg}{c:a5}{C:au}(n:dz K bc c=ai (ai (.ref C)))(L:nL K C)
  (ha:c6 K (.ref C) "__class__" = ai (ai (.builtin "object.__class__"))) (hn:specialIn K (.builtin "object.__class__") "__get__" = ai (ai (.builtin "getset_descriptor.__get__")))
  (tk:takesIn K (.builtin "object.__class__")=ai ax) (mro:mroIn K C (.type "object")=ai ax):Pb K [c]:=λa j b q=>by
 simp only[oX]at j q;subst j;subst q;exact⟨C,C,n,n,⟨L,ha,hn,tk,mro⟩,by rw[ar1];simp⟩
structure Ph(K:bg)(mg:a5->ar ao)(x:a5):Prop where
 ex:∃C,mg x=ai (.ref C)/\dz K bc x=ai (ai (.ref C))
section
variable{X:Cx}{W:WX}{x:a5}{pos:cx}
theorem afV(h:Ph X.K X.mg x)(j:Gl X x)(hd:(x==("__debug__" : a5))=aq:=by decide):VE X W (.Name x pos) (cG x):=by
 obtain⟨C,h1,h2⟩:=h.ex;exact afU j h1 h2 hd
@[simp] noncomputable def Jk(cs:aj a5)(as:aj A):Mo A:=λZ=>match as with
 | [.aJ s,.gl d]=>(match Z[s]? with
  |some (.ins c _)=>if c∈cs/\d∈cs then ai (.ok (.bl (decide (c=d))),Z)else ak
  | _=>ak)
 |_=>ak
theorem aC1{cs:aj a5}(T:Pb X.K cs):tS X W (.builtin "isinstance") (Jk cs):=by
 refine⟨_,aCX,?_⟩;intro G b o H J p u Q w d h;unfold Jk at h;split at h
 ·rename_i s m;split at h
  ·rename_i c fs eo;split at h
   ·rename_i z;obtain⟨x,y,rfl,n,U⟩:=WA d;obtain⟨a,C,l,f,rfl,ha,r,k,g,t⟩:=w.ins eo n;simp only[Den]at U;obtain⟨D,i,rfl⟩:=U;obtain⟨A,v,q,j,iso,e⟩:=T c z.1 m z.2;rw[k]at q;cases q;rw[i]at j;cases j;exact⟨a,C,D,l,f,_,rfl,g,iso,e,h _ H G b (Ext.refl _ _) w (by simp only[Den])⟩
   ·exact False.elim h
  ·exact False.elim h
 ·exact False.elim h
end
noncomputable def tK(kvs:aj (Key×A))(k:Key):aj (Key×A):=kvs.filter λj=>decide (j.1≠k)
section
variable{K:bg}{G:Hp}{O:aj au}
theorem abO{k:Key}:∀{j:aj (Key×V)} {kvs:aj (Key×A)},j.map (·.1)=kvs.map (·.1)->bJ K G O (j.map (·.2)) (kvs.map (·.2))->(sA j k).map (·.1)=(tK kvs k).map (·.1)/\bJ K G O ((sA j k).map (·.2)) ((tK kvs k).map (·.2))
 |[],[],_,_=>⟨rfl,.nil⟩
 |[],_::_,h,_=>by simp at h
 |_::_,[],h,_=>by simp at h
 |p::j,q::kvs,h,d=>by
  simp only[cV,rK]at h;obtain⟨x,r,e,n,m⟩:=d.nP;simp only[cV,rK]at e;obtain⟨l,i⟩:=e;obtain⟨g,f⟩:=abO (k:=k) h.2 (i ▸ m)
  by_cases U:q.1=k
  ·have a:p.1=k:=h.1.trans U;have c:sA (p::j) k=sA j k:=by simp[sA,a]
   have b:tK (q::kvs) k=tK kvs k:=by simp[tK,U]
   rw[c,b];exact⟨g,f⟩
  ·have a:¬p.1=k:=λz=>U (h.1.symm.trans z);have c:sA (p::j) k=p::sA j k:=by simp[sA,a]
   have b:tK (q::kvs) k=q::tK kvs k:=by simp[tK,U]
   rw[c,b];simp only[cV];exact⟨by rw[h.1,g],.cons (by rw[l];exact n) f⟩
end
section
variable{X:Cx}{W:WX}{o e:bp}{i:ay}{f:a5}{cs:aj a5}{fo fi:Ev->Mo A}{pos af mY:cx}
@[simp] def Jn(o k:A):Mo A:=λZ=>match lL Z o,lH k with
 | some (c,kvs),ai key=>(match fW kvs key with
  |some a=>ai (.ok a,Z.set c (.bH (tK kvs key)))
  | none=>ak)
 |_,_=>ak
open Classical in
@[simp] noncomputable def FN(fo fi:Ev->Mo A):Ev->Mo A:=λY=>mb (fo Y) λo Z=>if Gw Z o then mb (fi Y) (λk=>Jn o k) Z else ak
theorem afZ(ho:VE X W o fo)(hi:VE X W e fi)(m:M1 X o "pop" af e pos):VE X W (.Call (.Attribute o "pop" af) [e] [] pos) (FN fo fi):=by
 obtain⟨t,S,M⟩:=ho;obtain⟨u,R,L⟩:=hi;refine⟨_,an1 S R m,λG A C H J b Q w r h=>?_⟩;refine M G A C H J b _ w r (cA.mb h λx z v H1 G1 q E f s h1=>?_);split at h1
 ·rename_i hd;obtain⟨k0,arW,e0⟩:=hd;obtain⟨p,F,rfl,hk,g,P,q2,q3⟩:=yR f s e0;refine⟨p,rfl,.inl ⟨F,.inl P⟩,?_⟩;refine L G1 q z H1 J b _ f (r.ext E) (cA.mb h1 λy B u H2 G2 j D d d2 h2=>?_);unfold Jn at h2;split at h2
  ·rename_i c U key e1 e2;split at h2
   ·rename_i a ea;obtain⟨p',T,AK,HA,g',N,n,l⟩:=yR d (s.ext D) e1;cases AK;obtain⟨i,K,I⟩:=(FI n l).1 a ea;obtain⟨k1,V⟩:=abO (k:=key) n l;rw[GP d2 e2];exact⟨T,key,i,N,rfl,K,h2 i _ G2 j (Ext.refl _ _) (d.put (c:=.bH (tK U key)) HA g' ⟨g',_,eX,k1,V⟩) I⟩
   ·exact False.elim h2
  ·exact False.elim h2
 ·exact False.elim h1
@[simp] def FK(neg:bh)(cs:aj a5)(i:ay)(f:a5)(fi:Ev->Mo A):Ev->Mo A:=λY=>mb (fi Y) λk=>jO cs i f (λkvs Z=>match lH k with
 |some key=>ai (.ok (.bl (if neg then !(fW kvs key).isSome else(fW kvs key).isSome)),Z)
 | none=>ak) Y
theorem aiM{te ty:TE}{neg:bh}(F:fG X.K cs f)(h1:fJ X.K (Den X.K) W ty fi)(h2:fJ X.K (Den X.K) W te (dA i)):fJ X.K (Den X.K) W (if neg then Az ty (LG X.K te f)else Ba ty (LG X.K te f)) (FK neg cs i f fi):=by
 have key:∀G z U H J d (Q:VK),Wd X.K G z U H->iH X.K G z J d->cA X.K (Den X.K) W G z J Q (FK neg cs i f fi d U)->ty J H λy m=>LG X.K te f J m λx e=>∃a o,x=.ref a/\nZ e a y o/\Q (.bl (if neg then !o.isSome else o.isSome)) e:=by
  intro G z U H J d Q w r h;refine h1 G z U H J d _ w r (cA.mb h λy l v m M g t u L q=>?_);refine RN (R:=λx e Q=>∃a o,x=.ref a/\nZ e a v o/\Q (.bl (if neg then !o.isSome else o.isSome)) e) h2 F (k:=λj U=>match lH y with
   |some key=>if kV key=v then ai (.ok (.bl (if neg then !(fW j key).isSome else(fW j key).isSome)),U)else ak
   | none=>ak) (λG z U H J b n j Q w hb k1 C h=>?_) M g l m J d Q u (r.ext t) ?_
  ·cases c:lH y with
   |none=>rw[c]at h;exact h.elim
   |some key =>
    rw[c]at h;simp only at h;split at h
    ·rename_i s;refine⟨b,kN n key,rfl,by rw[<-s];exact nZ.k hb,?_⟩;have I:(kN n key).isSome=(fW j key).isSome:=by
      obtain⟨E,D⟩:=FI (k:=key) k1 C;cases p:fW j key with
      |none=>simp[D p]
      |some a=>obtain⟨N,A,_⟩:=E a p;simp[A]
     rw[I];exact h _ H G z (Ext.refl _ _) w (by simp only[Den])
    ·exact h.elim
  ·unfold jO at q ⊢;split
   ·rename_i s0 cls fs j eo;rw[eo]at q;simp only at q;cases c:lH y with
    |none=>rw[c]at q;exact q.elim
    |some key =>
     rw[c]at q;simp only at q ⊢;rw[a8 (GP L c).symm];exact q
   ·rename_i B;split at q
    ·rename_i eo;exact(B _ _ _ _ eo).elim
    ·exact q
 cases neg with
 |true=>exact key
 |false=>exact key
theorem afG(a:X.A.units+1<de)(hi:VE X W e fi)(b:VE X W o (dA i))(c:fG X.K cs f)(hb:b0 o f X.env (bz o X.env)=bz o X.env:=by rfl)(h1:cw .In (.Attribute o f mY)=aq:=by rfl):VT X W (.Compare e [.In] [.Attribute o f mY] pos) (bL (FK aq cs i f fi)):=by
 obtain⟨t,U,q⟩:=hi;obtain⟨u,z,j⟩:=b;exact⟨_,Vl (aoH a U (LY z hb)) h1,LP (aiM (neg:=aq) c q j)⟩
end
section
variable{X:Cx}{W:WX}{e:bp}{i:ay}{f:a5}{cs:aj a5}{mY:cx}
theorem afX(c:bh){k af g j:cx}(u:X.calm=ax)(he:VE X W e (dA i))(r:fG X.K cs f)(o:Gl X "list")(hm:X.mg "list" = ak)
  (hb:b0 e f X.env (bz e X.env)=bz e X.env:=by rfl)
  (n:ba [.Call (.Attribute (.Attribute e f mY) "values" af) [] [] j] X.env=[(aq,bz (.Call (.Attribute (.Attribute e f mY) "values" af) [] [] j) X.env)]:=by rfl)
  (U:b0 (.Attribute e f mY) "values" X.env (bz (.Attribute e f mY) X.env)=bz (.Attribute e f mY) X.env:=by rfl) (d:(af.endLine==j.line)=ax:=by rfl) :
  VE X W (.Call (.Name "list" k) [.Call (.Attribute (.Attribute e f mY) "values" af) [] [] j] [] g) (jO cs i f λkvs=>jR c (kvs.map (·.2))):=by
 obtain⟨t,p,s⟩:=he;refine⟨_,anT u o hm (LY p hb) n U d,?_⟩;refine RN (R:=λx q Q=>∃a kvs,x=.ref a/\q a=ai (.dK kvs)/\∀(l:au),q l=ak->Q (.ref l) (upd q l (.lst (kvs.map (·.2))))) s r λG v y H J b z kvs Q w hb k1 m h=>?_;exact⟨b,z,rfl,hb,λl hl=>AA w hl m h⟩
end
section
variable{P:bf}{w:bo}{K:bg}{mg:a5->ar ao}{base:bx}
theorem bW.o{x:a5}{st:bt}{N ps:aj a5}{k:ay}{b:MS}(h:HasFn K mg x st)(S:cM N ps (bC st))
  (q:∀{f:au} {j:ao} {A:br} {outer:aj Env} {s:aw} {H:Hp} {E:XK},cZ k (A.deeper (cv x (bC st) s.heap.objs.size f j)) ->
   kZ (nX P w K mg base N x (bC st) f j A outer s H E) (λ_=>E) (fI st) b)
  (bind:∀(kV doc pm:ao) (an:ar au) (j ct:ao) (us:aj ao),us.length=ps.length->c3 (dw x x (iZ st) (fI st) (bC st) .none kV doc pm an j ct) ⟨us,[]⟩=pure (ps.zip us):=by exact λ_ _ _ _ _ _ us hl=>(by first|exact Al us hl λ_=>rfl|exact tY us hl λ_ _=>rfl|exact Ak us hl λ_ _ _=>rfl|exact Aj us hl λ_ _ _ _=>rfl|exact Sh us hl λ_ _ _ _ _=>rfl)) :
  bW P w K mg base x (k+1) ps (cN N.length b):=bW.of h S bind λ_ _ _ _ _ _ _=>q
theorem cR.o{cls m qual:a5}{st:bt}{N ps:aj a5}{k:ay}{b:MS}(h:lQ K mg cls m qual st)(S:cM N ps (bC st))
  (q:∀{f:au} {j:ao} {A:br} {outer:aj Env} {s:aw} {H:Hp} {E:XK},cZ k (A.deeper (cv qual (bC st) s.heap.objs.size f j)) ->
   kZ (nX P w K mg base N qual (bC st) f j A outer s H E) (λ_=>E) (fI st) b)
  (bind:∀(kV doc pm:ao) (an:ar au) (j ct:ao) (us:aj ao),us.length=ps.length->c3 (dw m qual (iZ st) (fI st) (bC st) .none kV doc pm an j ct) ⟨us,[]⟩=pure (ps.zip us):=by exact λ_ _ _ _ _ _ us hl=>(by first|exact Al us hl λ_=>rfl|exact tY us hl λ_ _=>rfl|exact Ak us hl λ_ _ _=>rfl|exact Aj us hl λ_ _ _ _=>rfl)) :
  cR P w K mg base cls m (k+1) ps.length [] (cN N.length b):=cR.of h S bind λ_ _ _ _ _ _ _=>q
end
section
variable{X:Cx}{W:WX}
theorem eA(i:ay){x:a5}{pos:cx}(z:decide X.N.Nodup=ax:=by kernel_rfl)(hi:X.N[i]?=ai x:=by rfl)(j:Loc X.env.scope x:=by first|exact .inl rfl|exact .inr rfl)(q:X.fn x=ax\/X.env.scope.names.lookup x=ai .local:=by first|exact .inl rfl|exact .inr rfl|assumption):VG X W (.Name x pos) (gN i):=afP (Wm z) hi j q
theorem cE(i:ay){x:a5}{e:bp}{fe:Ev->Mo A}{pos pos':cx}(he:VE X W e fe)(U:decide X.N.Nodup=ax:=by kernel_rfl)(hi:X.N[i]?=ai x:=by rfl)(j:Loc X.env.scope x:=by first|exact .inl rfl|exact .inr rfl)(q:df e (ai (.Name x pos')) pos.line X.env=pure aq:=by rfl)(z:X.fn x=ax\/X.env.scope.names.lookup x=ai .local:=by first|exact .inl rfl|exact .inr rfl|assumption) :
  VS X W (.Assign [.Name x pos'] e pos) (bM fe (gN i)):=afK (Wm U) hi j he q z
theorem xO{elt tg iter:bp}{ifs:aj bp}{scope:b9}{pos:cx}{fi:Ev->Mo Src}{g:A->MS}{c:Ev->Mo bh}{e:Ev->Mo A}(q:bh)(j:aj a5)(js:aj ay)(hi:VI X W tg iter fi)
  (hb:∀{cl C s H fp},VG (iN X scope j js cl C s H fp) vX tg g/\IJ (iN X scope j js cl C s H fp) vX ifs c/\VE (iN X scope j js cl C s H fp) vX elt e)
  (U:X.calm=ax:=by rfl) (ok:UD scope X.env.scope X.N js=ax:=by kernel_rfl)
  (z:∀x,ck iter X.env x=pure x:=by intro _;rfl):VE X W (.ListComp elt [⟨tg,iter,ifs,0⟩] scope pos) (mR q j.length js fi g c e):=afS q j js U (.of _ _ rfl rfl ok) hi (λ_ _ _ _ _=>hb) z
end
end V2
namespace M
open PySem V2
noncomputable section
def XB:MS :=
 (aQ (rR ["Gaps"] "keep" aI aT)
  (aQ (rR ["Gaps"] "many" aI bQ)
  (rR ["Gaps"] "taken" aI bQ)))
def QY:aj A->Mo A:=cN 2 XB
def Mc:MS :=
 (dQ (bL (aA rY (aA cJ (fL ["Gaps"] "many" aI) aT) (cI 1000000000)))
   (λ_ _=>ak)
   eR)
def QX:aj A->Mo A:=cN 2 Mc
def Md:MS :=
 (bV (fL ["Gaps"] "many" aI))
def qR:aj A->Mo A:=cN 1 Md
def Ma:MS :=
 (bV (fL ["Gaps"] "taken" aI))
def BN:aj A->Mo A:=cN 1 Ma
def Ml:MS :=
 (bV (aU (Jk ["Gaps"]) (aC aT (aC (cG "Gaps") a0))))
def RA:aj A->Mo A:=cN 2 Ml
def Lr:MS :=
 (aQ (bM (aA cJ aT bP) (gN 1))
   (bM (aA (jI) aI eO) (gN 0)))
def WU:Ev->Mo bh :=
 (bL (aA rY aI bQ))
def Ls:MS :=
 (aQ (bM bQ (gN 1))
  (aQ (λY Z=>lK WU Lr ((λ_ _=>1000000) Y Z) Y Z)
  (bV aT)))
def ZE:aj A->Mo A:=cN 2 Ls
def IB:Ev->Mo A :=
 (aA rY (aA aO aI bQ) aT)
def Kx:MS :=
 (bV (aU (bN 2 rL) (aC aI (aC (sU 0 "upto" ⟨141,53,141,84⟩ (tF "upto") [1] (λns a=>nI (lV IB ns) a) (aA aO aI gO)) a0))))
def JK:aj A->Mo A:=cN 2 Kx
def IF:Ev->Mo A :=
 (aA Jl (aA aO aI bQ) aT)
def Ll:MS :=
 (bV (aU (bN 2 rL) (aC aI (aC (sU 1 "below" ⟨144,53,144,85⟩ (tF "below") [1] (λns a=>nI (lV IF ns) a) (aA aO aI gO)) a0))))
def JT:aj A->Mo A:=cN 2 Ll
def ID:Ev->Mo A :=
 (aA rY (aA aO aI eO) aT)
def Kz:MS :=
 (aQ (dQ (gU (bL (aA kB aT bP)) (bL (aA rY aT (aA aO aI bQ))))
   (λ_ _=>ak)
   eR)
  (aQ (bM (aA aO aI gO) (gN 2))
  (aQ (bM (aA cJ aT (aA (jI) (aA cJ (aA aO aI bP) bP) eO)) (gN 3))
  (bV (aA aO (aA aO cC (aA (lJ) (sU 2 "so_manieth" ⟨155,40,155,73⟩ (tF "so_manieth") [3] (λns a=>nI (lV ID ns) a) cC) bP)) bQ)))))
def EX:aj A->Mo A:=cN 4 Kz
def XG:MS :=
 (aQ (iJ (aU (bN 2 QY) (aC aI (aC aT a0))))
  (aQ (xR ["Gaps"] 0 "newest" vP)
  (xR ["Gaps"] 0 "laid" vP)))
def vI:aj A->Mo A:=cN 2 XG
def Mr:MS :=
 (bV (aU (bN 1 QL) (aC (jO ["Gaps"] 0 "newest" λkvs=>jR aq (kvs.map mW)) a0)))
def BQ:aj A->Mo A:=cN 1 Mr
def XD:MS :=
 (aQ (uC 0 "laid" (bM (aU (bN 2 QK) (aC (aU (bN 2 BL) (aC (FN (fL ["Gaps"] "laid" aI) cC) (aC aT a0))) (aC (fL ["Gaps"] "keep" aI) a0))) (gN 1)))
   (bM (aA cJ cC bP) (gN 2)))
def XF:Ev->Mo bh :=
 (bL (FK aq ["Gaps"] 0 "laid" cC))
def Ms:MS :=
 (aQ (λY Z=>lK XF XD ((λ_ _=>1000000) Y Z) Y Z)
  (uC 0 "laid" (xS aT (fL ["Gaps"] "laid" aI) cC)))
def BR:aj A->Mo A:=cN 3 Ms
def Mn:MS :=
 (bV (aA cJ (eQ aq (aC (bU "newest_pouch" [("Gaps",bR 1 [] BQ)] aI a0) a0)) (jO ["Gaps"] 0 "laid" λkvs=>jR aq (kvs.map (·.2)))))
def qS:aj A->Mo A:=cN 1 Mn
def PL:MS :=
 (aQ (uC 0 "newest" (xS (aA cJ (CC (fL ["Gaps"] "newest" aI) aT bQ) cC) (fL ["Gaps"] "newest" aI) aT))
  (dQ (bL (aA rY (jO ["Gaps"] 0 "newest" λkvs=>ret (.int kvs.length)) (fL ["Gaps"] "keep" aI)))
   (aQ (iJ (bU "lay" [("Gaps",bR 3 [] BR)] aI (aC (bU "newest_pouch" [("Gaps",bR 1 [] BQ)] aI a0) (aC bQ a0))))
   (xR ["Gaps"] 0 "newest" vP))
   eR))
def FA:aj A->Mo A:=cN 3 PL
def XC:MS :=
 (bM (aU (bN 2 BL) (aC aT (aC cC a0))) (gN 1))
def Mm:MS :=
 (aQ (bM (aU (bN 0 QP) a0) (gN 1))
  (aQ (gB (eW (bU "parts" [("Gaps",bR 1 [] qS)] aI a0)) (gN 2) XC)
  (bV aT)))
def BP:aj A->Mo A:=cN 3 Mm
def acV:Ev->Mo A :=
 (mR aq 1 [] (eW (aA aO cC gO)) (gN 0) nB (aA aO aI bQ))
def PM:MS :=
 (iJ (sV Jm aT (aC acV a0)))
def Mt:MS :=
 (aQ (bM (eQ ax a0) (gN 1))
  (aQ (gB (eW (bU "parts" [("Gaps",bR 1 [] qS)] aI a0)) (gN 2) PM)
  (bV (vO 1))))
def xE:aj A->Mo A:=cN 3 Mt
def Mp:Ev->Mo A :=
 (mR aq 1 [] (eW (bU "parts" [("Gaps",bR 1 [] qS)] aI a0)) (gN 0) nB (aA aO aI bP))
def Mq:MS :=
 (bV (aU wL (aC Mp a0)))
def rM:aj A->Mo A:=cN 1 Mq
def Mg:Ev->Mo A :=
 (mR aq 1 [1] (eW (bU "parts" [("Gaps",bR 1 [] qS)] aI a0)) (gN 0) nB (aU (TQ (bN 2 JK)) (aC aI (aC aT a0))))
def Mh:MS :=
 (bV (aU (bN 1 JL) (aC Mg a0)))
def vH:aj A->Mo A:=cN 2 Mh
def Mu:Ev->Mo A :=
 (mR aq 1 [1] (eW (bU "parts" [("Gaps",bR 1 [] qS)] aI a0)) (gN 0) nB (aU (TQ (bN 2 JT)) (aC aI (aC aT a0))))
def Mv:MS :=
 (bV (aU (bN 1 JL) (aC Mu a0)))
def xF:aj A->Mo A:=cN 2 Mv
def XA:MS :=
 (aQ (dQ (bL (aA kB cC bP))
   (λ_ _=>ak)
   eR)
  (aQ (iJ (bU "look_room" [("Gaps",bR 2 [] QX)] aI (aC cC a0)))
  (aQ (iJ (bU "take" [("Gaps",bR 3 [] FA)] aI (aC aT (aC cC a0))))
  (aQ (rR ["Gaps"] "many" aI (aA cJ (fL ["Gaps"] "many" aI) cC))
  (rR ["Gaps"] "taken" aI (aA cJ (fL ["Gaps"] "taken" aI) bP))))))
def JW:aj A->Mo A:=cN 3 XA
def Mf:MS :=
 (bV (aU fY (aC (bU "kept" [("Gaps",bR 1 [] xE)] aI a0) a0)))
def JX:aj A->Mo A:=cN 1 Mf
def Mb:MS :=
 (bV (RQ ax (bU "kept" [("Gaps",bR 1 [] xE)] aI a0)))
def BO:aj A->Mo A:=cN 1 Mb
def Lz:MS :=
 (aQ (dQ (bL (aA kB cC aT))
   (bV (mQ (aC bQ (aC bQ a0))))
   eR)
  (bV (aU (bN 2 QQ) (aC (bU "below" [("Gaps",bR 2 [] xF)] aI (aC aT a0)) (aC (bU "upto" [("Gaps",bR 2 [] vH)] aI (aC cC a0)) a0)))))
def QW:aj A->Mo A:=cN 3 Lz
def PK:MS :=
 (iJ (bU "lay" [("Gaps",bR 3 [] BR)] aI (aC fH (aC cY a0))))
def PJ:MS :=
 (iJ (bU "take" [("Gaps",bR 3 [] FA)] aI (aC iI (aC jM a0))))
def Mi:MS :=
 (aQ (bM (jO ["Gaps"] 1 "laid" λkvs=>jR aq (kvs.map mW)) (gN 2))
  (aQ (bM (jO ["Gaps"] 1 "newest" λkvs=>jR aq (kvs.map mW)) (gN 3))
  (aQ (gB (eW cC) (hZ 2 (dF (gN 4) (dF (gN 5) iA))) PK)
  (gB (eW dS) (hZ 2 (dF (gN 6) (dF (gN 7) iA))) PJ))))
def ZG:aj A->Mo A:=cN 8 Mi
def Mj:MS :=
 (bV (aU (bN 2 EX) (aC (bU "pouch" [("Gaps",bR 1 [] BP)] aI a0) (aC aT a0))))
def QZ:aj A->Mo A:=cN 2 Mj
def acR:Ev->Mo A :=
 (mR aq 2 [] (eW aT) (hZ 2 (dF (gN 0) (dF (gN 1) iA))) nB aT)
def Ln:MS :=
 (aQ (bM (aU wL (aC acR a0)) (gN 3))
  (aQ (dQ (gU (bL (aA kW (bU "length" [("Gaps",bR 1 [] qR)] aI a0) dS)) (bL (aA kW (bU "puts" [("Gaps",bR 1 [] BN)] aI a0) (aU fY (aC aT a0)))))
   (bV (cB aq))
   eR)
  (bV (aU (bN 3 qQ) (aC (bU "upto" [("Gaps",bR 2 [] vH)] aI (aC cC a0)) (aC (aA aO (aU (bN 2 xD) (aC aT (aC cC a0))) bP) (aC (bU "off" [("Gaps",bR 1 [] rM)] aI a0) a0)))))))
def Pn:aj A->Mo A:=cN 4 Ln
def Me:MS :=
 (aQ (dQ (gU (jC (bL (bU "same_kind" [("Gaps",bR 2 [] RA)] aI (aC aT a0)))) (bL (aA kW (fL ["Gaps"] "keep" aT) (fL ["Gaps"] "keep" aI))))
   (λ_ _=>ak)
   eR)
  (aQ (iJ (bU "look_room" [("Gaps",bR 2 [] QX)] aI (aC (fL ["Gaps"] "many" aT) a0)))
  (aQ (iJ (bU "take_in" [("Gaps",bR 2 [] ZG)] aI (aC aT a0)))
  (aQ (rR ["Gaps"] "many" aI (aA cJ (fL ["Gaps"] "many" aI) (fL ["Gaps"] "many" aT)))
  (rR ["Gaps"] "taken" aI (aA cJ (fL ["Gaps"] "taken" aI) (fL ["Gaps"] "taken" aT)))))))
def zE:aj A->Mo A:=cN 2 Me
def Ly:MS :=
 (bV (bU "between" [("Gaps",bR 3 [] QW)] aI (aC aT (aC aT a0))))
def JV:aj A->Mo A:=cN 2 Ly
def WT:MS :=
 (dQ (bL (aA kW aT (eQ aq a0)))
    (aQ (bM (aA aO (eQ aq (aC bP (aC (bU "length" [("Gaps",bR 1 [] qR)] aI a0) (aC (aA cJ bP (aA (fS) (aU (bN 2 vG) (aC cC (aC cY a0))) (bU "length" [("Gaps",bR 1 [] qR)] aI a0))) a0)))) (aU HL (aC cY (aC eO a0)))) (gN 5))
    (aQ (bM (bU "so_manieth" [("Gaps",bR 2 [] QZ)] aI (aC fH a0)) (gN 6))
    (aQ (bM (aU (bN 2 xD) (aC aT (aC iI a0))) (hZ 2 (dF (gN 7) (dF (gN 8) iA))))
    (dQ (gU (bL (aA (AU ax) iI (bU "numbers" [("Gaps",bR 1 [] BO)] aI a0))) (gU (bL (aA iX gM jM)) (gU (bL (aA Jl jM (aA cJ fH dS))) (bL (aA kB gM (aA (lJ) fH dS))))))
     (bV (cB aq))
     eR))))
    eR)
def Lq:MS :=
 (aQ (bM (bU "off" [("Gaps",bR 1 [] rM)] aI a0) (gN 3))
  (aQ (gB (sT (aC KQ a0)) (gN 4) WT)
  (bV (cB ax))))
def QS:aj A->Mo A:=cN 9 Lq
def PH:MS :=
 (aQ (bM (aU (bN 2 xD) (aC aT (aC cY a0))) (hZ 2 (dF (gN 5) (dF (gN 6) iA))))
   (aQ (dQ (gU (jC (bL (aU (bN 3 qQ) (aC (bU "upto" [("Gaps",bR 2 [] vH)] aI (aC cY a0)) (aC iI (aC dS a0)))))) (jC (bL (aU (bN 3 qQ) (aC (bU "below" [("Gaps",bR 2 [] xF)] aI (aC cY a0)) (aC fH (aC dS a0)))))))
    (bV (cB aq))
    eR)
   (dQ (jC (bL (aU (bN 3 qQ) (aC (bU "counted" [("Gaps",bR 2 [] JV)] aI (aC cY a0)) (aC (aA (lJ) iI fH) (aC (aA (gY) eO dS) a0))))))
    (bV (cB aq))
    eR)))
def Lx:MS :=
 (aQ (bM (bU "off" [("Gaps",bR 1 [] rM)] aI a0) (gN 3))
  (aQ (gB (eW cC) (gN 4) PH)
  (bV (cB ax))))
def QU:aj A->Mo A:=cN 7 Lx
def WS:MS :=
 (aQ (bM cC (Jj 3 (dF (gN 4) (dF (gN 5) (dF (gN 6) iA)))))
  (aQ (bM (aA (fS) cY xK) (gN 7))
  (aQ (bM (aA (fS) (aA cJ (aA cJ jM bP) (aA (fS) (aA (jI) cY xK) zL)) xK) (gN 8))
  (dQ (sW (bL (aA iX (aA (fS) (aA (jI) cY (cI 20)) KQ) bQ)) (bL (aA kB (aA cJ (aU fY (aC (aA aO aT jM) a0)) (aU fY (aC (aA aO aT gM) a0))) (cI 60))))
   (aQ (iJ (bU "join" [("Gaps",bR 2 [] zE)] (aA aO aI jM) (aC (aA aO aI gM) a0)))
   (bM (aA cJ (aA aO aT jM) (aA aO aT gM)) (DM aT jM)))
   (aQ (bM (mQ (aC (aU (bN 2 vF) (aC fH (aC dS a0))) (aC (aA cJ bP (aA (jI) (aU (bN 1 JU) (aC iI a0)) gO)) a0))) (gN 9))
   (aQ (iJ (bU "put" [("Gaps",bR 3 [] JW)] (aA aO aI jM) (aC (aA aO xJ bQ) (aC (aA aO xJ bP) a0))))
   (bM (aA cJ (aA aO aT jM) (eQ aq (aC xJ a0))) (DM aT jM))))))))
def ZC:aj A->Mo A:=cN 10 WS
def acQ:Ev->Mo A :=
 (mR aq 2 [] (eW aT) (hZ 2 (dF (gN 0) (dF (gN 1) iA))) nB aT)
def Lm:MS :=
 (aQ (bM (aU wL (aC acQ a0)) (gN 6))
  (aQ (bM (aU (bN 1 ZE) (aC (aA (jI) cC (aA cJ dS bP)) a0)) (gN 7))
  (aQ (dQ (gU (bL (aA kW (bU "length" [("Gaps",bR 1 [] qR)] aI a0) iI)) (bL (aA kW (bU "puts" [("Gaps",bR 1 [] BN)] aI a0) cC)))
   (bV (cB aq))
   eR)
  (aQ (dQ (gU (jC (bL (LA oO oO (aU fY (aC (bU "numbers" [("Gaps",bR 1 [] BO)] aI a0) a0)) (bU "held" [("Gaps",bR 1 [] JX)] aI a0) (aA (gY) (aA cJ (aA (gY) eO dS) eO) (aA cJ jM eO))))) (jC (bL (aA oO bQ (bU "off" [("Gaps",bR 1 [] rM)] aI a0)))))
   (bV (cB aq))
   eR)
  (aQ (bM (bU "pouch" [("Gaps",bR 1 [] BP)] aI a0) (gN 8))
  (aQ (dQ (gU (bL (aA kW (aA aO gM bQ) iI)) (gU (bL (aA kW (aA aO gM bP) (bU "off" [("Gaps",bR 1 [] rM)] aI a0))) (bL (aA rY (aA aO gM bP) (aA (jI) (aA (gY) (aU AV (aC bQ (aC (aA (lJ) jM bP) a0))) iI) dS)))))
   (bV (cB aq))
   eR)
  (aQ (dQ (gU (jC (bL (aU (bN 2 ZD) (aC aT (aC gM a0))))) (bL (aA (VM ax) (aU (bN 2 JQ) (aC (aU (AW aq) (aC aT a0)) (aC gM a0))) (cB ax))))
   (bV (cB aq))
   eR)
  (bV (CD (aU (bN 3 QU) (aC aI (aC aT (aC (aU (bN 3 QV) (aC aT (aC cY (aC fH a0)))) a0)))) (aU (bN 3 QS) (aC aI (aC aT (aC cY a0)))))))))))))
def QR:aj A->Mo A:=cN 9 Lm
def acU:Ev->Mo A :=
 (mR aq 2 [] (eW aT) (hZ 2 (dF (gN 0) (dF (gN 1) iA))) nB (mQ (aC aI (aC (aA (gY) eO aT) a0))))
def WW:MS :=
 (dQ (bL (aA oO (aA (gY) eO (bU "length" [("Gaps",bR 1 [] qR)] aI a0)) (cI 1000000000)))
    (aQ (iJ (bU "join" [("Gaps",bR 2 [] zE)] aI (aC aI a0)))
    (aQ (bM acU (gN 1))
    (bM (aA (gY) eO fH) (gN 5))))
    eR)
def Lv:MS :=
 (aQ (bM (aU fY (aC aT a0)) (gN 5))
  (aQ (gB (sT (aC cC a0)) (gN 6) WW)
  (bV (aU (bN 6 QR) (aC aI (aC aT (aC fH (aC dS (aC fH (aC cY a0))))))))))
def QT:aj A->Mo A:=cN 7 Lv
def OY:MS :=
 (iJ (aU (bN 4 ZC) (aC fH (aC iI (aC (KZ aq aT (CB (aA cJ eO (aA (gY) gO jM))) (CB (aA cJ xK (aA (gY) gO jM)))) (aC dS a0))))))
def OX:MS :=
 (aQ (iJ (bU "join" [("Gaps",bR 2 [] zE)] (aA aO fH gM) (aC (aA aO fH (aA cJ gM bP)) a0)))
   (bM (aA cJ (aA aO iI gM) (aA aO iI (aA cJ gM bP))) (DM iI gM)))
def OW:MS :=
 (dQ (jC (bL (aU (bN 6 QR) (aC (aA aO fH gM) (aC (aA aO iI gM) (aC (aU fY (aC (aA aO iI gM) a0)) (aC cY (aC (aA aO aT bP) (aC dS a0)))))))))
    (bV (cB aq))
    eR)
def OV:MS :=
 (dQ (jC (bL (aU (bN 3 Pn) (aC (aA aO fH gM) (aC (aA aO iI gM) (aC (aA (fS) (aA aO aT bP) FF) a0))))))
    (bV (cB aq))
    eR)
def WO:MS :=
 (aQ (bM (aU (bN 2 ZF) (aC aI (aC (aA cJ eO (aA (gY) gO (cI 63))) a0))) (gN 1))
  (aQ (bM (aA aO aT bQ) (gN 2))
  (aQ (bM (aA (fS) cC xK) (gN 3))
  (aQ (bM (aA cJ bP (aA (fS) (aA (jI) cC xK) gO)) (gN 4))
  (aQ (dQ (bL (aA iX (aA (fS) (aA aO aT bP) zK) bP))
   (bM (cI 100) (gN 4))
   eR)
  (aQ (bM (eQ aq (aC (aU (uQ "Gaps" 2 vI) (aC cY a0)) (aC (aU (uQ "Gaps" 2 vI) (aC cY a0)) (aC (aU (uQ "Gaps" 2 vI) (aC cY a0)) (aC (aU (uQ "Gaps" 2 vI) (aC cY a0)) (aC (aU (uQ "Gaps" 2 vI) (aC cY a0)) a0)))))) (gN 5))
  (aQ (bM (eQ ax (aC (eQ aq a0) (aC (eQ aq a0) (aC (eQ aq a0) (aC (eQ aq a0) (aC (eQ aq a0) a0)))))) (gN 6))
  (aQ (gB (sT (aC (aU HL (aC (cI 63) (aC (aU AV (aC (aU fY (aC aI a0)) (aC (aA (fS) (aA (jI) cC (cI 15)) (cI 64)) a0))) a0))) a0)) (gN 7) OY)
  (aQ (gB (eW (eQ aq (aC gO (aC eO (aC bP (aC bQ a0)))))) (gN 8) OX)
  (aQ (gB (eW (eQ aq (aC bQ (aC gO a0)))) (gN 8) OW)
  (aQ (dQ (sW (bL (aA kB (aA (fS) (aA aO aT bP) zK) eO)) (jC (bL (aU (bN 5 QT) (aC (aA aO fH bQ) (aC (aA aO iI bQ) (aC (aA aO (eQ aq (aC (cI 20) (aC eO a0))) (aA (fS) (aA aO aT bP) zK)) (aC cY (aC dS a0)))))))))
   (bV (cB aq))
   eR)
  (aQ (gB (eW (eQ aq (aC bP (aC eO (aC zL a0))))) (gN 8) OV)
  (bV (cB ax))))))))))))))
def aeV:aj A->Mo A:=cN 9 WO
end
abbrev Rg:=ay×ay×aj Rn×Po
structure rG(keep:ay)(x:Rg):Prop where
 gd:Gd x.2.2.1 x.2.2.2
 off:(keep:av)*x.2.2.2.l<=x.1*x.2.2.2.s
 cnt:2 ^ x.1*(keep+1)<=x.2.1
 len:x.2.2.2.es.length<=2*keep+2
 nn:0<=x.2.2.2.s
def up1(keep:ay)(y x:Rg):Rg:=(x.1+1,y.2.1+x.2.1,y.2.2.1++x.2.2.1,Sr keep (mV y.2.2.2 x.2.2.2))
theorem rG.up{keep:ay}{x y:Rg}(z:1<=keep)(h:rG keep x)(g:rG keep y)(e:y.1=x.1):rG keep (up1 keep y x):=by
 have q:0<=y.2.2.2.s+x.2.2.2.s:=Int.add_nonneg g.nn h.nn;have j:=g.gd.merge h.gd;refine⟨j.nD keep (by omega),?_,?_,?_,q⟩
 ·show(keep:av)*(y.2.2.2.l+x.2.2.2.l+(y.2.2.2.s+x.2.2.2.s)/keep)<=((x.1+1:ay):av)*(y.2.2.2.s+x.2.2.2.s);have h1:=h.off;have h2:=g.off;rw[e]at h2;have a:=Int.mul_ediv_self_le (x:=y.2.2.2.s+x.2.2.2.s) (k:=keep) (by omega);have U:((x.1+1:ay):av)*(y.2.2.2.s+x.2.2.2.s)=x.1*y.2.2.2.s+x.1*x.2.2.2.s+(y.2.2.2.s+x.2.2.2.s):=by
   rw[Int.natCast_add,Int.add_mul,YS];simp
  rw[U,YS,YS];omega
 ·show 2 ^ (x.1+1)*(keep+1)<=y.2.1+x.2.1;have h1:=h.cnt;have h2:=g.cnt;rw[e]at h2;rw[Nx,Nat.mul_assoc,Nat.mul_comm 2,<-Nat.mul_assoc];omega
 ·show(nD (y.2.2.2.l+x.2.2.2.l+(y.2.2.2.s+x.2.2.2.s)/keep) _).length<=_;have:=ag5 j.gf keep z;exact oW this (by omega)
def kQ(keep:ay):ay->aj Rg->Rg->aj Rg
 |0,L,x=>L++[x]
 |f+1,L,x=>match L.find? λy=>y.1==x.1 with
  |none=>L++[x]
  |some y=>kQ keep f (L.filter λz=>z.1 != x.1) (up1 keep y x)
noncomputable def mD(f:aj Rn->av)(L:aj Rg):av:=(L.map λx=>f x.2.2.1).sum
noncomputable def pY(L:aj Rg):ay:=(L.map λx=>x.2.1).sum
noncomputable def fD(L:aj Rg):av:=(L.map λx=>x.2.2.2.l).sum
noncomputable def UC(L:aj Rg):ay:=(L.map λx=>x.2.2.2.es.length).sum
structure sO(keep:ay)(L:aj Rg):Prop where
 nd:(L.map (·.1)).Nodup
 ok:∀x∈L,rG keep x
theorem We(f:Rg->av):∀{L:aj Rg} {y:Rg} {l:ay},(L.map (·.1)).Nodup->y∈L->y.1=l->((L.filter λz=>z.1 != l).map f).sum+f y=(L.map f).sum
 |z::L,y,l,nd,U,e=>by
  rw[cV,qO]at nd
  by_cases j:z.1=l
  ·have hL:L.filter (λz=>z.1 != l)=L:=List.filter_eq_self.mpr λw hw=>by
    have:w.1≠l:=λq=>nd.1 (by rw[j,<-q];exact QC hw);simpa using this
   have:y=z:=by
    rcases eK.mp U with q|q
    ·exact q
    ·exact bu (by rw[j,<-e];exact QC q) nd.1
   subst this;rw[List.filter_cons_of_neg (by simpa using j),hL,cV,nK];omega
  ·have a:y∈L:=by
    rcases eK.mp U with q|q
    ·subst q;exact bu e j
    ·exact q
   rw[List.filter_cons_of_pos (by simpa using j),cV,nK,cV,nK];have:=We f nd.2 a e;omega
theorem UE{keep:ay}(F:Rg->av)(q:∀x y:Rg,F (up1 keep y x)=F y+F x):∀(f:ay) {L:aj Rg} {x:Rg},(L.map (·.1)).Nodup->((kQ keep f L x).map F).sum=(L.map F).sum+F x
 |0,L,x,_=>by simp[kQ]
 |f+1,L,x,nd=>by
  unfold kQ;split
  ·simp
  ·rename_i y j;have hm:=aeK j;have he:y.1=x.1:=by simpa using List.find?_some j
   have U:((L.filter λz=>z.1 != x.1).map (·.1)).Nodup:=nd.sublist (aeO.map _);rw[UE F q f U,q];have:=We F nd hm he;omega
theorem Gk{keep:ay}(U:1<=keep):∀(f:ay) {L:aj Rg} {x:Rg},L.length<=f->sO keep L->rG keep x->sO keep (kQ keep f L x)
 |0,L,x,hl,h,g=>by
  have:L=[]:=BK (by omega);subst this;exact⟨by simp[kQ],λy j=>by simp[kQ]at j;subst j;exact g⟩
 |f+1,L,x,hl,h,g=>by
  unfold kQ;split
  ·rename_i hn;refine⟨?_,λy j=>?_⟩
   ·rw[EN,QB];refine⟨h.nd,by simp,λa ha b hb=>?_⟩;obtain⟨y,j,rfl⟩:=fZ.mp ha;have d:b=x.1:=by simpa using hb
    subst d;have:=List.find?_eq_none.mp hn y j;simpa using this
   ·rcases rH.mp j with q|q
    ·exact h.ok y q
    ·have:y=x:=by simpa using q
     subst this;exact g
  ·rename_i y j;have hm:=aeK j;have he:y.1=x.1:=by simpa using List.find?_some j
   refine Gk U f ?_ ⟨h.nd.sublist (aeO.map _),λz c=>h.ok z (Oo.mp c).1⟩ (g.up U (h.ok y hm) he);have:(L.filter λz=>z.1 != x.1).length<L.length:=by
    refine Nat.lt_of_le_of_ne (aeM _ _) λq=>?_;have:=aE2.mp q y hm;simp[he]at this
   omega
theorem Jw:∀{m:ay} {l:aj ay},l.Nodup->(∀x∈l,x<m)->l.length<=m
 |0,l,_,h=>by
  cases l with
  |nil=>simp
  |cons x r=>have:=h x kP;omega
 |m+1,l,nd,h=>by
  have:=Jw (m:=m) (nd.erase m) λx j=>by
   have h1:=h x (List.mem_of_mem_erase j);have h2:x≠m:=λq=>by subst q;exact nd.not_mem_erase j
   omega
  rw[List.length_erase]at this;split at this <;> omega
theorem sO.Ez{keep m:ay}{L:aj Rg}(h:sO keep L)(hm:∀x∈L,x.1<=m):(keep:av)*fD L<=m*(L.map λx=>x.2.2.2.s).sum/\0<=(L.map λx=>x.2.2.2.s).sum:=by
 obtain⟨nd,ok⟩:=h;unfold fD
 induction L with
 |nil=>simp
 |cons x r ih =>
  obtain⟨h1,h2⟩:=ih (λy j=>hm y (gJ _ j)) (qO.mp nd).2 (λy j=>ok y (gJ _ j));have q:=ok x kP;have a:=q.off;have U:(x.1:av)*x.2.2.2.s<=m*x.2.2.2.s:=Int.mul_le_mul_of_nonneg_right (by have:=hm x kP;omega) q.nn;have z:=q.nn;simp only[cV,nK,YS];omega
theorem sO.arF{keep m:ay}{L:aj Rg}(h:sO keep L)(hm:∀x∈L,x.1<m):UC L<=m*(2*keep+2):=by
 have hl:L.length<=m:=by
  have:=Jw h.nd (m:=m) (λx q=>by obtain⟨y,j,e⟩:=fZ.mp q;subst e;exact hm y j);simpa using this
 have:UC L<=L.length*(2*keep+2):=by
  obtain⟨nd,ok⟩:=h;clear hl hm;unfold UC
  induction L with
  |nil=>simp
  |cons x r ih =>
   have h1:=ih (qO.mp nd).2 (λy j=>ok y (gJ _ j));have h2:=(ok x kP).len;simp only[cV,nK,iP];rw[Nat.add_mul,Nat.one_mul];omega
 exact oW this (Nat.mul_le_mul_right _ hl)
theorem aq6{lv n keep b:ay}(h:2 ^ lv*(keep+1)<=n)(hb:n/(keep+1)<2 ^ b):lv<b:=by
 have h1:2 ^ lv<=n/(keep+1):=(Nat.le_div_iff_mul_le (by omega)).mpr h;exact(Nat.pow_lt_pow_iff_right (a:=2) (by decide)).mp (Oa h1 hb)
open PySem L2 V2
noncomputable def uV:aj Rn->av->av
 |[],_=>0
 |r::rs,n=>if r.1=n then r.2 else uV rs n
noncomputable def cL:aj Rn->av->av->aj Rn
 |[],n,t=>[(n,t)]
 |r::rs,n,t=>if r.1=n then(r.1,r.2+t)::rs else r::cL rs n t
theorem Gn:∀(rs:aj Rn) (n t m:av),m∈(cL rs n t).map (·.1)->m∈rs.map (·.1)\/m=n
 |[],n,t,m,h=>by simp only[cL,cV,rJ,oX]at h;exact .inr h
 |r::rs,n,t,m,h=>by
  simp only[cL]at h;split at h
  ·exact .inl (by simpa using h)
  ·simp only[cV,eK]at h ⊢
   rcases h with h|h
   ·exact .inl (.inl h)
   ·rcases Gn rs n t m h with q|q
    ·exact .inl (.inr q)
    ·exact .inr q
theorem Wv:∀(rs:aj Rn) (n t:av),(rs.map (·.1)).Nodup->((cL rs n t).map (·.1)).Nodup
 |[],n,t,_=>by simp[cL]
 |r::rs,n,t,nd=>by
  simp only[cL];split
  ·simpa using nd
  ·rename_i e;rw[cV,qO]at nd ⊢;refine⟨λh=>?_,Wv rs n t nd.2⟩
   rcases Gn rs n t r.1 h with q|q
   ·exact nd.1 q
   ·exact e q
theorem Vn:∀(rs:aj Rn) (n t:av),1<=t->(∀r∈rs,1<=r.2)->∀r∈cL rs n t,1<=r.2
 |[],n,t,j,_,r,hr=>by simp only[cL,oX]at hr;subst hr;exact j
 |s::rs,n,t,j,h,r,hr=>by
  simp only[cL]at hr;split at hr
  ·rcases eK.mp hr with e|e
   ·subst e;have:=h s (by simp);show 1<=s.2+t;omega
   ·exact h r (by simp[e])
  ·rcases eK.mp hr with e|e
   ·subst e;exact h _ (by simp)
   ·exact Vn rs n t j (λr hr=>h r (by simp[hr])) r e
noncomputable def fV(rs:aj Rn):aj (Key×A):=rs.map λr=>(.inl r.1,.int r.2)
theorem Sb{q:Key×A}{kvs:aj (Key×A)}{k:Key}(h:q.1=k):fW (q::kvs) k=ai q.2:=by simp[fW,h]
theorem Sa{q:Key×A}{kvs:aj (Key×A)}{k:Key}(h:q.1≠k):fW (q::kvs) k=fW kvs k:=by simp[fW,h]
theorem Rz:∀(rs:aj Rn) (n:av),(fW (fV rs) (.inl n)).getD (.int 0)=.int (uV rs n)
 |[],n=>rfl
 |r::rs,n=>by
  have ih:=Rz rs n;show(fW ((.inl r.1,.int r.2)::fV rs) (.inl n)).getD (.int 0)=.int (uV (r::rs) n)
  by_cases h:r.1=n
  ·rw[Sb (by rw[h])];simp[uV,h]
  ·rw[Sa (by intro z;exact h (by simpa using z)),ih];simp[uV,h]
theorem amC{q:Key×A}{kvs:aj (Key×A)}{k:Key}{a:A}(h:q.1≠k):mH (q::kvs) k a=q::mH kvs k a:=by
 unfold mH;have e:((q::kvs).any λj=>decide (j.1=k))=kvs.any λj=>decide (j.1=k):=by simp[h]
 rw[e];split
 ·simp[h]
 ·simp
theorem Vj:∀(rs:aj Rn) (n t:av),(rs.map (·.1)).Nodup->mH (fV rs) (.inl n) (.int (uV rs n+t))=fV (cL rs n t)
 |[],n,t,_=>by simp[fV,mH,cL,uV]
 |r::rs,n,t,nd=>by
  rw[cV,qO]at nd;have ih:=Vj rs n t nd.2;show mH ((.inl r.1,.int r.2)::fV rs) (.inl n) _=_
  by_cases h:r.1=n
  ·subst h;have em:∀(l:aj Rn),r.1∉l.map (·.1)->(fV l).map (λj=>if j.1=(.inl r.1:Key)then(j.1,A.int (r.2+t))else j)=fV l:=by
    intro l
    induction l with
    |nil=>intro _;rfl
    |cons s l a =>
     intro hn;simp only[cV,eK,not_or]at hn;have U:¬s.1=r.1:=λz=>hn.1 z.symm;have:=a hn.2;simp only[fV,cV]at this ⊢;rw[this];simp[U]
   have q:=em rs nd.1;simp only[mH,uV,a8,cL];simp[fV]at q ⊢;exact q
  ·rw[amC (by intro z;exact h (by simpa using z))];simp only[uV,cL,bb h,ih];rfl
theorem Yg(rs:aj Rn):(fV rs).map mW=aK rs:=by simp[fV,mW,kA,aK,gT]
theorem af3(rs:aj Rn):(fV rs).map (·.2)=(rs.map (·.2)).map A.int:=by simp[fV]
theorem lD{Z Z':aH}{a:A}(h:Z'.length=Z.length):trim Z (ai (.ok a,Z'))=aD a Z':=by
 simp only[trim];split
 ·rename_i j;rw[<-h,List.take_length]at j;rw[j.1]
 ·rfl
theorem agT{Z:aH}{c:Cell}:trim Z (ai (.ok (.aJ Z.length),Z++[c]))=aD (.aJ Z.length) (Z++[c]):=by
 simp[trim,Cl]
def fU(L:aj Rg):aj (Key×A):=L.map λx=>(.inl (x.1:av),bD x.2.2.2)
abbrev eS(keep:ay)(many tk:av)(rs:aj Rn)(L:aj Rg):aj (a5×Fd):=[("keep",.val (.int keep)),("many",.val (.int many)),("taken",.val (.int tk)),("newest",.bH (fV rs)),("laid",.bH (fU L))]
abbrev bF(keep:ay)(many tk:av)(rs:aj Rn)(L:aj Rg):Cell:=.ins "Gaps" (eS keep many tk rs L)
section
variable{Z Z':aH}{p keep:ay}{many tk:av}{rs:aj Rn}{L:aj Rg}
theorem qX{m:a5}{F:aj A->Mo A}{n i:ay}{das as:aj A}{fs:Ev->Mo (aj A)}{Y:Ev}{a:A}(h:Z[p]?=ai (bF keep many tk rs L))(hl:(eS keep many tk rs L).lookup m=ak)(z:(Y[i]?).join=(aF p))(ha:fs Y Z=aD as Z)(hn:as.length+1+das.length=n)
  (q:F (.aJ p::(as++das)) Z=aD a Z'):bU m [("Gaps",bR n das F)] (dA i) fs Y Z=aD a Z':=by
 unfold bU;rw[dH (x:=A.aJ p) (Z':=Z) (by simp[z])];have j:List.lookup ("Gaps" : a5) [(("Gaps" : a5),bR n das F)]=ai (bR n das F):=by simp[List.lookup]
 simp only[VL,h,j,hl];rw[dH ha];simp only[bR];rw[a8 (by simp only[iP];omega)];exact q
theorem LZ(h:Z[p]?=ai (bF keep many tk rs L)){Y:Ev}(j:(Y[0]?).join=(aF p)):uE ["Gaps"] 0 "newest" Y Z=ai (p,("Gaps" : a5),eS keep many tk rs L,Fd.bH (fV rs)):=by
 unfold uE;rw[j];simp only[h];rfl
theorem TK(h:Z[p]?=ai (bF keep many tk rs L)){Y:Ev}(j:(Y[0]?).join=(aF p)):uE ["Gaps"] 0 "laid" Y Z=ai (p,("Gaps" : a5),eS keep many tk rs L,Fd.bH (fU L)):=by
 unfold uE;rw[j];simp only[h];rfl
theorem YG(h:Z[p]?=ai (bF keep many tk rs L)):qR [.aJ p] Z=aD (.int many) Z:=by
 have l:(eS keep many tk rs L).lookup ("many" : a5)=ai (.val (.int many)):=rfl;show trim Z (eE (Md [aF p] Z))=_;simp[Md,h,l]
theorem ad8(h:Z[p]?=ai (bF keep many tk rs L)):BN [.aJ p] Z=aD (.int tk) Z:=by
 have l:(eS keep many tk rs L).lookup ("taken" : a5)=ai (.val (.int tk)):=rfl;show trim Z (eE (Ma [aF p] Z))=_;simp[Ma,h,l]
theorem aeA(h:Z[p]?=ai (bF keep many tk rs L))(z:∀r∈rs,1<=r.2)(hl:rs.length<=63)(hw:whole rs<=1000000000):BQ [.aJ p] Z=aD (bD (kO rs)) Z:=by
 show trim Z (eE (Mr [aF p] Z))=_;have e:jO ["Gaps"] 0 "newest" (λj=>jR aq (j.map mW)) [aF p] Z=aD (.lst (aK rs)) Z:=by
  unfold jO;rw[LZ h rfl];simp only[Yg];rfl
 unfold Mr;have q:=aEI rs z hl hw Z;have U:aU (bN 1 QL) (aC (jO ["Gaps"] 0 "newest" λj=>jR aq (j.map mW)) a0) [aF p] Z=aD (bD (kO rs)) Z:=by
  unfold aU aC;rw[dH (by rw[dH e];rfl)];simp only[bN];exact q
 unfold bV;rw[fM U];exact lD rfl
end
section
variable{Z Z' Z'':aH}{Y:Ev}
theorem orF{f g:Ev->Mo bh}(h:f Y Z=aD aq Z'):gU f g Y Z=g Y Z':=by
 unfold gU;rw[dH h];rfl
theorem vW{f:Ev->Mo bh}{b:bh}(h:f Y Z=aD b Z'):jC f Y Z=aD (!b) Z':=by
 unfold jC;rw[dH h];rfl
theorem iC{f:Ev->Mo A}{b:bh}(h:f Y Z=aD (.bl b) Z'):bL f Y Z=aD b Z':=by
 unfold bL;rw[dH h];rfl
theorem Wh{g:A->A->Mo A}{z q:Ev->Mo A}{a b:A}{j:aH}{c:A}(h1:z Y Z=aD a Z')(h2:q Y Z'=aD b Z'')(U:g a b Z''=aD c j):aA g z q Y Z=aD c j:=by
 unfold aA;rw[dH h1,dH h2,U]
theorem cX{g:A->A->Mo A}{q j:Ev->Mo A}{a b c:A}(h1:q Y Z=aD a Z)(h2:j Y Z=aD b Z)(z:g a b Z=aD c Z):aA g q j Y Z=aD c Z:=Wh h1 h2 z
theorem qC{t:Ev->Mo bh}{s:MS}(h:t Y Z=aD aq Z'):dQ t s eR Y Z=dP Y Z':=by
 unfold dQ;rw[fM h];rfl
theorem kY{f:Ev->Mo A}{i:ay}{a:A}(h:f Y Z=aD a Z'):bM f (gN i) Y Z=dP (Y.set i (ai a)) Z':=by
 unfold bM;rw[fM h];rfl
theorem bK{i:ay}{a:A}(h:(Y[i]?).join=ai a):dA i Y Z=aD a Z:=by simp[h]
theorem bG{f:Ev->Mo A}{fs:Ev->Mo (aj A)}{a:A}{as:aj A}(h:f Y Z=aD a Z)(j:fs Y Z=aD as Z):aC f fs Y Z=aD (a::as) Z:=by
 unfold aC;rw[dH h,dH j];rfl
theorem bY:a0 Y Z=aD [] Z:=rfl
theorem lM{F:aj A->Mo A}{fs:Ev->Mo (aj A)}{n:ay}{as:aj A}{a:A}(h:fs Y Z=aD as Z)(hn:as.length=n)(j:F as Z=aD a Z'):aU (bN n F) fs Y Z=aD a Z':=by
 unfold aU;rw[dH h];unfold bN;rw[a8 hn];exact j
theorem sE{g:aj A->Mo A}{fs:Ev->Mo (aj A)}{Y:Ev}{Z Z':aH}{as:aj A}{a:A}(h:fs Y Z=aD as Z)(j:g as Z=aD a Z'):aU g fs Y Z=aD a Z':=by
 unfold aU;rw[dH h];exact j
theorem BE{f:Ev->Mo A}{fs:Ev->Mo (aj A)}{a:A}{as:aj A}(h:f Y Z=aD a Z')(j:fs Y Z'=aD as Z''):aC f fs Y Z=aD (a::as) Z'':=by
 unfold aC;rw[dH h,dH j];rfl
theorem tO{g:aj A->Mo A}{fs:Ev->Mo (aj A)}{as:aj A}{a:A}(h:fs Y Z=aD as Z')(j:g as Z'=aD a Z''):aU g fs Y Z=aD a Z'':=by
 unfold aU;rw[dH h];exact j
end
theorem zO{Z:aH}{p:ay}{c:Cell}(h:Z[p]?=ai c):Z.set p c=Z:=by
 apply YL;intro j
 by_cases q:p=j
 ·subst q;rw[gK (dN.mp h).1,h]
 ·rw[gS q]
theorem Gh{i:ay}{f:a5}{g:MS}{Y Y':Ev}{Z:aH}{s:ay}{cls:a5}{fs:aj (a5×Fd)}{fd fd':Fd}{c c':Cell}(h1:Y[i]?=ai (aF s))(h2:Z[s]?=ai (.ins cls fs))(m:fs.lookup f=ai fd)(l:fd.cell=ai c)
  (h:g Y (iD Z s cls f fs c)=dP Y' (iD Z s cls f fs c')) (e:fd'.cell=ai c') (b:fd'=fd\/sQ Z.length fd') (a:∀(j:ay) (d:A),Y'[j]?=ai (ai d)->Y[j]?=ai (ai d)\/Cl Z.length d):uC i f g Y Z=dP Y' (Z.set s (.ins cls (putD f fd' fs))):=by
 have z:s<Z.length:=(dN.mp h2).1;refine akS (r:=(.nx,Y',Z.set s (.ins cls (putD f fd' fs)))) ⟨s,cls,fs,fd,c,Z.set s (.ins cls (putD f (.val (.aJ Z.length)) fs)),fd',c',h1,h2,m,l,h,by simp,gK z,e,λk x U q => .inl (by rw[gS (eM U)]at q;exact q),b,a,rfl,by rw[pR]⟩
theorem Ae(lv:ay):∀L:aj Rg,fW (fU L) (.inl (lv:av))=(L.find? λy=>y.1==lv).map λy=>bD y.2.2.2
 |[]=>rfl
 |x::L=>by
  have ih:=Ae lv L;show fW ((.inl (x.1:av),bD x.2.2.2)::fU L) (.inl (lv:av))=_
  by_cases h:x.1=lv
  ·rw[Sb (by rw[h]),List.find?_cons_of_pos (by simpa using h)];rfl
  ·rw[Sa (by intro z;have j:(x.1:av)=lv:=(by simpa using z);omega),ih,List.find?_cons_of_neg (by simpa using h)]
theorem azF(lv:ay)(L:aj Rg):tK (fU L) (.inl (lv:av))=fU (L.filter λz=>z.1 != lv):=by
 unfold tK fU;rw[List.filter_map];congr 1;apply List.filter_congr;intro x _
 by_cases h:x.1=lv
 ·simp[h]
 ·have:¬(x.1:av)=lv:=by omega
  simp[h,this]
theorem amB{lv:ay}{L:aj Rg}(h:(L.find? λy=>y.1==lv)=ak)(n:ay)(R:aj Rn)(q:Po):mH (fU L) (.inl (lv:av)) (bD q)=fU (L++[(lv,n,R,q)]):=by
 have hn:((fU L).any λj=>decide (j.1=(.inl (lv:av):Key)))=aq:=by
  rw[List.any_eq_false];intro j U;obtain⟨x,a,rfl⟩:=fZ.mp U;have:=List.find?_eq_none.mp h x a;simp only[yU]at this;simp only[WB];intro z;have b:(x.1:av)=lv:=by simpa using z
  omega
 unfold mH;rw[hn];simp[fU]
section
variable{Z:aH}{p keep:ay}{many tk:av}{rs:aj Rn}{L:aj Rg}
theorem arQ(h:Z[p]?=ai (bF keep many tk rs L))(lv:ay)(j:ar A):XF [aF p,j,aB lv] Z=aD ((L.find? λy=>y.1==lv).isSome) Z:=by
 have e:FK aq ["Gaps"] 0 "laid" cC [aF p,j,aB lv] Z=aD (.bl (L.find? λy=>y.1==lv).isSome) Z:=by
  unfold FK;rw[dH (x:=A.int lv) (Z':=Z) (by simp)];unfold jO;rw[TK h rfl];simp only[lH,Ae,Nu];rfl
 unfold XF;exact iC e
end
theorem ab2(n:ay)(rs:aj Rn):sQ n (.bH (fV rs)):=by
 show gC n ((fV rs).map (·.2));rw[af3];exact uW λa ha=>by obtain⟨x,_,rfl⟩:=fZ.mp ha;simp only[Cl]
theorem ab0(n:ay)(q:Po):Cl n (bD q):=by
 have j:gC n (encL q.es):=uW λa ha=>by
  obtain⟨e,_,rfl⟩:=fZ.mp ha;simp[bZ,Cl,gC]
 simp[bD,dG,Cl,gC,j]
theorem ab1(n:ay)(L:aj Rg):sQ n (.bH (fU L)):=by
 show gC n ((fU L).map (·.2));exact uW λa ha=>by
  obtain⟨q,j,rfl⟩:=fZ.mp ha;obtain⟨x,_,rfl⟩:=fZ.mp j;exact ab0 n _
section
variable{Z:aH}{p keep:ay}{many tk:av}{rs:aj Rn}{L:aj Rg}
theorem Vh(j:aj Rg):putD "laid" (.bH (fU j)) (eS keep many tk rs L)=eS keep many tk rs j:=rfl
theorem Vf(j:aj Rn):putD "newest" (.bH (fV j)) (eS keep many tk rs L)=eS keep many tk j L:=rfl
theorem Xq:(eS keep many tk rs L).lookup ("laid" : a5)=ai (.bH (fU L)):=rfl
theorem arA:(eS keep many tk rs L).lookup ("newest" : a5)=ai (.bH (fV rs)):=rfl
theorem arP(h:Z[p]?=ai (bF keep many tk rs L))(r:1<=keep)(n:keep<1000000){x y:Rg}(g:(L.find? λz=>z.1==x.1)=ai y)(hz:y.2.2.2.es.length+x.2.2.2.es.length<=100000)(hm:(qW y.2.2.2.s x.2.2.2.s y.2.2.2.es x.2.2.2.es).length<=100000) :
  XD [aF p,ai (bD x.2.2.2),aB x.1] Z=dP [aF p,ai (bD (up1 keep y x).2.2.2),aB ((up1 keep y x).1)] (Z.set p (bF keep many tk rs (L.filter λz=>z.1 != x.1))):=by
 have o:=TK h (Y:=[aF p,ai (bD x.2.2.2),aB x.1]) rfl;unfold XD;have m:uC 0 "laid" (bM (aU (bN 2 QK) (aC (aU (bN 2 BL) (aC (FN (fL ["Gaps"] "laid" aI) cC) (aC aT a0))) (aC (fL ["Gaps"] "keep" aI) a0))) (gN 1)) [aF p,ai (bD x.2.2.2),aB x.1] Z=dP [aF p,ai (bD (up1 keep y x).2.2.2),aB x.1] (Z.set p (bF keep many tk rs (L.filter λz=>z.1 != x.1))):=by
  rw[Gh (Y':=[aF p,ai (bD (up1 keep y x).2.2.2),aB x.1]) rfl h Xq rfl (fd':=.bH (fU (L.filter λz=>z.1 != x.1))) (c':=.bH (fU (L.filter λz=>z.1 != x.1))) ?_ rfl (.inr (ab1 _ _)) ?_,Vh]
  ·have q:=UA (c:=.bH (fU L)) o;have f:lL (iD Z p "Gaps" "laid" (eS keep many tk rs L) (.bH (fU L))) (.aJ Z.length)=ai (Z.length,fU L):=yS (UB o);have k:FN (fL ["Gaps"] "laid" aI) cC [aF p,ai (bD x.2.2.2),aB x.1] (iD Z p "Gaps" "laid" (eS keep many tk rs L) (.bH (fU L)))=aD (bD y.2.2.2) (iD Z p "Gaps" "laid" (eS keep many tk rs L) (.bH (fU (L.filter λz=>z.1 != x.1)))):=by
    unfold FN;rw[dH q,a8 ⟨_,_,f⟩];rw[dH (x:=A.int x.1) (Z':=iD Z p "Gaps" "laid" (eS keep many tk rs L) (.bH (fU L))) (by simp)];simp only[Jn,f,lH,Ae,g,EI,azF];rw[Gg]
   have e:p<Z.length:=(dN.mp h).1;have l:fL ["Gaps"] "keep" aI [aF p,ai (bD x.2.2.2),aB x.1] (iD Z p "Gaps" "laid" (eS keep many tk rs L) (.bH (fU (L.filter λz=>z.1 != x.1))))=aD (.int keep) (iD Z p "Gaps" "laid" (eS keep many tk rs L) (.bH (fU (L.filter λz=>z.1 != x.1)))):=by
    have i:(iD Z p "Gaps" "laid" (eS keep many tk rs L) (.bH (fU (L.filter λz=>z.1 != x.1))))[p]?=ai (.ins "Gaps" (putD "laid" (.val (.aJ Z.length)) (eS keep many tk rs L))):=by
     rw[mM (by simpa using e),gK e]
    have hl:(putD "laid" (.val (.aJ Z.length)) (eS keep many tk rs L)).lookup ("keep" : a5)=ai (.val (.int keep)):=rfl;unfold fL;rw[dH (x:=A.aJ p) (Z':=iD Z p "Gaps" "laid" (eS keep many tk rs L) (.bH (fU (L.filter λz=>z.1 != x.1)))) (by simp)];simp only[DN,i,hl];simp
   have em:aU (bN 2 BL) (aC (FN (fL ["Gaps"] "laid" aI) cC) (aC aT a0)) [aF p,ai (bD x.2.2.2),aB x.1] (iD Z p "Gaps" "laid" (eS keep many tk rs L) (.bH (fU L)))=aD (bD (mV y.2.2.2 x.2.2.2)) (iD Z p "Gaps" "laid" (eS keep many tk rs L) (.bH (fU (L.filter λz=>z.1 != x.1)))):=by
    exact tO (BE k (bG (bK rfl) bY)) (aeD _ _ _ _ _ _ _ _ _ hz)
   exact kY (a:=bD (up1 keep y x).2.2.2) (tO (BE em (bG l bY)) (aD7 _ _ _ _ _ _ (by omega) (by omega) hm))
  ·intro j d U
   match j with
   |0=>exact .inl U
   |1 =>
    have:d=bD (up1 keep y x).2.2.2:=by simpa using U.symm
    subst this;exact .inr (ab0 _ _)
   |2=>exact .inl U
   |j+3=>simp at U
 rw[bO m];refine(kY (cX (bK (a:=A.int x.1) rfl) (b:=A.int 1) (by simp) (c:=A.int ((x.1+1:ay):av)) (by simp))).trans ?_;rfl
end
section
variable{p keep:ay}{many tk:av}{rs:aj Rn}
theorem LR{Z:aH}{c c':Cell}(h:Z[p]?=ai c):(Z.set p c')[p]?=ai c':=gK (dN.mp h).1
theorem Xy(c:1<=keep)(e:keep<=1000):∀(f n:ay) (L:aj Rg) (x:Rg) (Z:aH),Z[p]?=ai (bF keep many tk rs L)->L.length<=f->f<n->sO keep L->rG keep x ->
  ∃a U,kQ keep f L x=a++[U]/\(a.find? λy=>y.1==U.1)=ak/\a.length<=L.length /\
   lK XF XD n [aF p,ai (bD x.2.2.2),aB x.1] Z=dP [aF p,ai (bD U.2.2.2),aB U.1] (Z.set p (bF keep many tk rs a))
 |f,0,L,x,Z,_,_,hn,_,_=>by omega
 |f,n+1,L,x,Z,h,hl,hn,gF,g=>by
  have b:=arQ h x.1 (ai (bD x.2.2.2));cases j:L.find? λy=>y.1==x.1 with
  |none =>
   rw[j]at b;refine⟨L,x,?_,j,vA _,?_⟩
   ·cases f with
    |zero=>rfl
    |succ f=>unfold kQ;rw[j]
   ·rw[DP b,zO h]
  |some y =>
   rw[j]at b;have hm:=aeK j;have he:y.1=x.1:=by simpa using List.find?_some j
   have d:=gF.ok y hm;have r:=d.len;have o:=g.len;have u:(L.filter λz=>z.1 != x.1).length<L.length:=by
    refine Nat.lt_of_le_of_ne (aeM _ _) λq=>?_;have:=aE2.mp q y hm;simp[he]at this
   cases f with
   |zero=>omega
   |succ f =>
    have t:=arP h c (by omega) j (x:=x) (by omega) (by unfold qW;have:=Xa (s:=y.2.2.2.s) (t:=x.2.2.2.s) (y.2.2.2.es.length+x.2.2.2.es.length) 0 0 y.2.2.2.es x.2.2.2.es;omega);obtain⟨a,U,m,l,v,k⟩:=Xy c e f n (L.filter λz=>z.1 != x.1) (up1 keep y x) _ (LR h) (by omega) (by omega) ⟨gF.nd.sublist (aeO.map _),λz i=>gF.ok z (Oo.mp i).1⟩ (g.up c d he);refine⟨a,U,?_,l,by omega,?_⟩
    ·unfold kQ;rw[j];exact m
    ·rw[yO b t,k,pR]
theorem aeG(e:1<=keep)(a:keep<=1000){L:aj Rg}{x:Rg}{Z:aH}(h:Z[p]?=ai (bF keep many tk rs L))(hl:L.length<=1000)(gF:sO keep L)(g:rG keep x) :
  BR [.aJ p,bD x.2.2.2,.int x.1] Z=aD (.dE) (Z.set p (bF keep many tk rs (kQ keep L.length L x))):=by
 obtain⟨z,U,m,l,s,k⟩:=Xy (p:=p) (many:=many) (tk:=tk) (rs:=rs) e a L.length 1000000 L x Z h dD (by omega) gF g;have r:p<Z.length:=(dN.mp h).1;show trim Z (eE (Ms [aF p,ai (bD x.2.2.2),aB x.1] Z))=_;unfold Ms;rw[bO k];have h2:=LR (c':=bF keep many tk rs z) h;have o:=TK h2 (Y:=[aF p,ai (bD U.2.2.2),aB U.1]) rfl;have i:uC 0 "laid" (xS aT (fL ["Gaps"] "laid" aI) cC) [aF p,ai (bD U.2.2.2),aB U.1] (Z.set p (bF keep many tk rs z))=dP [aF p,ai (bD U.2.2.2),aB U.1] (Z.set p (bF keep many tk rs (kQ keep L.length L x))):=by
  rw[Gh (Y':=[aF p,ai (bD U.2.2.2),aB U.1]) rfl h2 Xq rfl (fd':=.bH (fU (kQ keep L.length L x))) (c':=.bH (fU (kQ keep L.length L x))) ?_ rfl (.inr (ab1 _ _)) (λj d f => .inl f),Vh,pR];have q:=UA (c:=.bH (fU z)) o;have n:lL (iD (Z.set p (bF keep many tk rs z)) p "Gaps" "laid" (eS keep many tk rs z) (.bH (fU z))) (.aJ (Z.set p (bF keep many tk rs z)).length)=ai ((Z.set p (bF keep many tk rs z)).length,fU z):=yS (UB o);have b:(fU z).length<az:=by rw[lE];simp[fU];omega
  unfold xS;rw[fM (x:=bD U.2.2.2) (Z':=iD (Z.set p (bF keep many tk rs z)) p "Gaps" "laid" (eS keep many tk rs z) (.bH (fU z))) (by simp),fM q];rw[fM (x:=A.int U.1) (Z':=iD (Z.set p (bF keep many tk rs z)) p "Gaps" "laid" (eS keep many tk rs z) (.bH (fU z))) (by simp)];simp only[SV,n,lH,a8 b,amB l U.2.1 U.2.2.1 U.2.2.2];rw[Gg,m]
 rw[i];simp only[xV];exact lD (by simp)
end
theorem MD:∀(ps:aj Rn) (acc:av),(iM acc ps).length<=2*ps.length
 |[],acc=>by simp[iM]
 |r::ps,acc=>by
  have ih:=MD ps (acc+r.2);unfold iM;split <;> simp only[iP,vE,JD] <;> omega
section
variable{Z:aH}{p keep:ay}{many tk:av}{rs:aj Rn}{L:aj Rg}
theorem ax1{Y:Ev}(h:Z[p]?=ai (bF keep many tk rs L))(z:(Y[0]?).join=(aF p)){n:av}(h1:(Y[1]?).join=(aB n)):CC (fL ["Gaps"] "newest" aI) aT bQ Y (iD Z p "Gaps" "newest" (eS keep many tk rs L) (.bH (fV rs)))=aD (.int (uV rs n)) (iD Z p "Gaps" "newest" (eS keep many tk rs L) (.bH (fV rs))):=by
 have o:=LZ h z;have q:=UA (c:=.bH (fV rs)) o;have j:lL (iD Z p "Gaps" "newest" (eS keep many tk rs L) (.bH (fV rs))) (.aJ Z.length)=ai (Z.length,fV rs):=yS (UB o);unfold CC;rw[dH q];rw[a8 ⟨_,_,j⟩];rw[dH (x:=.int n) (Z':=iD Z p "Gaps" "newest" (eS keep many tk rs L) (.bH (fV rs))) (by simp[h1])];rw[dH (x:=.int 0) (Z':=iD Z p "Gaps" "newest" (eS keep many tk rs L) (.bH (fV rs))) (by simp)];simp only[Jo,j,lH,Rz]
theorem Ve(h:Z[p]?=ai (bF keep many tk rs L))(nd:(rs.map (·.1)).Nodup)(hl:rs.length<1000)(n t:av) :
  uC 0 "newest" (xS (aA cJ (CC (fL ["Gaps"] "newest" aI) aT bQ) cC) (fL ["Gaps"] "newest" aI) aT) [aF p,aB n,aB t] Z=dP [aF p,aB n,aB t] (Z.set p (bF keep many tk (cL rs n t) L)):=by
 have z:rs.length<az:=by rw[lE];omega
 have o:=LZ h (Y:=[aF p,aB n,aB t]) rfl;rw[Gh (Y':=[aF p,aB n,aB t]) rfl h arA rfl (fd':=.bH (fV (cL rs n t))) (c':=.bH (fV (cL rs n t))) (by
  have q:=UA (c:=.bH (fV rs)) o;have e:lL (iD Z p "Gaps" "newest" (eS keep many tk rs L) (.bH (fV rs))) (.aJ Z.length)=ai (Z.length,fV rs):=yS (UB o);have b:(aA cJ (CC (fL ["Gaps"] "newest" aI) aT bQ) cC) [aF p,aB n,aB t] (iD Z p "Gaps" "newest" (eS keep many tk rs L) (.bH (fV rs)))=aD (.int (uV rs n+t)) (iD Z p "Gaps" "newest" (eS keep many tk rs L) (.bH (fV rs))) :=
   cX (ax1 h rfl rfl) (bK (a:=.int t) rfl) (by simp)
  unfold xS;rw[fM b,fM q];rw[fM (x:=.int n) (Z':=iD Z p "Gaps" "newest" (eS keep many tk rs L) (.bH (fV rs))) (by simp)];have f:(fV rs).length<az:=by simpa[fV]using z
  simp only[SV,e,lH,a8 f,Vj rs n t nd];rw[Gg]) rfl (.inr (ab2 _ _)) (λj d U => .inl U),Vf]
theorem aEA(h:Z[p]?=ai (bF keep many tk rs L))(nd:(rs.map (·.1)).Nodup)(hl:rs.length<1000)(n t:av)(U:(cL rs n t).length<=keep) :
  FA [.aJ p,.int n,.int t] Z=aD (.dE) (Z.set p (bF keep many tk (cL rs n t) L)):=by
 show trim Z (eE (PL [aF p,aB n,aB t] Z))=_;unfold PL;rw[bO (Ve h nd hl n t)];have h2:=LR (c':=bF keep many tk (cL rs n t) L) h;have q:(eS keep many tk (cL rs n t) L).lookup ("keep" : a5)=ai (.val (.int keep)):=rfl;have e:jO ["Gaps"] 0 "newest" (λj=>ret (.int j.length)) [aF p,aB n,aB t] (Z.set p (bF keep many tk (cL rs n t) L))=aD (.int (cL rs n t).length) (Z.set p (bF keep many tk (cL rs n t) L)):=by
  unfold jO;rw[LZ h2 rfl];simp[fV]
 have z:fL ["Gaps"] "keep" aI [aF p,aB n,aB t] (Z.set p (bF keep many tk (cL rs n t) L))=aD (.int keep) (Z.set p (bF keep many tk (cL rs n t) L)):=by
  unfold fL;rw[dH (bK (a:=A.aJ p) rfl)];simp only[DN,h2,q];simp
 rw[qC (iC (b:=aq) (cX e z (by simp;omega)))];simp only[xV];exact lD (by simp)
theorem Um{c:ay}(q:∀r∈rs,1<=r.2)(hl:rs.length<=keep+1)(z:keep+1<=c):rG keep (0,c,rs,kO rs):=by
 have g:=DL q;have j:0<=(kO rs).s:=g.gf.s0;refine⟨g,?_,?_,?_,j⟩
 ·show(keep:av)*0<=((0:ay):av)*_;simp
 ·show 2 ^ 0*(keep+1)<=c;simpa using z
 ·show(iM 0 (cU rs)).length<=2*keep+2;have h1:=MD (cU rs) 0;have h2:=CN rs;omega
theorem aD9(g:1<=keep)(s:keep<=62)(h:Z[p]?=ai (bF keep many tk rs L))(nd:(rs.map (·.1)).Nodup)(hl:rs.length<1000)(n t:av)(u:(cL rs n t).length=keep+1)(z:∀r∈cL rs n t,1<=r.2)(hw:whole (cL rs n t)<=1000000000)
  (gF:sO keep L) (hL:L.length<=1000) {c:ay} (i:keep+1<=c) :
  FA [.aJ p,.int n,.int t] Z=aD (.dE) (Z.set p (bF keep many tk [] (kQ keep L.length L (0,c,cL rs n t,kO (cL rs n t))))):=by
 show trim Z (eE (PL [aF p,aB n,aB t] Z))=_;unfold PL;rw[bO (Ve h nd hl n t)];have h2:=LR (c':=bF keep many tk (cL rs n t) L) h;have f:(eS keep many tk (cL rs n t) L).lookup ("keep" : a5)=ai (.val (.int keep)):=rfl;have e:jO ["Gaps"] 0 "newest" (λj=>ret (.int j.length)) [aF p,aB n,aB t] (Z.set p (bF keep many tk (cL rs n t) L))=aD (.int (cL rs n t).length) (Z.set p (bF keep many tk (cL rs n t) L)):=by
  unfold jO;rw[LZ h2 rfl];simp[fV]
 have l:fL ["Gaps"] "keep" aI [aF p,aB n,aB t] (Z.set p (bF keep many tk (cL rs n t) L))=aD (.int keep) (Z.set p (bF keep many tk (cL rs n t) L)):=by
  unfold fL;rw[dH (bK (a:=A.aJ p) rfl)];simp only[DN,h2,f];simp
 have q:=aeG g (by omega) h2 hL gF (Um z (by omega) i);rw[pR]at q;have b:=aeA h2 z (by omega) hw;have em:(bU "lay" [("Gaps",bR 3 [] BR)] aI (aC (bU "newest_pouch" [("Gaps",bR 1 [] BQ)] aI a0) (aC bQ a0))) [aF p,aB n,aB t] (Z.set p (bF keep many tk (cL rs n t) L))=aD (.dE) (Z.set p (bF keep many tk (cL rs n t) (kQ keep L.length L (0,c,cL rs n t,kO (cL rs n t))))) :=
  qX h2 rfl rfl (as:=[bD (kO (cL rs n t)),.int 0]) (das:=[]) (bG (qX h2 rfl rfl (as:=[]) (das:=[]) bY rfl (by simpa using b)) (bG (by simp) bY)) rfl (by simpa using q)
 have U:=LR (c':=bF keep many tk (cL rs n t) (kQ keep L.length L (0,c,cL rs n t,kO (cL rs n t)))) h;have m:(xR ["Gaps"] 0 "newest" vP) [aF p,aB n,aB t] (Z.set p (bF keep many tk (cL rs n t) (kQ keep L.length L (0,c,cL rs n t,kO (cL rs n t)))))=dP [aF p,aB n,aB t] (Z.set p (bF keep many tk [] (kQ keep L.length L (0,c,cL rs n t,kO (cL rs n t))))):=by
  generalize kQ keep L.length L (0,c,cL rs n t,kO (cL rs n t))=L2 at U;have d:CS ["Gaps"] 0 [aF p,aB n,aB t] (Z.set p (bF keep many tk (cL rs n t) L2))=ai (p,("Gaps" : a5),eS keep many tk (cL rs n t) L2):=by
   unfold CS;simp[U]
  have o:vP [aF p,aB n,aB t] (Z.set p (bF keep many tk (cL rs n t) L2))=aD (.aJ (Z.set p (bF keep many tk (cL rs n t) L2)).length) (Z.set p (bF keep many tk (cL rs n t) L2)++[.bH []]):=by simp
  unfold xR;rw[d];simp only[o,ax3,Fd.GC];rw[a8 ⟨rfl,rfl,by simp,ab2 _ []⟩];show ai (Out.nx,_,(Z.set p _).set p (.ins "Gaps" (putD "newest" (.bH (fV [])) (eS keep many tk (cL rs n t) L2))))=_;rw[Vf,pR]
 have k:bL (aA rY (jO ["Gaps"] 0 "newest" λj=>ret (.int j.length)) (fL ["Gaps"] "keep" aI)) [aF p,aB n,aB t] (Z.set p (bF keep many tk (cL rs n t) L))=aD ax (Z.set p (bF keep many tk (cL rs n t) L)):=iC (cX e l (by simp;omega));unfold dQ;rw[fM k];simp only[kS];rw[bO (Y1:=[aF p,aB n,aB t]) (by unfold iJ;rw[fM em]),m];simp only[xV];exact lD (by simp)
end
open Classical in
theorem FJ{α:Type}{n:ay}{js:aj ay}{fi:Ev->Mo Src}{g:A->MS}{e:Ev->Mo A}{Y:Ev}{Z Z0:aH}{S:Src}(xs:aj α)(enc ab:α->A)(P:Ev->Prop)(inj:∀x y,enc x=enc y->ab x=ab y)
  (h0:fi Y Z=aD S Z0) (aL:∀ys,S.ok (Z0++[.lst ys])) (hP:P (uI n js Y)) (hS:S.ds=xs.map enc) (hl:xs.length<=1000000)
  (step:∀x∈xs,∀Y,P Y->∀ys,∃Y1,P Y1/\g (enc x) Y (Z0++[.lst ys])=dP Y1 (Z0++[.lst ys])/\e Y1 (Z0++[.lst ys])=aD (ab x) (Z0++[.lst ys]))
  (hc:∀x∈xs,Cl Z0.length (ab x)):mR aq n js fi g nB e Y Z=aD (.lst (xs.map ab)) Z0:=by
 let F:A->ar A:=λa=>if h:∃x,x∈xs/\enc x=a then ai (ab (Classical.choose h))else ak
 have hF:∀x∈xs,F (enc x)=ai (ab x):=λx hx=>by
  have h:∃y,y∈xs/\enc y=enc x:=⟨x,hx,rfl⟩;show(if h:∃y,y∈xs/\enc y=enc x then ai (ab (Classical.choose h))else ak)=_;rw[dif_pos h,inj _ _ (ZJ h).2]
 have ef:∀l:aj α,(∀x∈l,x∈xs)->(l.map enc).filterMap F=l.map ab:=by
  intro l
  induction l with
  |nil=>intro _;rfl
  |cons x r ih =>
   intro h;simp only[cV,Ot,hF x (h x (by simp)),ih λy hy=>h y (by simp[hy])]
 have q:=RS (n:=n) (js:=js) (fi:=fi) (g:=g) (c:=nB) (e:=e) (Y:=Y) (Z:=Z) (Z0:=Z0) (S:=S) F P h0 aL hP (by rw[hS];simpa using hl) (λx hx Y hp ys=>by
  rw[hS]at hx;obtain⟨y,hy,rfl⟩:=fZ.mp hx;obtain⟨Y1,h1,h2,h3⟩:=step y hy Y hp ys;exact⟨Y1,h1,h2,.inl ⟨ab y,hF y hy,by simp[nB],h3⟩⟩) (by
  rw[hS,ef xs λ_ h=>h];exact uW λa ha=>by obtain⟨x,hx,rfl⟩:=fZ.mp ha;exact hc x hx)
 rw[hS,ef xs λ_ h=>h]at q;exact q
theorem aa1(L:aj av)(Z:aH):wL [.lst (L.map A.int)] Z=aD (.int L.sum) Z:=by
 simp[GQ]
def cH(rs:aj Rn)(L:aj Rg):aj Po:=kO rs::L.map λx=>x.2.2.2
section
variable{Z:aH}{p keep:ay}{many tk:av}{rs:aj Rn}{L:aj Rg}
theorem QA(h:Z[p]?=ai (bF keep many tk rs L))(z:∀r∈rs,1<=r.2)(hl:rs.length<=63)(hw:whole rs<=1000000000)(hL:L.length<=1000):qS [.aJ p] Z=aD (.lst ((cH rs L).map bD)) Z:=by
 have q:=aeA h z hl hw;show trim Z (eE (Mn [aF p] Z))=_;have d:bU "newest_pouch" [("Gaps",bR 1 [] BQ)] aI a0 [aF p] Z=aD (bD (kO rs)) Z:=qX h rfl rfl (as:=[]) (das:=[]) bY rfl (by simpa using q);have b:eQ aq (aC (bU "newest_pouch" [("Gaps",bR 1 [] BQ)] aI a0) a0) [aF p] Z=aD (.lst [bD (kO rs)]) Z:=by
  unfold eQ;rw[dH (bG d bY)];have h1:(1:ay)<=az:=by decide
  simp[h1]
 have a:jO ["Gaps"] 0 "laid" (λj=>jR aq (j.map (·.2))) [aF p] Z=aD (.lst (L.map λx=>bD x.2.2.2)) Z:=by
  unfold jO;rw[TK h rfl];simp[fU,xC]
 have U:=cX (g:=HQ aq) (c:=.lst ((cH rs L).map bD)) b a (by
  have:1+L.length<=az:=by rw[lE];omega
  simp[cH,xC];omega)
 unfold Mn bV;rw[fM U];exact lD rfl
theorem aEH(h:Z[p]?=ai (bF keep many tk rs L))(c:∀r∈rs,1<=r.2)(hl:rs.length<=63)(hw:whole rs<=1000000000)(hL:L.length<=1000):rM [.aJ p] Z=aD (.int (fD L)) Z:=by
 have U:=QA h c hl hw hL;show trim Z (eE (Mq [aF p] Z))=_;have g:bU "parts" [("Gaps",bR 1 [] qS)] aI a0 [aF p] Z=aD (.lst ((cH rs L).map bD)) Z:=qX h rfl rfl (as:=[]) (das:=[]) bY rfl (by simpa using U);have f:Mp [aF p] Z=aD (.lst ((cH rs L).map λq=>A.int q.l)) Z:=by
  refine FJ (S:=srcOf (.lst ((cH rs L).map bD)) ((cH rs L).map bD)) (cH rs L) bD (λq=>A.int q.l) (λj=>∃u,j=[u]) (λa b e=>by simp[bD,dG]at e;simp[e.2.1]) ?_ (λz=>rfl) ⟨ak,rfl⟩ rfl (by simp[cH];omega) (λq _ j ⟨u,e⟩ z=>by subst e;exact⟨[ai (bD q)],⟨_,rfl⟩,by simp,by simp[bD,dG]⟩) (λq _=>by simp only[Cl]);unfold eW;rw[dH g];simp
 have d:aU wL (aC Mp a0) [aF p] Z=aD (.int (fD L)) Z:=tO (bG f bY) (by
  have e:(cH rs L).map (λq=>A.int q.l)=((cH rs L).map (·.l)).map A.int:=by simp[xC]
  rw[e];have s:=aa1 ((cH rs L).map (·.l)) Z;rw[s];simp[cH,kO,fD,xC])
 unfold Mq bV;rw[fM d];exact lD rfl
end
theorem ayF(b:au)(g:A->Mo A)(a:A)(Z:aH)(ds:aj A)(m:ay)(h1:fB Z a=ai ds)(B:∀i d,ds[i]?=ai d->g d Z=aD (.bl (decide (m<=i))) Z):∀(k fuel st z:ay) (x:ar A),z-st<=k->k<fuel->st<=m->m<=z->z<=ds.length ->
  ∃c,lK (EC b g) (PD b g) fuel [ai a,ai (.adr b),aB st,aB z,x] Z=dP [ai a,ai (.adr b),aB m,aB m,c] Z:=by
 intro k
 induction k with
 |zero =>
  intro fuel st z x w y h2 s r;obtain⟨fuel,rfl⟩:∃n,fuel=n+1:=⟨fuel-1,by omega⟩;have h:st=m:=by omega
  have f:z=m:=by omega
  subst h f;exact⟨x,by rw[DP (Z1:=Z) (by simp[EC])]⟩
 |succ k ih =>
  intro fuel st z x w y h2 s r;obtain⟨fuel,rfl⟩:∃n,fuel=n+1:=⟨fuel-1,by omega⟩
  by_cases C:st<z
  ·have t:(st:av)<(z:av):=by omega
   have hd2:∀j,nM j 2:=λj=>⟨by decide,by decide⟩
   obtain⟨U,v⟩:∃U:ay,U=(st+z)/2:=⟨_,rfl⟩;have l:((st:av)+(z:av))/2=(U:av):=by omega
   have u:U<ds.length:=by omega
   have p:eU ds (U:av)=ai ds[U]:=by rw[sG,dR u]
   have e:=B U _ (dR u);have o:(bM (aA (jI) (aA cJ cC dS) eO) (gN 4)) [ai a,ai (.adr b),aB st,aB z,x] Z=dP [ai a,ai (.adr b),aB st,aB z,aB U] Z:=by
    simp[hd2,l]
   by_cases hm:m<=U
   ·obtain⟨c,q⟩:=ih fuel st U (aB U) (by omega) (by omega) h2 hm (by omega);refine⟨c,?_⟩;rw[<-q];refine yO (Z1:=Z) (by simp[EC,t]) ?_;rw[rC hm]at e;unfold PD;rw[bO o];simp[h1,p,e]
   ·obtain⟨c,q⟩:=ih fuel (U+1) z (aB U) (by omega) (by omega) (by omega) s r;refine⟨c,?_⟩;rw[<-q];refine yO (Z1:=Z) (by simp[EC,t]) ?_;rw[oR hm]at e;unfold PD;rw[bO o];simp[h1,p,e]
  ·have h:st=m:=by omega
   have f:z=m:=by omega
   subst h f;exact⟨x,by rw[DP (Z1:=Z) (by simp[EC])]⟩
theorem Jq(j:au)(g:A->Mo A)(a:A)(Z:aH)(r:Rs A×aH)(h:qB (nI g a) Z=ai r):cN 5 (ED j g) [a,.adr j] Z=ai r:=by
 have h':nI g a Z=ai r:=by
  simp only[qB]at h
  revert h
  cases e:nI g a Z with
  |none=>intro h;cases h
  |some c =>
   obtain⟨x,Z'⟩:=c;cases x with
   |ok b=>intro h;exact h
   |exc b=>intro h;cases h
 obtain⟨ds,m,h1,h2,i,d,rfl⟩:=ayG h';obtain⟨U,q⟩:=ayF j g a Z ds m h1 d ds.length 1000000 0 ds.length ak (by omega) (by omega) (by omega) h2 dD;simp only[YR]at q;show trim Z (eE (ED j g [ai a,ai (.adr j),ak,ak,ak] Z))=_;unfold ED;rw[bO (Y1:=[ai a,ai (.adr j),aB 0,ak,ak]) (Z':=Z) (by simp)];rw[bO (Y1:=[ai a,ai (.adr j),aB 0,aB ds.length,ak]) (Z':=Z) (by simp[h1])];rw[bO (Y1:=[ai a,ai (.adr j),aB m,aB m,U]) (Z':=Z) (f:=λz Z=>lK (EC j g) (PD j g) ((λ_ _=>1000000) z Z) z Z) q];simp
abbrev Nf(xs:aj E):Prop:=xs.Pairwise λa b=>a.1<=b.1
theorem Kn{l s:av}:∀{es:aj E} {lo q:av} {U:ar av},Ch l s lo q U es->Nf es/\(∀e∈es,lo<e.2.1)/\(∀p,U=ai p->∀e∈es,p<=e.1)/\es.Pairwise (λa b=>a.2.1<b.2.1)
 |[],_,_,_,_=>⟨.nil,by simp,by simp,.nil⟩
 |e::r,lo,q,U,h=>by
  obtain⟨h1,_,g,_,_,_,f⟩:=h;obtain⟨a,b,c,d⟩:=Kn f;refine⟨vD.mpr ⟨λx j=>c e.1 rfl x j,a⟩,λx j=>?_,λp q x j=>?_,vD.mpr ⟨b,d⟩⟩
  ·rcases eK.mp j with z|z
   ·subst z;exact g
   ·have:=b x z;omega
  ·rcases eK.mp j with z|z
   ·subst z;exact h1 p q
   ·have:=h1 p q;have:=c e.1 rfl x z;omega
theorem ab7{l s:av}:∀{es:aj E} {lo j:av} {q:ar av},Ch l s lo j q es->(∀e∈es,j<e.2.2)/\es.Pairwise (λa b=>a.2.2<b.2.2)
 |[],_,_,_,_=>⟨by simp,.nil⟩
 |e::r,lo,j,q,h=>by
  obtain⟨_,_,_,d,_,_,c⟩:=h;obtain⟨a,b⟩:=ab7 c;refine⟨λx U=>?_,vD.mpr ⟨a,b⟩⟩
  rcases eK.mp U with z|z
  ·subst z;exact d
  ·have:=a x z;omega
theorem aeI(s l d:av)(ent:A)(es:aj E)(i:ay)(Z:aH)(j:fB Z ent=ai (encL es))(h:i<=es.length):rL [.tup [.int s,.int l,.int d,ent],.int i] Z=aD (.tup [.int (jE es i),.int (jF s es i)]) Z:=by
 have h2:(2:ay)<=az:=by decide
 by_cases z:i=0
 ·subst z
  by_cases h1:es=[]
  ·subst h1;simp[rL,yW,j,encL,jE,jF,h2]
  ·have hl:0<es.length:=List.length_pos_iff.mpr h1;have U:eU (encL es) 0=ai (bZ es[0]):=by rw[show(0:av)=((0:ay):av)by rfl,sG,oQ,dR hl];rfl
   simp[rL,yW,j,U,hl,jE,jF,bZ,h2]
 ·have a:i-1<es.length:=by omega
  have q:0<i:=by omega
  have b:eU (encL es) ((i:av)-1)=ai (bZ es[i-1]):=by rw[XJ _ _ q,oQ,dR a];rfl
  by_cases hl:i<es.length
  ·have U:eU (encL es) (i:av)=ai (bZ es[i]):=by rw[sG,oQ,dR hl];rfl
   simp[rL,yW,j,b,U,hl,q,jE,jF,bZ,z,h2,a]
  ·have:i=es.length:=by omega
   subst this;simp[rL,yW,j,b,q,jE,jF,bZ,z,h2,a]
theorem Fp{p:E->bh}:∀{es:aj E},es.Pairwise (λa b=>p a=ax->p b=ax)->∃m,m<=es.length/\∀(i:ay) (e:E),es[i]?=ai e->p e=decide (m<=i)
 |[],_=>⟨0,vA _,λi e h=>by simp at h⟩
 |x::z,h=>by
  obtain⟨h1,h2⟩:=vD.mp h;cases j:p x with
  |true =>
   refine⟨0,BI _,λi e he=>?_⟩;cases i with
   |zero=>simp at he;subst he;simp[j]
   |succ i=>simp at he;simp[h1 e (kF he) j]
  |false =>
   obtain⟨m,hm,q⟩:=Fp h2;refine⟨m+1,by simp;omega,λi e he=>?_⟩;cases i with
   |zero=>simp at he;subst he;simp[j]
   |succ i =>
    simp at he;rw[q i e he];simp
theorem aC6{s l d:av}{es:aj E}(h:GF s l d es)(b:av):∃m,m<=es.length/\∀(i:ay) (e:E),es[i]?=ai e->decide (b<e.2.2)=decide (m<=i) :=
 Fp ((ab7 h.ch).2.imp λ{x y} q j=>by simp at j ⊢;omega)
noncomputable def ah(x:av)(j:bh)(e:E):bh:=decide (e.1<x)||(j&&decide (e.1=x))
theorem aBX{s l d:av}{es:aj E}(h:GF s l d es)(x:av)(j:bh):∃m,m<=es.length/\∀(i:ay) (e:E),es[i]?=ai e->(!ah x j e)=decide (m<=i) :=
 Fp (p:=λe=>!ah x j e) ((Kn h.ch).1.imp λ{a b} z ha=>by
  have q:a.1<=b.1:=z;cases j <;> simp[ah]at ha ⊢ <;> omega)
def At(R:aj Rn)(e:E)(p:av):Prop:=cP R e.1<p/\p<=cW R e.1/\e.2.1<=p/\p<=e.2.2
theorem TF{R:aj Rn}:∀{es:aj E} {z:av},Pl R z es->∃ps:aj av,ps.length=es.length/\(∀p∈ps,z<p)/\ps.Pairwise (· < ·)/\∀(i:ay) (e:E),es[i]?=ai e->∃p,ps[i]?=ai p/\At R e p
 |[],_,_=>⟨[],rfl,(λ_ h=>by cases h),List.Pairwise.nil,(λi e h=>by simp at h)⟩
 |e::r,z,⟨p,h,f,d,c,b,a⟩=>by
  obtain⟨ps,s,U,o,n⟩:=TF a;refine⟨p::ps,by simp[s],λq j=>?_,vD.mpr ⟨λq j=>U q j,o⟩,λi k he=>?_⟩
  ·rcases eK.mp j with x|x
   ·rw[x];exact h
   ·have:=U q x;omega
  ·cases i with
   |zero=>simp at he;subst he;exact⟨p,rfl,f,d,c,b⟩
   |succ i=>obtain⟨g,m,l⟩:=n i k (by simpa using he);exact⟨g,by simpa using m,l⟩
theorem Vr{R:aj Rn}{es:aj E}{z:av}(h:Pl R z es){i:ay}{e:E}(he:es[i]?=ai e):∃p,z<p/\At R e p:=by
 obtain⟨b,_,a,_,U⟩:=TF h;obtain⟨p,q,j⟩:=U i e he;exact⟨p,a p (kF q),j⟩
def sD(R:aj Rn)(x:av)(j:bh):av:=if j then cW R x else cP R x
theorem bnd{R:aj Rn}{p:Po}(h:Gd R p)(x:av)(j:bh)(m:ay)(hm:m<=p.es.length)(U:∀(i:ay) (e:E),p.es[i]?=ai e->(!ah x j e)=decide (m<=i)) :
  jE p.es m<=sD R x j/\sD R x j<=jF p.s p.es m/\0<=jE p.es m:=by
 have hl:∀(i:ay) (e:E),p.es[i]?=ai e->i<m->cW R e.1<=sD R x j:=λi e he hi=>by
  have:=U i e he;have h2:decide (m<=i)=aq:=by simp;omega
  rw[h2]at this;unfold sD;cases j with
  |true =>
   have:e.1<=x:=by simp[ah]at this;omega
   simp only[kS];exact FQ h.tn this
  |false =>
   have:e.1<x:=by simp[ah]at this;omega
   simp only[RF,rV];exact CF h.tn this
 have hh:∀(i:ay) (e:E),p.es[i]?=ai e->m<=i->sD R x j<=cP R e.1:=λi e he hi=>by
  have:=U i e he;have h2:decide (m<=i)=ax:=by simp;omega
  rw[h2]at this;unfold sD;cases j with
  |true =>
   have:x<e.1:=by simp[ah]at this;omega
   simp only[kS];exact CF h.tn this
  |false =>
   have:x<=e.1:=by simp[ah]at this;omega
   simp only[RF,rV];exact FR h.tn this
 have a:0<=sD R x j:=by
  unfold sD;split
  ·exact JH (CG h.tn x) (vS h.tn x)
  ·exact CG h.tn x
 refine⟨?_,?_,?_⟩
 ·cases m with
  |zero=>simpa[jE]using a
  |succ m =>
   rw[CT _ _ (by omega)];obtain⟨q,_,f,d,c,b⟩:=Vr h.pl (dR (show m<p.es.length by omega));have:=hl m _ (dR (by omega)) (by omega);omega
 ·by_cases z:m<p.es.length
  ·rw[US _ _ _ z];obtain⟨q,_,f,d,c,b⟩:=Vr h.pl (dR z);have:=hh m _ (dR z) dD;omega
  ·have e:m=p.es.length:=by omega
   rw[e,UT,h.sz];unfold sD;split
   ·exact FP h.tn x
   ·exact JH (vS h.tn x) (FP h.tn x)
 ·cases m with
  |zero=>simp[jE]
  |succ m =>
   rw[CT _ _ (by omega)];have:=(OP _ _ _ _ h.gf.ch _ (zA (show m<p.es.length by omega))).2.1;omega
theorem ah4{R:aj Rn}{p:Po}(h:Gd R p)(place:av)(h1:1<=place)(h2:place<=p.s)(m:ay)(hm:m<=p.es.length)(z:∀(i:ay) (e:E),p.es[i]?=ai e->decide (place+(p.l+1)/2<e.2.2)=decide (m<=i))(e:E)(K:1<=m)(he:p.es[m-1]?=ai e) :
  cP R e.1<cW R e.1/\cP R e.1+1-(p.l+1)/2<=place/\place<=cW R e.1+(p.l+1)/2:=by
 have I:=h.gf.l0;obtain⟨o,G,F,D,b⟩:=TF h.pl;obtain⟨q,C,B,A,y,x⟩:=b _ _ he;have hi:=z _ _ he;have r:e.2.2<=place+(p.l+1)/2:=by
  have:decide (m<=m-1)=aq:=by simp;omega
  rw[this]at hi;simpa using hi
 refine⟨by omega,by omega,?_⟩
 by_cases hl:m<p.es.length
 ·have j:p.es[m]?=ai p.es[m]:=dR hl;obtain⟨n,w,v,k,u,t⟩:=b _ _ j;have U:=z _ _ j;rw[rC (vA m)]at U;have c:place+(p.l+1)/2<p.es[m].2.2:=by simpa using U
  obtain⟨g,f,a,d⟩:=DX p.es 0 0 ak m _ h.gf.ch j;have hb:oG p.l e p.es[m]=ax:=((DX p.es 0 0 ak (m-1) e h.gf.ch he).2.2.2 p.es[m] (by rw[show m-1+1=m by omega];exact j)).2.2.2;rw[zY]at hb
  rcases hb with hb|hb
  ·rw[hb]at k;omega
  ·omega
 ·have H:m=p.es.length:=by omega
  obtain⟨g,f,a,d⟩:=DX p.es 0 0 ak (m-1) _ h.gf.ch he;have:=a (by omega);omega
theorem aBW{s l d:av}{es:aj E}(h:GF s l d es)(x:av)(a:bh)(m:ay)(hm:m<=es.length)(n:∀(i:ay) (e:E),es[i]?=ai e->(!ah x a e)=decide (m<=i)) :
  jF s es m-jE es m<=l/\0<=jE es m/\0<=jF s es m:=by
 have hl:=h.l0;have p:=h.s0;cases m with
 |zero =>
  have h1:jE es 0=0:=rfl;rw[h1];cases es with
  |nil =>
   have:=(Jd h).mpr rfl;have h2:jF s [] 0=s:=rfl;rw[h2];omega
  |cons e r =>
   have f:=(h.fst e r rfl).2;have h2:jF s (e::r) 0=e.2.2-1:=rfl;rw[h2];omega
 |succ k =>
  have q:k<es.length:=by omega
  rw[CT es k q];obtain⟨F,D,v,u⟩:=DX es 0 0 ak k es[k] h.ch (dR q);have t:0<es[k].2.1:=((Kn h.ch).2.1 es[k] (zA q))
  by_cases U:k+1<es.length
  ·rw[US s es (k+1) U];obtain⟨C,B,A,o⟩:=u es[k+1] (dR U);rw[zY]at o;have c:=n k es[k] (dR q);have b:=n (k+1) es[k+1] (dR U);have g:ah x a es[k]=ax:=by
    have:¬k+1<=k:=by omega
    rw[oR this]at c;simpa using c
   have j:ah x a es[k+1]=aq:=by
    rw[rC dD]at b;simpa using b
   have gV:es[k+1].1≠es[k].1:=λz=>by
    unfold ah at g j;rw[z]at j;rw[g]at j;cases j
   rcases o with z|z
   ·exact bu z gV
   ·omega
  ·have e:k+1=es.length:=by omega
   rw[e,UT];obtain⟨y,w⟩:=v e;omega
abbrev nE:Cell:=.tab "upto" ⟨141,53,141,84⟩ (tF "upto")
abbrev nF:Cell:=.tab "below" ⟨144,53,144,85⟩ (tF "below")
theorem af8{s l d:av}{es:aj E}(hz:es.length<=1000)(x:av)(m:ay)(hm:m<=es.length)(U:∀(i:ay) (e:E),es[i]?=ai e->(!ah x ax e)=decide (m<=i))(ent:A)(Z:aH)(hT:Z[0]?=ai nE)(j:fB Z ent=ai (encL es)) :
  JK [.tup [.int s,.int l,.int d,ent],.int x] Z=aD (.tup [.int (jE es m),.int (jF s es m)]) Z:=by
 have c:nI (lV IB [x]) ent Z=aD (.int (m:av)) Z:=by
  refine Jr j (by simpa using hm) (by simp;omega) λi a ha=>?_;rw[oQ]at ha;cases e:es[i]? with
  |none=>rw[e]at ha;cases ha
  |some z =>
   rw[e]at ha;cases ha;have:=U i z e;rw[<-this];simp only[lV,qB,IB,ah]
   by_cases h1:z.1<x
   ·have h2:¬x<z.1:=by omega
    simp[bZ,h1,h2]
   ·by_cases q:z.1=x
    ·have h2:¬x<z.1:=by omega
     simp[bZ,h1,h2,q]
    ·have h2:x<z.1:=by omega
     simp[bZ,h1,h2,q]
 have b:=aeI s l d ent es m Z j hm;have f:sU 0 "upto" ⟨141,53,141,84⟩ (tF "upto") [1] (λns a=>nI (lV IB ns) a) (aA aO aI gO) [ai (.tup [.int s,.int l,.int d,ent]),aB x] Z=aD (.int (m:av)) Z:=by
  simp only[sU];rw[dH (x:=ent) (Z':=Z) (by simp)];rw[a8 hT];simp only[wR,qB];show(match (nI (lV IB [x]) ent Z)with
   |some (.exc _,_)=>ak
   | r=>r)=_
  rw[c]
 show trim Z (eE (Kx [ai (.tup [.int s,.int l,.int d,ent]),aB x] Z))=_;unfold Kx;simp[f,b]
theorem aC8{s l d:av}{es:aj E}(hz:es.length<=1000)(x:av)(m:ay)(hm:m<=es.length)(q:∀(i:ay) (e:E),es[i]?=ai e->(!ah x aq e)=decide (m<=i))(ent:A)(Z:aH)(hT:Z[1]?=ai nF)(j:fB Z ent=ai (encL es)) :
  JT [.tup [.int s,.int l,.int d,ent],.int x] Z=aD (.tup [.int (jE es m),.int (jF s es m)]) Z:=by
 have U:nI (lV IF [x]) ent Z=aD (.int (m:av)) Z:=by
  refine Jr j (by simpa using hm) (by simp;omega) λi a ha=>?_;rw[oQ]at ha;cases e:es[i]? with
  |none=>rw[e]at ha;cases ha
  |some z =>
   rw[e]at ha;cases ha;have:=q i z e;rw[<-this];simp only[lV,qB,IF,ah]
   by_cases h1:z.1<x
   ·have h2:¬x<=z.1:=by omega
    simp[bZ,h1,h2]
   ·have h2:x<=z.1:=by omega
    simp[bZ,h1,h2]
 have b:=aeI s l d ent es m Z j hm;have c:sU 1 "below" ⟨144,53,144,85⟩ (tF "below") [1] (λns a=>nI (lV IF ns) a) (aA aO aI gO) [ai (.tup [.int s,.int l,.int d,ent]),aB x] Z=aD (.int (m:av)) Z:=by
  simp only[sU];rw[dH (x:=ent) (Z':=Z) (by simp)];rw[a8 hT];simp only[wR,qB];show(match (nI (lV IF [x]) ent Z)with
   |some (.exc _,_)=>ak
   | r=>r)=_
  rw[U]
 show trim Z (eE (Ll [ai (.tup [.int s,.int l,.int d,ent]),aB x] Z))=_;unfold Ll;simp[c,b]
open Classical in
noncomputable def MJ(x:av)(cQ:bh)(p:Po):ay:=if h:∃m,m<=p.es.length/\∀(i:ay) (e:E),p.es[i]?=ai e->(!ah x cQ e)=decide (m<=i)then Classical.choose h else 0
noncomputable def jZ(x:av)(j:bh)(p:Po):av:=jE p.es (MJ x j p)
noncomputable def kJ(x:av)(j:bh)(p:Po):av:=jF p.s p.es (MJ x j p)
theorem GI{R:aj Rn}{p:Po}(h:Gd R p)(x:av)(j:bh):MJ x j p<=p.es.length/\∀(i:ay) (e:E),p.es[i]?=ai e->(!ah x j e)=decide (MJ x j p<=i):=by
 have q:=aBX h.gf x j;unfold MJ;rw[dif_pos q];exact ZJ q
theorem Ra{R:aj Rn}{p:Po}(h:Gd R p)(x:av)(j:bh):0<=jZ x j p/\jZ x j p<=sD R x j/\sD R x j<=kJ x j p/\kJ x j p-jZ x j p<=p.l:=by
 obtain⟨hm,q⟩:=GI h x j;obtain⟨b,a,U⟩:=bnd h x j _ hm q;obtain⟨z,_,_⟩:=aBW h.gf x j _ hm q;exact⟨U,b,a,z⟩
theorem aD5{R:aj Rn}{p:Po}(h:Gd R p)(hz:p.es.length<=1000)(x:av)(Z:aH)(hT:Z[0]?=ai nE)(ent:A)(j:fB Z ent=ai (encL p.es)):JK [.tup [.int p.s,.int p.l,.int p.d,ent],.int x] Z=aD (.tup [.int (jZ x ax p),.int (kJ x ax p)]) Z :=
 af8 hz x _ (GI h x ax).1 (GI h x ax).2 ent Z hT j
theorem aEZ{R:aj Rn}{p:Po}(h:Gd R p)(hz:p.es.length<=1000)(x:av)(Z:aH)(hT:Z[1]?=ai nF)(ent:A)(j:fB Z ent=ai (encL p.es)):JT [.tup [.int p.s,.int p.l,.int p.d,ent],.int x] Z=aD (.tup [.int (jZ x aq p),.int (kJ x aq p)]) Z :=
 aC8 hz x _ (GI h x aq).1 (GI h x aq).2 ent Z hT j
noncomputable def L2S(l:aj ay):a5:=⟨l.toArray⟩
@[simp] theorem aH9(l:aj ay):(L2S l).cps.toList=l:=rfl
noncomputable def σ(c:ay):aj (aj ay)->aj ay
 |[]=>[]
 |x::r=>x++r.flatMap λy=>c::y
open Classical in
theorem Se{α:Type}{n:ay}{js:aj ay}{fi:Ev->Mo Src}{g:A->MS}{e:Ev->Mo A}{Y:Ev}{Z Z0:aH}{S:Src}(xs:aj α)(enc ab:α->A)(P:Ev->Prop)(inj:∀x y,enc x=enc y->ab x=ab y)
  (h0:fi Y Z=aD S Z0) (aL:∀ys,S.ok (Z0++[.lst ys])) (hP:P (uI n js Y)) (hS:S.ds=xs.map enc) (hl:xs.length<=1000000)
  (step:∀x∈xs,∀Y,P Y->∀ys,∃Y1,P Y1/\g (enc x) Y (Z0++[.lst ys])=dP Y1 (Z0++[.lst ys])/\e Y1 (Z0++[.lst ys])=aD (ab x) (Z0++[.lst ys]))
  (hc:∀x∈xs,Cl Z0.length (ab x)):mR aq n js fi g nB e Y Z=aD (.lst (xs.map ab)) Z0:=by
 let F:A->ar A:=λa=>if h:∃x,x∈xs/\enc x=a then ai (ab (Classical.choose h))else ak
 have hF:∀x∈xs,F (enc x)=ai (ab x):=λx hx=>by
  have h:∃y,y∈xs/\enc y=enc x:=⟨x,hx,rfl⟩;show(if h:∃y,y∈xs/\enc y=enc x then ai (ab (Classical.choose h))else ak)=_;rw[dif_pos h,inj _ _ (ZJ h).2]
 have ef:∀l:aj α,(∀x∈l,x∈xs)->(l.map enc).filterMap F=l.map ab:=by
  intro l
  induction l with
  |nil=>intro _;rfl
  |cons x r ih =>
   intro h;simp only[cV,Ot,hF x (h x (by simp)),ih λy hy=>h y (by simp[hy])]
 have q:=RS (n:=n) (js:=js) (fi:=fi) (g:=g) (c:=nB) (e:=e) (Y:=Y) (Z:=Z) (Z0:=Z0) (S:=S) F P h0 aL hP (by rw[hS];simpa using hl) (λx hx Y hp ys=>by
  rw[hS]at hx;obtain⟨y,hy,rfl⟩:=fZ.mp hx;obtain⟨Y1,h1,h2,h3⟩:=step y hy Y hp ys;exact⟨Y1,h1,h2,.inl ⟨ab y,hF y hy,by simp[nB],h3⟩⟩) (by
  rw[hS,ef xs λ_ h=>h];exact uW λa ha=>by obtain⟨x,hx,rfl⟩:=fZ.mp ha;exact hc x hx)
 rw[hS,ef xs λ_ h=>h]at q;exact q
open PySem PyProof L2 V2
abbrev Sg:=aj av
theorem XM(ns:aj av)(k:ay)(h:k<ns.length):eU (ns.map A.int) (k:av)=(aB (ns[k])):=by rw[sG];simp[h]
theorem asL{n k:ay}(h:k<n):pJ n (k:av)=ai k:=by
 unfold pJ;simp[h]
theorem as8{c:Ev->Mo bh}{f g:MS}{Y:Ev}{Z Z':aH}(h:c Y Z=aD ax Z'):dQ c f g Y Z=f Y Z':=by
 unfold dQ;rw[fM h];simp
theorem SN(Z:aH)(a b:Cell):(Z++[a,b])[Z.length]?=ai a:=by simp
theorem LL(Z:aH)(a b:Cell):(Z++[a,b])[Z.length+1]?=ai b:=by
 rw[EO (by omega)];simp
theorem aiT(Z:aH)(a b c:Cell):(Z++[a,b]).set Z.length c=Z++[c,b]:=by simp
theorem Bm(Z:aH)(a b c:Cell):(Z++[a,b]).set (Z.length+1) c=Z++[a,c]:=by
 rw[List.set_append_right _ _ (by omega)];simp
theorem av2(f:Ev->Mo A)(Y:Ev)(Z:aH)(n:av)(h:f Y Z=aD (.int n) Z)(j:jV n n):(aA cJ (aA (fS) (aA (gY) f f) (cI 1009)) gO) Y Z=aD (.int (n*n%1009+3)) Z:=by
 have h2:aA gY f f Y Z=aD (.int (n*n)) Z:=by
  simp only[aA];rw[dH h,dH h];simp only[gY,gI];rw[Fv _ j];rfl
 generalize n*n=m at h2;generalize aA gY f f=g at h2;simp[h2]
theorem aDL(g:Ev->Mo A)(Y:Ev)(Z:aH)(x j d:av)(fs:aj A)(b:ay)(q:Y[6]?=ai (aB x))(z:Y[4]?=ai (aF b))(h:g Y Z=aD (.int j) Z)(m:vG [.int x,.int j] Z=aD (.int d) Z)(i:wD Z (.aJ b))(c:pO Z (.aJ b)=ai (b,fs))(hz:fs.length<az) :
  iJ (sV uS cY (aC (aU (bN 2 vG) (aC iI (aC g a0))) a0)) Y Z=dP Y (Z.set b (.lst (fs++[.int d]))):=by
 simp[q,z,h,bN,m,i,c,hz]
theorem azH(ns ae j ds:aj av)(many:av)(k:ay)(p:k<ae.length)(V:j.length=ae.length)(s:ns=[]->∀r∈ae,r=0)(hd:ds.length<=1000)(z:ar A)(Z:aH) :
  ∃(i:aj av) (d:av) (U:ar A),i.length=ae.length/\(ns=[]->∀r∈i,r=0)/\0<=d/\d<2147483587 /\
   EE [ai (.dZ ns),aB many,aF Z.length,aX (j.map A.int),aF (Z.length+1),aB k,z] (Z++[.lst (ae.map A.int),.lst (ds.map A.int)])
    = dP [ai (.dZ ns),aB many,aF Z.length,aX (j.map A.int),aF (Z.length+1),aB k,U] (Z++[.lst (i.map A.int),.lst ((ds++[d]).map A.int)]):=by
 have b:=XM ae k p;have H:=XM j k (by omega);have M:eL (Z++[.lst (ae.map A.int),.lst (ds.map A.int)]) (.aJ Z.length)=ai (ae.map A.int):=pI (SN ..);have f:fB (Z++[.lst (ae.map A.int),.lst (ds.map A.int)]) (.aJ Z.length)=ai (ae.map A.int):=by simpa using M
 have a:eL (Z++[.lst (ae.map A.int),.lst (ds.map A.int)]) (.aJ (Z.length+1))=ai (ds.map A.int):=pI (LL ..);have y:fB (Z++[.lst (ae.map A.int),.lst (ds.map A.int)]) (.aJ (Z.length+1))=ai (ds.map A.int):=by simpa using a
 have C:=AJ a;have G:pO (Z++[.lst (ae.map A.int),.lst (ds.map A.int)]) (.aJ (Z.length+1))=ai (Z.length+1,ds.map A.int):=BF (LL ..);have D:ds.length<az:=by rw[lE];omega
 have hlen:(ds.map A.int).length=ds.length:=by simp
 have R:(ae.map A.int).length=ae.length:=by simp
 have N:pJ ae.length (k:av)=ai k:=asL p;have s0:0<=j[k]%2147483647:=by omega
 have K:j[k]%2147483647<8589934592:=by omega
 have m:=λZ=>YF (j[k]%2147483647) ((ds.length:av)+7) Z s0 K (by omega) (by omega);have I:=TX (j[k]%2147483647) ((ds.length:av)+7);have l:=Ft (j[k]%2147483647) ((ds.length:av)+7);generalize AB (j[k]%2147483647) ((ds.length:av)+7)=c at m I l;have B:=λZ=>YF c ((ds.length:av)*(ds.length:av)%1009+3) Z I (by omega) (by omega) (by omega);have w:=TX c ((ds.length:av)*(ds.length:av)%1009+3);have x:=Ft c ((ds.length:av)*(ds.length:av)%1009+3);generalize AB c ((ds.length:av)*(ds.length:av)%1009+3)=d at B w x;have Q:jV (ds.length:av) (ds.length:av):=yQ (by omega) (by omega);have P:RE ae[k] 2147483587:=⟨by decide,by decide⟩;have F:∀(v:av),(ds++[v]).map A.int=ds.map A.int++[A.int v]:=λv=>by simp
 have first:(ae[k]=0 \/ (ns≠[] /\ ∃ n r,ns=n :: r /\ n % 2=1)) -> ∃ U,EE [ai (.dZ ns),aB many,aF Z.length,aX (j.map A.int),aF (Z.length + 1),aB k,z] (Z ++ [.lst (ae.map A.int),.lst (ds.map A.int)])
    = dP [ai (.dZ ns),aB many,aF Z.length,aX (j.map A.int),aF (Z.length+1),aB k,U] (Z++[.lst (ae.map A.int),.lst ((ds++[d]).map A.int)]):=by
  intro E;refine⟨aB c,?_⟩;rw[F];have u:∀z,(gU (bL (aA iX (aA aO cC fH) bQ)) (bL (aA iX (aA (fS) (aA aO aI bQ) eO) bP))) [ai (.dZ ns),aB many,aF Z.length,aX (j.map A.int),aF (Z.length+1),aB k,z] (Z++[.lst (ae.map A.int),.lst (ds.map A.int)])=aD ax (Z++[.lst (ae.map A.int),.lst (ds.map A.int)]):=by
   intro z;generalize ae[k]=L at E b
   by_cases hr:L=0
   ·subst hr;simp[f,b]
   ·obtain⟨_,n,r,rfl,hn⟩:=E.resolve_left hr;have g:∀Z,fB Z (.dZ (n::r))=ai ((n::r).map A.int):=λ_=>rfl;simp[f,b,hr,g,hn]
  unfold EE;rw[as8 (u z)];generalize j[k]=T at H m;rw[bO (Y1:=[ai (.dZ ns),aB many,aF Z.length,aX (j.map A.int),aF (Z.length+1),aB k,aB c]) (Z':=Z++[.lst (ae.map A.int),.lst (ds.map A.int)]) (by simp[bN,H,a,y,m])];have S:(aU fY (aC cY a0)) [ai (.dZ ns),aB many,aF Z.length,aX (j.map A.int),aF (Z.length+1),aB k,aB c] (Z++[.lst (ae.map A.int),.lst (ds.map A.int)])=aD (.int (ds.length:av)) (Z++[.lst (ae.map A.int),.lst (ds.map A.int)]):=by simp[a,y]
  have ha:=av2 _ _ _ _ S Q;rw[aDL _ _ _ c _ d (ds.map A.int) (Z.length+1) rfl rfl ha (B _) C G (by rw[hlen];exact D),Bm]
 by_cases hr:ae[k]=0
 ·obtain⟨U,q⟩:=first (.inl hr)
  exact⟨ae,d,U,rfl,s,w,x,q⟩
 ·cases ns with
  |nil=>exact bu (s rfl _ (zA p)) hr
  |cons n r =>
   by_cases hn:n%2=1
   ·obtain⟨U,q⟩:=first (.inr ⟨by simp,n,r,rfl,hn⟩)
    exact⟨ae,d,U,rfl,s,w,x,q⟩
   ·have g:∀Z,fB Z (.dZ (n::r))=ai ((n::r).map A.int):=λ_=>rfl;refine⟨ae.set k (ae[k]/2147483587),ae[k]%2147483587,z,by simp,(λh=>by cases h),by omega,by omega,?_⟩;rw[F,Oq];have o:eL (Z++[.lst (ae.map A.int),.lst (ds.map A.int++[A.int (ae[k]%2147483587)])]) (.aJ Z.length)=ai (ae.map A.int):=pI (SN ..);have e:fB (Z++[.lst (ae.map A.int),.lst (ds.map A.int++[A.int (ae[k]%2147483587)])]) (.aJ Z.length)=ai (ae.map A.int):=by simpa using o
    have t:=SN Z (.lst (ae.map A.int)) (.lst (ds.map A.int++[A.int (ae[k]%2147483587)]));simp[EE,f,b,hr,g,hn,C,G,D,Bm,e,P,t,N,aiT]
theorem azI(ns U:aj av)(many:av)(L:ay)(hL:L<=63)(Z:aH)(ae ds:aj av)(hr:ae.length=L)(R:U.length=L)(B:ns=[]->∀r∈ae,r=0)(hd:ds.length<=500)(P:∀d∈ds,0<=d/\d<2147483587)(k f:ar A) :
  ∃(z j:aj av) (u y:ar A),z.length=L/\(ns=[]->∀r∈z,r=0)/\j.length=ds.length+L/\(∀d∈j,0<=d/\d<2147483587) /\
   eV (λ_=>True) (gN 5) EE ((List.range L).map λ(i:ay)=>A.int (0+(i:av))) [ai (.dZ ns),aB many,aF Z.length,aX (U.map A.int),aF (Z.length+1),k,f] (Z++[.lst (ae.map A.int),.lst (ds.map A.int)])
    = dP [ai (.dZ ns),aB many,aF Z.length,aX (U.map A.int),aF (Z.length+1),u,y] (Z++[.lst (z.map A.int),.lst (j.map A.int)]):=by
 obtain⟨s,t,C,z,j,e,c,rfl,rfl,N,M,o,K⟩:=wN (ok:=λ_=>True) (g:=gN 5) (b:=EE)
  (λi m a=>∃(z j:aj av) (e c:ar A),m=[ai (.dZ ns),aB many,aF Z.length,aX (U.map A.int),aF (Z.length+1),e,c]/\a=Z++[.lst (z.map A.int),.lst (j.map A.int)]/\z.length=L/\(ns=[]->∀r∈z,r=0)/\j.length=ds.length+i/\(∀d∈j,0<=d/\d<2147483587)) (λ_ _ _ _=>trivial)
  ((List.range L).map λ(i:ay)=>A.int (0+(i:av))) 0 [ai (.dZ ns),aB many,aF Z.length,aX (U.map A.int),aF (Z.length+1),k,f] (Z++[.lst (ae.map A.int),.lst (ds.map A.int)]) ⟨ae,ds,k,f,rfl,rfl,hr,B,rfl,P⟩
  (by
   rintro i x m a n ⟨Q,p,e,c,rfl,rfl,T,I,H,G⟩;have hi:i<L:=by simpa using(dN.mp n).1
   obtain rfl:A.int (0+(i:av))=x:=by
    have:=(dN.mp n).2;simpa using this
   rw[wX]at H ⊢;obtain⟨l,d,w,S,F,E,D,q⟩:=azH ns Q U p many i (by omega) (by omega) I (by omega) c Z;rw[xB];refine⟨_,_,_,_,rfl,.inl q,l,p++[d],_,_,rfl,rfl,by omega,F,by simp;omega,λv hv=>?_⟩
   rcases rH.mp hv with h|h
   ·exact G v h
   ·simp at h;rw[h];exact⟨E,D⟩)
 simp only[wX,lB,aeL]at o;exact⟨z,j,e,c,N,M,o,K,C⟩
theorem azG(ns c:aj av)(many:ay)(hm:many<=400)(L:ay)(hL:L<=63)(x:1<=L)(v:c.length=L)(Z:aH):∀(n fuel:ay) (ae ds:aj av) (U z:ar A),many-ds.length<=n->n<fuel->ae.length=L->(ns=[]->∀r∈ae,r=0)->ds.length<=463->(∀d∈ds,0<=d/\d<2147483587) ->
  ∃(m a:aj av) (i l:ar A),many<=a.length/\a.length<=463/\(∀d∈a,0<=d/\d<2147483587) /\
   lK PF Lu fuel [ai (.dZ ns),aB many,aF Z.length,aX (c.map A.int),aF (Z.length+1),U,z] (Z++[.lst (ae.map A.int),.lst (ds.map A.int)])
    = dP [ai (.dZ ns),aB many,aF Z.length,aX (c.map A.int),aF (Z.length+1),i,l] (Z++[.lst (m.map A.int),.lst (a.map A.int)]):=by
 intro n
 induction n with
 |zero =>
  intro fuel ae ds U z hn w hr p hd h;obtain⟨fuel,rfl⟩:∃k,fuel=k+1:=⟨fuel-1,by omega⟩;have b:eL (Z++[.lst (ae.map A.int),.lst (ds.map A.int)]) (.aJ (Z.length+1))=ai (ds.map A.int):=pI (LL ..);have e:fB (Z++[.lst (ae.map A.int),.lst (ds.map A.int)]) (.aJ (Z.length+1))=ai (ds.map A.int):=by simpa using b
  have g:¬(ds.length<many):=by omega
  exact⟨ae,ds,U,z,by omega,hd,h,DP (by simp[PF,b,e,g])⟩
 |succ n ih =>
  intro fuel ae ds U z hn w hr p hd h;obtain⟨fuel,rfl⟩:∃k,fuel=k+1:=⟨fuel-1,by omega⟩;have b:eL (Z++[.lst (ae.map A.int),.lst (ds.map A.int)]) (.aJ (Z.length+1))=ai (ds.map A.int):=pI (LL ..);have e:fB (Z++[.lst (ae.map A.int),.lst (ds.map A.int)]) (.aJ (Z.length+1))=ai (ds.map A.int):=by simpa using b
  have o:eL (Z++[.lst (ae.map A.int),.lst (ds.map A.int)]) (.aJ Z.length)=ai (ae.map A.int):=pI (SN ..);have u:fB (Z++[.lst (ae.map A.int),.lst (ds.map A.int)]) (.aJ Z.length)=ai (ae.map A.int):=by simpa using o
  by_cases g:ds.length<many
  ·obtain⟨I,H,t,s,G,F,K,E,y⟩:=azI ns c many L hL Z ae ds hr v p (by omega) h U z;obtain⟨m,a,i,l,D,C,B,q⟩:=ih fuel I H t s (by omega) (by omega) G F (by omega) E;refine⟨m,a,i,l,D,C,B,?_⟩;rw[<-q];refine yO (Z1:=Z++[.lst (ae.map A.int),.lst (ds.map A.int)]) (by simp[PF,b,e,g]) ?_;unfold Lu;rw[mZ (S:=tD 0 L) (Z':=Z++[.lst (ae.map A.int),.lst (ds.map A.int)]) (by
    have:=LS (f:=(aC (aU fY (aC cC a0)) a0)) (Y:=[ai (.dZ ns),aB many,aF Z.length,aX (c.map A.int),aF (Z.length+1),U,z]) (Z:=Z++[.lst (ae.map A.int),.lst (ds.map A.int)]) (Z':=Z++[.lst (ae.map A.int),.lst (ds.map A.int)]) (j:=(L:av)) (by simp[o,u,hr]) (by unfold rQ;omega);simpa using this)]
   exact y
  ·exact⟨ae,ds,U,z,by omega,hd,h,DP (by simp[PF,b,e,g])⟩
theorem aBY(n:av)(r:aj av):yP (A.int n::r.map A.int) (ai 1) ak=r.map A.int:=by
 unfold yP;have j:HT.dU (A.int n::r.map A.int).length 0 (ai 1)=1:=by
  have:=HT.Eb (A.int n::r.map A.int).length 0 1;simp at this;simpa using this
 rw[j,HT.akT];simp;exact aeJ (by simp)
theorem aEW(ns:aj av)(U:ns.length<=63)(many:ay)(hm:many<=400)(Z:aH):∃ds:aj av,many<=ds.length/\ds.length<=463/\(∀d∈ds,0<=d/\d<2147483587)/\ZF [.dZ ns,.int many] Z=aD (.lst (ds.map A.int)) Z:=by
 have s:∀Z,fB Z (.dZ ns)=ai (ns.map A.int):=λ_=>rfl;have l:∀Z,eL Z (.dZ ns)=ai (ns.map A.int):=λ_=>rfl;have hi:intsOf (ns.map A.int)=ai ns:=GQ ns;have h1:(1:ay)<=az:=by decide
 have gW:∀(n:ay) (ds:aj av),Cl n (.lst (ds.map A.int)):=λn ds=>by
  simp only[Cl];exact uW λa ha=>by obtain⟨i,_,rfl⟩:=fZ.mp ha;simp only[Cl]
 suffices key:∃(j m:aH) (ae:aj av),j=Z++m/\1<=ae.length/\ae.length<=63/\(ns=[]->∀r∈ae,r=0) /\
   aQ (bM (eQ ax (aC bQ a0)) (gN 2)) (dQ (bL (aA VJ aI (eQ aq a0)))
    (bM (aA (HQ ax) (eQ aq (aC (aA (jI) (aA aO aI bQ) eO) a0)) (aU (AW aq) (aC (KZ aq aI (CB bP) Ue) a0))) (gN 2))
    eR) [ai (.dZ ns),aB many,ak,ak,ak,ak,ak] Z=dP [ai (.dZ ns),aB many,aF j.length,ak,ak,ak,ak] (j++[.lst (ae.map A.int)])by
  obtain⟨j,m,ae,C,k,c,B,x⟩:=key;obtain⟨b,ds,p,o,G,F,E,q⟩:=azG ns ae many hm ae.length c k rfl j many 1000000 ae [] ak ak (by simp) (by omega) rfl B (by simp) (by simp);refine⟨ds,G,F,E,?_⟩;show trim Z (eE (WV [ai (.dZ ns),aB many,ak,ak,ak,ak,ak] Z))=_;have t:eL (j++[.lst (ae.map A.int)]) (.aJ j.length)=ai (ae.map A.int):=pI (by simp);have w:fB (j++[.lst (ae.map A.int)]) (.aJ j.length)=ai (ae.map A.int):=by simpa using t
  have u:(ae.map A.int).length<=az:=by rw[lE];simp;omega
  have e:WV [ai (.dZ ns),aB many,ak,ak,ak,ak,ak] Z=ai (.ret (.lst (ds.map A.int)),[ai (.dZ ns),aB many,aF j.length,aX (ae.map A.int),aF (j.length+1),p,o],j++[.lst (b.map A.int),.dead]):=by
   have es:∀f g h:MS,aQ f (aQ g h)=aQ (aQ f g) h:=λf g h=>by
    funext v Z;unfold aQ
    match K:f v Z with
    |none=>rfl
    |some (.nx,Y1,z)=>rfl
    |some (.ret a,Y1,z)=>rfl
    |some (.bk,Y1,z)=>rfl
    |some (.ct,Y1,z)=>rfl
    |some (.exc a,Y1,z)=>rfl
   unfold WV;rw[es,bO x];rw[bO (Y1:=[ai (.dZ ns),aB many,aF j.length,aX (ae.map A.int),ak,ak,ak]) (Z':=j++[.lst (ae.map A.int)]) (by simp[t,w])];rw[bO (Y1:=[ai (.dZ ns),aB many,aF j.length,aX (ae.map A.int),aF (j.length+1),ak,ak]) (Z':=j++[.lst (ae.map A.int),.lst []]) (by simp[jR])];rw[bO (Y1:=[ai (.dZ ns),aB many,aF j.length,aX (ae.map A.int),aF (j.length+1),p,o]) (Z':=j++[.lst (b.map A.int),.lst (ds.map A.int)]) q];have g:=LL j (.lst (b.map A.int)) (.lst (ds.map A.int));simp[g,Bm]
  rw[e,C];simp only[xU,aeQ];exact sX (gW _ _)
 cases ns with
 |nil =>
  refine⟨Z,[],[0],by simp,by simp,by simp,λ_ r hr=>by simpa using hr,?_⟩;rw[bO (Y1:=[ai (.dZ []),aB many,aF Z.length,ak,ak,ak,ak]) (Z':=Z++[.lst [.int 0]]) (by simp[jR,h1])];simp[l,intsOf]
 |cons n r =>
  have D:nM n 2:=⟨by decide,by decide⟩;have H:yP (A.int n::r.map A.int) (ai 1) ak=r.map A.int:=by
   have:=aBY n r;exact this
  have u:¬az<1+r.length:=by rw[lE];simp at U;omega
  have I:r.length<=az:=by rw[lE];simp at U;omega
  refine⟨Z++[.lst [.int 0]],[.lst [.int 0]],n/2::r,rfl,by simp,by simpa using U,(λh=>by cases h),?_⟩;rw[bO (Y1:=[ai (.dZ (n::r)),aB many,aF Z.length,ak,ak,ak,ak]) (Z':=Z++[.lst [.int 0]]) (by simp[jR,h1])];have y:intsOf (r.map A.int)=ai r:=GQ r;simp only[cV]at s l;simp[l,s,y,intsOf,D,h1,H,u,I,jR]
def Wj(s l:av)(n i:ay)(p e:E):Prop:=(i=0->e.2.1=1/\e.2.2=1)/\(i+1=n->e.2.1=s/\e.2.2=s)/\(e.2.1<=e.2.2/\e.2.2-e.2.1<=l)/\(i≠0->(p.1<=e.1/\p.2.1<e.2.1/\p.2.2<e.2.2)/\oG l p e=ax)
instance (s l:av) (n i:ay) (p e:E):c9 (Wj s l n i p e):=by unfold Wj;infer_instance
theorem YE(a b j q:av)(U:0<=a)(h1:a<=j)(h2:j<=b)(z:b-a<=q)(Z:aH):qQ [.tup [.int a,.int b],.int j,.int q] Z=aD (.bl ax) Z:=by
 simp[qQ,acS,U,h1,h2,z]
theorem abW(n:av)(L:A)(ok:aH->Prop)(Z:aH)(aL:ok Z):∀(rs:aj Rn) (u m:av) (x y:ar A),∃z j,eV ok (hZ 2 (dF (gN 4) (dF (gN 5) iA))) WY (aK rs) [ai L,aB n,aB u,aB m,x,y] Z
  = dP [ai L,aB n,aB (u+cP rs n),aB (m+cW rs n),z,j] Z
 |[],u,m,x,y=>⟨x,y,by simp[aK,eV,aL,cW,cP]⟩
 |r::rs,u,m,x,y=>by
  obtain⟨z,j,q⟩:=abW n L ok Z aL rs (u+if r.1<n then r.2 else 0) (m+if r.1<=n then r.2 else 0) (aB r.1) (aB r.2);refine⟨z,j,?_⟩;have st:WY [ai L,aB n,aB u,aB m,aB r.1,aB r.2] Z=dP [ai L,aB n,aB (u+if r.1<n then r.2 else 0),aB (m+if r.1<=n then r.2 else 0),aB r.1,aB r.2] Z:=by
   by_cases h1:r.1<n <;> by_cases h2:r.1<=n <;> simp[WY,h1,h2]
  show eV ok _ _ (gT r::aK rs) _ Z=_;rw[oP aL (Y0:=[ai L,aB n,aB u,aB m,aB r.1,aB r.2]) (Z0:=Z) (by simp[gT]) st,q];simp only[cW,cP,cV,nK,Int.add_assoc]
theorem YH(rs:aj Rn)(n:av)(Z:aH):xD [.lst (aK rs),.int n] Z=aD (.tup [.int (cP rs n),.int (cW rs n)]) Z:=by
 obtain⟨z,j,q⟩:=abW n (.lst (aK rs)) (λZ'=>fB Z' (.lst (aK rs))=ai (aK rs)) Z rfl rs 0 0 ak ak;have h2:(2:ay)<=az:=by decide
 simp only[xB]at q;show trim Z (eE (Lw [aX (aK rs),aB n,ak,ak,ak,ak] Z))=_;unfold Lw;rw[bO (Y1:=[aX (aK rs),aB n,aB 0,ak,ak,ak]) (Z':=Z) (by simp)];rw[bO (Y1:=[aX (aK rs),aB n,aB 0,aB 0,ak,ak]) (Z':=Z) (by simp)];rw[bO (Y1:=[aX (aK rs),aB n,aB (cP rs n),aB (cW rs n),z,j]) (Z':=Z) (by
  rw[mZ (S:=srcOf (.lst (aK rs)) (aK rs)) (Z':=Z) (by simp)];exact q)]
 simp[h2]
theorem aqS(m:av):m%4=0\/m%4=1\/m%4=2\/m%4=3:=by omega
theorem aDJ(R:aj Rn)(c kind:av)(C:0<=c)(B:c<8589934592)(k:ay)(G:k<6)(is:aj av)(hi:is.length<=6)(t s:ar A)(Z:aH):∃(v:av) (p:ar A),
  IH [aX (aK R),aB c,aB kind,aF Z.length,aB k,t,s] (Z++[.lst (is.map A.int)])
   = dP [aX (aK R),aB c,aB kind,aF Z.length,aB k,p,aB v] (Z++[.lst ((is++[v]).map A.int)]):=by
 have m:=λZ=>YF c (80+(k:av)) Z C B (by omega) (by omega);have g:=TX c (80+(k:av));have x:=Ft c (80+(k:av));generalize AB c (80+(k:av))=st at m g x;have j:=λZ=>ad9 st kind Z g (by omega);generalize tE st kind=b at j;have y:eL (Z++[.lst (is.map A.int)]) (.aJ Z.length)=ai (is.map A.int):=pI (by simp);have q:=AJ y;have a:pO (Z++[.lst (is.map A.int)]) (.aJ Z.length)=ai (Z.length,is.map A.int):=BF (by simp);have z:is.length<az:=by rw[lE];omega
 have U:∀v:av,(is++[v]).map A.int=is.map A.int++[A.int v]:=λv=>by simp
 have h:=Vk R;have f:dW 8 (.lst [])=ax:=rfl;have he:gD 8 (.lst (aK R)) (.lst [])=R.isEmpty:=by cases R <;> rfl
 have ne:∀Z,kW (.lst (aK R)) (.lst []) Z=aD (.bl (!R.isEmpty)) Z:=λZ=>by
  simp[kW,uR,vU h,vU f,h,f,he]
 have D:(4:ay)<=az:=by decide
 have E:nM st 4096:=⟨by decide,by decide⟩;cases i:R.isEmpty with
 |true =>
  rw[i]at ne;refine⟨b,aB st,?_⟩;rw[U];simp[IH,bN,m,j,ne,q,a,z]
 |false =>
  rw[i]at ne
  by_cases l:(k:av)<5
  ·have F:0<R.length:=by cases R <;> simp_all
   have o:(0:av)<(R.length:av):=by omega
   obtain⟨n,hn⟩:=Pe (Pf st (show(R.length:av)≠0 by omega));have u:n<R.length:=by
    have:=YT st o;omega
   have d:eU (aK R) (n:av)=ai (gT R[n]):=by rw[sG];simp[aK,u]
   have hlen:(aK R).length=R.length:=by simp[aK]
   generalize R[n]=r at d;obtain⟨w,hw⟩:∃w:av,eU [A.int 0,.int 0,.int 1,.int (-1)] (st/4096%4)=(aB w):=by
    rcases aqS (st/4096)with e|e|e|e <;> rw[e]
    ·exact⟨_,uX _ 0⟩
    ·exact⟨_,uX _ 1⟩
    ·exact⟨_,uX _ 2⟩
    ·exact⟨_,uX _ 3⟩
   refine⟨r.1+w,aB st,?_⟩;rw[U];simp[IH,bN,m,j,ne,l,hlen,o,F,hn,d,gT,E,D,hw,q,a,z]
  ·refine⟨b,aB st,?_⟩;rw[U];simp[IH,bN,m,j,ne,l,q,a,z]
theorem aE0(R:aj Rn)(c kind:av)(m:0<=c)(l:c<8589934592)(Z:aH):∃is:aj av,is.length=6/\QV [.lst (aK R),.int c,.int kind] Z=aD (.lst (is.map A.int)) Z:=by
 obtain⟨Y1,k,n,d,U,z,is,rfl,rfl,hl⟩:=wN (ok:=λ_=>True) (g:=gN 4) (b:=IH)
  (λi f Z'=>∃(d U z:ar A) (is:aj av),f=[aX (aK R),aB c,aB kind,aF Z.length,d,U,z]/\Z'=Z++[.lst (is.map A.int)]/\is.length=i) (λ_ _ _ _=>trivial)
  ((List.range 6).map λ(i:ay)=>A.int (0+(i:av))) 0 [aX (aK R),aB c,aB kind,aF Z.length,ak,ak,ak] (Z++[.lst []]) ⟨ak,ak,ak,[],rfl,rfl,rfl⟩
  (by
   rintro i x f Z' h ⟨d,U,z,is,rfl,rfl,hl⟩;have hi:i<6:=by simpa using(dN.mp h).1
   obtain rfl:A.int (0+(i:av))=x:=by
    have:=(dN.mp h).2;simpa using this
   rw[wX]at hl ⊢;obtain⟨v,o,q⟩:=aDJ R c kind m l i hi is (by omega) U z Z;rw[xB];exact⟨_,_,_,_,rfl,.inl q,_,_,_,is++[v],rfl,rfl,by simp[hl]⟩)
 simp only[wX,lB,aeL]at hl;refine⟨is,hl,?_⟩;show trim Z (eE (WZ [aX (aK R),aB c,aB kind,ak,ak,ak,ak] Z))=_;have e:WZ [aX (aK R),aB c,aB kind,ak,ak,ak,ak] Z=ai (.ret (.lst (is.map A.int)),[aX (aK R),aB c,aB kind,aF Z.length,d,U,z],Z++[.dead]):=by
  unfold WZ;rw[bO (Y1:=[aX (aK R),aB c,aB kind,aF Z.length,ak,ak,ak]) (Z':=Z++[.lst []]) (by simp[jR])];rw[bO (Y1:=[aX (aK R),aB c,aB kind,aF Z.length,d,U,z]) (Z':=Z++[.lst (is.map A.int)]) (by
   rw[mZ (S:=tD 0 6) (Z':=Z++[.lst []]) (LS (j:=6) (by simp) (by unfold rQ;omega))];exact n)]
  simp
 rw[e];simp only[xU];exact sX (by simp only[Cl];exact uW λa ha=>by obtain⟨i,_,rfl⟩:=fZ.mp ha;simp only[Cl])
theorem Vp(R:aj Rn)(L:A)(ok:aH->Prop)(Z:aH)(aL:ok Z):∀(es:aj E) (b:av) (f c a U z j:ar A),(∃ps:aj av,ps.length=es.length/\(∀p∈ps,p<b)/\ps.Pairwise (· > ·)/\∀(i:ay) (e:E),es[i]?=ai e->∃p,ps[i]?=ai p/\At R e p) ->
  ∃o n m l k h g,eV ok (gN 3) Lo (encL es) [aX (aK R),ai L,aB b,f,c,a,U,z,j] Z=dP [aX (aK R),ai L,aB o,n,m,l,k,h,g] Z
 |[],b,f,c,a,U,z,j,_=>⟨b,f,c,a,U,z,j,by simp[encL,eV,aL]⟩
 |e::es,b,f,c,a,U,z,j,⟨ps,h1,h2,x,s⟩=>by
  obtain⟨p,d,rfl⟩:∃p d,ps=p::d:=by cases ps with
   |nil=>simp at h1
   |cons p d=>exact⟨p,d,rfl⟩
  obtain⟨q,w,I,H,G,F⟩:=s 0 e rfl;have t:q=p:=by simpa using w.symm
  subst t;have hb:=h2 q kP;obtain⟨D,C⟩:=vD.mp x;have B:=λZ=>YH R e.1 Z;obtain⟨o,n,m,l,k,h,g,ih⟩:=Vp R L ok Z aL es (min (b-1) (min e.2.2 (cW R e.1))) (ai (bZ e)) (aB e.1) (aB e.2.1) (aB e.2.2) (aB (cP R e.1)) (aB (cW R e.1))
   ⟨d,by simpa using h1,λr hr=>by have:=D r hr;omega,C,λi y he=>by simpa using s (i+1) y (by simpa using he)⟩
  refine⟨o,n,m,l,k,h,g,?_⟩;rw[<-ih,OK];have v:¬min (b-1) (min e.2.2 (cW R e.1))<e.2.1:=by omega
  have u:¬min (b-1) (min e.2.2 (cW R e.1))<cP R e.1+1:=by omega
  exact oP aL (Y0:=[aX (aK R),ai L,aB b,ai (bZ e),c,a,U,z,j]) (Z0:=Z) (by simp) (by simp[Lo,bZ,bN,B,v,u])
theorem aED{R:aj Rn}{p:Po}(h:Gd R p)(Z:aH):ZD [.lst (aK R),bD p] Z=aD (.bl ax) Z:=by
 obtain⟨a,U,D,w,c⟩:=TF h.pl;have f:∀Z,fB Z (bD p)=ai [.int p.s,.int p.l,.int p.d,.lst (encL p.es)]:=λ_=>rfl;have z:(encL p.es).reverse=encL p.es.reverse:=by simp[encL]
 have hb:∀q∈a,q<p.s+1:=λq u=>by
  obtain⟨i,hi⟩:=List.mem_iff_getElem?.mp u;have x:i<p.es.length:=by rw[<-U];exact(dN.mp hi).1
  obtain⟨y,j,b,C,B,A⟩:=c i _ (dR x);rw[hi]at j;cases j;have:=FP h.tn p.es[i].1;rw[h.sz];omega
 obtain⟨v,t,o,n,m,k,g,q⟩:=Vp R (bD p) (λZ'=>eL Z' (.lst (encL p.es))=ai (encL p.es)) Z rfl p.es.reverse (p.s+1) ak ak ak ak ak ak
  ⟨a.reverse,by simp[U],λr hr=>hb r (by simpa using hr),by rw[List.pairwise_reverse];exact w,λi e he=>by
   have hi:i<p.es.length:=by have:=(dN.mp he).1;simpa using this
   rw[aeN hi]at he;obtain⟨r,j,b⟩:=c _ e he;refine⟨r,?_,b⟩;rw[aeN (by omega),U];exact j⟩
 show trim Z (eE (Lp [aX (aK R),ai (bD p),ak,ak,ak,ak,ak,ak,ak] Z))=_;unfold Lp;rw[bO (Y1:=[aX (aK R),ai (bD p),aB (p.s+1),ak,ak,ak,ak,ak,ak]) (Z':=Z) (by simp[f])];rw[bO (Y1:=[aX (aK R),ai (bD p),aB v,t,o,n,m,k,g]) (Z':=Z) (by
  rw[mZ (S:=LU (.lst (encL p.es)) (encL p.es)) (Z':=Z) (by simp[f])];show eV _ _ _ (encL p.es).reverse _ _=_;rw[z];exact q)]
 simp
theorem abN:∀{a b:aj E},encL a=encL b->a=b
 |[],[],_=>rfl
 |[],_::_,h=>by simp[encL]at h
 |_::_,[],h=>by simp[encL]at h
 |⟨x,y,z⟩::a,⟨U,q,j⟩::b,h=>by
  simp only[encL,cV,rK]at h;have e:=abN (a:=a) (b:=b) h.2;have h1:=h.1;simp[bZ]at h1;obtain⟨rfl,rfl,rfl⟩:=h1;rw[e]
theorem abM{p q:Po}(h:bD p=bD q):p=q:=by
 cases p with
 |mk s l d es =>
  cases q with
  |mk s' j d' eT =>
   simp[bD,dG]at h;obtain⟨rfl,rfl,rfl,h⟩:=h;rw[abN h]
noncomputable def iK(x y:av):A:=.tup [.int x,.int y]
theorem ad6(ps:aj (av×av))(hz:ps.length<=100000)(Z:aH):JL [.lst (ps.map λp:av×av=>iK p.1 p.2)] Z=aD (.tup [.int (ps.map (·.1)).sum,.int (ps.map (·.2)).sum]) Z:=by
 have inj:∀x y:av×av,iK x.1 x.2=iK y.1 y.2->x=y:=λx y e=>by
  cases x;cases y;simp[iK]at e;simp[e]
 have z:acJ [aX (ps.map λp:av×av=>iK p.1 p.2)] Z=aD (.lst (ps.map λp=>A.int p.2)) Z :=
  Se (n:=1) (js:=[]) (fi:=eW aI) (g:=gN 0) (Y:=[aX (ps.map λp:av×av=>iK p.1 p.2)]) (Z:=Z) (Z0:=Z) (S:=srcOf (.lst (ps.map λp:av×av=>iK p.1 p.2)) (ps.map λp:av×av=>iK p.1 p.2)) ps (λp:av×av=>iK p.1 p.2) (λp:av×av=>A.int p.2) (λY=>∃y,Y=[y]) (λx y e=>by rw[inj x y e])
   (by simp) (λj=>by simp[srcOf]) ⟨ak,by simp[uI]⟩ rfl (by omega) (λp d Y U j=>by
    obtain⟨y,rfl⟩:=U;exact⟨[ai (iK p.1 p.2)],⟨_,rfl⟩,by simp,by simp[iK]⟩) (λx _=>by simp only[Cl])
 have q:acI [aX (ps.map λp:av×av=>iK p.1 p.2)] Z=aD (.lst (ps.map λp=>A.int p.1)) Z :=
  Se (n:=1) (js:=[]) (fi:=eW aI) (g:=gN 0) (Y:=[aX (ps.map λp:av×av=>iK p.1 p.2)]) (Z:=Z) (Z0:=Z) (S:=srcOf (.lst (ps.map λp:av×av=>iK p.1 p.2)) (ps.map λp:av×av=>iK p.1 p.2)) ps (λp:av×av=>iK p.1 p.2) (λp:av×av=>A.int p.1) (λY=>∃y,Y=[y]) (λx y e=>by rw[inj x y e])
   (by simp) (λj=>by simp[srcOf]) ⟨ak,by simp[uI]⟩ rfl (by omega) (λp d Y U j=>by
    obtain⟨y,rfl⟩:=U;exact⟨[ai (iK p.1 p.2)],⟨_,rfl⟩,by simp,by simp[iK]⟩) (λx _=>by simp only[Cl])
 have b:intsOf (ps.map λp=>A.int p.1)=ai (ps.map (·.1)):=by
  have:=GQ (ps.map (·.1));rw[wY]at this;exact this
 have a:intsOf (ps.map λp=>A.int p.2)=ai (ps.map (·.2)):=by
  have:=GQ (ps.map (·.2));rw[wY]at this;exact this
 have c:(2:ay)<=az:=by decide
 show trim Z (eE (WI [aX (ps.map λp:av×av=>iK p.1 p.2)] Z))=_;have e:WI [aX (ps.map λp:av×av=>iK p.1 p.2)] Z=ai (.ret (.tup [.int (ps.map (·.1)).sum,.int (ps.map (·.2)).sum]),[aX (ps.map λp:av×av=>iK p.1 p.2)],Z):=by
  unfold WI;generalize (ps.map λp=>A.int p.1)=i at q b;generalize (ps.map λp=>A.int p.2)=h at z a;generalize (ps.map λp:av×av=>iK p.1 p.2)=f at z q;simp[z,q,b,a,c]
 rw[e];simp only[xU];exact agR
noncomputable def qV(f:av->bh->Po->av)(x:av)(j:bh)(ps:aj Po):av:=(ps.map (f x j)).sum
section
variable{Z:aH}{p keep:ay}{many tk:av}{rs:aj Rn}{L:aj Rg}
theorem aER(h:Z[p]?=ai (bF keep many tk rs L))(f:∀r∈rs,1<=r.2)(hl:rs.length<=63)(hw:whole rs<=1000000000)(hL:L.length<=1000)(n:∀q∈cH rs L,(∃R,Gd R q)/\q.es.length<=1000)(hT:Z[0]?=ai nE)(x:av) :
  vH [.aJ p,.int x] Z=aD (.tup [.int (qV jZ x ax (cH rs L)),.int (qV kJ x ax (cH rs L))]) Z:=by
 have c:=QA h f hl hw hL;have hlen:(cH rs L).length<=1001:=by simp[cH];omega
 show trim Z (eE (Mh [aF p,aB x] Z))=_;have l:bU "parts" [("Gaps",bR 1 [] qS)] aI a0 [aF p,aB x] Z=aD (.lst ((cH rs L).map bD)) Z:=qX h rfl rfl (as:=[]) (das:=[]) bY rfl (by simpa using c);have m:0<Z.length:=(dN.mp hT).1;have k:Mg [aF p,aB x] Z=aD (.lst ((cH rs L).map λq=>iK (jZ x ax q) (kJ x ax q))) Z:=by
  refine FJ (S:=srcOf (.lst ((cH rs L).map bD)) ((cH rs L).map bD)) (cH rs L) bD (λq=>iK (jZ x ax q) (kJ x ax q)) (λz=>∃u,z=[u,aB x]) (λa b e=>by rw[abM e]) ?_ (λj=>rfl) ⟨ak,rfl⟩ rfl (by omega) (λq d z ⟨u,e⟩ j=>by
   subst e;obtain⟨⟨R,g⟩,o⟩:=n q d;have u:=aD5 g (by omega) x (Z++[.lst j]) (by rw[mM m];exact hT) (.lst (encL q.es)) rfl;have U:JK [bD q,.int x] (Z++[.lst j])=aD (.tup [.int (jZ x ax q),.int (kJ x ax q)]) (Z++[.lst j]):=u;generalize bD q=P at U;exact⟨[ai P,aB x],⟨_,rfl⟩,by simp,by simp[bN,U,iK]⟩) (λq _=>by simp[iK,Cl,gC])
  unfold eW;rw[dH l];simp
 have sm:=ad6 ((cH rs L).map λq=>(jZ x ax q,kJ x ax q)) (by simp;omega) Z;simp only[wY]at sm;have i:aU (bN 1 JL) (aC Mg a0) [aF p,aB x] Z=aD (.tup [.int (qV jZ x ax (cH rs L)),.int (qV kJ x ax (cH rs L))]) Z:=tO (bG k bY) (by
  simp only[bN];exact sm)
 unfold Mh bV;rw[fM i];exact lD rfl
theorem aES(h:Z[p]?=ai (bF keep many tk rs L))(f:∀r∈rs,1<=r.2)(hl:rs.length<=63)(hw:whole rs<=1000000000)(hL:L.length<=1000)(n:∀q∈cH rs L,(∃R,Gd R q)/\q.es.length<=1000)(hT:Z[1]?=ai nF)(x:av) :
  xF [.aJ p,.int x] Z=aD (.tup [.int (qV jZ x aq (cH rs L)),.int (qV kJ x aq (cH rs L))]) Z:=by
 have c:=QA h f hl hw hL;have hlen:(cH rs L).length<=1001:=by simp[cH];omega
 show trim Z (eE (Mv [aF p,aB x] Z))=_;have l:bU "parts" [("Gaps",bR 1 [] qS)] aI a0 [aF p,aB x] Z=aD (.lst ((cH rs L).map bD)) Z:=qX h rfl rfl (as:=[]) (das:=[]) bY rfl (by simpa using c);have m:1<Z.length:=(dN.mp hT).1;have k:Mu [aF p,aB x] Z=aD (.lst ((cH rs L).map λq=>iK (jZ x aq q) (kJ x aq q))) Z:=by
  refine FJ (S:=srcOf (.lst ((cH rs L).map bD)) ((cH rs L).map bD)) (cH rs L) bD (λq=>iK (jZ x aq q) (kJ x aq q)) (λz=>∃u,z=[u,aB x]) (λa b e=>by rw[abM e]) ?_ (λj=>rfl) ⟨ak,rfl⟩ rfl (by omega) (λq d z ⟨u,e⟩ j=>by
   subst e;obtain⟨⟨R,g⟩,o⟩:=n q d;have u:=aEZ g (by omega) x (Z++[.lst j]) (by rw[mM m];exact hT) (.lst (encL q.es)) rfl;have U:JT [bD q,.int x] (Z++[.lst j])=aD (.tup [.int (jZ x aq q),.int (kJ x aq q)]) (Z++[.lst j]):=u;generalize bD q=P at U;exact⟨[ai P,aB x],⟨_,rfl⟩,by simp,by simp[bN,U,iK]⟩) (λq _=>by simp[iK,Cl,gC])
  unfold eW;rw[dH l];simp
 have sm:=ad6 ((cH rs L).map λq=>(jZ x aq q,kJ x aq q)) (by simp;omega) Z;simp only[wY]at sm;have i:aU (bN 1 JL) (aC Mu a0) [aF p,aB x] Z=aD (.tup [.int (qV jZ x aq (cH rs L)),.int (qV kJ x aq (cH rs L))]) Z:=tO (bG k bY) (by
  simp only[bN];exact sm)
 unfold Mv bV;rw[fM i];exact lD rfl
end
noncomputable def fX(ps:aj Po):aj av:=(ps.map λq=>q.es.map (·.1)).flatten
theorem asA{j:aH}{n0:ay}{acc:aj av}(h:j[n0]?=ai (.lst (acc.map A.int)))(q:Po)(hL:acc.length+q.es.length<=100000)(x:ar A) :
  PM [x,aF n0,ai (bD q)] j=dP [x,aF n0,ai (bD q)] (j.set n0 (.lst ((acc++q.es.map (·.1)).map A.int))):=by
 have k:acV [x,aF n0,ai (bD q)] j=aD (.lst (q.es.map λe=>A.int e.1)) j:=by
  refine FJ (S:=srcOf (.lst (encL q.es)) (encL q.es)) q.es bZ (λe=>A.int e.1) (λz=>∃u,z=[u]) (λa b e=>by simp[bZ]at e;rw[e.1]) ?_ (λU=>rfl) ⟨ak,rfl⟩ rfl (by omega) (λe _ z ⟨u,f⟩ U=>by subst f;exact⟨[ai (bZ e)],⟨_,rfl⟩,by simp,by simp[bZ]⟩) (λe _=>by simp only[Cl]);unfold eW;rw[dH (cX (bK (a:=bD q) rfl) (b:=A.int 3) (by simp) (c:=.lst (encL q.es)) (by simp[bD,dG]))];simp
 have g:pO j (.aJ n0)=ai (n0,acc.map A.int):=BF h;have hi:wD j (.aJ n0):=AJ (pI h);have d:acc.length+q.es.length<=az:=by rw[lE];omega
 have i:acc.map A.int++q.es.map (λe=>A.int e.1)=(acc++q.es.map (·.1)).map A.int:=by simp[xC]
 unfold PM iJ;rw[fM (x:=A.dE) (Z':=j.set n0 (.lst ((acc++q.es.map (·.1)).map A.int))) (by
  unfold sV;rw[dH (x:=A.aJ n0) (Z':=j) (by simp)];rw[a8 hi,dH (bG k bY)];rw[<-i];simp[g,d,GK])]
theorem Yb{n0:ay}(x:ar A)(ok:aH->Prop):∀(ps:aj Po) (acc:aj av) (y:ar A) (j:aH),j[n0]?=ai (.lst (acc.map A.int))->acc.length+(fX ps).length<=100000->(∀Z',ok Z') ->
  ∃z,eV ok (gN 2) PM (ps.map bD) [x,aF n0,y] j=dP [x,aF n0,z] (j.set n0 (.lst ((acc++fX ps).map A.int)))
 | [],acc,y,j,h,_,aL=>⟨y,by
   rw[rJ,AZ (aL _)];simp[fX,zO h]⟩
 |q::ps,acc,y,j,h,U,aL=>by
  have hn:n0<j.length:=(dN.mp h).1;have hl:(fX (q::ps)).length=q.es.length+(fX ps).length:=by simp[fX]
  have t:=asA h q (by omega) x;obtain⟨z,e⟩:=Yb x ok ps (acc++q.es.map (·.1)) (ai (bD q)) (j.set n0 (.lst ((acc++q.es.map (·.1)).map A.int))) (gK hn) (by simp;omega) aL;refine⟨z,?_⟩;rw[cV,oP (aL _) (Y0:=[x,aF n0,ai (bD q)]) (Z0:=j) (by simp) t,e,pR];simp[fX]
section
variable{Z:aH}{p keep:ay}{many tk:av}{rs:aj Rn}{L:aj Rg}
theorem aeH(h:Z[p]?=ai (bF keep many tk rs L))(z:∀r∈rs,1<=r.2)(hl:rs.length<=63)(hw:whole rs<=1000000000)(hL:L.length<=1000)(hz:(fX (cH rs L)).length<=100000):xE [.aJ p] Z=aD (.lst ((fX (cH rs L)).map A.int)) Z:=by
 have U:p<Z.length:=(dN.mp h).1;have h1:(Z++[Cell.lst []])[p]?=ai (bF keep many tk rs L):=by rw[mM U];exact h
 have q:=QA h1 z hl hw hL;show trim Z (eE (Mt [aF p,ak,ak] Z))=_;unfold Mt;rw[bO (Y1:=[aF p,aF Z.length,ak]) (Z':=Z++[.lst []]) (by simp)];have d:bU "parts" [("Gaps",bR 1 [] qS)] aI a0 [aF p,aF Z.length,ak] (Z++[.lst []])=aD (.lst ((cH rs L).map bD)) (Z++[.lst []]):=qX h1 rfl rfl (as:=[]) (das:=[]) bY rfl (by simpa using q);obtain⟨j,e⟩:=Yb (n0:=Z.length) (aF p) (srcOf (.lst ((cH rs L).map bD)) ((cH rs L).map bD)).ok (cH rs L) [] ak (Z++[.lst []]) (by simp) (by simpa using hz) (λ_=>rfl);have c:gB (eW (bU "parts" [("Gaps",bR 1 [] qS)] aI a0)) (gN 2) PM [aF p,aF Z.length,ak] (Z++[.lst []])=dP [aF p,aF Z.length,j] ((Z++[Cell.lst []]).set Z.length (.lst ((fX (cH rs L)).map A.int))):=by
  unfold gB;rw[fM (x:=srcOf (.lst ((cH rs L).map bD)) ((cH rs L).map bD)) (Z':=Z++[.lst []]) (by unfold eW;rw[dH d];simp)];exact e
 rw[bO c];have es:(Z++[Cell.lst []]).set Z.length (.lst ((fX (cH rs L)).map A.int))=Z++[.lst ((fX (cH rs L)).map A.int)]:=by simp
 rw[es];have b:bV (vO 1) [aF p,aF Z.length,j] (Z++[.lst ((fX (cH rs L)).map A.int)])=ai (.ret (.lst ((fX (cH rs L)).map A.int)),[aF p,aF Z.length,j],Z++[.dead]):=by simp
 rw[b];simp only[xU];exact sX (by simp only[Cl];exact uW λa ha=>by obtain⟨x,_,rfl⟩:=fZ.mp ha;simp only[Cl])
theorem aEP(h:Z[p]?=ai (bF keep many tk rs L))(q:∀r∈rs,1<=r.2)(hl:rs.length<=63)(hw:whole rs<=1000000000)(hL:L.length<=1000)(hz:(fX (cH rs L)).length<=100000):JX [.aJ p] Z=aD (.int (fX (cH rs L)).length) Z:=by
 have j:=aeH h q hl hw hL hz;show trim Z (eE (Mf [aF p] Z))=_;have U:bU "kept" [("Gaps",bR 1 [] xE)] aI a0 [aF p] Z=aD (.lst ((fX (cH rs L)).map A.int)) Z:=qX h rfl rfl (as:=[]) (das:=[]) bY rfl (by simpa using j);have z:aU fY (aC (bU "kept" [("Gaps",bR 1 [] xE)] aI a0) a0) [aF p] Z=aD (.int (fX (cH rs L)).length) Z:=tO (bG U bY) (by simp);unfold Mf bV;rw[fM z];exact lD rfl
theorem Fm(ps:aj Po):(fX ps).length=(ps.map λq=>q.es.length).sum:=by
 induction ps with
 |nil=>rfl
 |cons q ps ih =>
  have:fX (q::ps)=q.es.map (·.1)++fX ps:=by simp[fX]
  rw[this,vE,ih];simp
theorem avM{b:ay}(j:1<=keep)(hr:rs.length<=keep)(gF:sO keep L)(hb:∀x∈L,x.1<b):(fX (cH rs L)).length<=(2*keep+2)*(b+2):=by
 have h1:=gF.arF hb;have h2:=MD (cU rs) 0;have q:=CN rs;have e:(fX (cH rs L)).length=(iM 0 (cU rs)).length+UC L:=by
  rw[Fm,cH,cV,nK,wY];rfl
 rw[e,Nat.mul_comm (2*keep+2),Nat.add_mul];omega
end
def oU(P:Po)(ps:aj Po):Po:=ps.foldl mV P
noncomputable def GL(P:Po)(ps:aj Po):ay:=P.es.length+(ps.map λq=>q.es.length).sum
theorem aqX(P q:Po):(mV P q).es.length=P.es.length+q.es.length:=by
 show(qW P.s q.s P.es q.es).length=_;unfold qW;rw[Xa _ _ _ _ _ _ _ rfl]
noncomputable abbrev P0:Po:=⟨0,0,0,[]⟩
noncomputable def nT(a:E->bh):av->aj E->av
 |z,[]=>z
 |z,e::es=>if a e then nT a e.2.1 es else z
noncomputable def nU(a:E->bh)(s:av):aj E->av
 |[]=>s
 |e::es=>if a e then nU a s es else e.2.2-1
def Mon(a:E->bh):Prop:=(∀e f:E,e.1=f.1->a e=a f)/\∀e f:E,e.1<=f.1->a f=ax->a e=ax
theorem aqR(x:av)(j:bh):Mon (ah x j):=⟨λe f h=>by simp[ah,h],λe f h q=>by cases j <;> simp[ah]at q ⊢ <;> omega⟩
theorem PN{a:E->bh}(ha:Mon a)(s t:av):∀(n:ay) (es fs:aj E) (dn j:av),es.length+fs.length<=n ->
  nT a (dn+j) (fN s t n dn j es fs)=nT a dn es+nT a j fs/\nU a (s+t) (fN s t n dn j es fs)=nU a s es+nU a t fs
 |0,es,fs,dn,j,h=>by
  have h1:es=[]:=BK (by omega);have h2:fs=[]:=BK (by omega);subst h1;subst h2;exact⟨rfl,rfl⟩
 |n+1,[],[],dn,j,_=>⟨rfl,rfl⟩
 |n+1,e::es,[],dn,j,h=>by
  obtain⟨b,U⟩:=PN ha s t n es [] e.2.1 j (by simp at h ⊢;omega);simp only[fN,nT,nU]at b U ⊢;rw[ha.1 (e.1,e.2.1+j,e.2.2+t) e rfl]
  by_cases q:a e=ax
  ·simp only[q,kS,b,U,and_self]
  ·simp only[bb q];constructor <;> first|trivial|omega
 |n+1,[],f::fs,dn,j,h=>by
  obtain⟨b,U⟩:=PN ha s t n [] fs dn f.2.1 (by simp at h ⊢;omega);simp only[fN,nT,nU]at b U ⊢;rw[ha.1 (f.1,f.2.1+dn,f.2.2+s) f rfl,QH f.2.1 dn]
  by_cases q:a f=ax
  ·simp only[q,kS,b,U,and_self]
  ·simp only[bb q];constructor <;> first|trivial|omega
 |n+1,e::es,f::fs,dn,j,h=>by
  simp only[fN]
  by_cases hle:e.1<=f.1
  ·obtain⟨b,U⟩:=PN ha s t n es (f::fs) e.2.1 j (by simp at h ⊢;omega);rw[a8 hle];simp only[nT,nU]at b U ⊢;rw[ha.1 (e.1,e.2.1+j,e.2.2+(f.2.2-1)) e rfl]
   by_cases q:a e=ax
   ·simp only[q,kS,b,U,and_self]
   ·have c:¬a f=ax:=λz=>q (ha.2 e f hle z);simp only[bb q,bb c];constructor <;> first|trivial|omega
  ·obtain⟨b,U⟩:=PN ha s t n (e::es) fs dn f.2.1 (by simp at h ⊢;omega);rw[bb hle];simp only[nT,nU]at b U ⊢;rw[ha.1 (f.1,f.2.1+dn,f.2.2+(e.2.2-1)) f rfl,QH f.2.1 dn]
   by_cases q:a f=ax
   ·simp only[q,kS,b,U,and_self]
   ·have c:¬a e=ax:=λz=>q (ha.2 f e (by omega) z);simp only[bb q,bb c];constructor <;> first|trivial|omega
theorem ac9{a:E->bh}(s:av):∀(es:aj E) (m:ay) (z:av),m<=es.length->(∀(i:ay) (e:E),es[i]?=ai e->(!a e)=decide (m<=i)) ->
  nT a z es=(if m=0 then z else(es[m-1]?.getD (0,0,0)).2.1)/\nU a s es=jF s es m
 |[],m,z,hm,_=>by
  have:m=0:=by simpa using hm
  subst this;exact⟨rfl,rfl⟩
 |e::es,0,z,hm,h=>by
  have j:=h 0 e rfl;have q:a e=aq:=by simpa using j
  simp[nT,nU,q,jF]
 |e::es,m+1,z,hm,h=>by
  have j:=h 0 e rfl;have q:a e=ax:=by simpa using j
  obtain⟨b,U⟩:=ac9 s es m e.2.1 (by simpa using hm) (λi f c=>by have:=h (i+1) f (by simpa using c);simpa using this);simp only[nT,nU,q,kS,b,U];refine⟨?_,by simp[jF]⟩;cases m with
  |zero=>simp
  |succ k=>simp
theorem Xl{R:aj Rn}{p:Po}(h:Gd R p)(x:av)(j:bh):jZ x j p=nT (ah x j) 0 p.es/\kJ x j p=nU (ah x j) p.s p.es:=by
 obtain⟨hm,q⟩:=GI h x j;obtain⟨h1,h2⟩:=ac9 p.s p.es _ 0 hm q;rw[h1,h2];exact⟨rfl,rfl⟩
noncomputable def allR(R:aj Rn)(rs:aj (aj Rn)):aj Rn:=rs.foldl (· ++ ·) R
theorem ac4:∀(xs:aj (aj Rn×Po)) (R:aj Rn) (P:Po),Gd R P->(∀x∈xs,Gd x.1 x.2)->Gd (allR R (xs.map (·.1))) (oU P (xs.map (·.2)))
 |[],R,P,h,_=>h
 |x::xs,R,P,h,g=>ac4 xs (R++x.1) (mV P x.2) (h.merge (g x (by simp))) λy j=>g y (by simp[j])
theorem ac2(x:av)(j:bh):∀(xs:aj (aj Rn×Po)) (R:aj Rn) (P:Po),Gd R P->(∀x∈xs,Gd x.1 x.2) ->
  nT (ah x j) 0 (oU P (xs.map (·.2))).es=nT (ah x j) 0 P.es+qV jZ x j (xs.map (·.2))/\nU (ah x j) (oU P (xs.map (·.2))).s (oU P (xs.map (·.2))).es=nU (ah x j) P.s P.es+qV kJ x j (xs.map (·.2))
 |[],R,P,h,_=>by simp[oU,qV]
 |y::xs,R,P,h,g=>by
  have q:=g y (by simp);obtain⟨d,c⟩:=ac2 x j xs (R++y.1) (mV P y.2) (h.merge q) λy e=>g y (by simp[e]);obtain⟨U,z⟩:=PN (aqR x j) P.s y.2.s (P.es.length+y.2.es.length) P.es y.2.es 0 0 dD;obtain⟨b,a⟩:=Xl q x j;have i:nT (ah x j) 0 (mV P y.2).es=nT (ah x j) 0 P.es+nT (ah x j) 0 y.2.es:=U;have f:nU (ah x j) (mV P y.2).s (mV P y.2).es=nU (ah x j) P.s P.es+nU (ah x j) y.2.s y.2.es:=z;have k:oU P ((y::xs).map (·.2))=oU (mV P y.2) (xs.map (·.2)):=rfl;rw[k,d,c,i,f,<-b,<-a];simp only[qV,cV,nK];constructor <;> first|trivial|omega
theorem ac3:∀(ps:aj Po) (P:Po),(oU P ps).l=P.l+(ps.map (·.l)).sum
 |[],P=>by simp[oU]
 |q::ps,P=>by
  have:=ac3 ps (mV P q);have e:(mV P q).l=P.l+q.l:=rfl;show(oU (mV P q) ps).l=_;rw[this,e];simp;omega
theorem MH(s t:av):∀(n:ay) (es fs:aj E) (dn j:av),es.length+fs.length<=n->((fN s t n dn j es fs).map (·.1)).Perm (es.map (·.1)++fs.map (·.1))
 |0,es,fs,dn,j,h=>by
  have h1:es=[]:=BK (by omega);have h2:fs=[]:=BK (by omega);subst h1;subst h2;simp[fN]
 |n+1,[],[],dn,j,_=>by simp[fN]
 |n+1,e::es,[],dn,j,h=>by
  have i:=MH s t n es [] e.2.1 j (by simp at h ⊢;omega);simp only[fN,cV,Ou];exact i.cons _
 |n+1,[],f::fs,dn,j,h=>by
  have i:=MH s t n [] fs dn f.2.1 (by simp at h ⊢;omega);simp only[fN,cV,rJ,EM]at i ⊢;exact i.cons _
 |n+1,e::es,f::fs,dn,j,h=>by
  simp only[fN];split
  ·have i:=MH s t n es (f::fs) e.2.1 j (by simp at h ⊢;omega);simp only[cV,Ou]at i ⊢;exact i.cons _
  ·have i:=MH s t n (e::es) fs dn f.2.1 (by simp at h ⊢;omega);simp only[cV,Ou]at i ⊢;exact(i.cons _).trans (List.perm_middle (l₁:=e.1::es.map λx:E=>x.1) (l₂:=fs.map λx:E=>x.1) (a:=f.1)).symm
theorem XN:∀(ps:aj Po) (P:Po),((oU P ps).es.map (·.1)).Perm (P.es.map (·.1)++fX ps)
 |[],P=>by simp[oU,fX]
 |q::ps,P=>by
  have i:=XN ps (mV P q);have e:((mV P q).es.map (·.1)).Perm (P.es.map (·.1)++q.es.map (·.1)):=MH P.s q.s _ P.es q.es 0 0 dD;show((oU (mV P q) ps).es.map (·.1)).Perm _;refine i.trans ((e.append_right _).trans ?_);simp[fX]
structure nY(F:aj Rn->av):Prop where
 app:∀a b,F (a++b)=F a+F b
 one:∀n s t,F [(n,s+t)]=F [(n,s)]+F [(n,t)]
theorem nY.nil{F:aj Rn->av}(h:nY F):F []=0:=by have:=h.app [] [];simp at this;omega
theorem nY.cons{F:aj Rn->av}(h:nY F)(r:Rn)(R:aj Rn):F (r::R)=F [r]+F R:=h.app [r] R
theorem yA:nY whole:=⟨tX,λn s t=>by simp[whole]⟩
theorem arD(x:av):nY (cP · x):=⟨λa b=>Ao a b x,λn s t=>by simp only[cP,cV,rJ,nK,List.sum_nil];split <;> omega⟩
theorem arC(x:av):nY (cW · x):=⟨λa b=>An a b x,λn s t=>by simp only[cW,cV,rJ,nK,List.sum_nil];split <;> omega⟩
theorem nY.add{F:aj Rn->av}(h:nY F)(n t:av):∀rs:aj Rn,F (cL rs n t)=F rs+F [(n,t)]
 |[]=>by simp[cL,h.nil]
 |r::rs=>by
  have ih:=h.add n t rs;unfold cL;split
  ·rename_i e;rw[h.cons (r.1,r.2+t),h.cons r,h.one,e];have:F [(n,r.2)]=F [r]:=by rw[<-e]
   omega
  ·rw[h.cons r,ih,h.cons r rs];omega
theorem nY.all{F:aj Rn->av}(h:nY F):∀(xs:aj (aj Rn)) (R:aj Rn),F (allR R xs)=F R+(xs.map F).sum
 |[],R=>by simp[allR]
 |x::xs,R=>by
  have:=h.all xs (R++x);show F (allR (R++x) xs)=_;rw[this,h.app];simp;omega
theorem ac6(n t:av):∀rs:aj Rn,(cL rs n t).length<=rs.length+1
 |[]=>by simp[cL]
 |r::rs=>by
  have:=ac6 n t rs;unfold cL;split
  ·simp
  ·simp;omega
theorem Vq{R S:aj Rn}(h1:∀x,cP R x=cP S x)(h2:∀x,cW R x=cW S x):∀(es:aj E) (z:av),Pl R z es->Pl S z es
 |[],_,_=>trivial
 |e::es,z,⟨p,c,b,a,U,q,j⟩=>⟨p,c,by rw[<-h1];exact b,by rw[<-h2];exact a,U,q,Vq h1 h2 es p j⟩
theorem Pl.mem{R:aj Rn}:∀{es:aj E} {z:av},Pl R z es->∀e∈es,cP R e.1<cW R e.1
 |e::es,z,⟨p,a1,a2,b,a,U,j⟩,f,hf=>by
  rcases eK.mp hf with q|q
  ·subst q;omega
  ·exact Pl.mem j f q
theorem Sl:∀{R:aj Rn} {x:av},cP R x<cW R x->x∈R.map (·.1)
 |[],x,h=>by simp[cP,cW]at h
 |r::R,x,h=>by
  obtain⟨q,j⟩:=sZ r R x;rw[q,j]at h
  by_cases e:r.1=x
  ·simp[e]
  ·have:cP R x<cW R x:=by
    by_cases l:r.1<x
    ·rw[a8 l,a8 (by omega)]at h;omega
    ·rw[bb l,bb (by omega)]at h;omega
   exact gJ _ (Sl this)
theorem LI:∀{l m:aj av},l.Nodup->(∀x∈l,x∈m)->l.length<=m.length
 |[],m,_,_=>by simp
 |x::l,m,nd,h=>by
  have z:=qO.mp nd;have q:=h x (by simp);have:=LI (l:=l) (m:=m.erase x) z.2 λy j=>(List.mem_erase_of_ne (λe=>z.1 (by rw[<-e];exact j))).mpr (h y (by simp[j]));rw[List.length_erase_of_mem q]at this;have U:0<m.length:=List.length_pos_of_mem q;simp;omega
structure eG(N:aj av)(keep:ay)(rs:aj Rn)(L:aj Rg)(row:aj Rn)(P:ay):Prop where
 k1:1<=keep
 kb:keep<=5\/(keep=100/\L=[])
 nd:(rs.map (·.1)).Nodup
 pos:∀r∈rs,1<=r.2
 rl:rs.length<=keep
 gF:sO keep L
 sums:∀F,nY F->F rs+mD F L=F row
 GA:∃c,rs.length<=c/\(rs=[]->c=0)/\c+pY L=P
 tn:Tn row
 pb:P<2 ^ 40
 w:whole row<=1000000000
 fs:N.length<=63
 fn:∀r∈rs,r.1∈N
theorem ao9{N:aj av}{keep:ay}(z:N.length<=63)(q:1<=keep)(j:keep<=5\/keep=100):eG N keep [] [] [] 0:=⟨q,j.imp id λh=>⟨h,rfl⟩,by simp,by simp,by simp,⟨by simp,by simp⟩,λF U=>by simp[mD,U.nil],⟨0,by simp,λ_=>rfl,rfl⟩,λr hr=>by simp at hr,by decide,by decide,z,by simp⟩
section
variable{N:aj av}{keep P:ay}{rs row:aj Rn}{L:aj Rg}
theorem al6(gF:sO keep L)(x:Rg)(j:x∈L):x.2.1<=pY L:=by
 have h:∀l:aj Rg,x∈l->x.2.1<=pY l:=by
  intro l
  induction l with
  |nil=>intro h;cases h
  |cons y l ih =>
   intro h;simp only[pY,cV,nK]at *
   rcases eK.mp h with q|q
   ·subst q;omega
   ·have:=ih q;omega
 exact h L j
theorem eG.hl(o:eG N keep rs L row P):rs.length<=63:=by
 have:=LI (l:=rs.map (·.1)) (m:=N) o.nd λx j=>by
  obtain⟨r,hr,rfl⟩:=fZ.mp j;exact o.fn r hr
 rw[lB]at this;have:=o.fs;omega
theorem Bg(gF:sO keep L):0<=mD whole L:=by
 have h:∀l:aj Rg,(∀x∈l,rG keep x)->0<=mD whole l:=by
  intro l
  induction l with
  |nil=>intro _;simp[mD]
  |cons x l ih =>
   intro h;have:=ih λy j=>h y (by simp[j]);have g:=h x (by simp);have h1:=g.nn;rw[g.gd.sz]at h1;simp only[mD,cV,nK]at *;omega
 exact h L gF.ok
theorem eG.hw(o:eG N keep rs L row P):whole rs<=1000000000:=by
 have:=o.sums whole yA;have:=Bg o.gF;have:=o.w;omega
theorem eG.lv(o:eG N keep rs L row P){b:ay}(hb:P/(keep+1)<2 ^ b):∀x∈L,x.1<b:=λx j=>by
 obtain⟨c,h1,_,h2⟩:=o.GA;have z:=al6 o.gF x j;have q:=(o.gF.ok x j).cnt;exact aq6 (n:=P) (by omega) hb
theorem eG.held(o:eG N keep rs L row P){b:ay}(hb:P/(keep+1)<2 ^ b):(fX (cH rs L)).length<=(2*keep+2)*(b+2):=avM o.k1 o.rl o.gF (o.lv hb)
theorem eG.hL(o:eG N keep rs L row P):L.length<=40:=by
 have z:=o.lv (b:=40) (Oa (Nat.div_le_self _ _) o.pb);have:=Jw (m:=40) o.gF.nd λy q=>by
  obtain⟨x,j,rfl⟩:=fZ.mp q;exact z x j
 rwa[lB]at this
theorem eG.nums(o:eG N keep rs L row P):(fX (cH rs L)).length<=976:=by
 rcases o.kb with h|h
 ·have q:=o.held (b:=40) (Oa (Nat.div_le_self _ _) o.pb);have:(2*keep+2)*(40+2)<=12*42:=Nat.mul_le_mul_right 42 (by omega);omega
 ·obtain⟨_,h⟩:=h;subst h;rw[Fm];have h2:=MD (cU rs) 0;have j:=CN rs;have:=o.hl;show(List.map (λq=>q.es.length) [kO rs]).sum<=_;show(iM 0 (cU rs)).length+0<=_;omega
theorem eG.arE(o:eG N keep rs L row P):GL P0 (cH rs L)<=976:=by
 have:=o.nums;rw[Fm]at this;simpa[GL]using this
theorem eG.parts(o:eG N keep rs L row P):∀q∈cH rs L,(∃R,Gd R q)/\q.es.length<=1000:=λq U=>by
 have h1:q.es.length<=126:=by
  rcases eK.mp U with z|z
  ·subst z;have h2:=MD (cU rs) 0;have a:=CN rs;have:=o.hl;show(iM 0 (cU rs)).length<=_;omega
  ·obtain⟨y,j,rfl⟩:=fZ.mp z
   rcases o.kb with k|k
   ·have:=(o.gF.ok y j).len;show y.2.2.2.es.length<=_;omega
   ·obtain⟨_,k⟩:=k;subst k;cases j
 refine⟨?_,by omega⟩
 rcases eK.mp U with z|z
 ·subst z;exact⟨rs,DL o.pos⟩
 ·obtain⟨y,j,rfl⟩:=fZ.mp z;exact⟨_,(o.gF.ok y j).gd⟩
abbrev All(rs:aj Rn)(L:aj Rg):Po:=oU P0 (cH rs L)
def xI(rs:aj Rn)(L:aj Rg):aj (aj Rn×Po):=(rs,kO rs)::L.map λx=>(x.2.2.1,x.2.2.2)
theorem Rc:(xI rs L).map (·.2)=cH rs L:=by simp[xI,cH,xC]
theorem Rb(o:eG N keep rs L row P):∀x∈xI rs L,Gd x.1 x.2:=λx q=>by
 rcases eK.mp q with z|z
 ·subst z;exact DL o.pos
 ·obtain⟨y,j,rfl⟩:=fZ.mp z;exact(o.gF.ok y j).gd
theorem gd0:Gd [] P0:=by
 have h:=DL (R:=[]) (by simp);have e:cU []=[]:=BK (Nat.le_zero.mp (CN []));have j:kO []=P0:=by simp[kO,e,iM,whole]
 rwa[j]at h
theorem eG.gd(o:eG N keep rs L row P):Gd row (All rs L):=by
 have g:=ac4 (xI rs L) [] P0 gd0 (Rb o);rw[Rc]at g;have e:∀F,nY F->F (allR [] ((xI rs L).map (·.1)))=F row:=λF j=>by
  rw[j.all,j.nil,<-o.sums F j];simp[xI,mD,xC]
 have h1:∀x,cP (allR [] ((xI rs L).map (·.1))) x=cP row x:=λx=>e _ (arD x);have h2:∀x,cW (allR [] ((xI rs L).map (·.1))) x=cW row x:=λx=>e _ (arC x);exact⟨o.tn,g.gf,by rw[g.sz];exact e _ yA,Vq h1 h2 _ _ g.pl⟩
theorem eG.lo(o:eG N keep rs L row P)(x:av)(j:bh):qV jZ x j (cH rs L)=jZ x j (All rs L)/\qV kJ x j (cH rs L)=kJ x j (All rs L):=by
 obtain⟨h1,h2⟩:=ac2 x j (xI rs L) [] P0 gd0 (Rb o);rw[Rc]at h1 h2;obtain⟨z,q⟩:=Xl o.gd x j;rw[z,q,h1,h2];simp[nT,nU]
theorem eG.off(o:eG N keep rs L row P):(All rs L).l=fD L:=by
 rw[ac3];simp[cH,kO,fD,xC]
theorem eG.size(o:eG N keep rs L row P):(All rs L).s=whole row:=o.gd.sz
theorem eG.Ez(o:eG N keep rs L row P){b:ay}(hb:P/(keep+1)<2 ^ b):(keep:av)*fD L<=((b-1:ay):av)*whole row:=by
 obtain⟨h1,h2⟩:=o.gF.Ez (m:=b-1) (λx j=>by have:=o.lv hb x j;omega);have e:(L.map λx=>x.2.2.2.s).sum=mD whole L:=by
  unfold mD;congr 1;exact JA λx j=>(o.gF.ok x j).gd.sz
 rw[e]at h1;have z:=o.sums whole yA;have q:0<=whole rs:=(DL o.pos).gf.s0;refine JH h1 (Int.mul_le_mul_of_nonneg_left (by omega) (by omega))
theorem eG.Wk(o:eG N keep rs L row P):0<=fD L:=by rw[<-o.off];exact o.gd.gf.l0
theorem eG.mem(o:eG N keep rs L row P):∀n∈fX (cH rs L),n∈row.map (·.1):=λn hn=>by
 have p:=XN (cH rs L) P0;have:n∈(All rs L).es.map (·.1):=p.mem_iff.mpr (by simpa using hn);obtain⟨e,he,rfl⟩:=fZ.mp this;exact Sl (o.gd.pl.mem e he)
end
abbrev oE:Cell:=.tab "so_manieth" ⟨155,40,155,73⟩ (tF "so_manieth")
structure fP(N:aj av)(Z:aH)(p keep:ay)(rs row:aj Rn)(L:aj Rg)(P:ay):Prop where
 h:Z[p]?=ai (bF keep (whole row) P rs L)
 o:eG N keep rs L row P
 u:Z[0]?=ai nE
 b:Z[1]?=ai nF
 sm:Z[2]?=ai oE
 t1:∀r∈row,1<=r.2
 fr:∀r∈row,r.1∈N
theorem XH{Z:aH}{i:ay}{c:Cell}(h:Z[i]?=ai c)(j:aH):(Z++j)[i]?=ai c:=by
 rw[mM (dN.mp h).1];exact h
theorem Vm(x:ar A)(ok:aH->Prop)(aL:∀Z',ok Z'):∀(ps:aj Po) (P:Po) (y:ar A) (j:aH),GL P ps<=100000 ->
  ∃z,eV ok (gN 2) XC (ps.map bD) [x,ai (bD P),y] j=dP [x,ai (bD (oU P ps)),z] j
 |[],P,y,j,_=>⟨y,by rw[rJ,AZ (aL _)];simp[oU]⟩
 |q::ps,P,y,j,U=>by
  have hl:GL P (q::ps)=P.es.length+q.es.length+(ps.map λq=>q.es.length).sum:=by simp[GL];omega
  have m:BL [bD P,bD q] j=aD (bD (mV P q)) j:=aeD P.s P.l P.d q.s q.l q.d P.es q.es j (by omega);have t:XC [x,ai (bD P),ai (bD q)] j=dP [x,ai (bD (mV P q)),ai (bD q)] j:=kY (i:=1) (Y:=[x,ai (bD P),ai (bD q)]) (tO (bG (bK (a:=bD P) rfl) (bG (bK (a:=bD q) rfl) bY)) m);obtain⟨z,e⟩:=Vm x ok aL ps (mV P q) (ai (bD q)) j (by simp only[GL,aqX];omega);refine⟨z,?_⟩;rw[cV,oP (aL _) (Y0:=[x,ai (bD P),ai (bD q)]) (Z0:=j) (by simp) t,e];rfl
section
variable{N:aj av}{Z:aH}{p keep P:ay}{rs row:aj Rn}{L:aj Rg}
theorem fP.app(a:fP N Z p keep rs row L P)(j:aH):fP N (Z++j) p keep rs row L P:=⟨XH a.h j,a.o,XH a.u j,XH a.b j,XH a.sm j,a.t1,a.fr⟩
theorem fP.lt(a:fP N Z p keep rs row L P):p<Z.length:=(dN.mp a.h).1
noncomputable abbrev vQ(x:av)(j:bh)(P:Po):A:=.tup [.int (jZ x j P),.int (kJ x j P)]
noncomputable def DY(x y:av)(P:Po):av:=if y<x then 0 else max 0 (jZ y ax P-kJ x aq P)
noncomputable def HZ(x y:av)(P:Po):av:=if y<x then 0 else kJ y ax P-jZ x aq P
noncomputable abbrev yT(x y:av)(P:Po):A:=.tup [.int (DY x y P),.int (HZ x y P)]
theorem aC2{x y:av}(h:y<x)(P:Po):yT x y P=.tup [.int 0,.int 0]:=by simp only[yT,DY,HZ,a8 h]
theorem aC3{x y:av}(h:¬y<x)(P:Po):yT x y P=.tup [.int (max 0 (jZ y ax P-kJ x aq P)),.int (kJ y ax P-jZ x aq P)]:=by simp only[yT,DY,HZ,bb h]
theorem aDM(a b c d:av)(Z:aH):QQ [.tup [.int a,.int b],.tup [.int c,.int d]] Z=aD (.tup [.int (max 0 (c-b)),.int (d-a)]) Z:=by
 have h2:(2:ay)<=az:=by decide
 simp[QQ,acO,h2]
theorem Qz(a:fP N Z p keep rs row L P)(x:av):vH [.aJ p,.int x] Z=aD (vQ x ax (All rs L)) Z:=by
 have q:=aER a.h a.o.pos (by have:=a.o.hl;omega) a.o.hw (by have:=a.o.hL;omega) a.o.parts a.u x;obtain⟨z,j⟩:=a.o.lo x ax;rw[q,z,j]
theorem ae7(a:fP N Z p keep rs row L P)(x:av):xF [.aJ p,.int x] Z=aD (vQ x aq (All rs L)) Z:=by
 have q:=aES a.h a.o.pos (by have:=a.o.hl;omega) a.o.hw (by have:=a.o.hL;omega) a.o.parts a.b x;obtain⟨z,j⟩:=a.o.lo x aq;rw[q,z,j]
theorem RH(a:fP N Z p keep rs row L P):rM [.aJ p] Z=aD (.int (fD L)) Z:=aEH a.h a.o.pos (by have:=a.o.hl;omega) a.o.hw (by have:=a.o.hL;omega)
theorem aFI(a:fP N Z p keep rs row L P):JX [.aJ p] Z=aD (.int (fX (cH rs L)).length) Z:=aEP a.h a.o.pos (by have:=a.o.hl;omega) a.o.hw (by have:=a.o.hL;omega) (by have:=a.o.nums;omega)
theorem fP.call(a:fP N Z p keep rs row L P){m:a5}{F:aj A->Mo A}{n i:ay}{as das:aj A}{fs:Ev->Mo (aj A)}{Y:Ev}{v:A}{Z':aH}(hl:(eS keep (whole row) P rs L).lookup m=ak)(h0:(Y[i]?).join=(aF p))(ha:fs Y Z=aD as Z)(hn:as.length+1+das.length=n)
  (j:F (.aJ p::(as++das)) Z=aD v Z'):bU m [("Gaps",bR n das F)] (dA i) fs Y Z=aD v Z':=qX a.h hl h0 ha hn j
theorem aFM(a:fP N Z p keep rs row L P)(x y:av):QW [.aJ p,.int x,.int y] Z=aD (yT x y (All rs L)) Z:=by
 have h2:(2:ay)<=az:=by decide
 show trim Z (eE (Lz [aF p,aB x,aB y] Z))=_;unfold Lz
 by_cases j:y<x
 ·have e:(dQ (bL (aA kB cC aT)) (bV (mQ (aC bQ (aC bQ a0)))) eR) [aF p,aB x,aB y] Z=ai (.ret (.tup [.int 0,.int 0]),[aF p,aB x,aB y],Z):=by
   simp[j,h2]
  rw[aiX e];rw[aC2 j];exact lD rfl
 ·rw[bO (Y1:=[aF p,aB x,aB y]) (Z':=Z) (by simp[j])];have U:bU "below" [("Gaps",bR 2 [] xF)] aI (aC aT a0) [aF p,aB x,aB y] Z=aD (vQ x aq (All rs L)) Z:=a.call rfl rfl (as:=[.int x]) (das:=[]) (bG (bK rfl) bY) rfl (by simpa using ae7 a x);have z:bU "upto" [("Gaps",bR 2 [] vH)] aI (aC cC a0) [aF p,aB x,aB y] Z=aD (vQ y ax (All rs L)) Z:=a.call rfl rfl (as:=[.int y]) (das:=[]) (bG (bK rfl) bY) rfl (by simpa using Qz a y);have q:=lM (n:=2) (F:=QQ) (bG U (bG z bY)) rfl (aDM _ _ _ _ Z);unfold bV;rw[fM q];rw[aC3 j];exact lD rfl
theorem aFL(a:fP N Z p keep rs row L P)(x:av):JV [.aJ p,.int x] Z=aD (yT x x (All rs L)) Z:=by
 show trim Z (eE (Ly [aF p,aB x] Z))=_;have j:bU "between" [("Gaps",bR 3 [] QW)] aI (aC aT (aC aT a0)) [aF p,aB x] Z=aD (yT x x (All rs L)) Z:=a.call rfl rfl (as:=[.int x,.int x]) (das:=[]) (bG (bK rfl) (bG (bK rfl) bY)) rfl (by simpa using aFM a x x);unfold Ly bV;rw[fM j];exact lD rfl
theorem ae4(a:fP N Z p keep rs row L P):BP [.aJ p] Z=aD (bD (All rs L)) Z:=by
 have q:=QA a.h a.o.pos (by have:=a.o.hl;omega) a.o.hw (by have:=a.o.hL;omega);have d:QP [] Z=aD (bD P0) Z:=by
  have z:(4:ay)<=az:=by decide
  simp[QP,acN,z,bD,dG,encL]
 obtain⟨j,b⟩:=Vm (aF p) (srcOf (.lst ((cH rs L).map bD)) ((cH rs L).map bD)).ok (λ_=>rfl) (cH rs L) P0 ak Z (by have:=a.o.arE;omega);show trim Z (eE (Mm [aF p,ak,ak] Z))=_;unfold Mm;rw[bO (Y1:=[aF p,ai (bD P0),ak]) (Z':=Z) (kY (i:=1) (Y:=[aF p,ak,ak]) (tO bY (by simpa[bN]using d)))];have c:bU "parts" [("Gaps",bR 1 [] qS)] aI a0 [aF p,ai (bD P0),ak] Z=aD (.lst ((cH rs L).map bD)) Z:=a.call rfl rfl (as:=[]) (das:=[]) bY rfl (by simpa using q);have U:gB (eW (bU "parts" [("Gaps",bR 1 [] qS)] aI a0)) (gN 2) XC [aF p,ai (bD P0),ak] Z=dP [aF p,ai (bD (All rs L)),j] Z:=by
  unfold gB;rw[fM (x:=srcOf (.lst ((cH rs L).map bD)) ((cH rs L).map bD)) (Z':=Z) (by unfold eW;rw[dH c];simp)];exact b
 rw[bO U];unfold bV;rw[fM (bK (a:=bD (All rs L)) rfl)];exact lD rfl
theorem aFH(a:fP N Z p keep rs row L P):xE [.aJ p] Z=aD (.lst ((fX (cH rs L)).map A.int)) Z:=aeH a.h a.o.pos (by have:=a.o.hl;omega) a.o.hw (by have:=a.o.hL;omega) (by have:=a.o.nums;omega)
end
open PyProof.Rows (step_dedup)
theorem Xd{ns:aj av}:∀{acc:aj av} {x:av},x∈ns.foldl dk acc<->x∈acc\/x∈ns:=by
 induction ns with
 |nil=>intro acc x;simp
 |cons n ns ih =>
  intro acc x;rw[List.foldl_cons,ih];unfold dk;split
  ·rename_i h;simp only[YM,yU]at h;obtain⟨y,j,e⟩:=h;subst e;constructor
   ·rintro(q|q)
    ·exact .inl q
    ·exact .inr (by simp[q])
   ·rintro(q|q)
    ·exact .inl q
    ·rcases eK.mp q with r|r
     ·exact .inl (by rw[r];exact j)
     ·exact .inr r
  ·simp[or_assoc]
theorem ap6{ns:aj av}:∀{acc:aj av},acc.Nodup->(ns.foldl dk acc).Nodup:=by
 induction ns with
 |nil=>intro acc h;exact h
 |cons n ns ih =>
  intro acc h;rw[List.foldl_cons];refine ih ?_;unfold dk;split
  ·exact h
  ·rename_i q;refine QB.mpr ⟨h,by simp,λa ha b hb=>?_⟩;simp only[oX]at hb;subst hb;intro e;subst e;exact q (by simp only[YM,yU];exact⟨a,ha,rfl⟩)
theorem arG(ns:aj av):∀acc:aj av,(ns.foldl dk acc).length<=acc.length+ns.length:=by
 induction ns with
 |nil=>intro acc;simp
 |cons n ns ih =>
  intro acc;rw[List.foldl_cons];refine oW (ih _) ?_;unfold dk;split <;> simp <;> omega
theorem azO(a:aj av):(sC a).length<=a.length:=by
 have:=arG a [];simpa[sC]using this
noncomputable def pQ(rs:aj Rn)(L:aj Rg):aj av:=sortI (sC (fX (cH rs L)))
theorem af6{c:bh}{f:Ev->Mo A}{Y:Ev}{Z Z':aH}{a:A}{ns:aj av}(h:f Y Z=aD a Z')(hi:eL Z' a=ai (ns.map A.int))(hl:ns.length<4000)(hd:(sC ns).length<64):RQ c f Y Z=jR c ((sortI (sC ns)).map A.int) Z':=by
 unfold RQ;rw[dH h];have j:(eL Z' a).bind intsOf=ai ns:=by rw[hi];exact GQ _
 simp only[j];rw[a8 ⟨hl,by omega⟩]
theorem aDV(n t:av):∀rs:aj Rn,cL rs n t≠[]
 |[]=>by simp[cL]
 |r::rs=>by unfold cL;split <;> simp
theorem Vb{keep:ay}{L:aj Rg}(x:Rg)(nd:(L.map (·.1)).Nodup):pY (kQ keep L.length L x)=pY L+x.2.1:=by
 have e:=UE (keep:=keep) (λx=>(x.2.1:av)) (λx y=>by simp[up1]) L.length (x:=x) nd;have cs:∀l:aj Rg,(l.map λx=>(x.2.1:av)).sum=(pY l:av):=by
  intro l
  induction l with
  |nil=>rfl
  |cons x l ih=>simp only[pY,cV,nK]at ih ⊢;rw[ih];simp
 rw[cs,cs]at e;omega
section
variable{N:aj av}{Z Z':aH}{p keep:ay}{rs row:aj Rn}{L:aj Rg}
theorem eG.ded{P:ay}(o:eG N keep rs L row P)(fr:∀r∈row,r.1∈N):(sC (fX (cH rs L))).length<64:=by
 have h:=LI (l:=sC (fX (cH rs L))) (m:=N) (ap6 (by simp)) λx j=>by
  have h2:=(Xd (acc:=[])).mp j;obtain⟨r,hr,e⟩:=fZ.mp (o.mem x (by simpa using h2));rw[<-e];exact fr r hr
 have:=o.fs;omega
theorem ae5{P:ay}(a:fP N Z p keep rs row L P):BO [.aJ p] Z=aD (.aJ Z.length) (Z++[.lst ((pQ rs L).map A.int)]):=by
 have q:bU "kept" [("Gaps",bR 1 [] xE)] aI a0 [aF p] Z=aD (.lst ((fX (cH rs L)).map A.int)) Z:=a.call rfl rfl (as:=[]) (das:=[]) bY rfl (by simpa using aFH a);have j:=af6 (c:=ax) q rfl (by have:=a.o.nums;omega) (a.o.ded a.fr);show trim Z (eE (Mb [aF p] Z))=_;unfold Mb bV;rw[fM (x:=A.aJ Z.length) (Z':=Z++[.lst ((pQ rs L).map A.int)]) (by rw[j];rfl)];exact agT
theorem tJ{f:Ev->Mo A}{Y:Ev}{a:A}(h:f Y Z=aD a Z'):iJ f Y Z=dP Y Z':=by
 unfold iJ;rw[fM h]
theorem CM{s:ay}{Y:Ev}{fs:aj (a5×Fd)}{f:a5}{fv:Ev->Mo A}{b:A}(j:(Y[0]?).join=(aF s))(h:Z[s]?=ai (.ins "Gaps" fs))(hl:fs.length<1000)(hv:fv Y Z=aD b Z):rR ["Gaps"] f aI fv Y Z=dP Y (Z.set s (.ins "Gaps" (putD f (.val b) fs))):=by
 unfold rR;rw[fM hv];rw[fM (x:=A.aJ s) (Z':=Z) (by simp[j])];simp only[h];rw[a8 ⟨by simp,hl⟩]
theorem Wi{P:ay}(o:eG N keep rs L row P)(n t:av)(E:n∈N)(B:1<=t)(w:ay)(R:1<=w)(hr:P+w<2 ^ 40)(hw:whole row+t<=1000000000)(many tk:av)(h:Z[p]?=ai (bF keep many tk rs L)) :
  ∃f k,eG N keep f k (row++[(n,t)]) (P+w)/\FA [.aJ p,.int n,.int t] Z=aD (.dE) (Z.set p (bF keep many tk f k)):=by
 obtain⟨c,I,H,G⟩:=o.GA;have C:=ac6 n t rs;have a:=Vn rs n t B o.pos;have Q:=o.rl;have hl:=o.hl;have i:whole (row++[(n,t)])<=1000000000:=by rw[tX];simp[whole]at hw ⊢;omega
 have g:Tn (row++[(n,t)]):=o.tn.app λr hr=>by
  have:r=(n,t):=by simpa using hr
  subst this;show 0<=t;omega
 have s:∀r∈cL rs n t,r.1∈N:=λr hr=>by
  rcases Gn rs n t r.1 (QC hr)with q|q
  ·obtain⟨y,v,e⟩:=fZ.mp q;rw[<-e];exact o.fn y v
  ·rw[q];exact E
 have hnd:=Wv rs n t o.nd;have D:(cL rs n t).length<=63:=by
  have:=LI (l:=(cL rs n t).map (·.1)) (m:=N) hnd λx A=>by
   obtain⟨r,hr,rfl⟩:=fZ.mp A;exact s r hr
  rw[lB]at this;have:=o.fs;omega
 by_cases b:(cL rs n t).length<=keep
 ·refine⟨cL rs n t,L,⟨o.k1,o.kb,hnd,a,b,o.gF,λF j=>?_,⟨c+w,by omega,λz=>bu z (aDV n t rs),by omega⟩,g,hr,i,o.fs,s⟩,aEA h o.nd (by omega) n t b⟩;rw[j.add,j.app,<-o.sums F j];omega
 ·have K:keep<=62:=by omega
  have d:keep+1<=c+w:=by omega
  have U:whole (cL rs n t)<=1000000000:=by
   have h1:=yA.add n t rs;have h2:=o.sums whole yA;have M:=Bg o.gF;have:whole [(n,t)]=t:=by simp[whole]
   omega
  have u:rG keep (0,c+w,cL rs n t,kO (cL rs n t)):=Um a (by omega) d;have q:=aD9 o.k1 (by omega) h o.nd (by omega) n t (by omega) a U o.gF (by have:=o.hL;omega) d;refine⟨[],_,⟨o.k1,by rcases o.kb with z|⟨z,_⟩ <;> omega,by simp,by simp,by simp,Gk o.k1 _ dD o.gF u,λF j=>?_,⟨0,by simp,λ_=>rfl,?_⟩,g,hr,i,o.fs,by simp⟩,q⟩
  ·have e:=UE (keep:=keep) (λx=>F x.2.2.1) (λx y=>j.app _ _) L.length (x:=(0,c+w,cL rs n t,kO (cL rs n t))) o.gF.nd;show F []+((kQ keep L.length L _).map λx=>F x.2.2.1).sum=_;rw[e,j.nil,j.app,<-o.sums F j];show 0+(mD F L+F (cL rs n t))=_;rw[j.add];omega
  ·have e:=Vb (keep:=keep) (L:=L) (0,c+w,cL rs n t,kO (cL rs n t)) o.gF.nd;simp only at e;omega
theorem ao7{P:ay}(o:eG N keep rs L row P){x:Rg}(g:rG keep x)(b:keep<=5)(hr:P+x.2.1<2 ^ 40)(hw:whole row+whole x.2.2.1<=1000000000)(many tk:av)(h:Z[p]?=ai (bF keep many tk rs L)) :
  ∃z,eG N keep rs z (row++x.2.2.1) (P+x.2.1)/\BR [.aJ p,bD x.2.2.2,.int x.1] Z=aD (.dE) (Z.set p (bF keep many tk rs z)):=by
 obtain⟨c,a,U,d⟩:=o.GA;have q:=aeG o.k1 (by omega) h (by have:=o.hL;omega) o.gF g;refine⟨_,⟨o.k1,.inl b,o.nd,o.pos,o.rl,Gk o.k1 _ dD o.gF g,λF j=>?_,⟨c,a,U,?_⟩,o.tn.app g.gd.tn,hr,by rw[tX];exact hw,o.fs,o.fn⟩,q⟩
 ·have e:=UE (keep:=keep) (λx=>F x.2.2.1) (λx y=>j.app _ _) L.length (x:=x) o.gF.nd;show F rs+((kQ keep L.length L _).map λx=>F x.2.2.1).sum=_;rw[e,j.app,<-o.sums F j];show F rs+(mD F L+F x.2.2.1)=_;omega
 ·have e:=Vb (keep:=keep) (L:=L) x o.gF.nd;omega
theorem aeF{many tk:av}(h:Z[p]?=ai (bF keep many tk rs L))(t:av)(hm:many+t<=1000000000):QX [.aJ p,.int t] Z=aD (.dE) Z:=by
 have l:(eS keep many tk rs L).lookup ("many" : a5)=ai (.val (.int many)):=rfl;have j:¬1000000000<many+t:=by omega
 show trim Z (eE (Mc [aF p,aB t] Z))=_;simp[Mc,h,l,j]
theorem Vg{keep:ay}{many j tk:av}{rs:aj Rn}{L:aj Rg}:putD "many" (.val (.int j)) (eS keep many tk rs L)=eS keep j tk rs L:=rfl
theorem Vd{keep:ay}{many tk SA:av}{rs:aj Rn}{L:aj Rg}:putD "taken" (.val (.int SA)) (eS keep many tk rs L)=eS keep many SA rs L:=rfl
theorem aFF{P:ay}(a:fP N Z p keep rs row L P)(n t:av)(g:n∈N)(e:1<=t)(m:P+1<2 ^ 40)(hw:whole row+t<=1000000000)(s:3<=p) :
  ∃j U,fP N (Z.set p (bF keep (whole (row++[(n,t)])) ((P+1:ay):av) j U)) p keep j (row++[(n,t)]) U (P+1)/\JW [.aJ p,.int n,.int t] Z=aD (.dE) (Z.set p (bF keep (whole (row++[(n,t)])) ((P+1:ay):av) j U)):=by
 obtain⟨j,U,k,q⟩:=Wi a.o n t g e 1 (vA 1) m hw _ _ a.h;have d:=a.lt;have v:whole (row++[(n,t)])=whole row+t:=by rw[tX];simp[whole]
 have w:((P+1:ay):av)=(P:av)+1:=by simp
 refine⟨j,U,⟨gK d,k,by rw[gS (by omega)];exact a.u,by rw[gS (by omega)];exact a.b,by rw[gS (by omega)];exact a.sm,λr hr=>?_,λr hr=>?_⟩,?_⟩
 ·rcases rH.mp hr with z|z
  ·exact a.t1 r z
  ·have:r=(n,t):=by simpa using z
   subst this;exact e
 ·rcases rH.mp hr with z|z
  ·exact a.fr r z
  ·have:r=(n,t):=by simpa using z
   subst this;exact g
 rw[v,w];have i:=aeF a.h t hw;have h2:(Z.set p (bF keep (whole row) P j U))[p]?=ai (bF keep (whole row) P j U):=gK d;have f:(Z.set p (bF keep (whole row+t) P j U))[p]?=ai (bF keep (whole row+t) P j U):=gK d;have c:¬t<1:=by omega
 show trim Z (eE (XA [aF p,aB n,aB t] Z))=_;unfold XA;rw[bO (Y1:=[aF p,aB n,aB t]) (Z':=Z) (by simp[c])];rw[bO (tJ (a.call (by rfl) (by rfl) (as:=[.int t]) (das:=[]) (by simp) (by rfl) (by simpa using i)))];rw[bO (tJ (a.call (by rfl) (by rfl) (as:=[.int n,.int t]) (das:=[]) (by simp) (by rfl) (by simpa using q)))];have l:(eS keep (whole row) P j U).lookup ("many" : a5)=ai (.val (.int (whole row))):=rfl;rw[bO (CM (b:=.int (whole row+t)) rfl h2 (by simp) (by simp[h2,l]))];rw[Vg,pR];have lt:(eS keep (whole row+t) P j U).lookup ("taken" : a5)=ai (.val (.int P)):=rfl;rw[CM (b:=.int (P+1)) rfl f (by simp) (by simp[f,lt])];rw[Vd,pR];simp only[xV];exact lD (by simp)
end
theorem VH(Z:aH)(c:Cell):(Z++[c])[Z.length]?=ai c:=by simp
theorem SU(Z:aH)(c d:Cell):(Z++[c]).set Z.length d=Z++[d]:=by simp
theorem aa9{Z:aH}{keep:ay}{f:a5}{fs:aj (a5×Fd)}(hl:fs.length<1000):(xR ["Gaps"] 0 f vP) [aF Z.length,aB keep] (Z++[.ins "Gaps" fs])=dP [aF Z.length,aB keep] (Z++[.ins "Gaps" (putD f (.bH []) fs)]):=by
 have j:CS ["Gaps"] 0 [aF Z.length,aB keep] (Z++[.ins "Gaps" fs])=ai (Z.length,("Gaps" : a5),fs):=by
  unfold CS;simp
 have q:vP [aF Z.length,aB keep] (Z++[.ins "Gaps" fs])=aD (.aJ (Z++[Cell.ins "Gaps" fs]).length) ((Z++[.ins "Gaps" fs])++[.bH []]):=by simp
 unfold xR;rw[j];simp only[q,VH,Fd.GC];rw[a8 ⟨rfl,rfl,hl,by simp[sQ,gC]⟩,SU]
theorem aEK(Z:aH)(keep:ay):uQ "Gaps" 2 vI [.int keep] Z=aD (.aJ Z.length) (Z++[bF keep 0 0 [] []]):=by
 have base:QY [.aJ Z.length,.int keep] (Z++[.ins "Gaps" []])=aD (.dE) (Z++[.ins "Gaps" [("keep",.val (.int keep)),("many",.val (.int 0)),("taken",.val (.int 0))]]):=by
  show trim _ (eE (XB [aF Z.length,aB keep] (Z++[.ins "Gaps" []])))=_;unfold XB;rw[bO (CM (b:=.int keep) (by rfl) (VH _ _) (by simp) (by simp)),SU];rw[bO (CM (b:=.int 0) (by rfl) (VH _ _) (by exact(show(1:ay)<1000 by decide)) (by simp)),SU];rw[CM (b:=.int 0) (by rfl) (VH _ _) (by exact(show(2:ay)<1000 by decide)) (by simp),SU];simp only[xV];rw[lD (by simp)];rfl
 have e:vI [.aJ Z.length,.int keep] (Z++[.ins "Gaps" []])=aD (.dE) (Z++[bF keep 0 0 [] []]):=by
  show trim _ (eE (XG [aF Z.length,aB keep] (Z++[.ins "Gaps" []])))=_;unfold XG;rw[bO (tJ (a:=.dE) (Z':=Z++[.ins "Gaps" [("keep",.val (.int keep)),("many",.val (.int 0)),("taken",.val (.int 0))]]) (by simp[bN,base]))];rw[bO (aa9 (by simp))];rw[aa9 (by exact(show(4:ay)<1000 by decide))];simp only[xV];rw[lD (by simp)];rfl
 unfold uQ;rw[a8 (by rfl)];rw[e]
abbrev rB(x:Rg):A:=.tup [.int x.1,bD x.2.2.2]
noncomputable def uD(L:aj Rg):aj Rn:=(L.map λx=>x.2.2.1).flatten
theorem nY.rows{F:aj Rn->av}(h:nY F):∀L:aj Rg,F (uD L)=mD F L
 |[]=>by simp[uD,mD,h.nil]
 |x::L=>by
  have:=h.rows L;have e:uD (x::L)=x.2.2.1++uD L:=by simp[uD]
  rw[e,h.app,this];simp[mD]
theorem Tj{keep:ay}:∀l:aj Rg,(∀x∈l,rG keep x)->0<=mD whole l
 |[],_=>by simp[mD]
 |x::l,h=>by
  have:=Tj l λy j=>h y (by simp[j]);have g:=h x (by simp);have h1:=g.nn;rw[g.gd.sz]at h1;simp only[mD,cV,nK]at *;omega
section
variable{N:aj av}{p p2 keep:ay}{many tk:av}
theorem yN{Z:aH}{rs:aj Rn}{L:aj Rg}(h:Z[p]?=ai (bF keep many tk rs L)){f:a5}{v:A}{i:ay}{Y:Ev}(j:(Y[i]?).join=(aF p))(hl:(eS keep many tk rs L).lookup f=ai (.val v)):fL ["Gaps"] f (dA i) Y Z=aD v Z:=by
 unfold fL;rw[dH (bK j)];simp only[DN,h,hl];simp
theorem Xz(b a U z j:ar A)(ok:aH->Prop)(aL:∀Z',ok Z'):∀(xs:aj Rg) (Z:aH) (rs row:aj Rn) (L:aj Rg) (P:ay) (d c:ar A),eG N keep rs L row P->(∀x∈xs,rG keep x/\keep<=5)->P+pY xs<2 ^ 40->whole row+mD whole xs<=1000000000->Z[p]?=ai (bF keep many tk rs L) ->
  ∃f k l,eG N keep rs f (row++uD xs) (P+pY xs)/\eV ok (hZ 2 (dF (gN 4) (dF (gN 5) iA))) PK (xs.map rB) [aF p,b,a,U,d,c,z,j] Z=dP [aF p,b,a,U,k,l,z,j] (Z.set p (bF keep many tk rs f))
 |[],Z,rs,row,L,P,d,c,o,_,_,_,h=>⟨L,d,c,by simpa[uD,pY]using o,by rw[rJ,AZ (aL _),zO h]⟩
 |x::xs,Z,rs,row,L,P,d,c,o,e,B,w,h=>by
  have v:pY (x::xs)=x.2.1+pY xs:=by simp[pY]
  have C:mD whole (x::xs)=whole x.2.2.1+mD whole xs:=by simp[mD]
  have u:uD (x::xs)=x.2.2.1++uD xs:=by simp[uD]
  have hn:=Tj xs λy g=>(e y (by simp[g])).1;have s:p<Z.length:=(dN.mp h).1;obtain⟨i,n,m⟩:=ao7 o (e x (by simp)).1 (e x (by simp)).2 (by omega) (by omega) many tk h;obtain⟨f,k,l,r,q⟩:=Xz b a U z j ok aL xs (Z.set p (bF keep many tk rs i)) rs (row++x.2.2.1) i (P+x.2.1) (aB x.1) (ai (bD x.2.2.2)) n (λy g=>e y (by simp[g])) (by omega) (by rw[tX];omega) (gK s);refine⟨f,k,l,by rw[u,v,<-aeQ,<-Nat.add_assoc];exact r,?_⟩;have t:PK [aF p,b,a,U,aB x.1,ai (bD x.2.2.2),z,j] Z=dP [aF p,b,a,U,aB x.1,ai (bD x.2.2.2),z,j] (Z.set p (bF keep many tk rs i)):=by
   unfold PK;exact tJ (qX h rfl rfl (as:=[bD x.2.2.2,.int x.1]) (das:=[]) (bG (bK rfl) (bG (bK rfl) bY)) rfl (by simpa using m))
  rw[cV,oP (aL _) (Y0:=[aF p,b,a,U,aB x.1,ai (bD x.2.2.2),z,j]) (Z0:=Z) (by simp) t,q,pR]
theorem Sz(c b a U j:ar A)(ok:aH->Prop)(aL:∀Z',ok Z'):∀(xs:aj Rn) (W:ay) (Z:aH) (rs row:aj Rn) (L:aj Rg) (P:ay) (f e:ar A),eG N keep rs L row P->(∀r∈xs,1<=r.2/\r.1∈N)->xs.length<=W->(xs=[]->W=0)->P+W<2 ^ 40->whole row+whole xs<=1000000000->Z[p]?=ai (bF keep many tk rs L) ->
  ∃i k n s,eG N keep i k (row++xs) (P+W)/\eV ok (hZ 2 (dF (gN 6) (dF (gN 7) iA))) PJ (aK xs) [aF p,c,b,a,U,j,f,e] Z=dP [aF p,c,b,a,U,j,n,s] (Z.set p (bF keep many tk i k))
 |[],W,Z,rs,row,L,P,f,e,o,_,_,v,_,_,h=>⟨rs,L,f,e,by rw[v rfl];simpa using o,by show eV ok _ _ [] _ Z=_;rw[AZ (aL _),zO h]⟩
 |r::xs,W,Z,rs,row,L,P,f,e,o,g,hl,v,T,S,h=>by
  have F:p<Z.length:=(dN.mp h).1;have V:whole (r::xs)=r.2+whole xs:=by simp[whole]
  have l:whole [(r.1,r.2)]=r.2:=by simp[whole]
  have hn:0<=whole xs:=(DL (R:=xs) λq E=>(g q (by simp[E])).1).gf.s0;obtain⟨w,d,K,H,M,I⟩:∃w d,1<=w/\w+d=W/\xs.length<=d/\(xs=[]->d=0):=by
   simp only[iP]at hl;cases xs with
   |nil=>exact⟨W,0,by omega,by omega,by simp,λ_=>rfl⟩
   |cons y Q=>exact⟨1,W-1,by omega,by omega,by omega,λz=>by cases z⟩
  obtain⟨u,m,B,x⟩:=Wi o r.1 r.2 (g r (by simp)).2 (g r (by simp)).1 w K (by omega) (by omega) many tk h;obtain⟨i,k,n,s,C,q⟩:=Sz c b a U j ok aL xs d (Z.set p (bF keep many tk u m)) u (row++[(r.1,r.2)]) m (P+w) (aB r.1) (aB r.2) B (λy D=>g y (by simp[D])) M I (by omega) (by rw[tX,l];omega) (gK F);refine⟨i,k,n,s,?_,?_⟩
  ·have G:row++r::xs=(row++[(r.1,r.2)])++xs:=by simp
   rw[G,<-H,<-Nat.add_assoc];exact C
  ·have t:PJ [aF p,c,b,a,U,j,aB r.1,aB r.2] Z=dP [aF p,c,b,a,U,j,aB r.1,aB r.2] (Z.set p (bF keep many tk u m)):=by
    unfold PJ;exact tJ (qX h rfl rfl (as:=[.int r.1,.int r.2]) (das:=[]) (bG (bK rfl) (bG (bK rfl) bY)) rfl (by simpa using x))
   show eV ok _ _ (gT r::aK xs) _ Z=_;rw[oP (aL _) (Y0:=[aF p,c,b,a,U,j,aB r.1,aB r.2]) (Z0:=Z) (by simp[gT]) t,q,pR]
theorem aD8{Z:aH}{rs row mE mF:aj Rn}{L L2:aj Rg}{P P2:ay}{n m:av}(o:eG N keep rs L row P)(j:eG N keep mE L2 mF P2)(E:P+P2<2 ^ 40)(D:whole row+whole mF<=1000000000)(h:Z[p]?=ai (bF keep many tk rs L))(h2:Z[p2]?=ai (bF keep n m mE L2)) :
  ∃f g,eG N keep f g (row++mF) (P+P2)/\ZG [.aJ p,.aJ p2] Z=aD (.dE) (Z.set p (bF keep many tk f g)):=by
 have C:p<Z.length:=(dN.mp h).1;obtain⟨c,B,A,Q⟩:=j.GA;have R:=j.sums whole yA;have hn:0<=whole mE:=(DL j.pos).gf.s0;have V:=Bg j.gF;obtain⟨e,l,k,y,u⟩:=Xz (p:=p) (many:=many) (tk:=tk) (aF p2) (ai (.lst (L2.map rB))) (ai (.lst (aK mE))) ak ak (srcOf (.lst (L2.map rB)) (L2.map rB)).ok (λ_=>rfl) L2 Z rs row L P ak ak o (λx s=>⟨j.gF.ok x s,by rcases j.kb with z|⟨_,z⟩;exact z;subst z;cases s⟩) (by omega) (by omega) h;obtain⟨f,g,w,v,q,t⟩:=Sz (p:=p) (many:=many) (tk:=tk) (aF p2) (ai (.lst (L2.map rB))) (ai (.lst (aK mE))) l k (srcOf (.lst (aK mE)) (aK mE)).ok (λ_=>rfl) mE c (Z.set p (bF keep many tk rs e)) rs (row++uD L2) e (P+pY L2) ak ak y (λr hr=>⟨j.pos r hr,j.fn r hr⟩) B A (by omega) (by rw[tX,yA.rows];omega) (gK C);refine⟨f,g,⟨q.k1,q.kb,q.nd,q.pos,q.rl,q.gF,λF b=>?_,?_,o.tn.app j.tn,E,by rw[tX];exact D,q.fs,q.fn⟩,?_⟩
 ·rw[q.sums F b,b.app,b.app,b.app,b.rows,<-j.sums F b];omega
 ·obtain⟨d,M,d0,T⟩:=q.GA;exact⟨d,M,d0,by omega⟩
 ·show trim Z (eE (Mi [aF p,aF p2,ak,ak,ak,ak,ak,ak] Z))=_;have K:jO ["Gaps"] 1 "laid" (λU=>jR aq (U.map mW)) [aF p,aF p2,ak,ak,ak,ak,ak,ak] Z=aD (.lst (L2.map rB)) Z:=by
   unfold jO uE;simp only[YK,List.getElem?_cons_zero,Option.join_some,h2];show jR aq ((fU L2).map mW) Z=_;simp[fU,mW,kA,xC]
  have I:jO ["Gaps"] 1 "newest" (λU=>jR aq (U.map mW)) [aF p,aF p2,aX (L2.map rB),ak,ak,ak,ak,ak] Z=aD (.lst (aK mE)) Z:=by
   unfold jO uE;simp only[YK,List.getElem?_cons_zero,Option.join_some,h2];show jR aq ((fV mE).map mW) Z=_;rw[Yg];rfl
  unfold Mi;rw[bO (kY (i:=2) K)];simp only[List.set];rw[bO (kY (i:=3) I)];simp only[List.set];have H:gB (eW cC) (hZ 2 (dF (gN 4) (dF (gN 5) iA))) PK [aF p,aF p2,aX (L2.map rB),aX (aK mE),ak,ak,ak,ak] Z=dP [aF p,aF p2,aX (L2.map rB),aX (aK mE),l,k,ak,ak] (Z.set p (bF keep many tk rs e)):=by
   rw[mZ (S:=srcOf (.lst (L2.map rB)) (L2.map rB)) (Z':=Z) (by unfold eW;rw[dH (bK (a:=.lst (L2.map rB)) rfl)];simp)];exact u
  have G:gB (eW dS) (hZ 2 (dF (gN 6) (dF (gN 7) iA))) PJ [aF p,aF p2,aX (L2.map rB),aX (aK mE),l,k,ak,ak] (Z.set p (bF keep many tk rs e))=dP [aF p,aF p2,aX (L2.map rB),aX (aK mE),l,k,w,v] ((Z.set p (bF keep many tk rs e)).set p (bF keep many tk f g)):=by
   rw[mZ (S:=srcOf (.lst (aK mE)) (aK mE)) (Z':=Z.set p (bF keep many tk rs e)) (by unfold eW;rw[dH (bK (a:=.lst (aK mE)) rfl)];simp)];exact t
  rw[bO H,G,pR];simp only[xV];exact lD (by simp)
end
theorem abD(Z:aH):∀(m fuel n f:ay),n<2 ^ m->m<fuel->∃b:ay,n<2 ^ b/\lK WU Lr fuel [aB n,aB f] Z=dP [aB 0,aB ((f+b:ay):av)] Z
 |m,0,n,f,_,h=>by omega
 |m,fuel+1,0,f,_,_=>⟨0,by simp,by rw[DP (Z1:=Z) (by simp[WU])];simp⟩
 |0,fuel+1,n+1,f,h,_=>by simp at h
 |m+1,fuel+1,n+1,f,h,h'=>by
  obtain⟨b,hb,q⟩:=abD Z m fuel ((n+1)/2) (f+1) (by rw[Nx]at h;omega) (by omega);refine⟨b+1,by rw[Nx];omega,?_⟩;have U:nM ((n:av)+1) 2:=⟨by decide,by decide⟩;have d:(0:av)<((n+1:ay):av):=by omega
  have z:(((n+1:ay):av)/2)=(((n+1)/2:ay):av):=by omega
  have j:(f:av)+1=((f+1:ay):av):=by omega
  rw[yO (Z1:=Z) (Z2:=Z) (Y1:=[aB (((n+1)/2:ay):av),aB ((f+1:ay):av)]) (by simp only[WU];exact iC (cX (a:=.int ((n+1:ay):av)) (bK rfl) (b:=.int 0) (by simp) (by simp))) (by
   unfold Lr;rw[bO (kY (i:=1) (cX (bK rfl) (b:=.int 1) (by simp) (c:=.int ((f+1:ay):av)) (by rw[<-j];simp)))];rw[kY (i:=0) (cX (a:=.int ((n+1:ay):av)) (bK rfl) (b:=.int 2) (by simp) (c:=.int (((n+1)/2:ay):av)) (by rw[<-z];simp[U]))];rfl),q]
  rw[show f+1+b=f+(b+1)by omega]
theorem aEU(n:ay)(hn:n<2 ^ 40)(Z:aH):∃b:ay,n<2 ^ b/\ZE [.int n] Z=aD (.int b) Z:=by
 obtain⟨b,hb,q⟩:=abD Z 40 1000000 n 0 hn (by decide);refine⟨b,hb,?_⟩;show trim Z (eE (Ls [aB n,ak] Z))=_;unfold Ls;rw[bO (Y1:=[aB n,aB 0]) (Z':=Z) (by simp)];simp only[wX,YR]at q;rw[bO (Y1:=[aB 0,aB b]) (Z':=Z) q];simp
theorem DW{i j:av}(q:0<=j)(h1:j<=1000000000):jV i j/\jV j i:=by
 have a : -(2 ^ 64)<j:=by omega
 have b:j<2 ^ 64:=by omega
 exact⟨.inr ⟨a,b⟩,.inl ⟨a,b⟩⟩
theorem Ko{i j:av}(q:0<j)(h1:j<=1001):nM i j:=⟨q,by omega⟩
theorem GG{i j:av}(h:jV i j)(Z:aH):gY (.int i) (.int j) Z=aD (.int (i*j)) Z:=by
 simp only[gY,gI];simp[h]
theorem VZ{i j:av}(h:nM i j)(Z:aH):jI (.int i) (.int j) Z=aD (.int (i/j)) Z:=by
 simp only[jI,gI];simp[h]
theorem uF{Z Z' Z'':aH}{Y:Ev}{f g:Ev->Mo bh}(h:f Y Z=aD aq Z')(h2:g Y Z'=aD aq Z''):gU f g Y Z=aD aq Z'':=by rw[orF h,h2]
theorem aCD{Z Z1 Z2 j:aH}{Y:Ev}{g g':A->A->Mo A}{U z q:Ev->Mo A}{x y u:A}(h1:U Y Z=aD x Z1)(h2:z Y Z1=aD y Z2)(c:g x y Z2=aD (.bl ax) Z2)(b:q Y Z2=aD u j)(a:g' y u j=aD (.bl ax) j):LA g g' U z q Y Z=aD (.bl ax) j:=by
 unfold LA;rw[dH h1,dH h2,dH c];simp[b,a]
section
variable{N:aj av}{Z:aH}{p p2 keep P P2:ay}{rs row mE mF:aj Rn}{L L2:aj Rg}
theorem ae6(a:fP N Z p keep rs row L P)(k:fP N Z p2 keep mE mF L2 P2)(v:P+P2<2 ^ 40)(g:whole row+whole mF<=1000000000) :
  ∃j q,eG N keep j q (row++mF) (P+P2)/\zE [.aJ p,.aJ p2] Z=aD (.dE) (Z.set p (bF keep (whole (row++mF)) ((P+P2:ay):av) j q)):=by
 have d:=a.lt;have h:=a.h;have z:=k.h;obtain⟨j,q,r,n⟩:=aD8 a.o k.o v g h z;have C:whole (row++mF)=whole row+whole mF:=tX ..;have D:((P+P2:ay):av)=(P:av)+P2:=by simp
 refine⟨j,q,r,?_⟩;rw[C,D];have t:=aeF h (whole mF) g;have m:RA [.aJ p,.aJ p2] Z=aD (.bl ax) Z:=by
  show trim Z (eE (Ml [aF p,aF p2] Z))=_;simp[Ml,z]
 have k1:=yN (f := "keep") (Y:=[aF p,aF p2]) (i:=1) z rfl rfl;have u:=yN (f := "keep") (Y:=[aF p,aF p2]) (i:=0) h rfl rfl;have s:=yN (f := "many") (Y:=[aF p,aF p2]) (i:=1) z rfl rfl;have t1:(gU (jC (bL (bU "same_kind" [("Gaps",bR 2 [] RA)] aI (aC aT a0)))) (bL (aA kW (fL ["Gaps"] "keep" aT) (fL ["Gaps"] "keep" aI)))) [aF p,aF p2] Z=aD aq Z :=
  uF (Z':=Z) (vW (b:=ax) (iC (qX h rfl rfl (as:=[.aJ p2]) (das:=[]) (by simp) rfl (by simpa using m)))) (iC (cX k1 u (ax8 (by simp[dW]))))
 have c:(Z.set p (bF keep (whole row) P j q))[p]?=ai (bF keep (whole row) P j q):=gK d;have U:(Z.set p (bF keep (whole row+whole mF) P j q))[p]?=ai (bF keep (whole row+whole mF) P j q):=gK d;have B:=yN (f := "many") (Y:=[aF p,aF p2]) (i:=0) c rfl rfl;have l:p2=p->whole mF=whole row/\(P2:av)=P:=λe=>by
  subst e;rw[h]at z;simp only[lO,Cell.ins.injEq,rK,YA,Fd.val.injEq,A.int.injEq,true_and,and_true]at z;exact⟨z.1.symm,z.2.1.symm⟩
 have y:fL ["Gaps"] "many" aT [aF p,aF p2] (Z.set p (bF keep (whole row) P j q))=aD (.int (whole mF)) (Z.set p (bF keep (whole row) P j q)):=by
  by_cases e:p2=p
  ·have:=yN (f := "many") (Y:=[aF p,aF p2]) (i:=1) c (by rw[e];rfl) rfl;rw[this,(l e).1]
  ·exact yN (f := "many") (i:=1) (by rw[gS (eM e)];exact z) rfl rfl
 have x:=yN (f := "taken") (Y:=[aF p,aF p2]) (i:=0) U rfl rfl;have w:fL ["Gaps"] "taken" aT [aF p,aF p2] (Z.set p (bF keep (whole row+whole mF) P j q))=aD (.int P2) (Z.set p (bF keep (whole row+whole mF) P j q)):=by
  by_cases e:p2=p
  ·have:=yN (f := "taken") (Y:=[aF p,aF p2]) (i:=1) U (by rw[e];rfl) rfl;rw[this,(l e).2]
  ·exact yN (f := "taken") (i:=1) (by rw[gS (eM e)];exact z) rfl rfl
 show trim Z (eE (Me [aF p,aF p2] Z))=_;unfold Me;rw[bO (qC t1)];rw[bO (tJ (qX h (by rfl) (by rfl) (as:=[.int (whole mF)]) (das:=[]) (bG s bY) (by rfl) (by simpa using t)))];rw[bO (tJ (qX h (by rfl) (by rfl) (as:=[.aJ p2]) (das:=[]) (by simp) (by rfl) (by simpa using n)))];rw[bO (CM (b:=.int (whole row+whole mF)) (by rfl) c (by simp) (cX B y (by simp))),Vg,pR];rw[CM (b:=.int ((P:av)+P2)) (by rfl) U (by simp) (cX x w (by simp)),Vd,pR];simp only[xV];exact lD (by simp)
end
theorem ah3{s l d:av}{es:aj E}(h:GF s l d es)(place:av)(h1:1<=place)(h2:place<=s)(hz:es.length<=1000)(m:ay)(hm:m<=es.length)(g:∀(i:ay) (e:E),es[i]?=ai e->decide (place+(l+1)/2<e.2.2)=decide (m<=i))(ent:A)(Z:aH)(hT:Z[2]?=ai oE)(c:fB Z ent=ai (encL es)) :
  ∃e,1<=m/\es[m-1]?=ai e/\EX [.tup [.int s,.int l,.int d,ent],.int place] Z=aD (.int e.1) Z:=by
 have gV:es≠[]:=λz=>by
  have:=(Jd h).mpr z;omega
 have w:=h.l0;have v:1<=m:=by
  cases es with
  |nil=>exact bu rfl gV
  |cons x r =>
   have f:=(h.fst x r rfl).2;have q:=g 0 x rfl;have:¬place+(l+1)/2<x.2.2:=by omega
   rw[oR this]at q;simp at q;omega
 have k:m-1<es.length:=by omega
 refine⟨es[m-1],v,dR k,?_⟩;have hd2:∀j,nM j 2:=λj=>⟨by decide,by decide⟩
 have p:¬place<1:=by omega
 have o:¬s<place:=by omega
 have t:nI (lV ID [place+(l+1)/2]) ent Z=aD (.int (m:av)) Z:=by
  refine Jr c (by simpa using hm) (by simp;omega) λi a ha=>?_;rw[oQ]at ha;cases e:es[i]? with
  |none=>rw[e]at ha;cases ha
  |some z =>
   rw[e]at ha;cases ha;have:=g i z e;rw[<-this];simp[ID,bZ]
 have n:eU (encL es) ((m:av)-1)=ai (bZ es[m-1]):=by rw[XJ _ _ (by omega),oQ,dR k];rfl
 have u:∀b,sU 2 "so_manieth" ⟨155,40,155,73⟩ (tF "so_manieth") [3] (λns a=>nI (lV ID ns) a) cC [b,aB place,ai ent,aB (place+(l+1)/2)] Z=aD (.int (m:av)) Z:=by
  intro b;simp only[sU];rw[dH (x:=ent) (Z':=Z) (by simp)];rw[a8 hT];simp only[wR];simp only[qB];show(match (nI (lV ID [place+(l+1)/2]) ent Z)with
   |some (.exc _,_)=>ak
   | r=>r)=_
  rw[t]
 have U:fB Z (bZ es[m-1])=ai [.int es[m-1].1,.int es[m-1].2.1,.int es[m-1].2.2]:=rfl;show trim Z (eE (Kz [ai (.tup [.int s,.int l,.int d,ent]),aB place,ak,ak] Z))=_;unfold Kz;rw[bO (Y1:=[ai (.tup [.int s,.int l,.int d,ent]),aB place,ak,ak]) (Z':=Z) (by simp[p,o])];rw[bO (Y1:=[ai (.tup [.int s,.int l,.int d,ent]),aB place,ai ent,ak]) (Z':=Z) (by simp)];rw[bO (Y1:=[ai (.tup [.int s,.int l,.int d,ent]),aB place,ai ent,aB (place+(l+1)/2)]) (Z':=Z) (by simp[hd2])];simp[u,c,n,U]
theorem ayB{Z:aH}(n:av)(L:aj av):AU ax (.int n) (.lst (L.map A.int)) Z=aD (.bl (!decide (n∈L))) Z:=by
 have j:dW 8 (.lst (L.map A.int))=ax:=by simp[dW]
 have a:res Z 6 (.int n)=(aB n):=vU (by simp[dW]);have q:res Z 6 (.lst (L.map A.int))=ai (.lst (L.map A.int)):=vU j;have b:dW 7 (.int n)=ax:=by simp[dW]
 have c:((L.map A.int).any λd=>gD 7 d (.int n))=decide (n∈L):=by
  rw[List.any_map];have e:∀m:av,((λd=>gD 7 d (.int n)) ∘ A.int) m=decide (m=n):=λm=>by
   simp only[Function.comp,gD]
   by_cases U:m=n
   ·simp[U]
   ·simp[U]
  rw[show((λd=>gD 7 d (.int n)) ∘ A.int)=λm=>decide (m=n)from funext e];clear q j
  induction L with
  |nil=>rfl
  |cons m L ih =>
   rw[QF,ih]
   by_cases hm:m=n
   ·simp[hm]
   ·have:¬n=m:=λz=>hm z.symm;simp[hm,this]
 unfold AU;rw[a,q];simp only[b,j,Bool.and_self,kS,c]
theorem acW{f:Ev->Mo A}{i j:ay}{a b:A}{Y:Ev}{Z Z':aH}(h:f Y Z=aD (.tup [a,b]) Z'):bM f (hZ 2 (dF (gN i) (dF (gN j) iA))) Y Z=dP ((Y.set i (ai a)).set j (ai b)) Z':=by
 unfold bM;rw[fM h];simp
section
variable{N:aj av}{Z:aH}{p keep P:ay}{rs row:aj Rn}{L:aj Rg}
theorem eG.ac1(o:eG N keep rs L row P):(All rs L).es.length<=976:=by
 have h:=(XN (cH rs L) P0).length_eq;have:=o.nums;simp at h;show(oU P0 (cH rs L)).es.length<=_;omega
theorem aFD(a:fP N Z p keep rs row L P){pl:av}(h1:1<=pl)(h2:pl<=whole row):∃n:av,n∈(All rs L).es.map (·.1)/\cP row n<cW row n/\cP row n+1-(fD L+1)/2<=pl/\pl<=cW row n+(fD L+1)/2 /\
  EX [bD (All rs L),.int pl] Z=aD (.int n) Z/\QZ [.aJ p,.int pl] Z=aD (.int n) Z:=by
 have g:=a.o.gd;have j:=a.o.size;obtain⟨m,hm,q⟩:=aC6 g.gf (pl+((All rs L).l+1)/2);obtain⟨e,h,he,c⟩:=ah3 g.gf pl h1 (by rw[j];exact h2) (by have:=a.o.ac1;omega) m hm q (.lst (encL (All rs L).es)) Z a.sm rfl;obtain⟨d,U,z⟩:=ah4 g pl h1 (by rw[j];exact h2) m hm q e h he;rw[a.o.off]at U z;have b:EX [bD (All rs L),.int pl] Z=aD (.int e.1) Z:=c;refine⟨e.1,fZ.mpr ⟨e,kF he,rfl⟩,d,U,z,b,?_⟩;have f:bU "pouch" [("Gaps",bR 1 [] BP)] aI a0 [aF p,aB pl] Z=aD (bD (All rs L)) Z:=a.call rfl rfl (as:=[]) (das:=[]) bY rfl (by simpa using ae4 a);show trim Z (eE (Mj [aF p,aB pl] Z))=_;unfold Mj bV;rw[fM (lM (n:=2) (F:=EX) (bG f (bG (bK (a:=.int pl) rfl) bY)) rfl b)];exact lD rfl
theorem ayA(n:av)(N:aj av)(h:n∈N){k:ay}(g:Z[k]?=ai (.lst (N.map A.int))):AU ax (.int n) (.aJ k) Z=aD (.bl aq) Z:=by
 have q:=ayB (Z:=Z) n N;have j:res Z 6 (.aJ k)=res Z 6 (.lst (N.map A.int)):=by
  rw[ak9 g,Xf _ (by simp),vU (a:=.lst (N.map A.int)) (by simp[dW])];rfl
 unfold AU at q ⊢;rw[j,q];simp[h]
theorem aqG(R:aj Rn)(Z:aH):kW (.lst (aK R)) (.lst []) Z=aD (.bl (!R.isEmpty)) Z:=by
 have q:=Vk R;have j:dW 8 (.lst [])=ax:=rfl;have he:gD 8 (.lst (aK R)) (.lst [])=R.isEmpty:=by cases R <;> rfl
 simp[kW,uR,vU q,vU j,q,j,he]
theorem ZP:∀{R:aj Rn},(∀r∈R,1<=r.2)->(R.length:av)<=whole R
 |[],_=>by simp[whole]
 |r::R,h=>by
  have:=ZP (R:=R) λq j=>h q (by simp[j]);have:=h r (by simp);have e:whole (r::R)=r.2+whole R:=by simp[whole]
  rw[e];simp;omega
theorem apZ{n:av}(h:n∈(All rs L).es.map (·.1)):n∈pQ rs L:=by
 have h1:n∈fX (cH rs L):=by
  have:=(XN (cH rs L) P0).mem_iff.mp h;simpa using this
 unfold pQ;refine(sortI_perm _).mem_iff.mpr ((Xd (acc:=[])).mpr ?_);simp[h1]
theorem aqF(a:fP N Z p keep rs row L P)(c:av)(V:0<=c)(S:c<8589934592)(k:ay)(hk:k<6)(g f e d:ar A):∃H G E D C,
  WT [aF p,aX (aK row),aB c,aB (fD L),aB k,g,f,e,d] Z=dP [aF p,aX (aK row),aB c,aB (fD L),aB k,H,G,E,D] (Z++C):=by
 have l:bL (aA kW aT (eQ aq a0)) [aF p,aX (aK row),aB c,aB (fD L),aB k,g,f,e,d] Z=aD (!row.isEmpty) Z:=iC (cX (bK (a:=.lst (aK row)) rfl) (b:=.lst []) (by simp) (aqG row Z));unfold WT;cases x:row.isEmpty with
 |true =>
  rw[x]at l;exact⟨g,f,e,d,[],by rw[qC l];simp⟩
 |false =>
  rw[x]at l;have Gz:1<=whole row:=by
   have h1:=ZP a.t1;have:0<row.length:=by cases row <;> simp_all
   omega
  have m:=YF c (k:av) Z V S (by omega) (by omega);have Q:=TX c (k:av);generalize AB c (k:av)=st at m Q;have aHB:=Pf st (show whole row≠0 by omega);have aHA:=YT st (show 0<whole row by omega);have r:0<whole row:=by omega
  obtain⟨pl,h1,h2,M⟩:∃pl:av,1<=pl/\pl<=whole row/\eU [A.int 1,.int (whole row),.int (1+st%whole row)] (min (k:av) 2)=(aB pl):=by
   by_cases R:k=0
   ·subst R;exact⟨1,by omega,by omega,uX _ 0⟩
   ·by_cases k1:k=1
    ·subst k1;exact⟨_,by omega,by omega,uX _ 1⟩
    ·refine⟨1+st%whole row,by omega,by omega,?_⟩;rw[show min (k:av) 2=((2:ay):av)by omega];exact uX _ 2
  obtain⟨n,hn,g1,g2,g3,_,K⟩:=aFD a h1 h2;have s:=apZ hn;have Zk:=a.o.Wk;have W:(3:ay)<=az:=by decide
  have y:∀U:Ev,(U[0]?).join=(aF p)->bU "length" [("Gaps",bR 1 [] qR)] aI a0 U Z=aD (.int (whole row)) Z:=λU h=>a.call rfl h (as:=[]) (das:=[]) bY rfl (by simpa using YG a.h);unfold dQ;rw[fM l];simp only[Bool.not_false,kS];have e5:aA aO (eQ aq (aC bP (aC (bU "length" [("Gaps",bR 1 [] qR)] aI a0) (aC (aA cJ bP (aA (fS) (aU (bN 2 vG) (aC cC (aC cY a0))) (bU "length" [("Gaps",bR 1 [] qR)] aI a0))) a0)))) (aU HL (aC cY (aC eO a0))) [aF p,aX (aK row),aB c,aB (fD L),aB k,g,f,e,d] Z=aD (.int pl) Z:=by
   refine cX (a:=.lst [A.int 1,.int (whole row),.int (1+st%whole row)]) (b:=.int (min (k:av) 2)) ?_ (tO (Z':=Z) (bG (bK (a:=.int k) rfl) (bG (a:=.int 2) (by simp) bY)) (by simp)) (by simp[M]);unfold eQ;rw[dH (bG (a:=.int 1) (by simp) (bG (y _ rfl) (bG (cX (a:=.int 1) (by simp) (cX (lM (n:=2) (F:=vG) (bG (bK (a:=.int c) rfl) (bG (bK (a:=.int k) rfl) bY)) rfl m) (y _ rfl) (c:=.int (st%whole row)) (by simp only[fS,gI];simp[r])) (c:=.int (1+st%whole row)) (by simp)) bY)))];simp[W]
  rw[bO (kY (i:=5) e5)];simp only[List.set];have e6:bU "so_manieth" [("Gaps",bR 2 [] QZ)] aI (aC fH a0) [aF p,aX (aK row),aB c,aB (fD L),aB k,aB pl,f,e,d] Z=aD (.int n) Z:=a.call rfl rfl (as:=[.int pl]) (das:=[]) (bG (bK rfl) bY) rfl (by simpa using K);rw[bO (kY (i:=6) e6)];simp only[List.set];rw[bO (acW (i:=7) (j:=8) (lM (n:=2) (F:=xD) (bG (bK (a:=.lst (aK row)) rfl) (bG (bK (a:=.int n) rfl) bY)) rfl (YH row n Z)))];simp only[List.set];have B:=ae5 a;have k1:(Z++[Cell.lst ((pQ rs L).map A.int)])[Z.length]?=ai (.lst ((pQ rs L).map A.int)):=by simp
  refine⟨aB pl,aB n,aB (cP row n),aB (cW row n),[.lst ((pQ rs L).map A.int)],?_⟩;generalize q:[ai (A.aJ p),aX (aK row),aB c,aB (fD L),aB k,aB pl,aB n,aB (cP row n),aB (cW row n)]=U;generalize T:Z++[Cell.lst ((pQ rs L).map A.int)]=z at k1 B;have X:bU "numbers" [("Gaps",bR 1 [] BO)] aI a0 U Z=aD (.aJ Z.length) z:=a.call rfl (by subst q;rfl) (as:=[]) (das:=[]) bY rfl (by simpa using B);have w:dA 3 U z=aD (.int (fD L)) z:=bK (by subst q;rfl);have v:dA 5 U z=aD (.int pl) z:=bK (by subst q;rfl);have I:dA 6 U Z=aD (.int n) Z:=bK (by subst q;rfl);have u:dA 7 U z=aD (.int (cP row n)) z:=bK (by subst q;rfl);have t:dA 8 U z=aD (.int (cW row n)) z:=bK (by subst q;rfl);exact qC (uF (Z':=z) (iC (Wh I X (ayA n _ s k1))) (uF (Z':=z) (iC (cX t u (by simp;omega))) (uF (Z':=z) (iC (cX u (cX v w (c:=.int (pl+fD L)) (by simp)) (by simp;omega))) (iC (cX t (cX v w (c:=.int (pl-fD L)) (by simp)) (by simp;omega))))))
theorem aFG(a:fP N Z p keep rs row L P)(c:av)(r:0<=c)(o:c<8589934592):QS [.aJ p,.lst (aK row),.int c] Z=aD (.bl ax) Z:=by
 obtain⟨Y1,n,s,h,f,e,d,U,z,rfl,rfl⟩:=wN (ok:=λ_=>True) (g:=gN 4) (b:=WT)
  (λ_ l Z'=>∃(h f e d U:ar A) (z:aH),l=[aF p,aX (aK row),aB c,aB (fD L),h,f,e,d,U]/\Z'=Z++z) (λ_ _ _ _=>trivial)
  ((List.range 6).map λ(i:ay)=>A.int (0+(i:av))) 0 [aF p,aX (aK row),aB c,aB (fD L),ak,ak,ak,ak,ak] Z ⟨ak,ak,ak,ak,ak,[],rfl,by simp⟩
  (by
   rintro i x l Z' m ⟨h,f,e,d,U,z,rfl,rfl⟩;have hi:i<6:=by simpa using(dN.mp m).1
   obtain rfl:A.int (0+(i:av))=x:=by
    have:=(dN.mp m).2;simpa using this
   rw[xB];obtain⟨w,v,u,t,k,q⟩:=aqF (a.app z) c r o i hi f e d U;exact⟨_,_,_,_,rfl,.inl q,_,_,_,_,_,z++k,rfl,by simp⟩)
 show trim Z (eE (Lq [aF p,aX (aK row),aB c,ak,ak,ak,ak,ak,ak] Z))=_;unfold Lq;have eo:bU "off" [("Gaps",bR 1 [] rM)] aI a0 [aF p,aX (aK row),aB c,ak,ak,ak,ak,ak,ak] Z=aD (.int (fD L)) Z:=a.call rfl rfl (as:=[]) (das:=[]) bY rfl (by simpa using RH a);rw[bO (kY (i:=3) eo)];simp only[List.set];rw[bO (Y1:=[aF p,aX (aK row),aB c,aB (fD L),h,f,e,d,U]) (Z':=Z++z) (by
  rw[mZ (S:=tD 0 6) (Z':=Z) (LS (j:=6) (by simp) (by unfold rQ;omega))];exact s)]
 unfold bV;rw[fM (x:=.bl ax) (Z':=Z++z) (by simp)];simp only[xU];exact sX (by simp only[Cl])
end
theorem aEF(rs:aj Rn)(hl:rs.length<=2000)(i:(kR [] rs).length<=63)(Z:aH):JO [.lst (aK rs)] Z=aD (.lst (aK (cU rs))) Z:=by
 obtain⟨U,z,q⟩:=Vz (λZ'=>fB Z' (.lst (aK rs))=ai (aK rs)) (λ_=>rfl) (.lst (aK rs)) Z rs [] (λ_=>0) ak ak (by simp;omega) (λ_ _=>rfl);simp only[xB]at q;generalize l:kR [] rs=j at q i;have f:∀d,lL (Z ++ .bH (gH j λk=>fK rs k)::d) (.aJ Z.length)=ai (Z.length,gH j λk=>fK rs k):=λd=>yS (by simp);have n:=f [];have sl:=LN j;have m:j.length<4000:=by omega
 have b:j.length<64:=by omega
 have r:j.length<=az:=by rw[lE];omega
 have comp:Lc [aX (aK rs),aF Z.length,U,z] (Z++[.bH (gH j λk=>fK rs k)])=aD (.lst (aK (cU rs))) (Z++[.bH (gH j λk=>fK rs k)]):=by
  have g:((sortI j).map A.int).filterMap (λa=>match a with | .int k=>ai (gT (k,fK rs k))|_=>ak)=aK (cU rs):=by
   simp only[aeP,aK,cU,l,wY];rw[<-List.filterMap_eq_map];rfl
  rw[<-g];refine RS (S:=srcOf (.lst ((sortI j).map A.int)) ((sortI j).map A.int)) _ (λc=>∃v,c=[v,aF Z.length]) (by simp[n,Yk,m,b,sl]) (λ_=>rfl) ⟨ak,rfl⟩ (by simp[sl];omega) ?_ (by
   show gC _ (List.filterMap _ ((sortI j).map A.int));rw[g];exact WC _ _)
  rintro x p c ⟨v,rfl⟩ h;obtain⟨k,s,rfl⟩:=fZ.mp p;have t:k∈j:=(sortI_perm j).mem_iff.mp s;have h2:(2:ay)<=az:=by decide
  have hv:fW (gH j λk=>fK rs k) (.inl k)=(aB (fK rs k)):=by rw[Ab,a8 t]
  refine⟨[aB k,aF Z.length],⟨_,rfl⟩,by simp,.inl ⟨_,rfl,rfl,?_⟩⟩;have o:=f [.lst h];simp[o,lH,hv,h2,gT]
 show trim Z (eE (EA [aX (aK rs),ak,ak,ak] Z))=_;have e:EA [aX (aK rs),ak,ak,ak] Z=ai (.ret (.lst (aK (cU rs))),[aX (aK rs),aF Z.length,U,z],Z++[.bH (gH j λk=>fK rs k)]):=by
  unfold EA;rw[bO (Y1:=[aX (aK rs),aF Z.length,ak,ak]) (Z':=Z++[.bH []]) (by simp)];rw[bO (Y1:=[aX (aK rs),aF Z.length,U,z]) (Z':=Z++[.bH (gH j λk=>fK rs k)]) (by rw[mZ (S:=srcOf (.lst (aK rs)) (aK rs)) (Z':=Z++[.bH []]) (by simp)];exact q)];simp[comp]
 rw[e];simp only[eE];exact sX (by simp only[Cl];exact WC _ _)
theorem aEB(rs:aj Rn)(hl:rs.length<=2000)(b:(kR [] rs).length<=63)(Z:aH):JN [.lst (aK rs)] Z=aD (.aJ Z.length) (Z++[.bH (fT 0 (cU rs))]):=by
 have a:=λZ=>aEF rs hl b Z;have c:(cU rs).length=(kR [] rs).length:=by simp[cU,LN]
 obtain⟨z,j,q⟩:=En (λZ'=>fB Z' (.lst (aK (cU rs)))=ai (aK (cU rs))) (λ_=>rfl) (.lst (aK rs)) Z (cU rs) [] ak ak (by simpa using Ep rs) (by simp;omega);simp only[EM]at q;have s0:eB []=0:=rfl;rw[s0]at q;have U:fT 0 []=[]:=rfl;rw[U]at q;show trim Z (eE (DZ [aX (aK rs),ak,ak,ak,ak] Z))=_;have e:DZ [aX (aK rs),ak,ak,ak,ak] Z=ai (.ret (.aJ Z.length),[aX (aK rs),aF Z.length,aB (eB (cU rs)),z,j],Z++[.bH (fT 0 (cU rs))]):=by
  unfold DZ;rw[bO (Y1:=[aX (aK rs),aF Z.length,ak,ak,ak]) (Z':=Z++[.bH []]) (by simp)];rw[bO (Y1:=[aX (aK rs),aF Z.length,aB 0,ak,ak]) (Z':=Z++[.bH []]) (by simp)];rw[bO (Y1:=[aX (aK rs),aF Z.length,aB (eB (cU rs)),z,j]) (Z':=Z++[.bH (fT 0 (cU rs))]) (by
   rw[mZ (S:=srcOf (.lst (aK (cU rs))) (aK (cU rs))) (Z':=Z++[.bH []]) (by simp[bN,a])];exact q)]
  simp
 rw[e];simp[trim,Cl]
theorem aEO{R:aj Rn}{p:Po}(h:Gd R p)(h1:∀r∈R,1<=r.2)(hw:whole R<=1000000000)(hl:R.length<=2000)(z:(kR [] R).length<=63)(hz:p.es.length<=100000)(Z:aH):JQ [.lst (aK R),bD p] Z=aD (.bl ax) Z:=by
 have c:=λZ=>aeE R h1 hw Z;have b:∀Z,YZ [bD p] Z=aD (.bl ax) Z:=λZ=>aEM h.gf hz Z;have a:=λZ=>aEB R hl z Z;have U:=aEL R p.es Z.length (Z++[.bH (fT 0 (cU R))]) (by simp) h.pl;have j:∀Z,fB Z (bD p)=ai [.int p.s,.int p.l,.int p.d,.lst (encL p.es)]:=λ_=>rfl;have q:p.s=whole R:=h.sz;show trim Z (eE (WQ [aX (aK R),ai (bD p),ak] Z))=_;have e:WQ [aX (aK R),ai (bD p),ak] Z=ai (.ret (.bl ax),[aX (aK R),ai (bD p),aB (whole R)],Z++[.bH (fT 0 (cU R))]):=by
  unfold WQ;rw[bO (Y1:=[aX (aK R),ai (bD p),aB (whole R)]) (Z':=Z) (by simp[bN,c])];rw[bO (Y1:=[aX (aK R),ai (bD p),aB (whole R)]) (Z':=Z) (by simp[bN,b])];rw[bO (Y1:=[aX (aK R),ai (bD p),aB (whole R)]) (Z':=Z) (by simp[j,q])];rw[bO (Y1:=[aX (aK R),ai (bD p),aB (whole R)]) (Z':=Z++[.bH (fT 0 (cU R))]) (by simp[bN,j,a,U])];simp
 rw[e];simp only[xU];exact sX (by simp only[Cl])
section
variable{Z:aH}{Y:Ev}
theorem Xw{fi:Ev->Mo A}{row:aj Rn}(h:fi Y Z=aD (.lst (aK row)) Z)(hl:row.length<=2000):aU wL (aC (mR aq 2 [] (eW fi) (hZ 2 (dF (gN 0) (dF (gN 1) iA))) nB aT) a0) Y Z=aD (.int (whole row)) Z:=by
 have z:mR aq 2 [] (eW fi) (hZ 2 (dF (gN 0) (dF (gN 1) iA))) nB aT Y Z=aD (.lst (row.map λq=>A.int q.2)) Z:=by
  refine FJ (S:=srcOf (.lst (aK row)) (aK row)) row gT (λq=>A.int q.2) (λY=>∃u v,Y=[u,v]) (λa b e=>by simp[gT]at e;simp[e.2]) ?_ (λj=>rfl) ⟨ak,ak,rfl⟩ rfl (by omega) (λq _ Y ⟨u,v,e⟩ j=>by subst e;exact⟨[aB q.1,aB q.2],⟨_,_,rfl⟩,by simp[gT],by simp⟩) (λq _=>by simp only[Cl]);unfold eW;rw[dH h];simp
 refine tO (bG z bY) ?_;have e:row.map (λq=>A.int q.2)=(row.map (·.2)).map A.int:=by simp[xC]
 rw[e,aa1];rfl
end
section
variable{N:aj av}{Z:aH}{p keep P:ay}{rs row:aj Rn}{L:aj Rg}
theorem aB4(a:fP N Z p keep rs row L P)(U:ar A)(x:av)(B r:ar A) :
  PH [aF p,aX (aK row),U,aB (fD L),aB x,B,r] Z
   = dP [aF p,aX (aK row),U,aB (fD L),aB x,aB (cP row x),aB (cW row x)] Z:=by
 have C:=a.o.off;have u:=YH row x Z;obtain⟨s,h,g,f⟩:=Ra a.o.gd x ax;obtain⟨D,m,l,k⟩:=Ra a.o.gd x aq;rw[C]at f k;simp only[sD,kS,RF,rV]at h g m l;have hb:0<=DY x x (All rs L)/\DY x x (All rs L)<=cW row x-cP row x/\cW row x-cP row x<=HZ x x (All rs L)/\HZ x x (All rs L)-DY x x (All rs L)<=2*fD L:=by
  have hle:=vS a.o.gd.tn x;unfold DY HZ;rw[bb (by omega),bb (by omega)];omega
 obtain⟨I,H,G,E⟩:=hb;have y:qQ [vQ x ax (All rs L),.int (cW row x),.int (fD L)] Z=aD (.bl ax) Z:=YE _ _ _ _ s h g f Z;have w:qQ [vQ x aq (All rs L),.int (cP row x),.int (fD L)] Z=aD (.bl ax) Z:=YE _ _ _ _ D m l k Z;have v:qQ [yT x x (All rs L),.int (cW row x-cP row x),.int (2*fD L)] Z=aD (.bl ax) Z:=YE _ _ _ _ I H G E Z;have hm:jV 2 (fD L):=(DW (by decide) (by decide)).2;unfold PH;rw[bO (acW (i:=5) (j:=6) (lM (n:=2) (F:=xD) (bG (bK (a:=.lst (aK row)) rfl) (bG (bK (a:=.int x) rfl) bY)) rfl u))];simp only[List.set];generalize q:[ai (A.aJ p),aX (aK row),U,aB (fD L),aB x,aB (cP row x),aB (cW row x)]=z;have up:bU "upto" [("Gaps",bR 2 [] vH)] aI (aC cY a0) z Z=aD (vQ x ax (All rs L)) Z:=a.call rfl (by subst q;rfl) (as:=[.int x]) (das:=[]) (bG (bK (by subst q;rfl)) bY) rfl (by simpa using Qz a x);have bl:bU "below" [("Gaps",bR 2 [] xF)] aI (aC cY a0) z Z=aD (vQ x aq (All rs L)) Z:=a.call rfl (by subst q;rfl) (as:=[.int x]) (das:=[]) (bG (bK (by subst q;rfl)) bY) rfl (by simpa using ae7 a x);have co:bU "counted" [("Gaps",bR 2 [] JV)] aI (aC cY a0) z Z=aD (yT x x (All rs L)) Z:=a.call rfl (by subst q;rfl) (as:=[.int x]) (das:=[]) (bG (bK (by subst q;rfl)) bY) rfl (by simpa using aFL a x);have d:dA 3 z Z=aD (.int (fD L)) Z:=bK (by subst q;rfl);have e:dA 5 z Z=aD (.int (cP row x)) Z:=bK (by subst q;rfl);have v10:dA 6 z Z=aD (.int (cW row x)) Z:=bK (by subst q;rfl);have t1:(gU (jC (bL (aU (bN 3 qQ) (aC (bU "upto" [("Gaps",bR 2 [] vH)] aI (aC cY a0)) (aC iI (aC dS a0)))))) (jC (bL (aU (bN 3 qQ) (aC (bU "below" [("Gaps",bR 2 [] xF)] aI (aC cY a0)) (aC fH (aC dS a0))))))) z Z=aD aq Z :=
  uF (Z':=Z) (vW (b:=ax) (iC (lM (bG up (bG v10 (bG d bY))) rfl y))) (vW (b:=ax) (iC (lM (bG bl (bG e (bG d bY))) rfl w)))
 have t:(jC (bL (aU (bN 3 qQ) (aC (bU "counted" [("Gaps",bR 2 [] JV)] aI (aC cY a0)) (aC (aA (lJ) iI fH) (aC (aA (gY) eO dS) a0)))))) z Z=aD aq Z :=
  vW (b:=ax) (iC (lM (bG co (bG (cX v10 e (c:=.int (cW row x-cP row x)) (by simp)) (bG (cX (a:=.int 2) (b:=.int (fD L)) (by simp) d (GG hm _)) bY))) rfl v))
 rw[bO (qC t1),qC t]
theorem abX(a:fP N Z p keep rs row L P)(z:ar A)(ok:aH->Prop)(aL:ok Z):∀(xs:aj av) (U q j:ar A),∃c d b,
  eV ok (gN 4) PH (xs.map A.int) [aF p,aX (aK row),z,aB (fD L),U,q,j] Z=dP [aF p,aX (aK row),z,aB (fD L),c,d,b] Z
 |[],U,q,j=>⟨U,q,j,by rw[rJ,AZ aL]⟩
 |x::xs,U,q,j=>by
  have t:=aB4 a z x q j;obtain⟨c,d,b,e⟩:=abX a z ok aL xs (aB x) (aB (cP row x)) (aB (cW row x));refine⟨c,d,b,?_⟩;rw[cV,oP aL (Y0:=[aF p,aX (aK row),z,aB (fD L),aB x,q,j]) (Z0:=Z) (by simp) t,e]
theorem aFK(a:fP N Z p keep rs row L P)(is:aj av):QU [.aJ p,.lst (aK row),.lst (is.map A.int)] Z=aD (.bl ax) Z:=by
 show trim Z (eE (Lx [aF p,aX (aK row),aX (is.map A.int),ak,ak,ak,ak] Z))=_;unfold Lx;have eo:bU "off" [("Gaps",bR 1 [] rM)] aI a0 [aF p,aX (aK row),aX (is.map A.int),ak,ak,ak,ak] Z=aD (.int (fD L)) Z:=a.call rfl rfl (as:=[]) (das:=[]) bY rfl (by simpa using RH a);rw[bO (kY (i:=3) eo)];simp only[List.set];obtain⟨z,q,j,U⟩:=abX a (ai (.lst (is.map A.int))) (srcOf (.lst (is.map A.int)) (is.map A.int)).ok rfl is ak ak ak;have b:gB (eW cC) (gN 4) PH [aF p,aX (aK row),aX (is.map A.int),aB (fD L),ak,ak,ak] Z=dP [aF p,aX (aK row),aX (is.map A.int),aB (fD L),z,q,j] Z:=by
  rw[mZ (S:=srcOf (.lst (is.map A.int)) (is.map A.int)) (Z':=Z) (by unfold eW;rw[dH (bK (a:=.lst (is.map A.int)) rfl)];simp)];exact U
 rw[bO b];unfold bV;rw[fM (x:=.bl ax) (Z':=Z) (by simp)];exact lD rfl
theorem ar2(a:fP N Z p keep rs row L P):(kR [] row).length<=63:=by
 have:=LI (l:=kR [] row) (m:=N) (Gq row (by simp)) λx j=>by
  rcases(Fu row).mp j with q|⟨r,hr,rfl⟩
  ·cases q
  ·exact a.fr r hr
 have:=a.o.fs;omega
theorem ae3(a:fP N Z p keep rs row L P)(Zh:row.length<=2000)(c kind:av)(E:0<=c)(C:c<8589934592):QR [.aJ p,.lst (aK row),.int P,.int keep,.int c,.int kind] Z=aD (.bl ax) Z:=by
 have mK:=a.o.k1;have lX:keep<=100:=by rcases a.o.kb with h|⟨h,_⟩ <;> omega
 have I:=a.o.w;obtain⟨b,hb,X⟩:=aEU (P/(keep+1)) (Oa (Nat.div_le_self _ _) a.o.pb) Z;have x:=a.o.held hb;have v:=a.o.Ez hb;have Zk:=a.o.Wk;show trim Z (eE (Lm [aF p,aX (aK row),aB P,aB keep,aB c,aB kind,ak,ak,ak] Z))=_;unfold Lm;rw[bO (kY (i:=6) (a:=.int (whole row)) (Z':=Z) (by unfold acQ;exact Xw (bK (a:=.lst (aK row)) rfl) (by omega)))];simp only[List.set];have d1:nM (P:av) ((keep:av)+1):=Ko (by omega) (by omega);have ed:(P:av)/((keep:av)+1)=((P/(keep+1):ay):av):=by simp
 have e3:aA (jI) cC (aA cJ dS bP) [aF p,aX (aK row),aB P,aB keep,aB c,aB kind,aB (whole row),ak,ak] Z=aD (.int ((P/(keep+1):ay):av)) Z :=
  cX (bK (a:=.int P) rfl) (cX (bK (a:=.int keep) rfl) (b:=.int 1) (by simp) (c:=.int ((keep:av)+1)) (by simp)) (by rw[<-ed];exact VZ d1 _)
 rw[bO (kY (i:=7) (lM (n:=1) (F:=ZE) (bG e3 bY) rfl X))];simp only[List.set];have V:=ae5 a;have d:=a.app [.lst ((pQ rs L).map A.int)];have G:(Z++[Cell.lst ((pQ rs L).map A.int)])[Z.length]?=ai (.lst ((pQ rs L).map A.int)):=by simp
 generalize q:[ai (A.aJ p),aX (aK row),aB P,aB keep,aB c,aB kind,aB (whole row),aB b,ak]=U;have Ke:bU "length" [("Gaps",bR 1 [] qR)] aI a0 U Z=aD (.int (whole row)) Z:=a.call rfl (by subst q;rfl) (as:=[]) (das:=[]) bY rfl (by simpa using YG a.h);have Kb:bU "puts" [("Gaps",bR 1 [] BN)] aI a0 U Z=aD (.int P) Z:=a.call rfl (by subst q;rfl) (as:=[]) (das:=[]) bY rfl (by simpa using ad8 a.h);rw[bO (qC (uF (Z':=Z) (Z'':=Z) (iC (cX Ke (bK (a:=.int (whole row)) (by subst q;rfl)) (by simp))) (iC (cX Kb (bK (a:=.int P) (by subst q;rfl)) (by simp)))))];have H:bU "numbers" [("Gaps",bR 1 [] BO)] aI a0 U Z=aD (.aJ Z.length) (Z++[.lst ((pQ rs L).map A.int)]):=a.call rfl (by subst q;rfl) (as:=[]) (das:=[]) bY rfl (by simpa using V);generalize f:Z++[Cell.lst ((pQ rs L).map A.int)]=j at H d G;have l1:=pI G;have hnl:(pQ rs L).length<=(fX (cH rs L)).length:=by
  unfold pQ;rw[LN];exact azO _
 have e5:aU fY (aC (bU "numbers" [("Gaps",bR 1 [] BO)] aI a0) a0) U Z=aD (.int (pQ rs L).length) j:=tO (BE H bY) (by simp[l1]);have e6:bU "held" [("Gaps",bR 1 [] JX)] aI a0 U j=aD (.int (fX (cH rs L)).length) j:=d.call rfl (by subst q;rfl) (as:=[]) (das:=[]) bY rfl (by simpa using aFI d);have GW:jV 2 (keep:av):=(DW (by decide) (by decide)).2;have r:jV (2*(keep:av)+2) ((b:av)+2):=(DW (by omega) (by omega)).2;have S:dA 3 U j=aD (.int keep) j:=bK (by subst q;rfl);have R:dA 7 U j=aD (.int b) j:=bK (by subst q;rfl);have e7:aA (gY) (aA cJ (aA (gY) eO dS) eO) (aA cJ jM eO) U j=aD (.int ((2*(keep:av)+2)*((b:av)+2))) j :=
  cX (a:=.int (2*(keep:av)+2)) (b:=.int ((b:av)+2)) (cX (a:=.int (2*(keep:av))) (b:=.int 2) (cX (a:=.int 2) (b:=.int (keep:av)) (by simp) S (GG GW _)) (by simp) (by simp)) (cX (a:=.int (b:av)) (b:=.int 2) R (by simp) (by simp)) (GG r _)
 have hh:((fX (cH rs L)).length:av)<=(2*(keep:av)+2)*((b:av)+2):=by
  have:=Int.ofNat_le.mpr x;simpa using this
 have eo:bU "off" [("Gaps",bR 1 [] rM)] aI a0 U j=aD (.int (fD L)) j:=d.call rfl (by subst q;rfl) (as:=[]) (das:=[]) bY rfl (by simpa using RH d);rw[bO (qC (uF (Z':=j) (Z'':=j) (vW (b:=ax) (iC (aCD e5 e6 (by simp;omega) e7 (by simp;exact hh)))) (vW (b:=ax) (iC (cX (a:=.int 0) (by simp) eo (by simp;exact Zk))))))];have ep:bU "pouch" [("Gaps",bR 1 [] BP)] aI a0 U j=aD (bD (All rs L)) j:=d.call rfl (by subst q;rfl) (as:=[]) (das:=[]) bY rfl (by simpa using ae4 d);rw[bO (kY (i:=8) ep)];have hs:=a.o.size;have ho:=a.o.off;generalize z:U.set 8 (ai (bD (All rs L)))=J;have l:(J[0]?).join=(aF p):=by subst z;subst q;rfl
 have e:dA 1 J j=aD (.lst (aK row)) j:=bK (by subst z;subst q;rfl);have Q:dA 3 J j=aD (.int keep) j:=bK (by subst z;subst q;rfl);have B:dA 4 J j=aD (.int c) j:=bK (by subst z;subst q;rfl);have M:dA 5 J j=aD (.int kind) j:=bK (by subst z;subst q;rfl);have y:dA 6 J j=aD (.int (whole row)) j:=bK (by subst z;subst q;rfl);have K:dA 7 J j=aD (.int b) j:=bK (by subst z;subst q;rfl);have k:dA 8 J j=aD (bD (All rs L)) j:=bK (by subst z;subst q;rfl);have i0:aA aO gM bQ J j=aD (.int (whole row)) j:=by
  rw[<-hs];exact cX k (b:=.int 0) (by simp) (by simp[bD,dG])
 have D:aA aO gM bP J j=aD (.int (fD L)) j:=by
  rw[<-ho];exact cX k (b:=.int 1) (by simp) (by simp[bD,dG])
 have s:bU "off" [("Gaps",bR 1 [] rM)] aI a0 J j=aD (.int (fD L)) j:=d.call rfl l (as:=[]) (das:=[]) bY rfl (by simpa using RH d);have t:max 0 ((b:av)-1)=((b-1:ay):av):=by omega
 have m:jV (max 0 ((b:av)-1)) (whole row):=(DW (by have:=a.o.gd.gf.s0;rw[a.o.size]at this;exact this) I).1;have d2:nM (max 0 ((b:av)-1)*whole row) (keep:av):=Ko (by omega) (by omega);have u:(aA (jI) (aA (gY) (aU AV (aC bQ (aC (aA (lJ) jM bP) a0))) iI) dS) J j=aD (.int (max 0 ((b:av)-1)*whole row/keep)) j :=
  cX (cX (tO (Z':=j) (bG (a:=.int 0) (by simp) (bG (cX K (b:=.int 1) (by simp) (c:=.int (b-1)) (by simp)) bY)) (a:=.int (max 0 ((b:av)-1))) (by simp)) y (GG m _)) Q (VZ d2 _)
 have hq:fD L<=max 0 ((b:av)-1)*whole row/keep:=by
  rw[t];refine(Int.le_ediv_iff_mul_le (by omega)).mpr ?_;rw[Int.mul_comm];exact v
 rw[bO (qC (uF (Z':=j) (Z'':=j) (iC (cX i0 y (by simp))) (uF (Z':=j) (Z'':=j) (iC (cX D s (by simp))) (iC (cX D u (by simp;exact hq))))))];have T:=aED a.o.gd j;have W:=aEO a.o.gd a.t1 I Zh (ar2 a) (by have:=a.o.ac1;omega) j;have ej:aA (VM ax) (aU (bN 2 JQ) (aC (aU (AW aq) (aC aT a0)) (aC gM a0))) (cB ax) J j=aD (.bl aq) j :=
  cX (lM (n:=2) (F:=JQ) (bG (sE (Z':=j) (g:=AW aq) (a:=.lst (aK row)) (bG e bY) (by simp)) (bG k bY)) rfl W) (b:=.bl ax) (by simp) (by simp[uK])
 rw[bO (qC (uF (Z':=j) (Z'':=j) (vW (b:=ax) (iC (lM (n:=2) (F:=ZD) (bG e (bG k bY)) rfl T))) (iC ej)))];obtain⟨is,_,qa⟩:=aE0 row c kind E C j;have ec:aU (bN 3 QU) (aC aI (aC aT (aC (aU (bN 3 QV) (aC aT (aC cY (aC fH a0)))) a0))) J j=aD (.bl ax) j :=
  lM (bG (bK l) (bG e (bG (lM (bG e (bG B (bG M bY))) rfl qa) bY))) rfl (aFK d is)
 have en:aU (bN 3 QS) (aC aI (aC aT (aC cY a0))) J j=aD (.bl ax) j :=
  lM (bG (bK l) (bG e (bG B bY))) rfl (aFG d c E C)
 have ef:CD (aU (bN 3 QU) (aC aI (aC aT (aC (aU (bN 3 QV) (aC aT (aC cY (aC fH a0)))) a0)))) (aU (bN 3 QS) (aC aI (aC aT (aC cY a0)))) J j=aD (.bl ax) j:=by
  unfold CD;rw[dH ec];simpa using en
 unfold bV;rw[fM ef];simp only[xU];rw[<-f];exact sX (by simp only[Cl])
end
noncomputable def dbl(R:aj Rn):aj Rn:=R.map λr=>(r.1,2*r.2)
theorem nY.dbl{F:aj Rn->av}(h:nY F):∀R:aj Rn,F (M.dbl R)=F (R++R)
 |[]=>by simp[M.dbl]
 |r::R=>by
  have ih:=h.dbl R;have e:M.dbl (r::R)=(r.1,2*r.2)::M.dbl R:=rfl;rw[h.app]at ih ⊢;rw[e,h.cons,ih,h.cons r R];have q:=h.one r.1 r.2 r.2;have j:(r.1,r.2+r.2)=(r.1,2*r.2):=by rw[Int.two_mul]
  rw[j]at q;have z:F [(r.1,r.2)]=F [r]:=rfl;omega
section
variable{N:aj av}{Z:aH}{p keep P:ay}{rs row:aj Rn}{L:aj Rg}
theorem eG.chg(o:eG N keep rs L row P){j:aj Rn}(h:∀F,nY F->F j=F row)(tn:Tn j):eG N keep rs L j P :=
 ⟨o.k1,o.kb,o.nd,o.pos,o.rl,o.gF,λF q=>by rw[h F q];exact o.sums F q,o.GA,tn,o.pb,by rw[h whole yA];exact o.w,o.fs,o.fn⟩
theorem fP.set(a:fP N Z p keep rs row L P)(c:3<=p){q j:aj Rn}{U:aj Rg}{z:ay}(o:eG N keep q U j z)(t1:∀r∈j,1<=r.2)(fr:∀r∈j,r.1∈N):fP N (Z.set p (bF keep (whole j) z q U)) p keep q j U z :=
 ⟨gK a.lt,o,by rw[gS (by omega)];exact a.u,by rw[gS (by omega)];exact a.b,by rw[gS (by omega)];exact a.sm,t1,fr⟩
theorem azV(R:aj Rn)(hl:R.length<=2000)(h g f d c U:ar A)(Z:aH):acU [h,aX (aK R),g,f,d,c,U] Z=aD (.lst (aK (dbl R))) Z:=by
 have h2:(2:ay)<=az:=by decide
 have hm:∀t:av,jV 2 t:=λt=>(DW (by decide) (by decide)).2;have e:aK (dbl R)=R.map λr=>gT (r.1,2*r.2):=by simp[aK,dbl,xC]
 rw[e];refine FJ (S:=srcOf (.lst (aK R)) (aK R)) R gT (λr=>gT (r.1,2*r.2)) (λj=>∃u v,j=[u,v]) (λa b e=>by simp[gT]at e;simp[gT,e.1,e.2]) ?_ (λz=>rfl) ⟨ak,ak,rfl⟩ rfl (by omega) (λq _ j ⟨u,v,e⟩ z=>by subst e;exact⟨[aB q.1,aB q.2],⟨_,_,rfl⟩,by simp[gT],by simp[h2,hm,gT]⟩) (λq _=>by simp[gT,Cl,gC]);unfold eW;rw[dH (bK (a:=.lst (aK R)) rfl)];simp
theorem azU(a:fP N Z p keep rs row L P)(C:3<=p)(y:(P:av)<=whole row)(hl:row.length<=2000)(d U z j:ar A):∃(f e:aj Rn) (g:aj Rg) (m:ay) (c:Cell),e.length<=2000/\(m:av)<=whole e/\fP N (Z.set p c) p keep f e g m /\
  WW [aF p,aX (aK row),d,U,z,aB P,j] Z=dP [aF p,aX (aK e),d,U,z,aB m,j] (Z.set p c):=by
 have D:bU "length" [("Gaps",bR 1 [] qR)] aI a0 [aF p,aX (aK row),d,U,z,aB P,j] Z=aD (.int (whole row)) Z:=a.call rfl rfl (as:=[]) (das:=[]) bY rfl (by simpa using YG a.h);have t:bL (aA oO (aA (gY) eO (bU "length" [("Gaps",bR 1 [] qR)] aI a0)) (cI 1000000000)) [aF p,aX (aK row),d,U,z,aB P,j] Z=aD (decide (2*whole row<=1000000000)) Z :=
  iC (cX (cX (a:=.int 2) (by simp) D (GG (DW (by decide) (by decide)).2 _)) (b:=.int 1000000000) (by simp) (by simp))
 unfold WW
 by_cases hb:2*whole row<=1000000000
 ·have H:=a.o.w;have h9:(P:av) <= 1000000000:=(by omega);obtain ⟨f,g,x,q⟩:=ae6 a a (by omega) (by omega)
  have n:whole (dbl row)=whole (row++row):=yA.dbl row;have l:whole (row++row)=whole row+whole row:=tX ..;have u:∀r∈dbl row,1<=r.2:=λr hr=>by
   obtain⟨s,k,rfl⟩:=fZ.mp hr;have:=a.t1 s k;show 1<=2*s.2;omega
  have v:eG N keep f g (dbl row) (P+P):=x.chg (λF B=>B.dbl row) λr hr=>by have:=u r hr;omega
  have G:=a.set C v u λr hr=>by
   obtain⟨s,k,rfl⟩:=fZ.mp hr;exact a.fr s k
  refine⟨f,dbl row,g,P+P,_,by simpa[dbl]using hl,by rw[n,l];omega,G,?_⟩;rw[n];unfold dQ;rw[fM t];simp only[hb,decide_true,kS];rw[bO (tJ (a.call (by rfl) (by rfl) (as:=[.aJ p]) (das:=[]) (bG (bK (a:=.aJ p) rfl) bY) (by rfl) (by simpa using q)))];rw[bO (kY (i:=1) (azV row (by omega) _ _ _ _ _ _ _))];simp only[List.set];refine(kY (i:=5) (cX (a:=.int 2) (by simp) (bK (a:=.int P) rfl) (GG (DW (by decide) (by decide)).2 _))).trans ?_;have E:(2:av)*P=((P+P:ay):av):=by omega
  rw[E];rfl
 ·refine⟨rs,row,L,P,bF keep (whole row) P rs L,hl,y,by rw[zO a.h];exact a,?_⟩;rw[zO a.h];exact qC (by rw[t];simp[hb])
theorem aFJ(a:fP N Z p keep rs row L P)(E:3<=p)(r:P=row.length)(hl:row.length<=2000)(times:ay)(K:times<=20)(kind:av):∃c,QT [.aJ p,.lst (aK row),.int times,.int keep,.int kind] Z=aD (.bl ax) (Z.set p c):=by
 obtain⟨Y1,t,G,f,U,k,z,c,d,rfl,rfl,e,s,rX⟩:=wN (ok:=λ_=>True) (g:=gN 6) (b:=WW)
  (λ_ l Z'=>∃(f U:aj Rn) (k:aj Rg) (z:ay) (c:Cell) (d:ar A),l=[aF p,aX (aK U),aB times,aB keep,aB kind,aB z,d]/\Z'=Z.set p c/\fP N Z' p keep f U k z/\(z:av)<=whole U/\U.length<=2000) (λ_ _ _ _=>trivial)
  ((List.range times).map λ(i:ay)=>A.int (0+(i:av))) 0 [aF p,aX (aK row),aB times,aB keep,aB kind,aB P,ak] Z ⟨rs,row,L,P,bF keep (whole row) P rs L,ak,rfl,(zO a.h).symm,a,by rw[r];exact ZP a.t1,hl⟩
  (by
   rintro i x l Z' D ⟨f,U,k,z,c,d,rfl,rfl,e,s,rX⟩;obtain rfl:A.int (0+(i:av))=x:=by
    have:=(dN.mp D).2;simpa using this
   rw[xB];obtain⟨B,y,L2,I,H,C,u,m,q⟩:=azU e E s rX (aB times) (aB keep) (aB kind) (aB i);rw[pR]at m q;exact⟨_,_,_,_,rfl,.inl q,B,y,L2,I,H,_,rfl,rfl,m,u,C⟩)
 have hw:=e.o.w;have v:=ae3 e rX z kind (by omega) (by omega);refine⟨c,?_⟩;show trim Z (eE (Lv [aF p,aX (aK row),aB times,aB keep,aB kind,ak,ak] Z))=_;unfold Lv;rw[bO (kY (i:=5) (sE (Z':=Z) (g:=fY) (a:=.int P) (bG (bK (a:=.lst (aK row)) rfl) bY) (by rw[r];simp[aK])))];simp only[List.set];rw[bO (Y1:=[aF p,aX (aK U),aB times,aB keep,aB kind,aB z,d]) (Z':=Z.set p c) (by
  rw[mZ (S:=tD 0 times) (Z':=Z) (LS (j:=times) (by simp) (by unfold rQ;omega))];exact G)]
 unfold bV;rw[fM (lM (n:=6) (F:=QR) (bG (bK (a:=.aJ p) rfl) (bG (bK (a:=.lst (aK U)) rfl) (bG (bK (a:=.int z) rfl) (bG (bK (a:=.int keep) rfl) (bG (bK (a:=.int z) rfl) (bG (bK (a:=.int kind) rfl) bY)))))) rfl v)];exact lD (by simp)
theorem aFE(a:fP N Z p keep rs row L P)(s:P=row.length)(hl:row.length<=2000)(x:av):Pn [.aJ p,.lst (aK row),.int x] Z=aD (.bl ax) Z:=by
 have l:=a.o.off;obtain⟨g,f,e,d⟩:=Ra a.o.gd x ax;rw[l]at d;simp only[sD,kS]at f e;have k:qQ [vQ x ax (All rs L),.int (cW row x),.int (fD L)] Z=aD (.bl ax) Z:=YE _ _ _ _ g f e d Z;show trim Z (eE (Ln [aF p,aX (aK row),aB x,ak] Z))=_;unfold Ln;rw[bO (kY (i:=3) (a:=.int (whole row)) (Z':=Z) (by unfold acR;exact Xw (bK (a:=.lst (aK row)) rfl) (by omega)))];simp only[List.set];generalize j:[ai (A.aJ p),aX (aK row),aB x,aB (whole row)]=q;have c:dA 1 q Z=aD (.lst (aK row)) Z:=bK (by subst j;rfl);have U:dA 2 q Z=aD (.int x) Z:=bK (by subst j;rfl);have t:bU "length" [("Gaps",bR 1 [] qR)] aI a0 q Z=aD (.int (whole row)) Z:=a.call rfl (by subst j;rfl) (as:=[]) (das:=[]) bY rfl (by simpa using YG a.h);have u:bU "puts" [("Gaps",bR 1 [] BN)] aI a0 q Z=aD (.int P) Z:=a.call rfl (by subst j;rfl) (as:=[]) (das:=[]) bY rfl (by simpa using ad8 a.h);have z:aU fY (aC aT a0) q Z=aD (.int P) Z:=sE (Z':=Z) (bG c bY) (by rw[s];simp[aK]);rw[bO (qC (uF (Z':=Z) (Z'':=Z) (iC (cX t (bK (a:=.int (whole row)) (by subst j;rfl)) (by simp))) (iC (cX u z (by simp)))))];have m:bU "upto" [("Gaps",bR 2 [] vH)] aI (aC cC a0) q Z=aD (vQ x ax (All rs L)) Z:=a.call rfl (by subst j;rfl) (as:=[.int x]) (das:=[]) (bG U bY) rfl (by simpa using Qz a x);have eo:bU "off" [("Gaps",bR 1 [] rM)] aI a0 q Z=aD (.int (fD L)) Z:=a.call rfl (by subst j;rfl) (as:=[]) (das:=[]) bY rfl (by simpa using RH a);have r:aA aO (aU (bN 2 xD) (aC aT (aC cC a0))) bP q Z=aD (.int (cW row x)) Z:=cX (lM (n:=2) (F:=xD) (bG c (bG U bY)) rfl (YH row x Z)) (b:=.int 1) (by simp) (by simp);unfold bV;rw[fM (lM (n:=3) (F:=qQ) (bG m (bG r (bG eo bY))) rfl k)];exact lD rfl
end
theorem ac0{f g:Ev->Mo bh}{Y:Ev}{Z Z':aH}(h:f Y Z=aD aq Z'):sW f g Y Z=aD aq Z':=by
 unfold sW;rw[dH h];rfl
theorem acZ{f g:Ev->Mo bh}{Y:Ev}{Z Z':aH}(h:f Y Z=aD ax Z'):sW f g Y Z=g Y Z':=by
 unfold sW;rw[dH h];rfl
theorem as9{t:Ev->Mo bh}{f g:MS}{Y:Ev}{Z Z':aH}{b:bh}(h:t Y Z=aD b Z'):dQ t f g Y Z=if b then f Y Z' else g Y Z':=by
 unfold dQ;rw[fM h]
section
variable{Z Z':aH}{Y:Ev}
theorem abP{f:Ev->Mo A}{c:av}(d m:av)(hd:0<d)(j:d<=1001)(hm:0<m)(h:f Y Z=aD (.int c) Z):aA (fS) (aA (jI) f (cI d)) (cI m) Y Z=aD (.int (c/d%m)) Z :=
 cX (cX h (b:=.int d) (by simp) (VZ (Ko hd j) _)) (b:=.int m) (by simp) (by simp[hm])
theorem vZ{f fi:Ev->Mo A}{k j:ay}{ds:aj A}{a:A}(z:f Y Z=aD (.aJ k) Z)(U:Z[k]?=ai (.lst ds))(hi:fi Y Z=aD (.int (j:av)) Z)(q:ds[j]?=ai a):aA aO f fi Y Z=aD a Z:=by
 refine cX z hi ?_;have e:eU ds (j:av)=ai a:=by rw[sG];exact q
 simp[pI U,e]
theorem AH{f fi:Ev->Mo A}{j:ay}{ds:aj A}{a:A}(z:f Y Z=aD (.lst ds) Z)(hi:fi Y Z=aD (.int (j:av)) Z)(q:ds[j]?=ai a):aA aO f fi Y Z=aD a Z:=by
 refine cX z hi ?_;have e:eU ds (j:av)=ai a:=by rw[sG];exact q
 simp[e]
theorem Bh{fe fi:Ev->Mo A}{i k j:ay}{ds:aj A}{a:A}(h:(Y[i]?).join=(aF k))(z:Z[k]?=ai (.lst ds))(hi:fi Y Z=aD (.int (j:av)) Z)(q:j<ds.length)(he:fe Y Z=aD a Z):bM fe (DM (dA i) fi) Y Z=dP Y (Z.set k (.lst (ds.set j a))):=by
 have e:pJ ds.length (j:av)=ai j:=by unfold pJ;simp[q]
 unfold bM;rw[fM he];unfold DM;rw[fM (bK h),fM hi];simp only[setCell,z,e]
theorem fP.Kq{N:aj av}{p P keep:ay}{rs row:aj Rn}{L:aj Rg}(a:fP N Z p keep rs row L P){m:a5}{F:aj A->Mo A}{n:ay}{as das:aj A}{fo:Ev->Mo A}{fs:Ev->Mo (aj A)}{v:A}(hl:(eS keep (whole row) P rs L).lookup m=ak)(h0:fo Y Z=aD (.aJ p) Z)(ha:fs Y Z=aD as Z)(hn:as.length+1+das.length=n)
  (q:F (.aJ p::(as++das)) Z=aD v Z'):bU m [("Gaps",bR n das F)] fo fs Y Z=aD v Z':=by
 unfold bU;rw[dH h0];have j:List.lookup ("Gaps" : a5) [(("Gaps" : a5),bR n das F)]=ai (bR n das F):=by simp[List.lookup]
 simp only[VL,a.h,j,hl];rw[dH ha];simp only[bR];rw[a8 (by simp only[iP];omega)];exact q
end
noncomputable abbrev qM:A:=.lst [.aJ 3,.aJ 4,.aJ 5,.aJ 6,.aJ 7]
theorem zV{i:ay}(hi:i<5):[A.aJ 3,.aJ 4,.aJ 5,.aJ 6,.aJ 7][i]?=(aF (3+i)):=by
 match i,hi with
 |0,_=>rfl
 |1,_=>rfl
 |2,_=>rfl
 |3,_=>rfl
 |4,_=>rfl
theorem RJ:∀{R:aj Rn},(∀r∈R,r.2<=400000)->whole R<=400000*(R.length:av)
 |[],_=>by simp[whole]
 |r::R,h=>by
  have:=RJ (R:=R) λq j=>h q (by simp[j]);have:=h r (by simp);have e:whole (r::R)=r.2+whole R:=by simp[whole]
  rw[e];simp;omega
abbrev Gp:=aj Rn×aj Rg×aj Rn
structure mN(N:aj av)(Z:aH)(keep B:ay)(G:aj Gp):Prop where
 n5:G.length=5
 ln:Z.length=9
 pt:∀(i:ay) (g:Gp),G[i]?=ai g->fP N Z (3+i) keep g.1 g.2.2 g.2.1 g.2.2.length
 bd:∀g∈G,g.2.2.length<=B/\∀r∈g.2.2,r.2<=400000
 rows:Z[8]?=ai (.lst (G.map λg => .lst (aK g.2.2)))
section
variable{N:aj av}{Z:aH}{keep B:ay}{G:aj Gp}
theorem fP.other{p P:ay}{rs row:aj Rn}{L:aj Rg}(a:fP N Z p keep rs row L P){q:ay}(z:3<=q)(j:q≠p)(c:Cell):fP N (Z.set q c) p keep rs row L P :=
 ⟨by rw[gS j];exact a.h,a.o,by rw[gS (by omega)];exact a.u,by rw[gS (by omega)];exact a.b,by rw[gS (by omega)];exact a.sm,a.t1,a.fr⟩
theorem mN.set(h:mN N Z keep B G){i:ay}(hi:i<5){g:Gp}(o:eG N keep g.1 g.2.1 g.2.2 g.2.2.length)(t1:∀r∈g.2.2,1<=r.2)(fr:∀r∈g.2.2,r.1∈N){B':ay}(c:B<=B')(b:g.2.2.length<=B'/\∀r∈g.2.2,r.2<=400000) :
  mN N ((Z.set (3+i) (bF keep (whole g.2.2) g.2.2.length g.1 g.2.1)).set 8 (.lst ((G.set i g).map λg => .lst (aK g.2.2)))) keep B' (G.set i g):=by
 have hl:=h.ln;have d:=h.n5;obtain⟨f,a⟩:∃g,G[i]?=ai g:=⟨G[i]'(by omega),dR (by omega)⟩;refine⟨by simpa using d,by simpa using hl,λj q U=>?_,λq U=>?_,?_⟩
 ·have k:j<5:=by
   have:=(dN.mp U).1;simp at this;omega
  refine fP.other ?_ (by omega) (by omega) _
  by_cases e:j=i
  ·subst e;rw[gK (by omega)]at U;cases U;exact(h.pt j f a).set (by omega) o t1 fr
  ·rw[gS (eM e)]at U;exact(h.pt j q U).other (by omega) (by omega) _
 ·rcases List.mem_or_eq_of_mem_set U with z|z
  ·exact⟨oW (h.bd q z).1 c,(h.bd q z).2⟩
  ·subst z;exact b
 ·rw[gK (by simp;omega)]
theorem mN.join(h:mN N Z keep B G)(u:B<=1000){i j:ay}(hi:i<5)(t:j<5){g q:Gp}(m:G[i]?=ai g)(l:G[j]?=ai q):∃U a,
  zE [.aJ (3+i),.aJ (3+j)] Z=aD (.dE) (Z.set (3+i) (bF keep (whole (g.2.2++q.2.2)) (g.2.2++q.2.2).length U a)) /\
  mN N ((Z.set (3+i) (bF keep (whole (g.2.2++q.2.2)) (g.2.2++q.2.2).length U a)).set 8 (.lst ((G.set i (U,a,g.2.2++q.2.2)).map λg => .lst (aK g.2.2)))) keep (2*B) (G.set i (U,a,g.2.2++q.2.2)):=by
 have e:=h.pt i g m;have d:=h.pt j q l;have c:=h.bd g (kF m);have b:=h.bd q (kF l);have s:=RJ c.2;have p:=RJ b.2;have v:=c.1;have n:=b.1;obtain⟨U,a,k,f⟩:=ae6 e d (by omega) (by omega);have o:g.2.2.length+q.2.2.length=(g.2.2++q.2.2).length:=by simp
 rw[o]at k f;refine⟨U,a,f,h.set hi (g:=(U,a,g.2.2++q.2.2)) k (λr hr=>?_) (λr hr=>?_) (by omega) ⟨by simp;omega,λr hr=>?_⟩⟩
 ·rcases rH.mp hr with z|z
  ·exact e.t1 r z
  ·exact d.t1 r z
 ·rcases rH.mp hr with z|z
  ·exact e.fr r z
  ·exact d.fr r z
 ·rcases rH.mp hr with z|z
  ·exact c.2 r z
  ·exact b.2 r z
theorem aFC(h:mN N Z keep B G)(hB:B<=200)(k p m kind:av)(h0:0<=k)(h1:0<=p)(jT:p<2147483587)(h2:0<=m)(hN:tE p kind∈N):∃Z' G',ZC [qM,.aJ 8,.lst [.int k,.int p,.int m],.int kind] Z=aD (.dE) Z'/\mN N Z' keep (max 60 (B+1)) G':=by
 have h5:=h.n5;have GX:=h.ln;obtain⟨i,hi⟩:=Pe (show 0<=k%5 by omega);have L:i<5:=by omega
 obtain⟨j,hj⟩:=Pe (show 0<=((i:av)+1+k/5%4)%5 by omega);have Zq:j<5:=by omega
 have qn:=λZ=>ad9 p kind Z h1 (by omega);have qt:=λZ=>aD6 m Z h2;have t0:=ag3 m h2;have t1:=ag2 m h2;generalize tE p kind=n at qn hN;generalize CH m=f at qt t0 t1;have uL:(2:ay)<=az:=by decide
 have UL:(1:ay)<=az:=by decide
 obtain⟨g,I⟩:∃g,G[i]?=ai g:=⟨G[i]'(by omega),dR (by omega)⟩;obtain⟨q,S⟩:∃q,G[j]?=ai q:=⟨G[j]'(by omega),dR (by omega)⟩;have ag:=h.pt i g I;have X:=h.bd g (kF I);have NT:=X.1;have hbq:=(h.bd q (kF S)).1;have R:(G.map λg=>A.lst (aK g.2.2))[i]?=ai (.lst (aK g.2.2)):=by simp[I]
 have rq:(G.map λg=>A.lst (aK g.2.2))[j]?=ai (.lst (aK q.2.2)):=by simp[S]
 suffices hh:∃x Z' G',WS [ai qM,aF 8,aX ([.int k,.int p,.int m]),aB kind,ak,ak,ak,ak,ak,ak] Z=dP x Z'/\mN N Z' keep (max 60 (B+1)) G' by
  obtain⟨x,Z',G',e,hh⟩:=hh;refine⟨Z',G',?_,hh⟩;show trim Z (eE (WS [ai qM,aF 8,aX ([.int k,.int p,.int m]),aB kind,ak,ak,ak,ak,ak,ak] Z))=_;rw[e];simp only[xV];exact lD (by rw[hh.ln,GX])
 unfold WS;rw[bO (Y1:=[ai qM,aF 8,aX ([.int k,.int p,.int m]),aB kind,aB k,aB p,aB m,ak,ak,ak]) (Z':=Z) (by simp)];rw[bO (kY (i:=7) (a:=.int i) (Z':=Z) (cX (bK (a:=.int k) rfl) (b:=.int 5) (by simp) (by simp[hi])))];simp only[List.set];have v4:∀(o8 o9:ar A),dA 4 [ai qM,aF 8,aX ([.int k,.int p,.int m]),aB kind,aB k,aB p,aB m,aB i,o8,o9] Z=aD (.int k) Z:=λ_ _=>bK rfl;rw[bO (kY (i:=8) (a:=.int j) (Z':=Z) (cX (cX (cX (bK (a:=.int i) rfl) (b:=.int 1) (by simp) (c:=.int ((i:av)+1)) (by simp)) (abP 5 4 (by decide) (by decide) (by decide) (v4 ak ak)) (c:=.int ((i:av)+1+k/5%4)) (by simp)) (b:=.int 5) (by simp) (by simp[hj])))];simp only[List.set];generalize U:[ai qM,aF 8,aX ([.int k,.int p,.int m]),aB kind,aB k,aB p,aB m,aB i,aB j,ak]=s;have u0:dA 0 s Z=aD qM Z:=bK (by subst U;rfl);have D:∀d,dA 7 s d=aD (.int (i:av)) d:=λd=>bK (by subst U;rfl);have M:∀d,dA 8 s d=aD (.int (j:av)) d:=λd=>bK (by subst U;rfl);have E:∀d,dA 1 s d=aD (.aJ 8) d:=λd=>bK (by subst U;rfl);have u4:dA 4 s Z=aD (.int k) Z:=bK (by subst U;rfl);have r1:aA aO aT jM s Z=aD (.lst (aK g.2.2)) Z:=vZ (E _) h.rows (D _) R;have r2:aA aO aT gM s Z=aD (.lst (aK q.2.2)) Z:=vZ (E _) h.rows (M _) rq;have H:bL (aA iX (aA (fS) (aA (jI) cY (cI 20)) KQ) bQ) s Z=aD (k/20%6==0) Z:=iC (cX (abP 20 6 (by decide) (by decide) (by decide) u4) (b:=.int 0) (by simp) (by simp));have tb:bL (aA kB (aA cJ (aU fY (aC (aA aO aT jM) a0)) (aU fY (aC (aA aO aT gM) a0))) (cI 60)) s Z=aD (decide ((g.2.2.length:av)+q.2.2.length<60)) Z :=
  iC (cX (cX (sE (Z':=Z) (a:=.int g.2.2.length) (bG r1 bY) (by simp[aK])) (sE (Z':=Z) (a:=.int q.2.2.length) (bG r2 bY) (by simp[aK])) (c:=.int ((g.2.2.length:av)+q.2.2.length)) (by simp)) (b:=.int 60) (by simp) (by simp))
 have tc:sW (bL (aA iX (aA (fS) (aA (jI) cY (cI 20)) KQ) bQ)) (bL (aA kB (aA cJ (aU fY (aC (aA aO aT jM) a0)) (aU fY (aC (aA aO aT gM) a0))) (cI 60))) s Z=aD (k/20%6==0&&decide ((g.2.2.length:av)+q.2.2.length<60)) Z:=by
  cases hb:(k/20%6==0)with
  |true=>rw[hb]at H;rw[acZ H,tb];simp
  |false=>rw[hb]at H;rw[ac0 H];simp
 rw[as9 tc]
 by_cases K:k/20%6=0/\(g.2.2.length:av)+q.2.2.length<60
 ·rw[a8 (by simp[K.1,K.2])];have wJ:=K.2;obtain⟨u,v,qj,hh⟩:=h.join (by omega) L Zq I S;have ej:bU "join" [("Gaps",bR 2 [] zE)] (aA aO aI jM) (aC (aA aO aI gM) a0) s Z=aD (.dE) (Z.set (3+i) (bF keep (whole (g.2.2++q.2.2)) (g.2.2++q.2.2).length u v)) :=
   ag.Kq rfl (AH u0 (D _) (zV L)) (as:=[.aJ (3+j)]) (das:=[]) (bG (AH u0 (M _) (zV Zq)) bY) rfl (by simpa using qj)
  rw[bO (tJ ej)];have w:(Z.set (3+i) (bF keep (whole (g.2.2++q.2.2)) (g.2.2++q.2.2).length u v))[8]?=ai (.lst (G.map λg => .lst (aK g.2.2))):=by rw[gS (by omega)];exact h.rows
  generalize Z.set (3+i) (bF keep (whole (g.2.2++q.2.2)) (g.2.2++q.2.2).length u v)=l at hh w;have V:aA cJ (aA aO aT jM) (aA aO aT gM) s l=aD (.lst (aK (g.2.2++q.2.2))) l :=
   cX (vZ (E _) w (D _) R) (vZ (E _) w (M _) rq) (by
    have:g.2.2.length+q.2.2.length<=az:=by rw[lE];omega
    simp[aK,this])
  rw[Bh (i:=1) (j:=i) (by subst U;rfl) w (D _) (by simp;omega) V];have OI:(G.map λg=>A.lst (aK g.2.2)).set i (.lst (aK (g.2.2++q.2.2)))=(G.set i (u,v,g.2.2++q.2.2)).map λg => .lst (aK g.2.2):=by rw[Oq]
  rw[OI];refine⟨_,_,_,rfl,hh.n5,hh.ln,hh.pt,λg' T=>?_,hh.rows⟩
  rcases List.mem_or_eq_of_mem_set T with z|z
  ·exact⟨by have:=(h.bd g' z).1;omega,(h.bd g' z).2⟩
  ·subst z;exact⟨by simp;omega,(hh.bd _ (kF (i:=i) (gK (by omega)))).2⟩
 ·rw[bb (by simp;intro z;have:=λy=>K ⟨z,y⟩;omega)];have wg:=RJ X.2;obtain⟨u,v,C,qp⟩:=aFF ag n (1+f/3) hN (by omega) (by omega) (by omega) (by omega);have d3:nM f 3:=⟨by decide,by decide⟩;have e9:mQ (aC (aU (bN 2 vF) (aC fH (aC dS a0))) (aC (aA cJ bP (aA (jI) (aU (bN 1 JU) (aC iI a0)) gO)) a0)) s Z=aD (.tup [.int n,.int (1+f/3)]) Z:=by
   unfold mQ;rw[dH (bG (lM (n:=2) (F:=vF) (bG (bK (a:=.int p) (by subst U;rfl)) (bG (bK (a:=.int kind) (by subst U;rfl)) bY)) rfl (qn _)) (bG (cX (a:=.int 1) (by simp) (cX (lM (n:=1) (F:=JU) (bG (bK (a:=.int m) (by subst U;rfl)) bY) rfl (qt _)) (b:=.int 3) (by simp) (VZ d3 _)) (c:=.int (1+f/3)) (by simp)) bY))];simp[uL]
  rw[bO (kY (i:=9) e9)];generalize t:s.set 9 (ai (.tup [.int n,.int (1+f/3)]))=J;have s0:dA 0 J Z=aD qM Z:=bK (by subst t;subst U;rfl);have Q:∀d,dA 7 J d=aD (.int (i:av)) d:=λd=>bK (by subst t;subst U;rfl);have s1:∀d,dA 1 J d=aD (.aJ 8) d:=λd=>bK (by subst t;subst U;rfl);have P:∀d,dA 9 J d=aD (.tup [.int n,.int (1+f/3)]) d:=λd=>bK (by subst t;subst U;rfl);have i0:aA aO xJ bQ J Z=aD (.int n) Z:=cX (P _) (b:=.int 0) (by simp) (by simp);have i1:aA aO xJ bP J Z=aD (.int (1+f/3)) Z:=cX (P _) (b:=.int 1) (by simp) (by simp);have el:((g.2.2.length+1:ay):av)=((g.2.2++[(n,1+f/3)]).length:av):=by simp
  have W:g.2.2.length+1=(g.2.2++[(n,1+f/3)]).length:=by simp
  rw[el]at qp C;rw[W]at C;have ep:bU "put" [("Gaps",bR 3 [] JW)] (aA aO aI jM) (aC (aA aO xJ bQ) (aC (aA aO xJ bP) a0)) J Z=aD (.dE) (Z.set (3+i) (bF keep (whole (g.2.2++[(n,1+f/3)])) (g.2.2++[(n,1+f/3)]).length u v)) :=
   ag.Kq rfl (AH s0 (Q _) (zV L)) (as:=[.int n,.int (1+f/3)]) (das:=[]) (bG i0 (bG i1 bY)) rfl (by simpa using qp)
  rw[bO (tJ ep)];have hh:=h.set L (g:=(u,v,g.2.2++[(n,1+f/3)])) C.o C.t1 C.fr (B':=max 60 (B+1)) (by omega) ⟨by simp;omega,λr hr=>by
   rcases rH.mp hr with z|z
   ·exact X.2 r z
   ·have:r=(n,1+f/3):=by simpa using z
    subst this;show 1+f/3<=400000;omega⟩
  simp only at hh;have w:(Z.set (3+i) (bF keep (whole (g.2.2++[(n,1+f/3)])) (g.2.2++[(n,1+f/3)]).length u v))[8]?=ai (.lst (G.map λg => .lst (aK g.2.2))):=by rw[gS (by omega)];exact h.rows
  generalize Z.set (3+i) (bF keep (whole (g.2.2++[(n,1+f/3)])) (g.2.2++[(n,1+f/3)]).length u v)=l at hh w;have V:aA cJ (aA aO aT jM) (eQ aq (aC xJ a0)) J l=aD (.lst (aK (g.2.2++[(n,1+f/3)]))) l:=by
   have e2:eQ aq (aC xJ a0) J l=aD (.lst [.tup [.int n,.int (1+f/3)]]) l:=by
    unfold eQ;rw[dH (bG (P _) bY)];simp[UL]
   exact cX (vZ (s1 _) w (Q _) R) e2 (by
    have:g.2.2.length+1<=az:=by rw[lE];omega
    simp[aK,gT,this])
  rw[Bh (i:=1) (j:=i) (by subst t;subst U;rfl) w (Q _) (by simp;omega) V];have OI:(G.map λg=>A.lst (aK g.2.2)).set i (.lst (aK (g.2.2++[(n,1+f/3)])))=(G.set i (u,v,g.2.2++[(n,1+f/3)])).map λg => .lst (aK g.2.2):=by rw[Oq]
  rw[OI];exact⟨_,_,_,rfl,hh⟩
end
abbrev gA(ns ds:aj av)(c0 kind:av)(keep:ay)(q j:ar A):Ev:=[ai (.dZ ns),aX (ds.map A.int),aB c0,aB kind,aB keep,ai qM,aF 8,q,j]
theorem aBZ(ds:aj av)(k:ay)(h:5+3*k<=ds.length):yP (ds.map A.int) (ai (2+3*(k:av))) (ai (5+3*(k:av)))=[.int (ds[2+3*k]'(by omega)),.int (ds[3+3*k]'(by omega)),.int (ds[4+3*k]'(by omega))]:=by
 have q:(2+3*(k:av))=((2+3*k:ay):av):=by omega
 have j:(5+3*(k:av))=((5+3*k:ay):av):=by omega
 unfold yP;rw[q,j,HT.Eb,HT.Eb,lB,Nat.min_eq_left (by omega),Nat.min_eq_left (by omega),show 5+3*k-(2+3*k)=3 by omega];apply List.ext_getElem
 ·simp;omega
 ·intro i h1 h2;have hi:i=0\/i=1\/i=2:=by simp at h2;omega
  rcases hi with rfl|rfl|rfl
  ·simp
  ·simp[show 2+3*k+1=3+3*k by omega]
  ·simp[show 2+3*k+2=4+3*k by omega]
section
variable{N:aj av}{Z:aH}{keep B:ay}{G:aj Gp}{ns ds:aj av}{c0 kind:av}
theorem agP(h:mN N Z keep B G)(m:B<=200)(Ie:191<=ds.length)(hd:∀d∈ds,0<=d/\d<2147483587)(k:ay)(g:k<63)(l:∀i,(h:i<63)->tE (ds[3+3*i]'(by omega)) kind∈N)(z:ar A):∃Z' G',mN N Z' keep (max 60 (B+1)) G' /\
  OY (gA ns ds c0 kind keep (aB k) z) Z=dP (gA ns ds c0 kind keep (aB k) z) Z':=by
 have j:=aBZ ds k (by omega);have hn:=l k g;have c:=hd (ds[2+3*k]'(by omega)) (zA _);have U:=hd (ds[3+3*k]'(by omega)) (zA _);have b:=hd (ds[4+3*k]'(by omega)) (zA _);generalize ds[2+3*k]'(by omega)=d0 at j c;generalize ds[3+3*k]'(by omega)=f at j U hn;generalize ds[4+3*k]'(by omega)=e at j b;have o:jV 3 (k:av):=yQ (by decide) (by decide);obtain⟨Z',G',q,hh⟩:=aFC h m d0 f e kind c.1 U.1 U.2 b.1 hn;refine⟨Z',G',hh,?_⟩;have es:KZ aq aT (CB (aA cJ eO (aA (gY) gO jM))) (CB (aA cJ xK (aA (gY) gO jM))) (gA ns ds c0 kind keep (aB k) z) Z=aD (.lst [.int d0,.int f,.int e]) Z:=by simp[o,j]
 unfold OY;exact tJ (lM (n:=4) (F:=ZC) (bG (bK (a:=qM) rfl) (bG (bK (a:=.aJ 8) rfl) (bG es (bG (bK (a:=.int kind) rfl) bY)))) rfl q)
theorem asG(h:mN N Z keep B G)(w:B<=1000)(i:ay)(hi:i<4)(m:ar A):∃Z' G',mN N Z' keep (2*B) G' /\
  OX (gA ns ds c0 kind keep m (aB i)) Z=dP (gA ns ds c0 kind keep m (aB i)) Z':=by
 have E:=h.n5;have H:=h.ln;obtain⟨g,f⟩:∃g,G[i]?=ai g:=⟨G[i]'(by omega),dR (by omega)⟩;obtain⟨q,n⟩:∃q,G[i+1]?=ai q:=⟨G[i+1]'(by omega),dR (by omega)⟩;have C:=h.pt i g f;have F:=(h.bd g (kF f)).1;have v:=(h.bd q (kF n)).1;have t:(G.map λg=>A.lst (aK g.2.2))[i]?=ai (.lst (aK g.2.2)):=by simp[f]
 have s:(G.map λg=>A.lst (aK g.2.2))[i+1]?=ai (.lst (aK q.2.2)):=by simp[n]
 obtain⟨k,l,u,hh⟩:=h.join w (i:=i) (j:=i+1) (by omega) (by omega) f n;refine⟨_,_,hh,?_⟩;generalize U:gA ns ds c0 kind keep m (aB i)=a;have r:dA 5 a Z=aD qM Z:=bK (by subst U;rfl);have d:∀z,dA 8 a z=aD (.int (i:av)) z:=λz=>bK (by subst U;rfl);have p:∀z,dA 6 a z=aD (.aJ 8) z:=λz=>bK (by subst U;rfl);have o:∀z,aA cJ gM bP a z=aD (.int ((i+1:ay):av)) z:=λz=>cX (d _) (b:=.int 1) (by simp) (by simp);unfold OX;have y:bU "join" [("Gaps",bR 2 [] zE)] (aA aO fH gM) (aC (aA aO fH (aA cJ gM bP)) a0) a Z=aD (.dE) (Z.set (3+i) (bF keep (whole (g.2.2++q.2.2)) (g.2.2++q.2.2).length k l)) :=
  C.Kq rfl (AH r (d _) (zV (by omega))) (as:=[.aJ (3+(i+1))]) (das:=[]) (bG (AH r (o _) (zV (by omega))) bY) rfl (by simpa using u)
 rw[bO (tJ y)];have e:(Z.set (3+i) (bF keep (whole (g.2.2++q.2.2)) (g.2.2++q.2.2).length k l))[8]?=ai (.lst (G.map λg => .lst (aK g.2.2))):=by rw[gS (by omega)];exact h.rows
 generalize Z.set (3+i) (bF keep (whole (g.2.2++q.2.2)) (g.2.2++q.2.2).length k l)=c at hh e;have x:aA cJ (aA aO iI gM) (aA aO iI (aA cJ gM bP)) a c=aD (.lst (aK (g.2.2++q.2.2))) c :=
  cX (vZ (p _) e (d _) t) (vZ (p _) e (o _) s) (by
   have:g.2.2.length+q.2.2.length<=az:=by rw[lE];omega
   simp[aK,this])
 rw[Bh (i:=6) (j:=i) (by subst U;rfl) e (d _) (by simp;omega) x];have D:(G.map λg=>A.lst (aK g.2.2)).set i (.lst (aK (g.2.2++q.2.2)))=(G.set i (k,l,g.2.2++q.2.2)).map λg => .lst (aK g.2.2):=by rw[Oq]
 rw[D]
theorem ak6(h:mN N Z keep B G)(m:B<=2000){j:av}(h1:eU (ds.map A.int) 1=(aB j))(e:0<=j)(l:j<2147483587)(i:ay)(hi:i<5)(q:ar A):OW (gA ns ds c0 kind keep q (aB i)) Z=dP (gA ns ds c0 kind keep q (aB i)) Z:=by
 have n:=h.n5;obtain⟨g,z⟩:∃g,G[i]?=ai g:=⟨G[i]'(by omega),dR (by omega)⟩;have k:=h.pt i g z;have o:=(h.bd g (kF z)).1;have c:(G.map λg=>A.lst (aK g.2.2))[i]?=ai (.lst (aK g.2.2)):=by simp[z]
 have d:=ae3 k (by omega) j kind e (by omega);have U:aA aO iI gM (gA ns ds c0 kind keep q (aB i)) Z=aD (.lst (aK g.2.2)) Z:=vZ (bK (a:=.aJ 8) rfl) h.rows (bK (a:=.int i) rfl) c;have f:aA aO aT bP (gA ns ds c0 kind keep q (aB i)) Z=aD (.int j) Z:=cX (bK (a:=.lst (ds.map A.int)) rfl) (b:=.int 1) (by simp) (by simp[h1]);unfold OW;exact qC (vW (b:=ax) (iC (lM (bG (AH (bK (a:=qM) rfl) (bK (a:=.int i) rfl) (zV hi)) (bG U (bG (sE (Z':=Z) (a:=.int g.2.2.length) (bG U bY) (by simp[aK])) (bG (bK (a:=.int keep) rfl) (bG f (bG (bK (a:=.int kind) rfl) bY)))))) rfl d)))
theorem ak7(h:mN N Z keep B G)(o:B<=2000)(c:Cell){U:av}(h1:eU (ds.map A.int) 1=(aB U))(i:ay)(hi:i<5)(s:i≠0)(z:ar A):OV (gA ns ds c0 kind keep z (aB i)) (Z.set 3 c)=dP (gA ns ds c0 kind keep z (aB i)) (Z.set 3 c):=by
 have p:=h.n5;obtain⟨g,d⟩:∃g,G[i]?=ai g:=⟨G[i]'(by omega),dR (by omega)⟩;have f:=(h.pt i g d).other (q:=3) (by omega) (by omega) c;have r:=(h.bd g (kF d)).1;have k:(G.map λg=>A.lst (aK g.2.2))[i]?=ai (.lst (aK g.2.2)):=by simp[d]
 have e:(Z.set 3 c)[8]?=ai (.lst (G.map λg => .lst (aK g.2.2))):=by rw[gS (by omega)];exact h.rows
 generalize Z.set 3 c=j at f e;have m:=aFE f rfl (by omega) (U%7);have l:aA aO iI gM (gA ns ds c0 kind keep z (aB i)) j=aD (.lst (aK g.2.2)) j:=vZ (bK (a:=.aJ 8) rfl) e (bK (a:=.int i) rfl) k;have n:aA (fS) (aA aO aT bP) FF (gA ns ds c0 kind keep z (aB i)) j=aD (.int (U%7)) j:=cX (cX (bK (a:=.lst (ds.map A.int)) rfl) (b:=.int 1) (by simp) (c:=.int U) (by simp[h1])) (b:=.int 7) (by simp) (by simp);unfold OV;exact qC (vW (b:=ax) (iC (lM (bG (AH (bK (a:=qM) rfl) (bK (a:=.int i) rfl) (zV hi)) (bG l (bG n bY))) rfl m)))
theorem azW(h:mN N Z keep B G)(w:B<=2000){q:av}(h1:eU (ds.map A.int) 1=(aB q))(v:0<=q)(d U:ar A):∃c,
  (sW (bL (aA kB (aA (fS) (aA aO aT bP) zK) eO)) (jC (bL (aU (bN 5 QT) (aC (aA aO fH bQ) (aC (aA aO iI bQ) (aC (aA aO (eQ aq (aC (cI 20) (aC eO a0))) (aA (fS) (aA aO aT bP) zK)) (aC cY (aC dS a0))))))))) (gA ns ds c0 kind keep d U) Z=aD aq (Z.set 3 c):=by
 have x:=h.n5;obtain⟨g,f⟩:∃g,G[0]?=ai g:=⟨G[0]'(by omega),dR (by omega)⟩;have l:=h.pt 0 g f;have y:=(h.bd g (kF f)).1;have k:aA (fS) (aA aO aT bP) zK (gA ns ds c0 kind keep d U) Z=aD (.int (q%8)) Z:=cX (cX (bK (a:=.lst (ds.map A.int)) rfl) (b:=.int 1) (by simp) (c:=.int q) (by simp[h1])) (b:=.int 8) (by simp) (by simp);have i:bL (aA kB (aA (fS) (aA aO aT bP) zK) eO) (gA ns ds c0 kind keep d U) Z=aD (decide (q%8<2)) Z:=iC (cX k (b:=.int 2) (by simp) (by simp))
 by_cases hb:q%8<2
 ·obtain⟨t,r,p⟩:∃t:ay,t<=20/\eU [A.int 20,.int 2] (q%8)=(aB (t:av)):=by
   have:q%8=((0:ay):av)\/q%8=((1:ay):av):=by omega
   rcases this with e|e <;> rw[e]
   ·exact⟨20,by decide,uX _ 0⟩
   ·exact⟨2,by decide,uX _ 1⟩
  obtain⟨c,o⟩:=aFJ l (by omega) rfl (by omega) t r kind;have u:(2:ay)<=az:=by decide
  have m:(G.map λg=>A.lst (aK g.2.2))[0]?=ai (.lst (aK g.2.2)):=by simp[f]
  have s:aA aO (eQ aq (aC (cI 20) (aC eO a0))) (aA (fS) (aA aO aT bP) zK) (gA ns ds c0 kind keep d U) Z=aD (.int (t:av)) Z:=cX (a:=.lst [A.int 20,.int 2]) (by unfold eQ;rw[dH (bG (a:=.int 20) (by simp) (bG (a:=.int 2) (by simp) bY))];simp[u]) k (by simp[p]);refine⟨c,?_⟩;rw[acZ (Z':=Z) (by rw[i];simp[hb])];exact vW (b:=ax) (iC (lM (n:=5) (F:=QT) (bG (AH (j:=0) (bK (a:=qM) rfl) (by simp) (zV (by decide))) (bG (vZ (j:=0) (bK (a:=.aJ 8) rfl) h.rows (by simp) m) (bG s (bG (bK (a:=.int keep) rfl) (bG (bK (a:=.int kind) rfl) bY))))) rfl o))
 ·refine⟨bF keep (whole g.2.2) g.2.2.length g.1 g.2.1,?_⟩;rw[ac0 (Z':=Z) (by rw[i];simp[hb])];exact c7 (λz=>ai (Rs.ok aq,z)) (zO l.h).symm
end
theorem axT{N:aj av}(U:N.length<=63){keep:ay}(z:1<=keep)(a:keep<=5\/keep=100):mN N [nE,nF,oE,bF keep 0 0 [] [],bF keep 0 0 [] [],bF keep 0 0 [] [],bF keep 0 0 [] [],bF keep 0 0 [] [],.lst [.lst [],.lst [],.lst [],.lst [],.lst []]] keep 60 [([],[],[]),([],[],[]),([],[],[]),([],[],[]),([],[],[])]:=by
 have o:=ao9 U z a;refine⟨rfl,rfl,λi g j=>?_,λg j=>?_,rfl⟩
 ·have hi:i<5:=by simpa using(dN.mp j).1
  have q:g=([],[],[]):=by
   match i,hi with
   |0,_=>simpa using j.symm
   |1,_=>simpa using j.symm
   |2,_=>simpa using j.symm
   |3,_=>simpa using j.symm
   |4,_=>simpa using j.symm
  subst q
  match i,hi with
  |0,_=>exact⟨rfl,o,rfl,rfl,rfl,by simp,by simp⟩
  |1,_=>exact⟨rfl,o,rfl,rfl,rfl,by simp,by simp⟩
  |2,_=>exact⟨rfl,o,rfl,rfl,rfl,by simp,by simp⟩
  |3,_=>exact⟨rfl,o,rfl,rfl,rfl,by simp,by simp⟩
  |4,_=>exact⟨rfl,o,rfl,rfl,rfl,by simp,by simp⟩
 ·have:g=([],[],[]):=by simpa using j
  subst this;exact⟨by simp,by simp⟩
theorem arT(ns:aj av)(wG:ns.length<=63):∃W,aeV [.dZ ns] [nE,nF,oE]=aD (.bl ax) W:=by
 obtain⟨ds,Ig,hd2,hd,hq⟩:=aEW ns wG 191 (by decide) [nE,nF,oE];have yG:ZF [.dZ ns,.int 191] [nE,nF,oE]=aD (.lst (ds.map A.int)) [nE,nF,oE]:=hq;have Q:eU (ds.map A.int) 0=(aB (ds[0]'(by omega))):=XM ds 0 (by omega);have t:eU (ds.map A.int) 1=(aB (ds[1]'(by omega))):=XM ds 1 (by omega);have q0:=hd (ds[0]'(by omega)) (zA _);have y:=hd (ds[1]'(by omega)) (zA _);generalize ds[0]'(by omega)=c0 at Q q0;generalize ds[1]'(by omega)=M at t y;have pK:∀n,fB n (.dZ ns)=ai (ns.map A.int):=λ_=>rfl;generalize E:c0%5=kind;generalize hm:min 63 (max (ns.length:av) (c0/15%64))=m;have m0:0<=m:=by omega
 have m1:m<=63:=by omega
 obtain⟨keep,D,mK,Hu⟩:∃keep:ay,(keep:av)=(if M%8=1 then 100 else 1+c0/5%3)/\1<=keep/\(keep<=5\/keep=100):=by
  by_cases h:M%8=1
  ·exact⟨100,by rw[a8 h];rfl,by decide,.inr rfl⟩
  ·obtain⟨k,hk⟩:=Pe (show 0<=1+c0/5%3 by omega);exact⟨k,by rw[bb h,hk],by omega,.inl (by omega)⟩
 generalize w:(List.range 63).map (λi=>tE (ds[3+3*i]?.getD 0) kind)=N;have F:N.length<=63:=by rw[<-w];simp
 have hN:∀i,(h:i<63)->tE (ds[3+3*i]'(by omega)) kind∈N:=λi h=>by
  rw[<-w];refine fZ.mpr ⟨i,List.mem_range.mpr h,?_⟩;rw[dR (by omega)];rfl
 generalize X:[nE,nF,oE,bF keep 0 0 [] [],bF keep 0 0 [] [],bF keep 0 0 [] [],bF keep 0 0 [] [],bF keep 0 0 [] [],Cell.lst [.lst [],.lst [],.lst [],.lst [],.lst []]]=f;have V:=axT F mK Hu;rw[X]at V;obtain⟨Y1,l,e1,U,G1,rfl,h1⟩:=wN (ok:=λ_=>True) (g:=gN 7) (b:=OY)
  (λi p Z'=>∃(U:ar A) (G:aj Gp),p=gA ns ds c0 kind keep U ak/\mN N Z' keep (60+i) G) (λ_ _ _ _=>trivial)
  ((List.range m.toNat).map λ(i:ay)=>A.int (0+(i:av))) 0 (gA ns ds c0 kind keep ak ak) f ⟨ak,_,rfl,V⟩
  (by
   rintro i x p Z' d ⟨U,G,rfl,h⟩;have hi:i<m.toNat:=by simpa using(dN.mp d).1
   obtain rfl:A.int (0+(i:av))=x:=by
    have:=(dN.mp d).2;simpa using this
   rw[wX]at h ⊢;obtain⟨r,P,h2,q⟩:=agP (ns:=ns) (c0:=c0) h (by omega) Ig hd i (by omega) hN ak;rw[show max 60 (60+i+1)=60+(i+1)by omega]at h2;exact⟨gA ns ds c0 kind keep (aB i) ak,Z',_,_,by simp,.inl q,_,P,rfl,h2⟩)
 simp only[wX,lB,aeL]at h1;have jT:mN N l keep 123 G1:=⟨h1.n5,h1.ln,h1.pt,λg R=>⟨by have:=(h1.bd g R).1;omega,(h1.bd g R).2⟩,h1.rows⟩;obtain⟨Y2,r,e2,o,P,rfl,h2⟩:=wN (ok:=(srcOf (.lst [A.int 3,.int 2,.int 1,.int 0]) [A.int 3,.int 2,.int 1,.int 0]).ok) (g:=gN 8) (b:=OX)
  (λi p Z'=>∃(o:ar A) (G:aj Gp),p=gA ns ds c0 kind keep U o/\mN N Z' keep (123*2 ^ i) G) (λ_ _ _ _=>rfl)
  [A.int 3,.int 2,.int 1,.int 0] 0 (gA ns ds c0 kind keep U ak) l ⟨ak,_,rfl,jT⟩
  (by
   rintro i x p Z' d ⟨o,G,rfl,h⟩;have hi:i<4:=by simpa using(dN.mp d).1
   rw[wX]at h ⊢;obtain rfl:A.int ((3-i:ay):av)=x:=by
    match i,hi with
    |0,_=>simpa using d
    |1,_=>simpa using d
    |2,_=>simpa using d
    |3,_=>simpa using d
   have hB:123*2 ^ i<=1000:=by
    match i,hi with
    |0,_=>decide
    |1,_=>decide
    |2,_=>decide
    |3,_=>decide
   obtain⟨z,G3,T,q⟩:=asG (ns:=ns) (ds:=ds) (c0:=c0) (kind:=kind) h hB (3-i) (by omega) U;rw[show 2*(123*2 ^ i)=123*2 ^ (i+1)by rw[Nx];omega]at T;exact⟨gA ns ds c0 kind keep U (aB ((3-i:ay):av)),Z',_,_,rfl,.inl q,_,G3,rfl,T⟩)
 have C:mN N r keep 1968 P:=h2;obtain⟨Y3,z,e3,B,rfl,rfl⟩:=wN (ok:=(srcOf (.lst [A.int 0,.int 3]) [A.int 0,.int 3]).ok) (g:=gN 8) (b:=OW)
  (λi p Z'=>∃(o:ar A),p=gA ns ds c0 kind keep U o/\Z'=r) (λ_ _ _ _=>rfl)
  [A.int 0,.int 3] 0 (gA ns ds c0 kind keep U o) r ⟨_,rfl,rfl⟩
  (by
   rintro i x p Z' d ⟨o,rfl,rfl⟩;have hi:i<2:=by simpa using(dN.mp d).1
   obtain rfl:A.int ((3*i:ay):av)=x:=by
    match i,hi with
    |0,_=>simpa using d
    |1,_=>simpa using d
   have q:=ak6 (ns:=ns) (c0:=c0) (kind:=kind) C (by decide) t y.1 y.2 (3*i) (by omega) U;exact⟨gA ns ds c0 kind keep U (aB ((3*i:ay):av)),Z',_,_,rfl,.inl q,_,rfl,rfl⟩)
 obtain⟨s,ed⟩:=azW (ns:=ns) (c0:=c0) (kind:=kind) C (by decide) t y.1 U B;obtain⟨Y4,Z4,e4,Rh,rfl,rfl⟩:=wN (ok:=(srcOf (.lst [A.int 1,.int 2,.int 4]) [A.int 1,.int 2,.int 4]).ok) (g:=gN 8) (b:=OV)
  (λi p Z'=>∃(o:ar A),p=gA ns ds c0 kind keep U o/\Z'=z.set 3 s) (λ_ _ _ _=>rfl)
  [A.int 1,.int 2,.int 4] 0 (gA ns ds c0 kind keep U B) (z.set 3 s) ⟨_,rfl,rfl⟩
  (by
   rintro i x p Z' d ⟨o,rfl,rfl⟩;have hi:i<3:=by simpa using(dN.mp d).1
   obtain rfl:A.int ((2 ^ i:ay):av)=x:=by
    match i,hi with
    |0,_=>simpa using d
    |1,_=>simpa using d
    |2,_=>simpa using d
   have q:=ak7 (ns:=ns) (c0:=c0) (kind:=kind) C (by decide) s t (2 ^ i) (by
    match i,hi with
    |0,_=>decide
    |1,_=>decide
    |2,_=>decide) (by
    match i,hi with
    |0,_=>decide
    |1,_=>decide
    | 2,_=>decide) U
   exact⟨gA ns ds c0 kind keep U (aB ((2 ^ i:ay):av)),_,_,_,rfl,.inl q,_,rfl,rfl⟩)
 suffices hh:∃u,WO [ai (.dZ ns),ak,ak,ak,ak,ak,ak,ak,ak] [nE,nF,oE]=ai (.ret (.bl ax),u,z.set 3 s)by
  obtain⟨u,e⟩:=hh;show ∃W,trim [nE,nF,oE] (eE (WO [ai (.dZ ns),ak,ak,ak,ak,ak,ak,ak,ak] [nE,nF,oE]))=_;rw[e];simp only[xU,trim];split
  ·exact⟨_,rfl⟩
  ·exact⟨_,rfl⟩
 refine⟨gA ns ds c0 kind keep U Rh,?_⟩;have H:(5:ay)<=az:=by decide
 have I:(4:ay)<=az:=by decide
 have K:(3:ay)<=az:=by decide
 have Ja:(2:ay)<=az:=by decide
 have cm:jV 3 63:=yQ (by decide) (by decide);have d5:nM c0 5:=⟨by decide,by decide⟩;have L:nM c0 15:=⟨by decide,by decide⟩;have mk:∀n:aH,uQ "Gaps" 2 vI [.int keep] n=aD (.aJ n.length) (n++[bF keep 0 0 [] []]):=λn=>aEK n keep;unfold WO;rw[bO (Y1:=[ai (.dZ ns),aX (ds.map A.int),ak,ak,ak,ak,ak,ak,ak]) (Z':=[nE,nF,oE]) (by simp[bN,cm,yG])];rw[bO (Y1:=[ai (.dZ ns),aX (ds.map A.int),aB c0,ak,ak,ak,ak,ak,ak]) (Z':=[nE,nF,oE]) (by simp[Q])];rw[bO (Y1:=[ai (.dZ ns),aX (ds.map A.int),aB c0,aB kind,ak,ak,ak,ak,ak]) (Z':=[nE,nF,oE]) (by simp[E])];rw[bO (Y1:=[ai (.dZ ns),aX (ds.map A.int),aB c0,aB kind,aB (1+c0/5%3),ak,ak,ak,ak]) (Z':=[nE,nF,oE]) (by simp[d5])];rw[bO (Y1:=[ai (.dZ ns),aX (ds.map A.int),aB c0,aB kind,aB keep,ak,ak,ak,ak]) (Z':=[nE,nF,oE]) (by
  rw[D]
  by_cases h:M%8=1
  ·simp[t,h]
  ·simp[t,h])]
 generalize uQ "Gaps" 2 vI=gm at mk;have v:∀(n:aH),aU gm (aC cY a0) [ai (.dZ ns),aX (ds.map A.int),aB c0,aB kind,aB keep,ak,ak,ak,ak] n=aD (.aJ n.length) (n++[bF keep 0 0 [] []]):=λn=>sE (bG (bK (a:=.int keep) rfl) bY) (mk n);rw[bO (kY (i:=5) (Z':=[nE,nF,oE,bF keep 0 0 [] [],bF keep 0 0 [] [],bF keep 0 0 [] [],bF keep 0 0 [] [],bF keep 0 0 [] []]) (a:=qM) (by
  unfold eQ;rw[dH (BE (v _) (BE (v _) (BE (v _) (BE (v _) (BE (v _) bY)))))];simp[H]))]
 simp only[List.set];rw[bO (kY (i:=6) (Z':=f) (a:=.aJ 8) (by rw[<-X];rfl))];simp only[List.set];have f1:gB (sT (aC (aU HL (aC (cI 63) (aC (aU AV (aC (aU fY (aC aI a0)) (aC (aA (fS) (aA (jI) cC (cI 15)) (cI 64)) a0))) a0))) a0)) (gN 7) OY (gA ns ds c0 kind keep ak ak) f=dP (gA ns ds c0 kind keep U ak) l:=by
  rw[mZ (S:=tD 0 m.toNat) (Z':=f) (LS (j:=m) (bG (sE (Z':=f) (bG (a:=.int 63) (by rfl) (bG (sE (Z':=f) (bG (sE (Z':=f) (bG (bK (a:=.dZ ns) (by rfl)) bY) (a:=.int ns.length) (by simp[pK])) (bG (cX (a:=.int (c0/15)) (cX (bK (a:=.int c0) (by rfl)) (b:=.int 15) (by rfl) (by simp[L])) (b:=.int 64) (by rfl) (c:=.int (c0/15%64)) (by simp)) bY)) (a:=.int (max (ns.length:av) (c0/15%64))) (by simp)) bY)) (by simp[hm])) bY) (by unfold rQ;omega))];exact e1
 have f2:gB (eW (eQ aq (aC gO (aC eO (aC bP (aC bQ a0)))))) (gN 8) OX (gA ns ds c0 kind keep U ak) l=dP (gA ns ds c0 kind keep U o) z:=by
  rw[mZ (S:=srcOf (.lst [A.int 3,.int 2,.int 1,.int 0]) [A.int 3,.int 2,.int 1,.int 0]) (Z':=l) (by
   unfold eW;rw[dH (x:=.lst [A.int 3,.int 2,.int 1,.int 0]) (Z':=l) (by unfold eQ;rw[dH (bG (a:=.int 3) (by simp) (bG (a:=.int 2) (by simp) (bG (a:=.int 1) (by simp) (bG (a:=.int 0) (by simp) bY))))];simp[I])];simp)]
  exact e2
 have f3:gB (eW (eQ aq (aC bQ (aC gO a0)))) (gN 8) OW (gA ns ds c0 kind keep U o) z=dP (gA ns ds c0 kind keep U B) z:=by
  rw[mZ (S:=srcOf (.lst [A.int 0,.int 3]) [A.int 0,.int 3]) (Z':=z) (by
   unfold eW;rw[dH (x:=.lst [A.int 0,.int 3]) (Z':=z) (by unfold eQ;rw[dH (bG (a:=.int 0) (by simp) (bG (a:=.int 3) (by simp) bY))];simp[Ja])];simp)]
  exact e3
 have f4:gB (eW (eQ aq (aC bP (aC eO (aC zL a0))))) (gN 8) OV (gA ns ds c0 kind keep U B) (z.set 3 s)=dP (gA ns ds c0 kind keep U Rh) (z.set 3 s):=by
  rw[mZ (S:=srcOf (.lst [A.int 1,.int 2,.int 4]) [A.int 1,.int 2,.int 4]) (Z':=z.set 3 s) (by
   unfold eW;rw[dH (x:=.lst [A.int 1,.int 2,.int 4]) (Z':=z.set 3 s) (by unfold eQ;rw[dH (bG (a:=.int 1) (by simp) (bG (a:=.int 2) (by simp) (bG (a:=.int 4) (by simp) bY)))];simp[K])];simp)]
  exact e4
 rw[bO f1,bO f2,bO f3,bO (qC ed),bO f4];unfold bV;rw[fM (x:=.bl ax) (Z':=z.set 3 s) (by simp)]
end M
namespace Ow
open PySem L2 V2 PyProof.Rows M
noncomputable def top(i:ay):bt:=PySem.Challenge.pw_rankpouch_k82_whole_gaps.main.body.getD i (.Pass ⟨0,0,0,0⟩)
abbrev Ca:bt:=top 10
abbrev Ce:bt:=top 11
abbrev Cf:bt:=top 12
abbrev Br:bt:=top 13
abbrev Ci:bt:=top 14
abbrev Cg:bt:=top 15
abbrev Bv:bt:=top 16
abbrev Bz:bt:=top 19
abbrev Bt:bt:=top 20
abbrev Bs:bt:=top 21
abbrev Ck:bt:=top 23
abbrev Bu:bt:=top 24
abbrev By:bt:=top 25
abbrev Bx:bt:=top 26
abbrev Cj:bt:=top 27
abbrev Bw:bt:=top 28
abbrev Cm:bt:=top 29
abbrev Bp:bt:=top 30
abbrev Cc:bt:=top 31
abbrev zP:bt:=top 33
abbrev zS:bt:=top 35
abbrev Cn:bt:=top 37
abbrev Bq:bt:=top 38
abbrev zQ:bt:=top 39
abbrev zR:bt:=top 41
abbrev Cd:bt:=top 48
abbrev Cb:bt:=top 49
abbrev Cw:bt:=top 51
abbrev Cz:bt:=top 52
abbrev Cu:bt:=top 53
abbrev Co:bt:=top 54
abbrev Dc:bt:=top 55
abbrev Ct:bt:=top 56
abbrev Cy:bt:=top 57
abbrev De:bt:=top 58
abbrev Cs:bt:=top 59
abbrev Dd:bt:=top 60
abbrev Cv:bt:=top 61
abbrev Cq:bt:=top 62
abbrev SW:bt:=top 63
abbrev Cr:bt:=top 64
abbrev Cp:bt:=top 65
abbrev FY:bt:=inClass (top 43) 0
abbrev CI:bt:=inClass (top 43) 1
abbrev Dl:bt:=inClass (top 43) 2
abbrev Dj:bt:=inClass (top 43) 3
abbrev Dk:bt:=inClass (top 43) 4
abbrev Dh:bt:=inClass (top 43) 5
abbrev Dm:bt:=inClass (top 43) 6
abbrev Di:bt:=inClass (top 43) 7
abbrev Dg:bt:=inClass (top 44) 3
abbrev Df:bt:=inClass (top 44) 4
abbrev FZ:bt:=inClass (top 46) 0
abbrev Ds:bt:=inClass (top 46) 1
abbrev Dq:bt:=inClass (top 46) 2
abbrev Dp:bt:=inClass (top 46) 3
abbrev Dy:bt:=inClass (top 46) 4
abbrev Dx:bt:=inClass (top 46) 5
abbrev Dv:bt:=inClass (top 46) 6
abbrev Du:bt:=inClass (top 46) 7
abbrev Dz:bt:=inClass (top 46) 8
abbrev Dw:bt:=inClass (top 46) 9
abbrev Dn:bt:=inClass (top 46) 10
abbrev Ea:bt:=inClass (top 46) 11
abbrev Dr:bt:=inClass (top 46) 12
abbrev xQ:bt:=top 66
structure dB(mg:a5->ar ao):Prop where
 bool:mg "bool" = ak
 enumerate:mg "enumerate" = ak
 int:mg "int" = ak
 isinstance:mg "isinstance" = ak
 len:mg "len" = ak
 list:mg "list" = ak
 max:mg "max" = ak
 min:mg "min" = ak
 range:mg "range" = ak
 reversed:mg "reversed" = ak
 set:mg "set" = ak
 sorted:mg "sorted" = ak
 sum:mg "sum" = ak
 tuple:mg "tuple" = ak
section
variable(P:bf)(w:bo)(K:bg)(mg:a5->ar ao)(base:bx)
abbrev Ty0:=bW P w K mg base "stands_at" 1 ["entry", "place"] JM
abbrev Ty1:=bW P w K mg base "good_alone" 1 ["entry", "slack"] QO
abbrev Nm:=bW P w K mg base "near_enough" 1 ["before", "entry", "slack"] JP
abbrev Nk:=bW P w K mg base "look_row" 1 ["row"] YY
abbrev Ty4:=bW P w K mg base "goes_first" 1 ["entries", "at", "others", "other_at"] JS
abbrev XQ:=bW P w K mg base "bounds_ahead" 1 ["pouch", "at"] rL
abbrev Ty6:=bW P w K mg base "apart" 1 ["ahead", "through"] QQ
abbrev Ng:=bW P w K mg base "summed" 1 ["bounds"] JL
abbrev Ty8:=bW P w K mg base "look_places" 1 ["places", "entries"] Pm
abbrev XO:=bW P w K mg base "_law_mix" 1 ["_law_cell", "_law_k"] vG
abbrev Nq:=bW P w K mg base "_law_number" 1 ["_law_cell", "_law_kind"] vF
abbrev adW:=bW P w K mg base "_law_times" 1 ["_law_cell"] JU
abbrev PV:=bW P w K mg base "_law_counts" 1 ["_law_row", "_law_number_here"] xD
abbrev Np:=bW P w K mg base "_law_pair" 1 ["_law_found", "_law_due", "_law_apart"] qQ
abbrev adV:=bW P w K mg base "_law_figures" 1 ["_law_number_here"] ZE
abbrev adU:=bW P w K mg base "good_beside" 2 ["before", "entry", "slack"] EZ
abbrev Nn:=bW P w K mg base "places_of" 2 ["row"] JN
abbrev adT:=bW P w K mg base "moved" 2 ["entry", "pouch", "at"] QM
abbrev adS:=bW P w K mg base "kept_entries" 2 ["entries", "slack"] QN
abbrev adR:=bW P w K mg base "_law_draws" 2 ["_law_script", "_law_many"] ZF
abbrev adQ:=bW P w K mg base "_law_asked_for" 2 ["_law_row", "_law_cell", "_law_kind"] QV
abbrev adP:=bW P w K mg base "_law_places" 2 ["_law_row", "_law_pouch"] ZD
abbrev adO:=bW P w K mg base "good_entry" 3 ["pouch", "at"] EY
abbrev adN:=bW P w K mg base "merged_entries" 3 ["one", "other"] YX
abbrev adM:=bW P w K mg base "thinned" 3 ["pouch", "keep"] QK
abbrev adL:=bW P w K mg base "look_pouch" 4 ["pouch"] YZ
abbrev Nl:=bW P w K mg base "merged" 4 ["one", "other"] BL
abbrev adK:=cR P w K mg base "Gaps" "newest_pouch" 4 1 [] BQ
abbrev PU:=cR P w K mg base "Gaps" "parts" 5 1 [] qS
abbrev XU:=cR P w K mg base "Gaps" "look_room" 1 2 [] QX
abbrev XT:=cR P w K mg base "Gaps" "take" 6 3 [] FA
abbrev Nj:=cR P w K mg base "Gaps" "upto" 6 2 [] vH
abbrev XS:=cR P w K mg base "Gaps" "length" 1 1 [] qR
abbrev XR:=cR P w K mg base "Gaps" "off" 6 1 [] rM
abbrev adJ:=bW P w K mg base "_law_rest" 7 ["_law_pouch", "_law_row", "_law_number_here"] Pn
abbrev adI:=cR P w K mg base "Gaps" "numbers" 7 1 [] BO
abbrev adH:=bW P w K mg base "_law_near" 8 ["_law_pouch", "_law_row", "_law_cell"] QS
abbrev adG:=bW P w K mg base "_law_counted" 9 ["_law_pouch", "_law_row", "_law_numbers"] QU
abbrev Ni:=cR P w K mg base "Gaps" "join" 8 2 [] zE
abbrev adF:=bW P w K mg base "_law_step" 9 ["_law_pouches", "_law_rows", "_law_draws_here", "_law_kind"] ZC
abbrev Nh:=bW P w K mg base "_law_right" 10 ["_law_pouch", "_law_row", "_law_puts", "_law_keep", "_law_cell", "_law_kind"] QR
abbrev adD:=bW P w K mg base "_law_doubled" 11 ["_law_pouch", "_law_row", "_law_most", "_law_keep", "_law_kind"] QT
end
section
variable{P:bf}{w:bo}{K:bg}{mg:a5->ar ao}{base:bx}
theorem ajH:cM ["pouch", "size", "slack", "depth", "entries"] ["pouch"] (bC Ce):=dM
theorem aAK(B:dB mg)(h:HasFn K mg "good_head" Ce):bW P w K mg base "good_head" 1 ["pouch"] JR :=
 bW.o h ajH λhr=>(aV (cE 1 (bA (vv 0) aG aW))
  (aV (cE 2 (bA (vv 0) aG aW))
  (aV (cE 3 (bA (vv 0) aG aW))
  (aV (cE 4 (bA (vv 0) aG aW))
  (aV (eP (VW.vt (jN (dO mT (vv 1) aG (cO _)) (jN (dO mT (vv 2) aG (cO _)) (mB (dO mT (vv 3) aG (cO _))))))
   (aZ (cK iS))
   eZ)
  (aZ (cK (pD (lU hr.units) (pD (lU hr.units) (vv 1) aG (cO _)) (pD (lU hr.units) (fA kD rfl B.len PySem.boot_len (aE (vv 4) aN)) aG (cO _)) (cO _)))))))))
theorem ai2:cM ["entry", "place"] ["entry", "place"] (bC Br):=dM
theorem az0(B:dB mg)(h:HasFn K mg "stands_at" Br):Ty0 P w K mg base :=
 bW.o h ai2 λhr=>(aZ (cK (RO (pD (lU hr.units) (bA (vv 0) aG aW) (vv 1) (cO _)) (CA (pD (lU hr.units) (bA (vv 0) aG aW) (vv 1) (cO _))))))
theorem ajK:cM ["entry", "slack", "least", "most"] ["entry", "slack"] (bC Ci):=dM
theorem aAN(B:dB mg)(h:HasFn K mg "good_alone" Ci):Ty1 P w K mg base :=
 bW.o h ajK λhr=>(aV (cE 2 (bA (vv 0) aG aW))
  (aV (cE 3 (bA (vv 0) aG aW))
  (aZ (cK (RO (pD qA (vv 2) (vv 3) (cO _)) (CA (pD qA (aY nR (vv 3) (vv 2)) (vv 1) (cO _))))))))
theorem ai7:cM ["before", "entry", "slack"] ["before", "entry", "slack"] (bC Bv):=dM
theorem az8(B:dB mg)(h:HasFn K mg "near_enough" Bv):Nm P w K mg base :=
 bW.o h ai7 λhr=>(aZ (cK (ZX (pD (lU hr.units) (bA (vv 1) aG aW) (bA (vv 0) aG aW) (cO _)) (CA (pD qA (bA (vv 1) aG aW) (aY (dI aq) (aY (dI aq) (bA (vv 0) aG aW) (vv 2)) aG) (cO _))))))
theorem ajB:cM ["row", "length", "at", "run", "times"] ["row"] (bC Bz):=dM
theorem aAC(B:dB mg)(h:HasFn K mg "look_row" Bz)(j:∃t,mg "LONGEST" = ai (.int 1000000000 t)):Nk P w K mg base :=
 bW.o h ajB λhr=>(aV (cE 1 aG)
  (aV (lT bE.passes rfl (ZW rfl B.enumerate (vv 0)) (pB rfl (gQ (eA 2) (gQ (eA 3) oA)))
   (aV (cE 4 (bA (vv 3) aG aW))
   (aV (cE 1 (aY (dI aq) (vv 1) (vv 4)))
   (aZ (eP (VW.vt (jN (dO mT (vv 4) aG (cO _)) (mB (dO uG (vv 1) (Rr rfl j) (cO _)))))
    (aZ vL)
    eZ)))))
  (aZ (cK (vv 1)))))
theorem ai5:cM ["row", "times_of", "number", "times"] ["row"] (bC Bt):=dM
theorem az5(B:dB mg)(h:HasFn K mg "packed" Bt):bW P w K mg base "packed" 1 ["row"] JO :=
 bW.o h ai5 λhr=>(aV (cE 1 KY)
  (aV (lT bE.passes rfl (mC (vv 0)) (pB rfl (gQ (eA 2) (gQ (eA 3) oA)))
   (aZ (RL (cZ.vR hr) (vv 1) (vv 2) (aY (dI aq) (Rt (cZ.vR hr) (vv 1) (vv 2) aG ⟨rfl,rfl,rfl,rfl⟩) (vv 3)))))
  (aZ (cK (xO aq ["number"] [1] (mC (fA (aCY rfl aq) rfl B.sorted boot_sorted (aE (vv 1) aN))) ⟨(eA 0),vN,(pC (aE (vv 0) (aE (Ru (cZ.vR hr) (vv 1) (vv 0) aW) aN)))⟩)))))
theorem ajM:cM [] [] (bC Ck):=dM
theorem aAR(B:dB mg)(h:HasFn K mg "empty" Ck):bW P w K mg base "empty" 1 [] QP:=by
 refine bW.of h ajM (λ_ _ _ _ _ _ j hl=>Si j hl rfl) (λ_ _ _ _ _ _ _ hr=>?_);exact(aZ (cK (pC (aE aG (aE aG (aE aG (aE (iR aq aN) aN)))))))
theorem ajL:cM ["entries", "at", "others", "other_at"] ["entries", "at", "others", "other_at"] (bC Cj):=dM
theorem aAO(B:dB mg)(h:HasFn K mg "goes_first" Cj):Ty4 P w K mg base :=
 bW.o h ajL λhr=>(aV (eP (dO (lU hr.units) (vv 1) (fA kD rfl B.len PySem.boot_len (aE (vv 0) aN)) (cO _))
   (aZ (cK iS))
   eZ)
  (aZ (cK (ZX (pD (lU hr.units) (vv 3) (fA kD rfl B.len PySem.boot_len (aE (vv 2) aN)) (cO _)) (CA (pD qA (bA (bA (vv 0) (vv 1) aW) aG aW) (bA (bA (vv 2) (vv 3) aW) aG aW) (cO _)))))))
theorem ajN:cM ["pouch", "at", "entries", "low", "high"] ["pouch", "at"] (bC Cm):=dM
theorem aAS(B:dB mg)(h:HasFn K mg "bounds_ahead" Cm):XQ P w K mg base :=
 bW.o h ajN λhr=>(aV (cE 2 (bA (vv 0) aG aW))
  (aV (cE 3 (Rq (dO uG (vv 1) aG (cO _)) (bA (bA (vv 2) (aY nR (vv 1) aG) aW) aG aW) aG))
  (aV (cE 4 (Rq (dO mT (vv 1) (fA kD rfl B.len PySem.boot_len (aE (vv 2) aN)) (cO _)) (aY nR (bA (bA (vv 2) (vv 1) aW) aG aW) aG) (bA (vv 0) aG aW)))
  (aZ (cK (pC (aE (vv 3) (aE (vv 4) aN))))))))
theorem ajP:cM ["ahead", "through"] ["ahead", "through"] (bC Cn):=dM
theorem aAU(B:dB mg)(h:HasFn K mg "apart" Cn):Ty6 P w K mg base :=
 bW.o h ajP λhr=>(aZ (cK (pC (aE (fA (WH rfl) rfl B.max boot_max (aE aG (aE (aY nR (bA (vv 1) aG aW) (bA (vv 0) aG aW)) aN))) (aE (aY nR (bA (vv 1) aG aW) (bA (vv 0) aG aW)) aN)))))
theorem ai1:cM ["bounds"] ["bounds"] (bC Bq):=dM
theorem azZ(B:dB mg)(h:HasFn K mg "summed" Bq):Ng P w K mg base :=
 bW.o h ai1 λhr=>(aZ (cK (pC (aE (fA (OR rfl) rfl B.sum boot_sum (aE (xO aq ["pair"] [] (mC (vv 0)) ⟨(eA 0),vN,(bA (vv 0) aG aW)⟩) aN)) (aE (fA (OR rfl) rfl B.sum boot_sum (aE (xO aq ["pair"] [] (mC (vv 0)) ⟨(eA 0),vN,(bA (vv 0) aG aW)⟩) aN)) aN)))))
theorem akC:cM ["self", "keep"] ["self", "keep"] (bC FY):=dM
theorem aDA(B:dB mg)(q:fG K ["Gaps"] "keep")(U:fG K ["Gaps"] "many")(z:fG K ["Gaps"] "taken")(f:au)(j:ao)(A:br)(outer:aj Env)(s:aw)(H:Hp)(E:XK)(hr:cZ 0 (A.deeper (cv "Pouch.__init__" (bC FY) s.heap.objs.size f j))) :
  kZ (nX P w K mg base ["self", "keep"] "Pouch.__init__" (bC FY) f j A outer s H E) (λ_=>E) (fI FY) XB:=by
 exact(aV (vM (vv 0) (vv 1) q)
  (aV (vM (vv 0) aG U)
  (aZ (vM (vv 0) aG z))))
theorem azN(B:dB mg)(z:fG K ["Gaps"] "keep")(a:fG K ["Gaps"] "many")(U:fG K ["Gaps"] "taken"){j:a5}(h:YW K mg j "__init__" "Pouch.__init__" FY):EW P w K mg base j "__init__" 1 2 QY:=EW.of h akC (λ_ _ _ _ _ _ q hl=>tY q hl aW) (aDA B z a U)
theorem aj8:cM ["self", "more"] ["self", "more"] (bC Dj):=dM
theorem aBF(B:dB mg)(q:∃t,mg "LONGEST" = ai (.int 1000000000 t))(j:fG K ["Gaps"] "many"){cls:a5}(h:lQ K mg cls "look_room" "Pouch.look_room" Dj):cR P w K mg base cls "look_room" 1 2 [] QX :=
 cR.o h aj8 λhr=>(aZ (eP (dO uG (aY (dI aq) (nO (vv 0) j) (vv 1)) (Rr rfl q) (cO _))
   (aZ vL)
   eZ))
theorem aj9:cM ["self"] ["self"] (bC Dk):=dM
theorem aBG(B:dB mg)(j:fG K ["Gaps"] "many"){cls:a5}(h:lQ K mg cls "length" "Pouch.length" Dk):cR P w K mg base cls "length" 1 1 [] qR :=
 cR.o h aj9 λhr=>(aZ (cK (nO (vv 0) j)))
theorem aj6:cM ["self"] ["self"] (bC Dh):=dM
theorem aBC(B:dB mg)(j:fG K ["Gaps"] "taken"){cls:a5}(h:lQ K mg cls "puts" "Pouch.puts" Dh):cR P w K mg base cls "puts" 1 1 [] BN :=
 cR.o h aj6 λhr=>(aZ (cK (nO (vv 0) j)))
theorem akH:cM ["self", "other"] ["self", "other"] (bC Ds):=dM
theorem aBN(B:dB mg)(j:Ph K mg "Gaps")(q:Pb K ["Gaps"]){cls:a5}(h:lQ K mg cls "same_kind" "Gaps.same_kind" Ds):cR P w K mg base cls "same_kind" 1 2 [] RA :=
 cR.o h akH λhr=>(aZ (cK (fA (aC1 q) rfl B.isinstance IA (aE (vv 1) (aE (afV j rfl) aN)))))
theorem ajD:cM ["places", "entries", "place", "at", "entry", "stands"] ["places", "entries"] (bC Cb):=dM
theorem aAE(B:dB mg)(h:HasFn K mg "look_places" Cb):Ty8 P w K mg base :=
 bW.o h ajD λhr=>(aV (cE 2 aG)
  (aZ (lT bE.passes rfl (ZW rfl B.enumerate (vv 1)) (pB rfl (gQ (eA 3) (gQ (eA 4) oA)))
   (aV (eP (afH (cZ.vR hr) (bA (vv 4) aG aW) (vv 0))
    (aZ vL)
    eZ)
   (aV (cE 5 (Ru (cZ.vR hr) (vv 0) (bA (vv 4) aG aW) aW))
   (aV (cE 2 (fA (aC0 rfl) rfl B.max boot_max (aE (aY (dI aq) (vv 2) aG) (aE (bA (vv 4) aG aW) (aE (bA (vv 5) aG aW) aN)))))
   (aZ (eP (VW.vt (jN (dO uG (vv 2) (bA (vv 4) aG aW) (cO _)) (mB (dO uG (vv 2) (bA (vv 5) aG aW) (cO _)))))
    (aZ vL)
    eZ))))))))
theorem ajY:cM ["_law_cell", "_law_k", "_law_first"] ["_law_cell", "_law_k"] (bC Cw):=dM
theorem aA3(B:dB mg)(h:HasFn K mg "_law_mix" Cw):XO P w K mg base :=
 bW.o h ajY λhr=>(aV (cE 2 (aY jQ (aY mS (aY (dI aq) (vv 0) aG) (aY (dI aq) aG (aY mS aG (vv 1)))) aG))
  (aZ (cK (aY jQ (aY (dI aq) (aY (dI aq) (aY mS (aY pH (vv 2) aG) aG) (aY mS (vv 2) (aY (dI aq) (aY mS (vv 1) (vv 1)) aG))) (vv 1)) aG))))
theorem ajW:cM ["_law_cell", "_law_kind"] ["_law_cell", "_law_kind"] (bC Cu):=dM
theorem aA1(B:dB mg)(h:HasFn K mg "_law_number" Cu):Nq P w K mg base :=
 bW.o h ajW λhr=>(aV (eP (dO (lU hr.units) (vv 1) aG (cO _))
   (aZ (cK (aY jQ (vv 0) aG)))
   eZ)
  (aV (eP (dO (lU hr.units) (vv 1) aG (cO _))
   (aZ (cK (aY nR (aY jQ (vv 0) aG) aG)))
   eZ)
  (aV (eP (dO (lU hr.units) (vv 1) aG (cO _))
   (aZ (cK (aY nR (aY jQ (aY mS (vv 0) aG) (aY (dI aq) (aY mS aG (aY TM aG aG)) aG)) (aY TM aG aG))))
   eZ)
  (aV (eP (dO (lU hr.units) (vv 1) aG (cO _))
   (aZ (cK aG))
   eZ)
  (aZ (cK (bA (iR aq (aE (aY (dI aq) (aY mS (vv 0) (aY TM aG aG)) aG) (aE (aY nR aG (aY mS (vv 0) (aY TM aG aG))) (aE (vv 0) (aE (aY nR aG (vv 0)) aN))))) (aY jQ (vv 0) aG) aW)))))))
theorem ajQ:cM ["_law_cell"] ["_law_cell"] (bC Co):=dM
theorem aAV(B:dB mg)(h:HasFn K mg "_law_times" Co):adW P w K mg base :=
 bW.o h ajQ λhr=>(aZ (cK (bA (iR aq (aE aG (aE aG (aE (aY (dI aq) aG (aY jQ (aY pH (vv 0) aG) aG)) (aE (aY (dI aq) aG (aY jQ (aY pH (vv 0) aG) aG)) aN))))) (aY jQ (vv 0) aG) aW)))
theorem aj1:cM ["_law_row", "_law_number_here", "_law_under", "_law_many", "_law_value", "_law_times_here"] ["_law_row", "_law_number_here"] (bC Dc):=dM
theorem aA7(B:dB mg)(h:HasFn K mg "_law_counts" Dc):PV P w K mg base :=
 bW.o h aj1 λhr=>(aV (cE 2 aG)
  (aV (cE 3 aG)
  (aV (lT bE.passes rfl (mC (vv 0)) (pB rfl (gQ (eA 4) (gQ (eA 5) oA)))
   (aV (eP (dO mT (vv 4) (vv 1) (cO _))
    (aZ (cE 2 (aY (dI aq) (vv 2) (vv 5))))
    eZ)
   (aZ (eP (dO qA (vv 4) (vv 1) (cO _))
    (aZ (cE 3 (aY (dI aq) (vv 3) (vv 5))))
    eZ))))
  (aZ (cK (pC (aE (vv 2) (aE (vv 3) aN))))))))
theorem ajV:cM ["_law_found", "_law_due", "_law_apart"] ["_law_found", "_law_due", "_law_apart"] (bC Ct):=dM
theorem aA0(B:dB mg)(h:HasFn K mg "_law_pair" Ct):Np P w K mg base :=
 bW.o h ajV λhr=>(aV (eP (VW.vt (jN (mO (lS (fA HY rfl B.isinstance IA (aE (vv 0) (aE (FH rfl B.tuple PyProof.Rows.boot_tuple) aN))))) (mB (dO (rS hr.units) (fA kD rfl B.len PySem.boot_len (aE (vv 0) aN)) aG (cO _)))))
   (aZ (cK iS))
   eZ)
  (aV (eP (VW.vt (jN (mO (lS (fA HY rfl B.isinstance IA (aE (bA (vv 0) aG aW) (aE (FH rfl B.int PyProof.Rows.boot_int) aN))))) (mB (mO (lS (fA HY rfl B.isinstance IA (aE (bA (vv 0) aG aW) (aE (FH rfl B.int PyProof.Rows.boot_int) aN))))))))
   (aZ (cK iS))
   eZ)
  (aV (eP (VW.vt (jN (lS (fA HY rfl B.isinstance IA (aE (bA (vv 0) aG aW) (aE (FH rfl B.bool PyProof.Rows.boot_bool) aN)))) (mB (lS (fA HY rfl B.isinstance IA (aE (bA (vv 0) aG aW) (aE (FH rfl B.bool PyProof.Rows.boot_bool) aN)))))))
   (aZ (cK iS))
   eZ)
  (aZ (cK (RO (af1 qA qA qA aG (bA (vv 0) aG aW) (vv 1) (bA (vv 0) aG aW)) (CA (pD qA (aY nR (bA (vv 0) aG aW) (bA (vv 0) aG aW)) (vv 2) (cO _)))))))))
theorem ajZ:cM ["_law_number_here", "_law_found"] ["_law_number_here"] (bC Cy):=dM
theorem aA4(B:dB mg)(h:HasFn K mg "_law_figures" Cy):adV P w K mg base :=
 bW.o h ajZ λhr=>(aV (cE 1 aG)
  (aV (KU (λ_ _=>1000000) bE.passes (dO uG (vv 0) aG (cO _))
   (aV (cE 1 (aY (dI aq) (vv 1) aG))
   (aZ (cE 0 (aY pH (vv 0) aG)))))
  (aZ (cK (vv 1)))))
theorem ajJ:cM ["before", "entry", "slack"] ["before", "entry", "slack"] (bC Cg):=dM
theorem aAM(B:dB mg)(h:HasFn K mg "good_beside" Cg)(j:Nm P w K mg base):adU P w K mg base :=
 bW.o h ajJ λhr=>(aV (eP (VW.vt (jN (dO mT (bA (vv 1) aG aW) (bA (vv 0) aG aW) (cO _)) (jN (dO qA (bA (vv 1) aG aW) (bA (vv 0) aG aW) (cO _)) (mB (dO qA (bA (vv 1) aG aW) (bA (vv 0) aG aW) (cO _))))))
   (aZ (cK iS))
   eZ)
  (aZ (cK (dY bE j hr.m rfl (aE (vv 0) (aE (vv 1) (aE (vv 2) aN)))))))
theorem ai4:cM ["row", "places", "length", "number", "times"] ["row"] (bC Bs):=dM
theorem az4(B:dB mg)(h:HasFn K mg "places_of" Bs)(j:bW P w K mg base "packed" 1 ["row"] JO):Nn P w K mg base :=
 bW.o h ai4 λhr=>(aV (cE 1 KY)
  (aV (cE 2 aG)
  (aV (lT bE.passes rfl (mC (dY bE j hr.m rfl (aE (vv 0) aN))) (pB rfl (gQ (eA 3) (gQ (eA 4) oA)))
   (aV (RL (cZ.vR hr) (vv 1) (vv 3) (pC (aE (aY (dI aq) (vv 2) aG) (aE (aY (dI aq) (vv 2) (vv 4)) aN))))
   (aZ (cE 2 (aY (dI aq) (vv 2) (vv 4))))))
  (aZ (cK (vv 1))))))
theorem ai8:cM ["entry", "pouch", "at", "ahead"] ["entry", "pouch", "at"] (bC Bw):=dM
theorem az9(B:dB mg)(h:HasFn K mg "moved" Bw)(j:XQ P w K mg base):adT P w K mg base :=
 bW.o h ai8 λhr=>(aV (cE 3 (dY bE j hr.m rfl (aE (vv 1) (aE (vv 2) aN))))
  (aZ (cK (pC (aE (bA (vv 0) aG aW) (aE (aY (dI aq) (bA (vv 0) aG aW) (bA (vv 3) aG aW)) (aE (aY (dI aq) (bA (vv 0) aG aW) (bA (vv 3) aG aW)) aN)))))))
theorem ajF:cM ["entries", "slack", "kept", "last", "at", "entry"] ["entries", "slack"] (bC Cc):=dM
theorem aAH(B:dB mg)(h:HasFn K mg "kept_entries" Cc)(j:Nm P w K mg base):adS P w K mg base :=
 bW.o h ajF λhr=>(aV (cE 2 (iR ax aN))
  (aV (cE 3 (aY nR (fA kD rfl B.len PySem.boot_len (aE (vv 0) aN)) aG))
  (aV (lT bE.passes rfl (ZW rfl B.enumerate (vv 0)) (pB rfl (gQ (eA 4) (gQ (eA 5) oA)))
   (aZ (eP (VW.vt (jN (dO (lU hr.units) (vv 4) aG (cO _)) (jN (dO (lU hr.units) (vv 4) (vv 3) (cO _)) (mB (mO (lS (dY bE j hr.m rfl (aE (bA (vv 2) (Rp aG) aW) (aE (bA (vv 0) (aY (dI aq) (vv 4) aG) aW) (aE (vv 1) aN))))))))))
    (aZ (kM (xN PySem.F.plainAttrs_list PySem.F.slot_list_append PySem.F.type_list_append zZ AD (vv 2) (aE (vv 5) aN))))
    eZ)))
  (aZ (cK (vf 2))))))
theorem Bn:cM ["entries", "holds", "start", "end", "middle"] ["entries", "holds"] (bC zR):=dM
theorem Kv(B:dB mg){qual:a5}{params:cz}{body:bp}{scope:b9}{y:a5}{cs:aj a5}{fb:Ev->Mo A}(d:JF scope y cs)(g:∀(u:ao) cl U c' c,c3 (kla_fn "<lambda>" qual params body scope cl U (.ref c') c) ⟨[u],[]⟩=pure [(y,u)])(q:aeR P w K mg base qual body scope y cs fb) :
  ∀(j:au) (dX:aj (a5×av)),dX.map (·.1)=cs->∀(f:au) (z:ao) (A:br) (outer:aj Env) (s:aw) (H:Hp) (E:XK),cZ 1 (A.deeper (cv "first_where" (bC zR) s.heap.objs.size f z))->xA s.heap H j qual params body scope dX ->
   kZ (nX P w K mg base ["entries", "holds", "start", "end", "middle"] "first_where" (bC zR) f z A outer s H E) (λ_=>E) (fI zR) (ED j (lV fb (dX.map (·.2)))):=by
 intro j dX a f z A outer s H E hr e;subst a;have S:=d;have b:=q;exact(aV (cE 2 aG)
  (aV (cE 3 (fA kD rfl B.len PySem.boot_len (aE (vv 0) aN)))
  (aV (KU (λ_ _=>1000000) bE.passes (dO mT (vv 2) (vv 3) (cO _))
   (aV (cE 4 (aY pH (aY (dI aq) (vv 2) (vv 3)) aG))
   (aZ (eP (lS (afT (i:=1) rfl e S hr.m g b rfl oIr (bA (vv 0) (vv 4) aW)))
    (aZ (cE 3 (vv 4)))
    (aZ (cE 2 (aY (dI aq) (vv 4) aG)))))))
  (aZ (cK (vv 2))))))
theorem aj0:cM ["_law_script", "_law_many", "_law_rest_here", "_law_seeds", "_law_found", "_law_k", "_law_seed"] ["_law_script", "_law_many"] (bC Cz):=dM
theorem aA5(B:dB mg)(h:HasFn K mg "_law_draws" Cz)(j:XO P w K mg base):adR P w K mg base :=
 bW.o h aj0 λhr=>(aV (cE 2 (iR ax (aE aG aN)))
  (aV (eP (dO (apS hr.units) (vv 0) (iR aq aN) (cO _))
   (aZ (cE 2 (aY (dI ax) (iR aq (aE (aY pH (bA (vv 0) aG aW) aG) aN)) (Aa (Kr aq) rfl B.list XZ (aE (Ro aq (vv 0) (ZV aG) afM) aN)))))
   eZ)
  (aV (cE 3 (Aa (Kr aq) rfl B.list XZ (aE (vv 2) aN)))
  (aV (cE 4 (iR ax aN))
  (aV (KU (λ_ _=>1000000) bE.passes (dO mT (fA kD rfl B.len PySem.boot_len (aE (vv 4) aN)) (vv 1) (cO _))
   (aZ (lT bE.passes rfl (FG rfl B.range (aE (fA kD rfl B.len PySem.boot_len (aE (vv 2) aN)) aN)) (eA 5)
    (aZ (eP (VW.vt (jN (dO (lU hr.units) (bA (vv 2) (vv 5) aW) aG (cO _)) (mB (dO (lU hr.units) (aY jQ (bA (vv 0) aG aW) aG) aG (cO _)))))
     (aV (cE 6 (dY bE j hr.m rfl (aE (aY jQ (bA (vv 3) (vv 5) aW) aG) (aE (aY (dI aq) (fA kD rfl B.len PySem.boot_len (aE (vv 4) aN)) aG) aN))))
     (aZ (kM (xN PySem.F.plainAttrs_list PySem.F.slot_list_append PySem.F.type_list_append zZ AD (vv 4) (aE (dY bE j hr.m rfl (aE (vv 6) (aE (aY (dI aq) (aY jQ (aY mS (fA kD rfl B.len PySem.boot_len (aE (vv 4) aN)) (fA kD rfl B.len PySem.boot_len (aE (vv 4) aN))) aG) aG) aN))) aN)))))
     (aV (kM (xN PySem.F.plainAttrs_list PySem.F.slot_list_append PySem.F.type_list_append zZ AD (vv 4) (aE (aY jQ (bA (vv 2) (vv 5) aW) aG) aN)))
     (aZ (xM (aY apU (bA (vv 2) (vv 5) aW) aG) (RM (vv 2) (vv 5))))))))))
  (aZ (cK (vf 4))))))))
theorem aj3:cM ["_law_row", "_law_cell", "_law_kind", "_law_found", "_law_k", "_law_step_here", "_law_number_here"] ["_law_row", "_law_cell", "_law_kind"] (bC De):=dM
theorem aA9(B:dB mg)(h:HasFn K mg "_law_asked_for" De)(j:XO P w K mg base)(q:Nq P w K mg base):adQ P w K mg base :=
 bW.o h aj3 λhr=>(aV (cE 3 (iR ax aN))
  (aV (lT bE.passes rfl (FG rfl B.range (aE aG aN)) (eA 4)
   (aV (cE 5 (dY bE j hr.m rfl (aE (vv 1) (aE (aY (dI aq) aG (vv 4)) aN))))
   (aV (cE 6 (dY bE q hr.m rfl (aE (vv 5) (aE (vv 2) aN))))
   (aV (eP (VW.vt (KS (dO (rS hr.units) (vv 0) (iR aq aN) (cO _)) (KR (dO mT (vv 4) aG (cO _)))))
    (aZ (cE 6 (aY (dI aq) (bA (bA (vv 0) (aY jQ (vv 5) (fA kD rfl B.len PySem.boot_len (aE (vv 0) aN))) aW) aG aW) (bA (iR aq (aE aG (aE aG (aE aG (aE (Rp aG) aN))))) (aY jQ (aY pH (vv 5) aG) aG) aW))))
    eZ)
   (aZ (kM (xN PySem.F.plainAttrs_list PySem.F.slot_list_append PySem.F.type_list_append zZ AD (vv 3) (aE (vv 6) aN))))))))
  (aZ (cK (vf 3)))))
theorem ajU:cM ["_law_row", "_law_pouch", "_law_behind", "_law_entry", "_law_number_here", "_law_least", "_law_most", "_law_under", "_law_many"] ["_law_row", "_law_pouch"] (bC Cs):=dM
theorem aAZ(B:dB mg)(h:HasFn K mg "_law_places" Cs)(j:PV P w K mg base):adP P w K mg base :=
 bW.o h ajU λhr=>(aV (cE 2 (aY (dI aq) (bA (vv 1) aG aW) aG))
  (aV (lT bE.passes rfl (afN rfl B.reversed (bA (vv 1) aG aW)) (eA 3)
   (aV (eP (VW.vt (jN (mO (lS (fA HY rfl B.isinstance IA (aE (vv 3) (aE (FH rfl B.tuple PyProof.Rows.boot_tuple) aN))))) (mB (dO (rS hr.units) (fA kD rfl B.len PySem.boot_len (aE (vv 3) aN)) aG (cO _)))))
    (aZ (cK iS))
    eZ)
   (aV (xM (vv 3) (pB rfl (gQ (eA 4) (gQ (eA 5) (gQ (eA 6) oA)))))
   (aV (xM (dY bE j hr.m rfl (aE (vv 0) (aE (vv 4) aN))) (pB rfl (gQ (eA 7) (gQ (eA 8) oA))))
   (aV (cE 2 (fA (aCZ rfl) rfl B.min boot_min (aE (aY nR (vv 2) aG) (aE (vv 6) (aE (vv 8) aN)))))
   (aZ (eP (VW.vt (jN (dO mT (vv 2) (vv 5) (cO _)) (mB (dO mT (vv 2) (aY (dI aq) (vv 7) aG) (cO _)))))
    (aZ (cK iS))
    eZ)))))))
  (aZ (cK iS))))
theorem ajI:cM ["pouch", "at", "size", "slack", "entries", "entry"] ["pouch", "at"] (bC Cf):=dM
theorem aAL(B:dB mg)(h:HasFn K mg "good_entry" Cf)(q:Ty1 P w K mg base)(z:adU P w K mg base)(j:Ty0 P w K mg base):adO P w K mg base :=
 bW.o h ajI λhr=>(aV (cE 2 (bA (vv 0) aG aW))
  (aV (cE 3 (bA (vv 0) aG aW))
  (aV (cE 4 (bA (vv 0) aG aW))
  (aV (cE 5 (bA (vv 4) (vv 1) aW))
  (aV (eP (VW.vt (KS (dO (lU hr.units) (vv 1) aG (cO _)) (KR (mO (lS (dY bE j hr.m rfl (aE (vv 5) (aE aG aN))))))))
   (aZ (cK iS))
   eZ)
  (aV (eP (VW.vt (KS (dO (lU hr.units) (vv 1) (aY nR (fA kD rfl B.len PySem.boot_len (aE (vv 4) aN)) aG) (cO _)) (KR (mO (lS (dY bE j hr.m rfl (aE (vv 5) (aE (vv 2) aN))))))))
   (aZ (cK iS))
   eZ)
  (aV (eP (mO (lS (dY bE q hr.m rfl (aE (vv 5) (aE (vv 3) aN)))))
   (aZ (cK iS))
   eZ)
  (aZ (cK (ZX (pD (lU hr.units) (vv 1) aG (cO _)) (CA (dY bE z hr.m rfl (aE (bA (vv 4) (aY nR (vv 1) aG) aW) (aE (vv 5) (aE (vv 3) aN)))))))))))))))
theorem ai6:cM ["row", "entries", "number", "stands"] ["row"] (bC Bu):=dM
theorem az6(B:dB mg)(h:HasFn K mg "of_row" Bu)(j:Nk P w K mg base)(q:Nn P w K mg base):bW P w K mg base "of_row" 3 ["row"] QL :=
 bW.o h ai6 λhr=>(aV (cE 1 (iR ax aN))
  (aV (lT bE.passes rfl (afO (dY bE q hr.m rfl (aE (vv 0) aN))) (pB rfl (gQ (eA 2) (gQ (eA 3) oA)))
   (aV (kM (xN PySem.F.plainAttrs_list PySem.F.slot_list_append PySem.F.type_list_append zZ AD (vv 1) (aE (pC (aE (vv 2) (aE (bA (vv 3) aG aW) (aE (bA (vv 3) aG aW) aN)))) aN)))
   (aZ (eP (dO (rS hr.units) (bA (vv 3) aG aW) (bA (vv 3) aG aW) (cO _))
    (aZ (kM (xN PySem.F.plainAttrs_list PySem.F.slot_list_append PySem.F.type_list_append zZ AD (vv 1) (aE (pC (aE (vv 2) (aE (bA (vv 3) aG aW) (aE (bA (vv 3) aG aW) aN)))) aN))))
    eZ))))
  (aZ (cK (pC (aE (dY bE j hr.m rfl (aE (vv 0) aN)) (aE aG (aE aG (aE (vf 1) aN)))))))))
theorem ai9:cM ["one", "other", "entries", "at", "other_at"] ["one", "other"] (bC Bx):=dM
theorem aAA(B:dB mg)(h:HasFn K mg "merged_entries" Bx)(q:Ty4 P w K mg base)(j:adT P w K mg base):adN P w K mg base :=
 bW.o h ai9 λhr=>(aV (cE 2 (iR ax aN))
  (aV (cE 3 aG)
  (aV (cE 4 aG)
  (aV (KU (λ_ _=>1000000) bE.passes (VW.vt (jN (dO mT (vv 3) (fA kD rfl B.len PySem.boot_len (aE (bA (vv 0) aG aW) aN)) (cO _)) (mB (dO mT (vv 4) (fA kD rfl B.len PySem.boot_len (aE (bA (vv 1) aG aW) aN)) (cO _)))))
   (aZ (eP (lS (dY bE q hr.m rfl (aE (bA (vv 0) aG aW) (aE (vv 3) (aE (bA (vv 1) aG aW) (aE (vv 4) aN))))))
    (aV (kM (xN PySem.F.plainAttrs_list PySem.F.slot_list_append PySem.F.type_list_append zZ AD (vv 2) (aE (dY bE j hr.m rfl (aE (bA (bA (vv 0) aG aW) (vv 3) aW) (aE (vv 1) (aE (vv 4) aN)))) aN)))
    (aZ (cE 3 (aY (dI aq) (vv 3) aG))))
    (aV (kM (xN PySem.F.plainAttrs_list PySem.F.slot_list_append PySem.F.type_list_append zZ AD (vv 2) (aE (dY bE j hr.m rfl (aE (bA (bA (vv 1) aG aW) (vv 4) aW) (aE (vv 0) (aE (vv 3) aN)))) aN)))
    (aZ (cE 4 (aY (dI aq) (vv 4) aG)))))))
  (aZ (cK (vf 2)))))))
theorem ai0:cM ["pouch", "keep", "size", "slack"] ["pouch", "keep"] (bC Bp):=dM
theorem azY(B:dB mg)(h:HasFn K mg "thinned" Bp)(j:adS P w K mg base):adM P w K mg base :=
 bW.o h ai0 λhr=>(aV (cE 2 (bA (vv 0) aG aW))
  (aV (cE 3 (aY (dI aq) (bA (vv 0) aG aW) (aY pH (vv 2) (vv 1))))
  (aZ (cK (pC (aE (vv 2) (aE (vv 3) (aE (aY (dI aq) (bA (vv 0) aG aW) aG) (aE (dY bE j hr.m rfl (aE (bA (vv 0) aG aW) (aE (vv 3) aN))) aN)))))))))
theorem aiZ:cM ["pouch", "number"] ["pouch", "number"] (bC zP):=dM
theorem azX(B:dB mg)(h:HasFn K mg "upto" zP)(U:XQ P w K mg base)(b:HasFn K mg "first_where" zR)(q:EG K mg base "upto"):bW P w K mg base "upto" 3 ["pouch", "number"] JK:=by
 refine bW.ofT h q aiZ (λ_ _ _ _ _ _ j hl=>tY j hl aW) (λc n e d f A outer s H E hr=>?_);exact(aZ (cK (dY bE U hr.m rfl (aE (vv 0) (aE (ZY (k:=0) (js:=[1]) (cs:=["number"]) (y := "entry") (fb:=IB) (bfw:=ED) (kf:=1) e d q.blt rfl rfl rfl (JJ.of (bC zP) ["pouch", "number"] rfl rfl (by decide +kernel)) b rfl Bn (λ_ _ _ _ _ _ j hl=>tY j hl aW) (λi=>Kv B i (λ_ _ _ _ _=>rfl) (λf l cl A outer s H hr=>(pD uG (bA (vv 0) aG aW) (vv 1) (cO _)))) (λg ns a z r h=>M.Jq g _ a z r h) hr.m rfl (bA (vv 0) aG aW)) aN)))))
theorem ajO:cM ["pouch", "number"] ["pouch", "number"] (bC zS):=dM
theorem aAT(B:dB mg)(h:HasFn K mg "below" zS)(U:XQ P w K mg base)(b:HasFn K mg "first_where" zR)(q:EG K mg base "below"):bW P w K mg base "below" 3 ["pouch", "number"] JT:=by
 refine bW.ofT h q ajO (λ_ _ _ _ _ _ j hl=>tY j hl aW) (λc n e d f A outer s H E hr=>?_);exact(aZ (cK (dY bE U hr.m rfl (aE (vv 0) (aE (ZY (k:=1) (js:=[1]) (cs:=["number"]) (y := "entry") (fb:=IF) (bfw:=ED) (kf:=1) e d q.blt rfl rfl rfl (JJ.of (bC zS) ["pouch", "number"] rfl rfl (by decide +kernel)) b rfl Bn (λ_ _ _ _ _ _ j hl=>tY j hl aW) (λi=>Kv B i (λ_ _ _ _ _=>rfl) (λf l cl A outer s H hr=>(pD Wq (bA (vv 0) aG aW) (vv 1) (cO _)))) (λg ns a z r h=>M.Jq g _ a z r h) hr.m rfl (bA (vv 0) aG aW)) aN)))))
theorem ai3:cM ["pouch", "place", "entries", "farthest"] ["pouch", "place"] (bC zQ):=dM
theorem az1(B:dB mg)(h:HasFn K mg "so_manieth" zQ)(U:HasFn K mg "first_where" zR)(q:EG K mg base "so_manieth"):bW P w K mg base "so_manieth" 3 ["pouch", "place"] EX:=by
 refine bW.ofT h q ai3 (λ_ _ _ _ _ _ j hl=>tY j hl aW) (λc l d b f A outer s H E hr=>?_);exact(aV (eP (VW.vt (jN (dO mT (vv 1) aG (cO _)) (mB (dO uG (vv 1) (bA (vv 0) aG aW) (cO _)))))
   (aZ vL)
   eZ)
  (aV (cE 2 (bA (vv 0) aG aW))
  (aV (cE 3 (aY (dI aq) (vv 1) (aY pH (aY (dI aq) (bA (vv 0) aG aW) aG) aG)))
  (aZ (cK (bA (bA (vv 2) (aY nR (ZY (k:=2) (js:=[3]) (cs:=["farthest"]) (y := "entry") (fb:=ID) (bfw:=ED) (kf:=1) d b q.blt rfl rfl rfl (JJ.of (bC zQ) ["pouch", "place", "entries", "farthest"] rfl rfl (by decide +kernel)) U rfl Bn (λ_ _ _ _ _ _ j hl=>tY j hl aW) (λg=>Kv B g (λ_ _ _ _ _=>rfl) (λf i cl A outer s H hr=>(pD uG (bA (vv 0) aG aW) (vv 1) (cO _)))) (λe ns a z r h=>M.Jq e _ a z r h) hr.m rfl (vv 2)) aG) aW) aG aW))))))
theorem akP:cM ["self", "keep"] ["self", "keep"] (bC FZ):=dM
theorem aDB(B:dB mg)(U:EW P w K mg base "RankPouch" "__init__" 1 2 QY)(q:fG K ["Gaps"] "laid")(z:fG K ["Gaps"] "newest")(f:au)(j:ao)(A:br)(outer:aj Env)(s:aw)(H:Hp)(E:XK)(hr:cZ 2 (A.deeper (cv "Gaps.__init__" (bC FZ) s.heap.objs.size f j))) :
  kZ (nX P w K mg base ["self", "keep"] "Gaps.__init__" (bC FZ) f j A outer s H E) (λ_=>E) (fI FZ) XG:=by
 exact(aV (kM (af2 bE U rfl hr.m (aE (vv 0) (aE (vv 1) aN))))
  (aV (ZT (vM (vv 0) KY z))
  (aZ (ZT (vM (vv 0) KY q)))))
theorem azL(B:dB mg)(U:EW P w K mg base "RankPouch" "__init__" 1 2 QY)(q:fG K ["Gaps"] "laid")(z:fG K ["Gaps"] "newest"){cls:a5}(h:Pg K mg cls "Gaps.__init__" FZ):IS P w K mg base cls 3 2 vI:=IS.of h akP (λ_ _ _ _ _ _ j hl=>tY j hl aW) (aDB B U q z)
theorem ajC:cM ["pouch", "at"] ["pouch"] (bC Ca):=dM
theorem aAD(B:dB mg)(h:HasFn K mg "look_pouch" Ca)(j:adO P w K mg base)(q:bW P w K mg base "good_head" 1 ["pouch"] JR):adL P w K mg base :=
 bW.o h ajC λhr=>(aV (eP (mO (lS (dY bE q hr.m rfl (aE (vv 0) aN))))
   (aZ vL)
   eZ)
  (aV (lT bE.passes rfl (FG rfl B.range (aE (fA kD rfl B.len PySem.boot_len (aE (bA (vv 0) aG aW) aN)) aN)) (eA 1)
   (aZ (eP (mO (lS (dY bE j hr.m rfl (aE (vv 0) (aE (vv 1) aN)))))
    (aZ vL)
    eZ)))
  (aZ (cK iS))))
theorem ajA:cM ["one", "other", "size", "slack", "depth"] ["one", "other"] (bC By):=dM
theorem aAB(B:dB mg)(h:HasFn K mg "merged" By)(j:adN P w K mg base):Nl P w K mg base :=
 bW.o h ajA λhr=>(aV (cE 2 (aY (dI aq) (bA (vv 0) aG aW) (bA (vv 1) aG aW)))
  (aV (cE 3 (aY (dI aq) (bA (vv 0) aG aW) (bA (vv 1) aG aW)))
  (aV (cE 4 (fA (WH rfl) rfl B.max boot_max (aE (bA (vv 0) aG aW) (aE (bA (vv 1) aG aW) aN))))
  (aZ (cK (pC (aE (vv 2) (aE (vv 3) (aE (vv 4) (aE (dY bE j hr.m rfl (aE (vv 0) (aE (vv 1) aN))) aN))))))))))
theorem akL:cM ["self"] ["self"] (bC Dx):=dM
theorem aBR(B:dB mg)(q:bW P w K mg base "of_row" 3 ["row"] QL)(j:fG K ["Gaps"] "newest"){cls:a5}(h:lQ K mg cls "newest_pouch" "Gaps.newest_pouch" Dx):cR P w K mg base cls "newest_pouch" 4 1 [] BQ :=
 cR.o h akL λhr=>(aZ (cK (dY bE q hr.m rfl (aE (ZZ aq rfl (vv 0) j rfl B.list) aN))))
theorem akM:cM ["self", "part", "level"] ["self", "part", "level"] (bC Dy):=dM
theorem aBS(B:dB mg)(U:Nl P w K mg base)(z:adM P w K mg base)(q:fG K ["Gaps"] "keep")(j:fG K ["Gaps"] "laid"){cls:a5}(h:lQ K mg cls "lay" "Gaps.lay" Dy):cR P w K mg base cls "lay" 5 3 [] BR :=
 cR.o h akM λhr=>(aV (KU (λ_ _=>1000000) bE.passes (afG (cZ.vR hr) (vv 2) (vv 0) j)
   (aV (ZS (i:=0) (f := "laid") (cE 1 (dY bE z hr.m rfl (aE (dY bE U hr.m rfl (aE (afZ (nO (vv 0) j) (vv 2) ⟨rfl,rfl,rfl,rfl⟩) (aE (vv 1) aN))) (aE (nO (vv 0) q) aN)))))
   (aZ (cE 2 (aY (dI aq) (vv 2) aG)))))
  (aZ (ZS (i:=0) (f := "laid") (RL (cZ.vR hr) (nO (vv 0) j) (vv 2) (vv 1)))))
theorem akJ:cM ["self"] ["self"] (bC Dv):=dM
theorem aBP(B:dB mg)(j:fG K ["Gaps"] "laid")(q:adK P w K mg base){cls:a5}(h:lQ K mg cls "parts" "Gaps.parts" Dv):cR P w K mg base cls "parts" 5 1 [] qS :=
 cR.o h akJ λhr=>(aZ (cK (aY (dI aq) (iR aq (aE (jW bE (bX.cons q hr.m bX.nil) (vv 0)) aN)) (afX aq rfl (vv 0) j rfl B.list))))
theorem ajG:cM ["row", "pouch", "length"] ["row", "pouch"] (bC Cd):=dM
theorem aAI(B:dB mg)(h:HasFn K mg "judge" Cd)(j:Ty8 P w K mg base)(q:adL P w K mg base)(z:Nk P w K mg base)(U:Nn P w K mg base):bW P w K mg base "judge" 5 ["row", "pouch"] JQ :=
 bW.o h ajG λhr=>(aV (cE 2 (dY bE z hr.m rfl (aE (vv 0) aN)))
  (aV (kM (dY bE q hr.m rfl (aE (vv 1) aN)))
  (aV (eP (dO (rS hr.units) (bA (vv 1) aG aW) (vv 2) (cO _))
   (aZ vL)
   eZ)
  (aV (kM (dY bE j hr.m rfl (aE (dY bE U hr.m rfl (aE (vv 0) aN)) (aE (bA (vv 1) aG aW) aN))))
  (aZ (cK iS))))))
theorem akF:cM ["self", "number", "times"] ["self", "number", "times"] (bC Dq):=dM
theorem aBL(B:dB mg)(q:fG K ["Gaps"] "keep")(j:fG K ["Gaps"] "newest")(z:cR P w K mg base "Gaps" "lay" 5 3 [] BR)(U:adK P w K mg base){cls:a5}(h:lQ K mg cls "take" "Gaps.take" Dq):cR P w K mg base cls "take" 6 3 [] FA :=
 cR.o h akF λhr=>(aV (ZS (i:=0) (f := "newest") (RL (cZ.vR hr) (nO (vv 0) j) (vv 1) (aY (dI aq) (Rt (cZ.vR hr) (nO (vv 0) j) (vv 1) aG ⟨rfl,rfl,rfl,rfl⟩) (vv 2))))
  (aZ (eP (dO uG (afY (vv 0) j rfl B.len) (nO (vv 0) q) (cO _))
   (aV (kM (mP bE (bX.cons z hr.m bX.nil) (vv 0) (aE (jW bE (bX.cons U hr.m bX.nil) (vv 0)) (aE aG aN))))
   (aZ (ZT (vM (vv 0) KY j))))
   eZ)))
theorem akI:cM ["self", "whole", "part"] ["self"] (bC Du):=dM
theorem aBO(B:dB mg)(q:bW P w K mg base "empty" 1 [] QP)(z:Nl P w K mg base)(j:PU P w K mg base){cls:a5}(h:lQ K mg cls "pouch" "Gaps.pouch" Du):cR P w K mg base cls "pouch" 6 1 [] BP :=
 cR.o h akI λhr=>(aV (cE 1 (af0 bE q hr.m rfl))
  (aV (lT bE.passes rfl (mC (jW bE (bX.cons j hr.m bX.nil) (vv 0))) (eA 2)
   (aZ (cE 1 (dY bE z hr.m rfl (aE (vv 1) (aE (vv 2) aN))))))
  (aZ (cK (vv 1)))))
theorem akN:cM ["self", "numbers", "part"] ["self"] (bC Dz):=dM
theorem aBT(B:dB mg)(j:PU P w K mg base){cls:a5}(h:lQ K mg cls "kept" "Gaps.kept" Dz):cR P w K mg base cls "kept" 6 1 [] xE :=
 cR.o h akN λhr=>(aV (cE 1 (iR ax aN))
  (aV (lT bE.passes rfl (mC (jW bE (bX.cons j hr.m bX.nil) (vv 0))) (eA 2)
   (aZ (kM (xN PySem.F.plainAttrs_list PySem.F.slot_list_extend PySem.F.type_list_extend aqP aq4 (vv 1) (aE (xO aq ["entry"] [] (mC (bA (vv 2) aG aW)) ⟨(eA 0),vN,(bA (vv 0) aG aW)⟩) aN)))))
  (aZ (cK (vf 1)))))
theorem akK:cM ["self"] ["self"] (bC Dw):=dM
theorem aBQ(B:dB mg)(j:PU P w K mg base){cls:a5}(h:lQ K mg cls "off" "Gaps.off" Dw):cR P w K mg base cls "off" 6 1 [] rM :=
 cR.o h akK λhr=>(aZ (cK (fA (OR rfl) rfl B.sum boot_sum (aE (xO aq ["part"] [] (mC (jW bE (bX.cons j hr.m bX.nil) (vv 0))) ⟨(eA 0),vN,(bA (vv 0) aG aW)⟩) aN))))
theorem akD:cM ["self", "number"] ["self", "number"] (bC Dn):=dM
theorem aBJ(B:dB mg)(z:Ng P w K mg base)(q:bW P w K mg base "upto_asks" 3 ["pouch", "number"] JK)(j:PU P w K mg base){cls:a5}(h:lQ K mg cls "upto" "Gaps.upto" Dn):cR P w K mg base cls "upto" 6 2 [] vH :=
 cR.o h akD λhr=>(aZ (cK (dY bE z hr.m rfl (aE (xO aq ["part"] [1] (mC (jW bE (bX.cons j hr.m bX.nil) (vv 0))) ⟨(eA 0),vN,(Rv (ps:=["pouch", "number"]) q.calm (by exact hr.mono (by first|decide|omega)) (by exact rfl) (aE (vv 0) (aE (vv 1) aN)))⟩) aN))))
theorem akO:cM ["self", "number"] ["self", "number"] (bC Ea):=dM
theorem aBU(B:dB mg)(z:Ng P w K mg base)(q:bW P w K mg base "below_asks" 3 ["pouch", "number"] JT)(j:PU P w K mg base){cls:a5}(h:lQ K mg cls "below" "Gaps.below" Ea):cR P w K mg base cls "below" 6 2 [] xF :=
 cR.o h akO λhr=>(aZ (cK (dY bE z hr.m rfl (aE (xO aq ["part"] [1] (mC (jW bE (bX.cons j hr.m bX.nil) (vv 0))) ⟨(eA 0),vN,(Rv (ps:=["pouch", "number"]) q.calm (by exact hr.mono (by first|decide|omega)) (by exact rfl) (aE (vv 0) (aE (vv 1) aN)))⟩) aN))))
theorem Ul:cM ["self", "number", "times"] ["self", "number", "times"] (bC CI):=dM
theorem acG(B:dB mg)(q:fG K ["Gaps"] "many")(j:fG K ["Gaps"] "taken")(U:XU P w K mg base)(a:XT P w K mg base)(f:au)(z:ao)(A:br)(outer:aj Env)(s:aw)(H:Hp)(E:XK)(hr:cZ 6 (A.deeper (cv "Pouch.put" (bC CI) s.heap.objs.size f z))) :
  kZ (nX P w K mg base ["self", "number", "times"] "Pouch.put" (bC CI) f z A outer s H E) (λ_=>E) (fI CI) XA:=by
 exact(aV (eP (dO mT (vv 2) aG (cO _))
   (aZ vL)
   eZ)
  (aV (kM (mP bE (bX.cons U hr.m bX.nil) (vv 0) (aE (vv 2) aN)))
  (aV (kM (mP bE (bX.cons a hr.m bX.nil) (vv 0) (aE (vv 1) (aE (vv 2) aN))))
  (aV (vM (vv 0) (aY (dI aq) (nO (vv 0) q) (vv 2)) q)
  (aZ (vM (vv 0) (aY (dI aq) (nO (vv 0) j) aG) j))))))
theorem aBD(B:dB mg)(a:fG K ["Gaps"] "many")(U:fG K ["Gaps"] "taken")(j:XU P w K mg base)(q:XT P w K mg base){cls:a5}{tk:Tok}(h:YV K mg cls "put" "Pouch.put" CI #[.int 1 tk]):cR P w K mg base cls "put" 7 3 [] JW:=cR.ofD (ds:=[]) (dvs:=[]) h .nil (λ_ _ => .nil) Ul (λ_ _ _ _ _ _ _ z hl=>match z,hl with|[_,_,_],_=>⟨_,rfl,rfl⟩) (acG B a U j q)
theorem azJ(B:dB mg)(a:fG K ["Gaps"] "many")(U:fG K ["Gaps"] "taken")(j:XU P w K mg base)(q:XT P w K mg base){cls:a5}{tk:Tok}(h:YV K mg cls "put" "Pouch.put" CI #[.int 1 tk]):cR P w K mg base cls "put" 7 3 [.int 1] JW:=cR.ofD (ds:=[.int 1 tk]) (dvs:=[.int 1]) h (.cons ⟨_,rfl⟩ .nil) (λ_ _ => .cons (by simp only[V2.Den]) .nil) Ul (λ_ _ _ _ _ _ _ z hl=>match z,hl with|[_,_],_=>⟨_,rfl,rfl⟩) (acG B a U j q)
theorem akB:cM ["self"] ["self"] (bC Dm):=dM
theorem aBI(B:dB mg)(j:cR P w K mg base "Gaps" "kept" 6 1 [] xE){cls:a5}(h:lQ K mg cls "held" "Pouch.held" Dm):cR P w K mg base cls "held" 7 1 [] JX :=
 cR.o h akB λhr=>(aZ (cK (fA kD rfl B.len PySem.boot_len (aE (jW bE (bX.cons j hr.m bX.nil) (vv 0)) aN))))
theorem aj7:cM ["self"] ["self"] (bC Di):=dM
theorem aBE(B:dB mg)(j:cR P w K mg base "Gaps" "kept" 6 1 [] xE){cls:a5}(h:lQ K mg cls "numbers" "Pouch.numbers" Di):cR P w K mg base cls "numbers" 7 1 [] BO :=
 cR.o h aj7 λhr=>(aZ (cK (afR ax rfl rfl B.sorted rfl B.set (jW bE (bX.cons j hr.m bX.nil) (vv 0)))))
theorem aj5:cM ["self", "one", "other"] ["self", "one", "other"] (bC Dg):=dM
theorem aBB(B:dB mg)(q:Ty6 P w K mg base)(z:cR P w K mg base "Gaps" "below" 6 2 [] xF)(j:Nj P w K mg base){cls:a5}(h:lQ K mg cls "between" "RankPouch.between" Dg):cR P w K mg base cls "between" 7 3 [] QW :=
 cR.o h aj5 λhr=>(aV (eP (dO mT (vv 2) (vv 1) (cO _))
   (aZ (cK (pC (aE aG (aE aG aN)))))
   eZ)
  (aZ (cK (dY bE q hr.m rfl (aE (mP bE (bX.cons z hr.m bX.nil) (vv 0) (aE (vv 1) aN)) (aE (mP bE (bX.cons j hr.m bX.nil) (vv 0) (aE (vv 2) aN)) aN))))))
theorem akE:cM ["self", "other", "laid", "runs", "level", "part", "number", "times"] ["self", "other"] (bC Dp):=dM
theorem aBK(B:dB mg)(q:fG K ["Gaps"] "laid")(z:fG K ["Gaps"] "newest")(U:cR P w K mg base "Gaps" "lay" 5 3 [] BR)(j:XT P w K mg base){cls:a5}(h:lQ K mg cls "take_in" "Gaps.take_in" Dp):cR P w K mg base cls "take_in" 7 2 [] ZG :=
 cR.o h akE λhr=>(aV (cE 2 (ZZ aq rfl (vv 1) q rfl B.list))
  (aV (cE 3 (ZZ aq rfl (vv 1) z rfl B.list))
  (aV (lT bE.passes rfl (mC (vv 2)) (pB rfl (gQ (eA 4) (gQ (eA 5) oA)))
   (aZ (kM (mP bE (bX.cons U hr.m bX.nil) (vv 0) (aE (vv 5) (aE (vv 4) aN))))))
  (aZ (lT bE.passes rfl (mC (vv 3)) (pB rfl (gQ (eA 6) (gQ (eA 7) oA)))
   (aZ (kM (mP bE (bX.cons j hr.m bX.nil) (vv 0) (aE (vv 6) (aE (vv 7) aN))))))))))
theorem akG:cM ["self", "place"] ["self", "place"] (bC Dr):=dM
theorem aBM(B:dB mg)(j:bW P w K mg base "so_manieth_asks" 3 ["pouch", "place"] EX)(q:cR P w K mg base "Gaps" "pouch" 6 1 [] BP){cls:a5}(h:lQ K mg cls "so_manieth" "Gaps.so_manieth" Dr):cR P w K mg base cls "so_manieth" 7 2 [] QZ :=
 cR.o h akG λhr=>(aZ (cK (dY bE j hr.m rfl (aE (jW bE (bX.cons q hr.m bX.nil) (vv 0)) (aE (vv 1) aN)))))
theorem ajT:cM ["_law_pouch", "_law_row", "_law_number_here", "_law_total"] ["_law_pouch", "_law_row", "_law_number_here"] (bC Cr):=dM
theorem aAY(B:dB mg)(h:HasFn K mg "_law_rest" Cr)(q:PV P w K mg base)(b:Np P w K mg base)(z:XS P w K mg base)(U:XR P w K mg base)(a:cR P w K mg base "Gaps" "puts" 1 1 [] BN)(j:Nj P w K mg base):adJ P w K mg base :=
 bW.o h ajT λhr=>(aV (cE 3 (fA (OR rfl) rfl B.sum boot_sum (aE (xO aq ["_law_value", "_law_times_here"] [] (mC (vv 1)) ⟨(pB rfl (gQ (eA 0) (gQ (eA 1) oA))),vN,(vv 1)⟩) aN)))
  (aV (eP (VW.vt (jN (dO (rS hr.units) (jW bE (bX.cons z hr.m bX.nil) (vv 0)) (vv 3) (cO _)) (mB (dO (rS hr.units) (jW bE (bX.cons a hr.m bX.nil) (vv 0)) (fA kD rfl B.len PySem.boot_len (aE (vv 1) aN)) (cO _)))))
   (aZ (cK iS))
   eZ)
  (aZ (cK (dY bE b hr.m rfl (aE (mP bE (bX.cons j hr.m bX.nil) (vv 0) (aE (vv 2) aN)) (aE (bA (dY bE q hr.m rfl (aE (vv 1) (aE (vv 2) aN))) aG aW) (aE (jW bE (bX.cons U hr.m bX.nil) (vv 0)) aN))))))))
theorem akA:cM ["self", "other"] ["self", "other"] (bC Dl):=dM
theorem aBH(B:dB mg)(z:fG K ["Gaps"] "keep")(j:fG K ["Gaps"] "many")(q:fG K ["Gaps"] "taken")(U:XU P w K mg base)(a:cR P w K mg base "Gaps" "same_kind" 1 2 [] RA)(b:cR P w K mg base "Gaps" "take_in" 7 2 [] ZG){cls:a5}(h:lQ K mg cls "join" "Pouch.join" Dl):cR P w K mg base cls "join" 8 2 [] zE :=
 cR.o h akA λhr=>(aV (eP (VW.vt (jN (mO (lS (mP bE (bX.cons a hr.m bX.nil) (vv 0) (aE (vv 1) aN)))) (mB (dO (rS hr.units) (nO (vv 1) z) (nO (vv 0) z) (cO _)))))
   (aZ vL)
   eZ)
  (aV (kM (mP bE (bX.cons U hr.m bX.nil) (vv 0) (aE (nO (vv 1) j) aN)))
  (aV (kM (mP bE (bX.cons b hr.m bX.nil) (vv 0) (aE (vv 1) aN)))
  (aV (vM (vv 0) (aY (dI aq) (nO (vv 0) j) (nO (vv 1) j)) j)
  (aZ (vM (vv 0) (aY (dI aq) (nO (vv 0) q) (nO (vv 1) q)) q))))))
theorem aj4:cM ["self", "number"] ["self", "number"] (bC Df):=dM
theorem aBA(B:dB mg)(j:cR P w K mg base "Gaps" "between" 7 3 [] QW){cls:a5}(h:lQ K mg cls "counted" "RankPouch.counted" Df):cR P w K mg base cls "counted" 8 2 [] JV :=
 cR.o h aj4 λhr=>(aZ (cK (mP bE (bX.cons j hr.m bX.nil) (vv 0) (aE (vv 1) (aE (vv 1) aN)))))
theorem ajX:cM ["_law_pouch", "_law_row", "_law_cell", "_law_apart", "_law_k", "_law_place", "_law_number_here", "_law_under", "_law_many"] ["_law_pouch", "_law_row", "_law_cell"] (bC Cv):=dM
theorem aA2(B:dB mg)(h:HasFn K mg "_law_near" Cv)(z:PV P w K mg base)(q:XO P w K mg base)(j:XS P w K mg base)(b:adI P w K mg base)(U:XR P w K mg base)(a:cR P w K mg base "Gaps" "so_manieth" 7 2 [] QZ):adH P w K mg base :=
 bW.o h ajX λhr=>(aV (cE 3 (jW bE (bX.cons U hr.m bX.nil) (vv 0)))
  (aV (lT bE.passes rfl (FG rfl B.range (aE aG aN)) (eA 4)
   (aZ (eP (dO (rS hr.units) (vv 1) (iR aq aN) (cO _))
    (aV (cE 5 (bA (iR aq (aE aG (aE (jW bE (bX.cons j hr.m bX.nil) (vv 0)) (aE (aY (dI aq) aG (aY jQ (dY bE q hr.m rfl (aE (vv 2) (aE (vv 4) aN))) (jW bE (bX.cons j hr.m bX.nil) (vv 0)))) aN)))) (fA (acB rfl) rfl B.min boot_min (aE (vv 4) (aE aG aN))) aW))
    (aV (cE 6 (mP bE (bX.cons a hr.m bX.nil) (vv 0) (aE (vv 5) aN)))
    (aV (xM (dY bE z hr.m rfl (aE (vv 1) (aE (vv 6) aN))) (pB rfl (gQ (eA 7) (gQ (eA 8) oA))))
    (aZ (eP (VW.vt (jN (dO (apR hr.units) (vv 6) (jW bE (bX.cons b hr.m bX.nil) (vv 0)) rfl) (jN (dO (lU hr.units) (vv 8) (vv 7) (cO _)) (jN (dO Wq (vv 7) (aY (dI aq) (vv 5) (vv 3)) (cO _)) (mB (dO mT (vv 8) (aY nR (vv 5) (vv 3)) (cO _)))))))
     (aZ (cK iS))
     eZ)))))
    eZ)))
  (aZ (cK iS))))
theorem aj2:cM ["_law_pouch", "_law_row", "_law_numbers", "_law_apart", "_law_number_here", "_law_under", "_law_many"] ["_law_pouch", "_law_row", "_law_numbers"] (bC Dd):=dM
theorem aA8(B:dB mg)(h:HasFn K mg "_law_counted" Dd)(z:PV P w K mg base)(j:Np P w K mg base)(b:cR P w K mg base "Gaps" "below" 6 2 [] xF)(a:cR P w K mg base "Gaps" "counted" 8 2 [] JV)(U:XR P w K mg base)(q:Nj P w K mg base):adG P w K mg base :=
 bW.o h aj2 λhr=>(aV (cE 3 (jW bE (bX.cons U hr.m bX.nil) (vv 0)))
  (aV (lT bE.passes rfl (mC (vv 2)) (eA 4)
   (aV (xM (dY bE z hr.m rfl (aE (vv 1) (aE (vv 4) aN))) (pB rfl (gQ (eA 5) (gQ (eA 6) oA))))
   (aV (eP (VW.vt (jN (mO (lS (dY bE j hr.m rfl (aE (mP bE (bX.cons q hr.m bX.nil) (vv 0) (aE (vv 4) aN)) (aE (vv 6) (aE (vv 3) aN)))))) (mB (mO (lS (dY bE j hr.m rfl (aE (mP bE (bX.cons b hr.m bX.nil) (vv 0) (aE (vv 4) aN)) (aE (vv 5) (aE (vv 3) aN)))))))))
    (aZ (cK iS))
    eZ)
   (aZ (eP (mO (lS (dY bE j hr.m rfl (aE (mP bE (bX.cons a hr.m bX.nil) (vv 0) (aE (vv 4) aN)) (aE (aY nR (vv 6) (vv 5)) (aE (aY mS aG (vv 3)) aN))))))
    (aZ (cK iS))
    eZ)))))
  (aZ (cK iS))))
theorem ajR:cM ["_law_pouches", "_law_rows", "_law_draws_here", "_law_kind", "_law_cell", "_law_number_here", "_law_times_here", "_law_one", "_law_other", "_law_run"] ["_law_pouches", "_law_rows", "_law_draws_here", "_law_kind"] (bC Cp):=dM
theorem aAW(B:dB mg)(h:HasFn K mg "_law_step" Cp)(U:Nq P w K mg base)(q:adW P w K mg base)(j:Ni P w K mg base)(z:cR P w K mg base "Gaps" "put" 7 3 [] JW):adF P w K mg base :=
 bW.o h ajR λhr=>(aV (xM (vv 2) (afQ rfl (gQ (eA 4) (gQ (eA 5) (gQ (eA 6) oA)))))
  (aV (cE 7 (aY jQ (vv 4) aG))
  (aV (cE 8 (aY jQ (aY (dI aq) (aY (dI aq) (vv 7) aG) (aY jQ (aY pH (vv 4) aG) aG)) aG))
  (aZ (eP (VW.vt (KS (dO (lU hr.units) (aY jQ (aY pH (vv 4) aG) aG) aG (cO _)) (KR (dO mT (aY (dI aq) (fA kD rfl B.len PySem.boot_len (aE (bA (vv 1) (vv 7) aW) aN)) (fA kD rfl B.len PySem.boot_len (aE (bA (vv 1) (vv 8) aW) aN))) aG (cO _)))))
   (aV (kM (mP bE (bX.cons j hr.m bX.nil) (bA (vv 0) (vv 7) aW) (aE (bA (vv 0) (vv 8) aW) aN)))
   (aZ (xM (aY (dI aq) (bA (vv 1) (vv 7) aW) (bA (vv 1) (vv 8) aW)) (RM (vv 1) (vv 7)))))
   (aV (cE 9 (pC (aE (dY bE U hr.m rfl (aE (vv 5) (aE (vv 3) aN))) (aE (aY (dI aq) aG (aY pH (dY bE q hr.m rfl (aE (vv 6) aN)) aG)) aN))))
   (aV (kM (mP bE (bX.cons z hr.m bX.nil) (bA (vv 0) (vv 7) aW) (aE (bA (vv 9) aG aW) (aE (bA (vv 9) aG aW) aN))))
   (aZ (xM (aY (dI aq) (bA (vv 1) (vv 7) aW) (iR aq (aE (vv 9) aN))) (RM (vv 1) (vv 7)))))))))))
theorem ajS:cM ["_law_pouch", "_law_row", "_law_puts", "_law_keep", "_law_cell", "_law_kind", "_law_total", "_law_bits", "_law_told"] ["_law_pouch", "_law_row", "_law_puts", "_law_keep", "_law_cell", "_law_kind"] (bC Cq):=dM
theorem aAX(B:dB mg)(h:HasFn K mg "_law_right" Cq)(U:adQ P w K mg base)(a:adG P w K mg base)(b:adV P w K mg base)(c:adH P w K mg base)(d:adP P w K mg base)(e:bW P w K mg base "judge" 5 ["row", "pouch"] JQ)(f:cR P w K mg base "Gaps" "held" 7 1 [] JX)(z:XS P w K mg base)(g:adI P w K mg base)(j:XR P w K mg base)(i:cR P w K mg base "Gaps" "pouch" 6 1 [] BP)(k:cR P w K mg base "Gaps" "puts" 1 1 [] BN):Nh P w K mg base :=
 bW.o h ajS (bind:=λ_ _ _ _ _ _ q hl=>us6 q hl (λ_ _ _ _ _ _=>rfl)) λhr=>(aV (cE 6 (fA (OR rfl) rfl B.sum boot_sum (aE (xO aq ["_law_number_here", "_law_times_here"] [] (mC (vv 1)) ⟨(pB rfl (gQ (eA 0) (gQ (eA 1) oA))),vN,(vv 1)⟩) aN)))
  (aV (cE 7 (dY bE b hr.m rfl (aE (aY pH (vv 2) (aY (dI aq) (vv 3) aG)) aN)))
  (aV (eP (VW.vt (jN (dO (rS hr.units) (jW bE (bX.cons z hr.m bX.nil) (vv 0)) (vv 6) (cO _)) (mB (dO (rS hr.units) (jW bE (bX.cons k hr.m bX.nil) (vv 0)) (vv 2) (cO _)))))
   (aZ (cK iS))
   eZ)
  (aV (eP (VW.vt (jN (mO (afI qA qA (fA kD rfl B.len PySem.boot_len (aE (jW bE (bX.cons g hr.m bX.nil) (vv 0)) aN)) (jW bE (bX.cons f hr.m bX.nil) (vv 0)) (aY mS (aY (dI aq) (aY mS aG (vv 3)) aG) (aY (dI aq) (vv 7) aG)))) (mB (mO (dO qA aG (jW bE (bX.cons j hr.m bX.nil) (vv 0)) (cO _))))))
   (aZ (cK iS))
   eZ)
  (aV (cE 8 (jW bE (bX.cons i hr.m bX.nil) (vv 0)))
  (aV (eP (VW.vt (jN (dO (rS hr.units) (bA (vv 8) aG aW) (vv 6) (cO _)) (jN (dO (rS hr.units) (bA (vv 8) aG aW) (jW bE (bX.cons j hr.m bX.nil) (vv 0)) (cO _)) (mB (dO uG (bA (vv 8) aG aW) (aY pH (aY mS (fA (WH rfl) rfl B.max boot_max (aE aG (aE (aY nR (vv 7) aG) aN))) (vv 6)) (vv 3)) (cO _))))))
   (aZ (cK iS))
   eZ)
  (aV (eP (VW.vt (jN (mO (lS (dY bE d hr.m rfl (aE (vv 1) (aE (vv 8) aN))))) (mB (dO apT (dY bE e hr.m rfl (aE (Aa (Kr aq) rfl B.list XZ (aE (vv 1) aN)) (aE (vv 8) aN))) iS (cO _)))))
   (aZ (cK iS))
   eZ)
  (aZ (cK (RO (dY bE a hr.m rfl (aE (vv 0) (aE (vv 1) (aE (dY bE U hr.m rfl (aE (vv 1) (aE (vv 4) (aE (vv 5) aN)))) aN)))) (CA (dY bE c hr.m rfl (aE (vv 0) (aE (vv 1) (aE (vv 4) aN)))))))))))))))
theorem Uk:cM ["_law_pouch", "_law_row", "_law_most", "_law_keep", "_law_kind", "_law_puts", "_law_k"] ["_law_pouch", "_law_row", "_law_most", "_law_keep", "_law_kind"] (bC SW):=dM
theorem aA6(B:dB mg)(h:HasFn K mg "_law_doubled" SW)(z:Nh P w K mg base)(j:Ni P w K mg base)(q:XS P w K mg base):adD P w K mg base :=
 bW.o h Uk λhr=>(aV (cE 5 (fA kD rfl B.len PySem.boot_len (aE (vv 1) aN)))
  (aV (lT bE.passes rfl (FG rfl B.range (aE (vv 2) aN)) (eA 6)
   (aZ (eP (dO qA (aY mS aG (jW bE (bX.cons q hr.m bX.nil) (vv 0))) aG (cO _))
    (aV (kM (mP bE (bX.cons j hr.m bX.nil) (vv 0) (aE (vv 0) aN)))
    (aV (afJ (i:=1) aq ["_law_number_here", "_law_times_here"] [] Uk.nd rfl oIr rfl (lcO (bC SW) ["_law_pouch", "_law_row", "_law_most", "_law_keep", "_law_kind", "_law_puts", "_law_k"]) (mC (vv 1)) (λcl C s H U=>⟨(pB rfl (gQ (eA 0) (gQ (eA 1) oA))),vN,(pC (aE (vv 0) (aE (aY mS aG (vv 1)) aN)))⟩))
    (aZ (cE 5 (aY mS aG (vv 5))))))
    eZ)))
  (aZ (cK (dY bE z hr.m rfl (aE (vv 0) (aE (vv 1) (aE (vv 5) (aE (vv 3) (aE (vv 5) (aE (vv 4) aN)))))))))))
theorem ajE:cM ["_law_script", "_law_draws_here", "_law_first", "_law_kind", "_law_keep", "_law_pouches", "_law_rows", "_law_k", "_law_one"] ["_law_script"] (bC xQ):=dM
theorem aAG{f:au}{fd:cp}(B:dB mg)(F:tQ K "law" "law" xQ f fd)(z:adD P w K mg base)(U:adR P w K mg base)(a:adJ P w K mg base)(c:Nh P w K mg base)(b:adF P w K mg base)(j:IS P w K mg base "Gaps" 3 2 vI)(q:Ni P w K mg base):iQ P w K mg base (oZ P w) 12 f fd ["_law_script"] (rP K 1 aeV):=by
 refine abA F ajE (λ_ _ _ _ _ _ _ hr=>?_);exact(aV (cE 1 (dY bE U hr.m rfl (aE (vv 0) (aE (aY (dI aq) aG (aY mS aG aG)) aN))))
  (aV (cE 2 (bA (vv 1) aG aW))
  (aV (cE 3 (aY jQ (vv 2) aG))
  (aV (cE 4 (aY (dI aq) aG (aY jQ (aY pH (vv 2) aG) aG)))
  (aV (eP (dO (lU hr.units) (aY jQ (bA (vv 1) aG aW) aG) aG (cO _))
   (aZ (cE 4 aG))
   eZ)
  (aV (cE 5 (iR aq (aE (KW j hr.m rfl (aE (vv 4) aN)) (aE (KW j hr.m rfl (aE (vv 4) aN)) (aE (KW j hr.m rfl (aE (vv 4) aN)) (aE (KW j hr.m rfl (aE (vv 4) aN)) (aE (KW j hr.m rfl (aE (vv 4) aN)) aN)))))))
  (aV (cE 6 (iR ax (aE (iR aq aN) (aE (iR aq aN) (aE (iR aq aN) (aE (iR aq aN) (aE (iR aq aN) aN)))))))
  (aV (lT bE.passes rfl (FG rfl B.range (aE (fA (acB rfl) rfl B.min boot_min (aE aG (aE (fA (WH rfl) rfl B.max boot_max (aE (fA kD rfl B.len PySem.boot_len (aE (vv 0) aN)) (aE (aY jQ (aY pH (vv 2) aG) aG) aN))) aN))) aN)) (eA 7)
   (aZ (kM (dY bE b hr.m rfl (aE (vv 5) (aE (vv 6) (aE (Ro aq (vv 1) (ZV (aY (dI aq) aG (aY mS aG (vv 7)))) (ZV (aY (dI aq) aG (aY mS aG (vv 7))))) (aE (vv 3) aN))))))))
  (aV (lT bE.passes rfl (mC (iR aq (aE aG (aE aG (aE aG (aE aG aN)))))) (eA 8)
   (aV (kM (mP bE (bX.cons q hr.m bX.nil) (bA (vv 5) (vv 8) aW) (aE (bA (vv 5) (aY (dI aq) (vv 8) aG) aW) aN)))
   (aZ (xM (aY (dI aq) (bA (vv 6) (vv 8) aW) (bA (vv 6) (aY (dI aq) (vv 8) aG) aW)) (RM (vv 6) (vv 8))))))
  (aV (lT bE.passes rfl (mC (iR aq (aE aG (aE aG aN)))) (eA 8)
   (aZ (eP (mO (lS (dY bE c hr.m rfl (aE (bA (vv 5) (vv 8) aW) (aE (bA (vv 6) (vv 8) aW) (aE (fA kD rfl B.len PySem.boot_len (aE (bA (vv 6) (vv 8) aW) aN)) (aE (vv 4) (aE (bA (vv 1) aG aW) (aE (vv 3) aN)))))))))
    (aZ (cK iS))
    eZ)))
  (aV (eP (VW.vt (KS (dO mT (aY jQ (bA (vv 1) aG aW) aG) aG (cO _)) (KR (mO (lS (dY bE z hr.m rfl (aE (bA (vv 5) aG aW) (aE (bA (vv 6) aG aW) (aE (bA (iR aq (aE aG (aE aG aN))) (aY jQ (bA (vv 1) aG aW) aG) aW) (aE (vv 4) (aE (vv 3) aN)))))))))))
   (aZ (cK iS))
   eZ)
  (aV (lT bE.passes rfl (mC (iR aq (aE aG (aE aG (aE aG aN))))) (eA 8)
   (aZ (eP (mO (lS (dY bE a hr.m rfl (aE (bA (vv 5) (vv 8) aW) (aE (bA (vv 6) (vv 8) aW) (aE (aY jQ (bA (vv 1) aG aW) aG) aN))))))
    (aZ (cK iS))
    eZ)))
  (aZ (cK iS))))))))))))))
end
theorem all_mk{l:OpenLaw}{w:bo}{K:bg}{h:bx}{mg:a5->ar ao}{fa fl:au}{od an:ar au}{sl:bq (ar ao)}{oc kV dc pm T ct:ao}(X:K.In h)(G:h.Ns bc mg)(S:mg "law" = ai (.ref fa))
  (al:dz K bc "law" = ai (ai (.ref fl))) (ll:K.lookup fl=ai ⟨oc,od,.func (dw "law" "law" (iZ xQ) (fI xQ) (bC xQ) .none kV dc pm an T ct),sl⟩) (lc:codeIn K T "law" = ax) (lk:di K (.ref fl)=ax)
  {A E f:au} {apI apE aDO:ar au} {aiB ah5:bq (ar ao)} {ZQ:bq ao} {apM asC azR am0 aB0:ao} (My:dz K bc "upto" = ai (ai (.ref A))) (Xn:K.lookup A=ai ⟨apM,apE,.func (dw "upto" "upto" (iZ zP) (fI zP) (bC zP) .none asC azR am0 aDO (.ref E) aB0),ah5⟩) (aB9:codeIn K (.ref E) "upto" = ax) (arY:di K (.ref A)=ax)
  {u C b:au} {apK apG aDQ:ar au} {aiD ah7:bq (ar ao)} {ZU:bq ao} {apO asE V am2 aB2:ao} (Na:dz K bc "below" = ai (ai (.ref u))) (Xp:K.lookup u=ai ⟨apO,apG,.func (dw "below" "below" (iZ zS) (fI zS) (bC zS) .none asE V am2 aDQ (.ref C) aB2),ah7⟩) (aCB:codeIn K (.ref C) "below" = ax) (ar0:di K (.ref u)=ax)
  {x D d:au} {apJ apF aDP:ar au} {aiC ah6:bq (ar ao)} {ZR:bq ao} {apN asD W am1 aB1:ao} (Mz:dz K bc "so_manieth" = ai (ai (.ref x))) (Xo:K.lookup x=ai ⟨apN,apF,.func (dw "so_manieth" "so_manieth" (iZ zQ) (fI zQ) (bC zQ) .none asD W am1 aDP (.ref D) aB1),ah6⟩) (aCA:codeIn K (.ref D) "so_manieth" = ax) (arZ:di K (.ref x)=ax)
  (B:dB mg)
  (awH:HasFn K mg "look_pouch" Ca)
  (awL:HasFn K mg "good_head" Ce)
  (awM:HasFn K mg "good_entry" Cf)
  (av7:HasFn K mg "stands_at" Br)
  (awO:HasFn K mg "good_alone" Ci)
  (awN:HasFn K mg "good_beside" Cg)
  (awC:HasFn K mg "near_enough" Bv)
  (awG:HasFn K mg "look_row" Bz)
  (awA:HasFn K mg "packed" Bt)
  (av9:HasFn K mg "places_of" Bs)
  (awQ:HasFn K mg "empty" Ck)
  (awB:HasFn K mg "of_row" Bu)
  (awF:HasFn K mg "merged" By)
  (awE:HasFn K mg "merged_entries" Bx)
  (awP:HasFn K mg "goes_first" Cj)
  (awD:HasFn K mg "moved" Bw)
  (awR:HasFn K mg "bounds_ahead" Cm)
  (av5:HasFn K mg "thinned" Bp)
  (awJ:HasFn K mg "kept_entries" Cc)
  (awT:HasFn K mg "apart" Cn)
  (av6:HasFn K mg "summed" Bq)
  (L:HasFn K mg "first_where" zR)
  (awK:HasFn K mg "judge" Cd)
  (awI:HasFn K mg "look_places" Cb)
  (aw2:HasFn K mg "_law_mix" Cw)
  (aw4:HasFn K mg "_law_draws" Cz)
  (aw0:HasFn K mg "_law_number" Cu)
  (awU:HasFn K mg "_law_times" Co)
  (aw6:HasFn K mg "_law_counts" Dc)
  (awZ:HasFn K mg "_law_pair" Ct)
  (aw3:HasFn K mg "_law_figures" Cy)
  (aw8:HasFn K mg "_law_asked_for" De)
  (awY:HasFn K mg "_law_places" Cs)
  (aw7:HasFn K mg "_law_counted" Dd)
  (aw1:HasFn K mg "_law_near" Cv)
  (awW:HasFn K mg "_law_right" Cq)
  (aw5:HasFn K mg "_law_doubled" SW)
  (awX:HasFn K mg "_law_rest" Cr)
  (awV:HasFn K mg "_law_step" Cp)
  (HK:∃t,mg "LONGEST" = ai (.int 1000000000 t))
  {j:au} (q:dz K bc "Gaps" = ai (ai (.ref j))) (z:nL K j)
  (aqN:c6 K (.ref j) "keep" = ai ak)
  (aqM:c6 K (.ref j) "laid" = ai ak)
  (aqL:c6 K (.ref j) "many" = ai ak)
  (aqK:c6 K (.ref j) "newest" = ai ak)
  (aqJ:c6 K (.ref j) "taken" = ai ak)
  (atB:c6 K (.ref j) "__class__" = ai (ai (.builtin "object.__class__"))) (as5:specialIn K (.builtin "object.__class__") "__get__" = ai (ai (.builtin "getset_descriptor.__get__"))) (asU:takesIn K (.builtin "object.__class__")=ai ax) (as6:mroIn K j (.type "object")=ai ax)
  {ag0:Tok} (Va:YD K j "put" "Pouch.put" CI #[.int 1 ag0])
  (alZ:lP K j "join" "Pouch.join" Dl)
  (alV:lP K j "look_room" "Pouch.look_room" Dj)
  (alW:lP K j "length" "Pouch.length" Dk)
  (alP:lP K j "puts" "Pouch.puts" Dh)
  (al0:lP K j "held" "Pouch.held" Dm)
  (alT:lP K j "numbers" "Pouch.numbers" Di)
  (al2:lP K j "between" "RankPouch.between" Dg)
  (al1:lP K j "counted" "RankPouch.counted" Df)
  (al4:YU K j "Gaps.__init__" FZ)
  (alO:lP K j "same_kind" "Gaps.same_kind" Ds)
  (alM:lP K j "take" "Gaps.take" Dq)
  (alL:lP K j "take_in" "Gaps.take_in" Dp)
  (alX:lP K j "lay" "Gaps.lay" Dy)
  (alU:lP K j "newest_pouch" "Gaps.newest_pouch" Dx)
  (alR:lP K j "parts" "Gaps.parts" Dv)
  (alQ:lP K j "pouch" "Gaps.pouch" Du)
  (alY:lP K j "kept" "Gaps.kept" Dz)
  (alS:lP K j "off" "Gaps.off" Dw)
  (alK:lP K j "upto" "Gaps.upto" Dn)
  (al3:lP K j "below" "Gaps.below" Ea)
  (alN:lP K j "so_manieth" "Gaps.so_manieth" Dr)
  (avY:YW K mg "RankPouch" "__init__" "Pouch.__init__" FY)
  (aDT:dz K bc "below_asks" = ai (ai (.ref u)))
  (aDS:dz K bc "so_manieth_asks" = ai (ai (.ref x)))
  (aDR:dz K bc "upto_asks" = ai (ai (.ref A)))
  {U:aj au}
  (arI:K.lookup E=ai ⟨.type "code",apI,.fields ZQ,aiB⟩)
  (arK:K.lookup C=ai ⟨.type "code",apK,.fields ZU,aiD⟩)
  (arJ:K.lookup D=ai ⟨.type "code",apJ,.fields ZR,aiC⟩)
  (Yu:ZQ[11]?=ai (.ref f)) (Zv:UZ ZQ E f=ax)
  (Yw:ZU[11]?=ai (.ref b)) (Zx:UZ ZU C b=ax)
  (Yv:ZR[11]?=ai (.ref d)) (Zw:UZ ZR D d=ax)
  (hsub:f∈U/\b∈U/\d∈U) (hnd:[f,b,d].Nodup) (hall:∀P∈U,P=f\/P=b\/P=d)
  : ∃fd:cp,(∀(s:aw) (v:ao),BindsTo s fd ⟨[v],[]⟩ [("_law_script",v)])/\(∀P∈U,∃c,codeHdIn K c P=ax)/\∀base:bx,K.In base->base.Ns bc mg->xH base mg->iQ l.prog w K mg base BU 12 fa fd ["_law_script"] (SO K U):=by
 have e:=S.symm.trans (mg_of X G al);cases e;have o:fG K ["Gaps"] "keep":=OO q z aqN (ON);have p:fG K ["Gaps"] "laid":=OO q z aqM (ON);have a:fG K ["Gaps"] "many":=OO q z aqL (ON);have r:fG K ["Gaps"] "newest":=OO q z aqK (ON);have i:fG K ["Gaps"] "taken":=OO q z aqJ (ON);have Nr:=asV q z atB as5 asU as6;have Pj:Ph K mg "Gaps":=⟨j,mg_of X G q,q⟩;have FL:=OE (st:=xQ) ll lc lk;have av4:HasFn K mg "upto" zP:=fR X G My Xn aB9 arY;obtain⟨Sw,Ss⟩:=Au (st:=zP) My Xn arI Yu Zv;have awS:HasFn K mg "below" zS:=fR X G Na Xp aCB ar0;obtain⟨Sy,Sv⟩:=Au (st:=zS) Na Xp arK Yw Zx;have av8:HasFn K mg "so_manieth" zQ:=fR X G Mz Xo aCA arZ;obtain⟨Sx,Su⟩:=Au (st:=zQ) Mz Xo arJ Yv Zw;refine⟨dw "law" "law" (iZ xQ) (fI xQ) (bC xQ) .none kV dc pm an T ct,λs v => .of_eq rfl,?_,λbase KB GB BB=>?_⟩
 ·intro P hP
  rcases hall P hP with e|e|e
  ·rw[e];exact⟨_,Ss⟩
  ·rw[e];exact⟨_,Sv⟩
  ·rw[e];exact⟨_,Su⟩
 have XW:EG K mg base "upto":=⟨KB,GB,BB,_,_,Sw,Ss⟩;have XY:EG K mg base "below":=⟨KB,GB,BB,_,_,Sy,Sv⟩;have XX:EG K mg base "so_manieth":=⟨KB,GB,BB,_,_,Sx,Su⟩;have Qc:=@aAK l.prog w K mg base B awL;have ZH:=@az0 l.prog w K mg base B av7;have Qf:=@aAN l.prog w K mg base B awO;have KC:=@az8 l.prog w K mg base B awC;have KG:=@aAC l.prog w K mg base B awG HK;have Pu:=@az5 l.prog w K mg base B awA;have Qh:=@aAR l.prog w K mg base B awQ;have Qg:=@aAO l.prog w K mg base B awP;have F:=@aAS l.prog w K mg base B awR;have Qj:=@aAU l.prog w K mg base B awT;have JZ:=@azZ l.prog w K mg base B av6;have Pz:=@aAE l.prog w K mg base B awI;have N:=@aA3 l.prog w K mg base B aw2;have KI:=@aA1 l.prog w K mg base B aw0;have Qk:=@aAV l.prog w K mg base B awU;have k:=@aA7 l.prog w K mg base B aw6;have BS:=@aA0 l.prog w K mg base B awZ;have Qp:=@aA4 l.prog w K mg base B aw3;have QI:=@azN l.prog w K mg base B o a i _ avY;have Q:=@aBF l.prog w K mg base B HK a _ (alV.has X G q z);have m:=@aBG l.prog w K mg base B a _ (alW.has X G q z);have IT:=@aBC l.prog w K mg base B i _ (alP.has X G q z);have Og:=@aBN l.prog w K mg base B Pj Nr _ (alO.has X G q z);have Qe:=@aAM l.prog w K mg base B awN KC;have KA:=@az4 l.prog w K mg base B av9 Pu;have ZI:=@az9 l.prog w K mg base B awD F;have Qa:=@aAH l.prog w K mg base B awJ KC;have Qq:=@aA5 l.prog w K mg base B aw4 N;have Qt:=@aA9 l.prog w K mg base B aw8 N KI;have Qn:=@aAZ l.prog w K mg base B awY k;have Qd:=@aAL l.prog w K mg base B awM Qf Qe ZH;have Pw:=@az6 l.prog w K mg base B awB KG KA;have Px:=@aAA l.prog w K mg base B awE Qg ZI;have Pq:=@azY l.prog w K mg base B av5 Qa;have aE8:=@azX l.prog w K mg base B av4 F L XW;have Pp:=aE8.alias (y := "upto_asks") ((mg_of X G aDR).trans (mg_of X G My).symm);have aFA:=@aAT l.prog w K mg base B awS F L XY;have Qi:=aFA.alias (y := "below_asks") ((mg_of X G aDT).trans (mg_of X G Na).symm);have aE9:=@az1 l.prog w K mg base B av8 L XX;have Pr:=aE9.alias (y := "so_manieth_asks") ((mg_of X G aDS).trans (mg_of X G Mz).symm);have ET:=@azL l.prog w K mg base B QI p r _ (al4.has X G q);have Py:=@aAD l.prog w K mg base B awH Qd Qc;have KD:=@aAB l.prog w K mg base B awF Px;have IW:=@aBR l.prog w K mg base B Pw r _ (alU.has X G q z);have Qb:=@aAI l.prog w K mg base B awK Pz Py KG KA;have IX:=@aBS l.prog w K mg base B KD Pq o p _ (alX.has X G q z);have g:=@aBP l.prog w K mg base B p IW _ (alR.has X G q z);have R:=@aBL l.prog w K mg base B o r IX IW _ (alM.has X G q z);have IU:=@aBO l.prog w K mg base B Qh KD g _ (alQ.has X G q z);have IY:=@aBT l.prog w K mg base B g _ (alY.has X G q z);have n:=@aBQ l.prog w K mg base B g _ (alS.has X G q z);have I:=@aBJ l.prog w K mg base B JZ Pp g _ (alK.has X G q z);have IZ:=@aBU l.prog w K mg base B JZ Qi g _ (al3.has X G q z);have Qm:=@aAY l.prog w K mg base B awX k BS m n IT I;have Oh:=@aBD l.prog w K mg base B a i Q R _ _ (Va.has X G q z);have aH8:=@azJ l.prog w K mg base B a i Q R _ _ (Va.has X G q z);have Oi:=@aBI l.prog w K mg base B IY _ (al0.has X G q z);have IV:=@aBE l.prog w K mg base B IY _ (alT.has X G q z);have Ol:=@aBB l.prog w K mg base B Qj IZ I _ (al2.has X G q z);have Oe:=@aBK l.prog w K mg base B p r IX R _ (alL.has X G q z);have Of:=@aBM l.prog w K mg base B Pr IU _ (alN.has X G q z);have Qo:=@aA2 l.prog w K mg base B aw1 k N m IV n Of;have H:=@aBH l.prog w K mg base B o a i Q Og Oe _ (alZ.has X G q z);have Oj:=@aBA l.prog w K mg base B Ol _ (al1.has X G q z);have Qs:=@aA8 l.prog w K mg base B aw7 k BS IZ Oj n I;have Ql:=@aAW l.prog w K mg base B awV KI Qk H Oh;have KH:=@aAX l.prog w K mg base B awW Qt Qs Qp Qo Qn Qb Oi m IV n IU IT;have Qr:=@aA6 l.prog w K mg base B aw5 KH H m;exact arR [(f, "upto",⟨141,53,141,84⟩,tF "upto"),(b, "below",⟨144,53,144,85⟩,tF "below"),(d, "so_manieth",⟨155,40,155,73⟩,tF "so_manieth")] hnd (by simp only[eK,yZ,xW,forall_eq_or_imp,forall_eq];exact hsub) (by simp only[eK,yZ,xW,forall_eq_or_imp,forall_eq];exact⟨⟨_,Sw⟩,⟨_,Sy⟩,⟨_,Sx⟩⟩) (aAG B FL Qr Qq Qm KH Ql ET H) M.arT
theorem walk{l:OpenLaw}{q:bf}{loose:aj a5}{XP:(a5->ar ao)->bx->Prop}{YP:bo->bx->Prop}{d:DefRec}{K:Params->bg}{j:aj au}(hn:l.most=ai 63)(g:d.params.defaults=[])
  (U:∀(w:bo) (h:bx),YP w h->(K w.params).In h/\∀P∈j,h.get? P=ai (tabObj #[])) (b:∀w:bo,noTabs (K w.params)=ax)
  (F:∀(w:bo) (mg:a5->ar ao) (fa:au) (h:bx),(K w.params).In h->h.Ns bc mg->mg d.name=ai (.ref fa) ->
   ∃fd:cp,(∀(s:aw) (u:ao),BindsTo s fd ⟨[u],[]⟩ [("_law_script",u)])/\(∀P∈j,∃c,codeHdIn (K w.params) c P=ax)/\∀base:bx,(K w.params).In base->base.Ns bc mg->xH base mg->iQ l.prog w (K w.params) mg base BU 12 fa fd ["_law_script"] (SO (K w.params) j)) :
  PySem.W.WalkO q loose XP YP l.row.toRowW d [] (λf vs=>PySem.call f vs) :=
 L2.afE (n:=63) (k:=12) (x := "_law_script") (CX:=λ_=>BU) (sp:=λw=>SO (K w.params) j) hn (by decide) g ⟨rfl,by decide,by decide⟩ U b F (λ_ _ a ns hl _ e hS=>⟨a,ns,rfl,hS,hl,e,λ_=>rfl⟩) λ_ _ _ _ _ z=>z
end Ow
open PySem PySem.W PyProof.Rows
open PySem PySem.W PyProof.Rows
local macro_rules
  | `(tactic| o_head $H) => `(tactic| refine holds_open (q := HD.kept) (loose := [Str.ofString "upto_asks", Str.ofString "below_asks", Str.ofString "so_manieth_asks"]) (N := 8170) (Xt := HD.seenX)
      (XP := XL HD.kept []) (Yf := Hook.obs $H) (Ya := Hook.val $H) (YP := Hook.says $H)
      ?_ (Hook.of $H) (Hook.keeps $H) (fun s e => xl_of s (Bool.and_eq_true_iff.mp e).1) XL.keeps
      (by rfl) (by rfl) (by rfl) (fun s e => recFacts_of (Bool.and_eq_true_iff.mp e).2)
      (by rfl) (by assumption) (by decide +kernel) ⟨rfl, rfl, rfl, rfl, rfl, by decide +kernel⟩ ?_ ?_)
set_option maxRecDepth 100000 in
set_option maxHeartbeats 0 in
theorem PySem.Challenge.cw_rankpouch_k82_whole_gaps_holds : PySem.Challenge.rw_rankpouch_k82_whole_gaps.Holds := by
 w_on
 refine holds_law HD.said fun said => ?_
 k_head
 ·clear said
  refine HD.left HD.plain (by kernel_rfl) (by kernel_rfl) HD.fence HD.pre HD.blk HD.one HD.tests HD.looks HD.obsM ?_
  intro w os
  kernel_rfl
 ·clear said
  w_witness2
 clear said

 k_fill
 refine Ow.walk (l:=PySem.Challenge.rw_rankpouch_k82_whole_gaps) rfl rfl (λw h ρ=>⟨PySem.W.km_in_of ρ,PySem.W.km_tabs_of ρ⟩) (λw=>by kernel_rfl) ?F
 case F =>
  as_aux_lemma =>
   intro w mg fa h KX G NC
   refine' Ow.all_mk KX G NC ?_ ?_ ?_ ?_ ?_ ?_ ?_ ?_ ?_ ?_ ?_ ?_ ?_ ?_ ?_ ?_ ⟨rT KX G ?_,rT KX G ?_,rT KX G ?_,rT KX G ?_,rT KX G ?_,rT KX G ?_,rT KX G ?_,rT KX G ?_,rT KX G ?_,rT KX G ?_,rT KX G ?_,rT KX G ?_,rT KX G ?_,rT KX G ?_⟩ (L2.fR KX G ?_ ?_ ?_ ?_) (L2.fR KX G ?_ ?_ ?_ ?_) (L2.fR KX G ?_ ?_ ?_ ?_) (L2.fR KX G ?_ ?_ ?_ ?_) (L2.fR KX G ?_ ?_ ?_ ?_) (L2.fR KX G ?_ ?_ ?_ ?_) (L2.fR KX G ?_ ?_ ?_ ?_) (L2.fR KX G ?_ ?_ ?_ ?_) (L2.fR KX G ?_ ?_ ?_ ?_) (L2.fR KX G ?_ ?_ ?_ ?_) (L2.fR KX G ?_ ?_ ?_ ?_) (L2.fR KX G ?_ ?_ ?_ ?_) (L2.fR KX G ?_ ?_ ?_ ?_) (L2.fR KX G ?_ ?_ ?_ ?_) (L2.fR KX G ?_ ?_ ?_ ?_) (L2.fR KX G ?_ ?_ ?_ ?_) (L2.fR KX G ?_ ?_ ?_ ?_) (L2.fR KX G ?_ ?_ ?_ ?_) (L2.fR KX G ?_ ?_ ?_ ?_) (L2.fR KX G ?_ ?_ ?_ ?_) (L2.fR KX G ?_ ?_ ?_ ?_) (L2.fR KX G ?_ ?_ ?_ ?_) (L2.fR KX G ?_ ?_ ?_ ?_) (L2.fR KX G ?_ ?_ ?_ ?_) (L2.fR KX G ?_ ?_ ?_ ?_) (L2.fR KX G ?_ ?_ ?_ ?_) (L2.fR KX G ?_ ?_ ?_ ?_) (L2.fR KX G ?_ ?_ ?_ ?_) (L2.fR KX G ?_ ?_ ?_ ?_) (L2.fR KX G ?_ ?_ ?_ ?_) (L2.fR KX G ?_ ?_ ?_ ?_) (L2.fR KX G ?_ ?_ ?_ ?_) (L2.fR KX G ?_ ?_ ?_ ?_) (L2.fR KX G ?_ ?_ ?_ ?_) (L2.fR KX G ?_ ?_ ?_ ?_) (L2.fR KX G ?_ ?_ ?_ ?_) (L2.fR KX G ?_ ?_ ?_ ?_) (L2.fR KX G ?_ ?_ ?_ ?_) (L2.fR KX G ?_ ?_ ?_ ?_) (V2.aB3 KX G ?_) ?_ ⟨?_,?_,?_,?_⟩ ?_ ?_ ?_ ?_ ?_ ?_ ?_ ?_ ?_ (V2.aqO ?_ ?_ ?_ ?_ ?_ ?_) (V2.mU ?_ ?_ ?_ ?_ ?_) (V2.mU ?_ ?_ ?_ ?_ ?_) (V2.mU ?_ ?_ ?_ ?_ ?_) (V2.mU ?_ ?_ ?_ ?_ ?_) (V2.mU ?_ ?_ ?_ ?_ ?_) (V2.mU ?_ ?_ ?_ ?_ ?_) (V2.mU ?_ ?_ ?_ ?_ ?_) (V2.mU ?_ ?_ ?_ ?_ ?_) (V2.as3 ?_ ?_ ?_ ?_ ?_ ?_ ?_) (V2.mU ?_ ?_ ?_ ?_ ?_) (V2.mU ?_ ?_ ?_ ?_ ?_) (V2.mU ?_ ?_ ?_ ?_ ?_) (V2.mU ?_ ?_ ?_ ?_ ?_) (V2.mU ?_ ?_ ?_ ?_ ?_) (V2.mU ?_ ?_ ?_ ?_ ?_) (V2.mU ?_ ?_ ?_ ?_ ?_) (V2.mU ?_ ?_ ?_ ?_ ?_) (V2.mU ?_ ?_ ?_ ?_ ?_) (V2.mU ?_ ?_ ?_ ?_ ?_) (V2.mU ?_ ?_ ?_ ?_ ?_) (V2.mU ?_ ?_ ?_ ?_ ?_) (V2.aDC KX G ?_ ?_ ?_ ?_ ?_ ?_ ?_) ?_ ?_ ?_ ?_ ?_ ?_ ?Yu ?Zv ?Yw ?Zx ?Yv ?Zw ?hsub ?hnd ?hall <;> try first|exact(show(_)[_]?=ai (Value.ref _)from rfl)|k_is|kernel_rfl|k_exc
   (case hsub=>decide)
   (case hnd=>decide)
   (case hall=>intro P hP;first|simpa using hP|(simp at hP;omega)|(simp only[eK,yZ,xW]at hP;rcases hP with e|e <;> simp[e];done)|(simp only[eK,yZ,xW]at hP;rcases hP with e|e|e <;> simp[e]))
