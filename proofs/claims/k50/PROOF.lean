import PyProof.Rows.All
import Wide.All
import OpenK.AllK
import Wide.FinOn
import HandS.Base
import HandS.Call
import HandS.List
import HandS.Comp
import HandS.Ends
import HandS.More
import HandS.ExcField
import HandS.ExcInit
import HandS.ExcIs
import HandS.Nested
import KE.KExcSuper
import KE.KExcIs
import HandS.Head0
import HandS.Head1
import HandS.Head2
import HandS.HeadHook1
import HandS.HeadHook2
import HandS.HeadHook3
import HandS.HeadHook4
import HandS.HeadNt
import HandS.HeadWalk
import HandS.EndTab
import HandS.TupMul
import HandS.Dict
import HandS.Iter
import HandS.Text
import HandS.Words
import HandS.WordsList
import HandS.WordsDict
import HandS.Exc
import HandS.TryOnly
import HandS.ExcOwn
import HandS.WordsExc
import HandS.Deep
import HandS.Style
import HandS.TupAny
import HandS.TupLen
import HandS.Wide
import HandS.DictComp
import HandS.Zip
import HandS.Lambda
import PyProof.ListCopy
import PyProof.P3In
import KE.LtData
import HandS.TupLe
import HandS.ExcCtx
import HandS.Strs
import HandS.Set
import HandS.FStr
import HandS.Small
import HandS.Hot
import HandS.HotCalls
import KE.GoesMore
import KE.KDictZip
import KE.KItemsList
import HandS.ListItems
import KE.GoesNew
import KE.GoesEnum
import HandS.IsInst
import HandS.SetFor
import HandS.Flow
import PySem.Challenge.RW_nearanswer_k50_whole_heaps_reached_and_c
set_option Elab.async false
set_option linter.all false
set_option maxRecDepth 100000
set_option maxHeartbeats 8000000
-- PyB
set_option maxRecDepth 100000
set_option maxHeartbeats 4000000
noncomputable section
namespace PyD
open PySem PySem.Spec PyProof.Rows L2
/-! ### texts compared item by item -/
def lbeq : List Nat → List Nat → Bool
  | [], [] => true
  | a :: as, b :: bs => match Nat.beq a b with
    | true => lbeq as bs
    | false => false
  | _, _ => false
theorem lbeq_iff : ∀ {a b : List Nat}, lbeq a b = true ↔ a = b
  | [], [] => by simp [lbeq]
  | [], b :: bs => by simp [lbeq]
  | a :: as, [] => by simp [lbeq]
  | a :: as, b :: bs => by
    unfold lbeq
    cases h : Nat.beq a b with
    | true =>
      have e : a = b := Nat.eq_of_beq_eq_true h
      subst e
      simp [lbeq_iff (a := as) (b := bs)]
    | false =>
      have e : a ≠ b := Nat.ne_of_beq_eq_false h
      simp [e]
def sbeq (x y : Str) : Bool := lbeq x.cps.toList y.cps.toList
theorem sbeq_iff {x y : Str} : sbeq x y = true ↔ x = y := by
  unfold sbeq
  rw [lbeq_iff]
  constructor
  · intro h
    obtain ⟨⟨a⟩⟩ := x
    obtain ⟨⟨b⟩⟩ := y
    have h' : a = b := h
    rw [h']
  · intro h
    rw [h]
theorem sbeq_dec {x y : Str} : sbeq x y = decide (x = y) := by
  rw [Bool.eq_iff_iff, sbeq_iff, decide_eq_true_iff]
end PyD
namespace PyM
open PySem PySem.Spec PyProof.Rows L2
/-- a def of a class by its place -/
def methStmt (st : Stmt) (j : Nat) : Stmt := match st with
  | .ClassDef _ _ _ b _ _ _ _ _ _ _ => b.getD j st
  | s => s
/-- the first def of a class, and what its super().__init__ is handed -/
def initStmt : Stmt → Stmt
  | .ClassDef _ _ _ (b :: _) _ _ _ _ _ _ _ => b
  | s => s
def superArg : List Stmt → Expr
  | .Expr (.Call _ [e] _ _) _ :: _ => e
  | _ => .Name "" ⟨0, 0, 0, 0⟩
def initExpr (st : Stmt) : Expr := superArg (defBody (initStmt st))
end PyM
namespace PyT
open PySem PySem.Spec PyProof.Rows L2 PyD PyM
/-! ### what the top leaves, looked at by names -/
/-- the addresses that objects name -/
def namesOf (g : Addr → Option Obj) (l : List Addr) : List Addr := l.flatMap fun a => match g a with
  | some o => He.refsD o
  | none => []
/-- the objects of the names xs and what they name; of the names ys two steps more -/
def partAt (g : Addr → Option Obj) (xs ys : List Str) : List Addr :=
  mainGlobals :: cStatics :: (xs.map (He.ga (He.frG g [mainGlobals])) ++ (namesOf g (xs.map (He.ga (He.frG g [mainGlobals]))) ++
    (namesOf g (namesOf g (ys.map (He.ga (He.frG g [mainGlobals])))) ++ namesOf g (namesOf g (namesOf g (ys.map (He.ga (He.frG g [mainGlobals]))))))))
abbrev FnT : Type := Option (Str × Str × Arguments × FuncBody × Scope × Addr × Addr)
/-- a def's text, whatever it closes over -/
def fnT (K : PySem.W.Frag) (p : Str × Option Str) : FnT := match K.lookup (He.fAd K p) with
  | some o => (match o.data with
    | .func fd => some (fd.name, fd.qualname, fd.params, fd.body, fd.scope, fd.globals, fd.builtins)
    | _ => none)
  | none => none
structure Look where
  xs : List Str
  ys : List Str
  fa : List He.Fa
  fn : List He.DefD
  ts : List He.Tab
  tf : List He.Defn
  ex : PySem.W.Frag → Bool
  fx : List (Str × Option Str)
  vx : List FnT
/-- which part, by names -/
abbrev Look.K (L : Look) (g : Addr → Option Obj) : PySem.W.Frag := He.frT g (partAt g L.xs L.ys)
/-- the texts -/
def Look.obsA (L : Look) (g : Addr → Option Obj) : List He.FnW × List (Option (List (Option (Str × Int)))) × List FnT :=
  (L.fn.map fun d => He.fnW (L.K g) d.at_, L.ts.map fun t => He.dicW (L.K g) (t.1 (L.K g)), L.fx.map (fnT (L.K g)))
/-- the tests -/
def Look.obsB (L : Look) (g : Addr → Option Obj) : Bool :=
  (L.fa.all fun f => f.ok (L.K g)) && ((L.fn.all fun d => d.ok (L.K g)) && (L.ex (L.K g) && He.tabsB g L.tf (L.K g)))
def Look.valA (L : Look) (w : World) : List He.FnW × List (Option (List (Option (Str × Int)))) × List FnT := (L.fn.map He.DefD.val, L.ts.map fun t => some (He.keysIn w.params t.2), L.vx)
def Look.obs (L : Look) (g : Addr → Option Obj) : (List He.FnW × List (Option (List (Option (Str × Int)))) × List FnT) × Bool := (L.obsA g, L.obsB g)
structure Look.Says (L : Look) (w : World) (h : Heap) (K : PySem.W.Frag) : Prop where
  x : He.SaysX L.fa L.fn L.ts L.tf L.ex w h K
  f : L.fx.map (fnT K) = L.vx
theorem Look.of (L : Look) {w : World} {h : Heap} (e : L.obs h.get? = (L.valA w, true)) : L.Says w h (L.K h.get?) := by
  have eA : L.obsA h.get? = L.valA w := congrArg Prod.fst e
  have eB : L.obsB h.get? = true := congrArg Prod.snd e
  unfold Look.obsB at eB
  simp only [Bool.and_eq_true] at eB
  obtain ⟨b1, b2, b3, b4⟩ := eB
  have l1 : (L.fn.map fun d => He.fnW (L.K h.get?) d.at_) = L.fn.map He.DefD.val := congrArg Prod.fst eA
  have l2 : (L.ts.map fun t => He.dicW (L.K h.get?) (t.1 (L.K h.get?))) = L.ts.map fun t => some (He.keysIn w.params t.2) := congrArg (fun z => z.2.1) eA
  have l3 : L.fx.map (fnT (L.K h.get?)) = L.vx := congrArg (fun z => z.2.2) eA
  have hd : He.obsT L.fa L.fn L.ts (L.K h.get?) = He.valT L.fn L.ts w := by
    unfold He.obsT He.valT He.obsD He.valD
    rw [l1, l2, b1, b2]
    rfl
  have tab : ∀ p ∈ L.tf, PySem.W.codeHdIn (L.K h.get?) (He.cT (L.K h.get?) p).1 (He.cT (L.K h.get?) p).2 = true ∧ ∃ o, h.get? (He.cT (L.K h.get?) p).2 = some o ∧ He.emptyTab o = true := fun p hp => by
    have z := List.all_eq_true.mp b4 p hp
    rw [Bool.and_eq_true] at z
    refine ⟨z.1, ?_⟩
    have z2 := z.2
    split at z2
    · rename_i o ho
      exact ⟨o, ho, z2⟩
    · cases z2
  exact ⟨⟨hd, b3, fun p hp => (tab p hp).1, fun p hp => (tab p hp).2.elim fun o q => He.frT_none q.1 q.2, fun p hp => (tab p hp).2.elim fun o q => by rw [q.1, He.emptyTab_eq q.2]⟩, l3⟩
def Look.hook (L : Look) : PySem.W.Hook where
  α := (List He.FnW × List (Option (List (Option (Str × Int)))) × List FnT) × Bool
  obs := fun s => L.obs s.heap.get?
  val := fun w => (L.valA w, true)
  says := fun w h => ∃ K : PySem.W.Frag, K.In h ∧ L.Says w h K
  of := fun w s e => ⟨L.K s.heap.get?, He.frT_in, L.of e⟩
  keeps := fun w h1 h2 ⟨K, hK, c⟩ k => ⟨K, PySem.W.Frag.In.keeps hK k, ⟨c.x.t, c.x.more, c.x.hd, c.x.out, fun p hp => k _ _ (c.x.empty p hp)⟩, c.f⟩
theorem Look.obs_eq (L : Look) (s : PySem.W.SharedT) : L.obs (HandSHeadRun.getT s) = L.hook.obs s.abs := by
  show L.obs (HandSHeadRun.getT s) = L.obs s.abs.heap.get?
  rw [show HandSHeadRun.getT s = s.abs.heap.get? from funext fun a => HandSHeadRun.getT_eq s a]
/-! the run's parts, each checked by itself -/
noncomputable def endR (r : PySem.W.OpenRow) (w : World) (os : OsState) : Option PySem.W.SharedT := HandSHeadRun.endF (HandSHeadRun.stepQ (HandSHeadRun.denQ HandSHeadRun.tabQ) r.prog w) 60000 r.prog w os
noncomputable def seesR (r : PySem.W.OpenRow) (q : Program) (loose : List Str) (s : PySem.W.SharedT) := HandSHeadRun.seenQ q loose (importedModules r.prog.main.body) (fun s => PySem.W.xlAt q [] s && PySem.W.recOk r.toRowW.records s) s.abs
theorem join3 {α β γ δ : Type} {x : Option α} {f : α → β} {g : α → γ} {k : α → δ} {a : β} {b : γ} {c : δ} (h1 : x.map (fun s => (f s, g s)) = some (a, b)) (h2 : x.map k = some c) : x.map (fun s => (f s, g s, k s)) = some (a, b, c) := by
  cases x with
  | none => cases h1
  | some s =>
    have e1 := Option.some.inj h1
    have e2 := Option.some.inj h2
    have e3 : f s = a := congrArg Prod.fst e1
    have e4 : g s = b := congrArg Prod.snd e1
    rw [Option.map_some, e3, e4, show k s = c from e2]
/-! ### tests of the written part -/
abbrev defD (x : Str) (st : Stmt) : He.DefD := ⟨(x, none), x, x, defArgs st, defBody st, defScope st, [], []⟩
def isTupT (v : Value) : Bool := match v with
  | .type t => decide (t = "tuple")
  | _ => false
def tupKB (K : PySem.W.Frag) (a : Addr) (vs : List V) : Bool := match K.lookup a with
  | some o => isTupT o.cls && (match o.data with
    | .seq its _ => Nat.ble its.size 1000 && He.relAll vs its.toList
    | _ => false)
  | none => false
def dicKB (K : PySem.W.Frag) (a : Addr) (kvs : List (Str × List Int)) : Bool := kvs.all fun q => match PySem.W.nsIn K a q.1 with
  | some (some (.ref t)) => tupKB K t (q.2.map V.int)
  | _ => false
def dicSB (K : PySem.W.Frag) (a : Addr) (kvs : List (Str × Str)) : Bool := kvs.all fun q => match PySem.W.nsIn K a q.1 with
  | some (some (.str z _)) => sbeq z q.2
  | _ => false
def inKB (K : PySem.W.Frag) (a : Addr) (tbl : List (Str × Bool)) : Bool := tbl.all fun p => match PySem.W.nsIn K a p.1 with
  | some r => r.isSome == p.2
  | none => false
def eqV1 (a b : Option Value) : Bool := decide (a = b)
def eqB1 (a : Option Bool) (b : Bool) : Bool := decide (a = some b)
def clsFB (K : PySem.W.Frag) (c NE : Str) (tab : List Str) (sub : Str → Str → Bool) (fld : Str) : Bool :=
  eqB1 (PySem.W.exmOne K (.ref (He.ga K c)) (.ref (He.ga K NE))) true && (xfB K (He.ga K c) && (He.eqO (PySem.W.findIn K (.ref (He.ga K c)) "__class__") (some (some (.builtin "object.__class__"))) &&
  (He.eqO (PySem.W.specialIn K (.builtin "object.__class__") "__get__") (some (some (.builtin "getset_descriptor.__get__"))) && (eqB1 (PySem.W.takesIn K (.builtin "object.__class__")) true && (eqB1 (PySem.W.mroIn K (He.ga K c) (.type "object")) true &&
  (He.eqO (PySem.W.findIn K (.ref (He.ga K c)) fld) (some none) && (eqB1 (PySem.W.kitOne K (.ref (He.ga K c)) (.type "ValueError")) (sub c "ValueError") && tab.all fun p => eqB1 (PySem.W.kitOne K (.ref (He.ga K c)) (.ref (He.ga K p))) (sub c p))))))))
abbrev Mkr : Type := Str × Str
def mkD (p : Mkr) : He.Defn := (p.1, none)
def mkT (K : PySem.W.Frag) (tl : List Mkr) : List (Addr × Str) := tl.map fun p => ((He.cT K (mkD p)).2, p.2)
def mkC (K : PySem.W.Frag) (tl : List Mkr) : List (Addr × Addr) := tl.map fun p => He.cT K (mkD p)
def mkB (K : PySem.W.Frag) (tl : List Mkr) : Bool := tl.all fun p => tl.all fun q => match Nat.beq (He.cT K (mkD p)).2 (He.cT K (mkD q)).2 with
  | true => sbeq p.2 q.2
  | false => true
def oexB (K : PySem.W.Frag) (C : Addr) : Bool := match K.lookup C with
  | some o => (match o.cls, o.data, o.slots.toList with
    | .type t, .cls cd, [_, _, _, _, some (.builtin n), _] => decide (t = "type") && (decide (n = "ValueError.__new__") && (cd.hasDict && (!cd.hasDel && (match cd.mro with
      | .ref C2 :: bm => Nat.beq C2 C && PySem.HandSPX.refsVE bm
      | _ => false))))
    | _, _, _ => false)
  | none => false
def fileV (file : Str) (l : List Value) : Bool := match l with
  | _ :: _ :: .str f _ :: _ => sbeq file f
  | _ => false
def fileB (file : Str) (o : Obj) : Bool := match o.data with
  | .fields vs => fileV file vs.toList
  | _ => false
def cellB (C : Addr) (o : Obj) : Bool := match o.data with
  | .cell (some (.ref D)) => Nat.beq D C
  | _ => false
def lookB (K : PySem.W.Frag) (a : Addr) (f : Obj → Bool) : Bool := match K.lookup a with
  | some o => f o
  | none => false
def closFd (K : PySem.W.Frag) (C : Addr) (file q : Str) (fd : FuncData) : Bool := match fd.closure, fd.code with
  | [(x, cc)], .ref c => sbeq x "__class__" && (PySem.W.codeIn K (.ref c) q && (lookB K cc (cellB C) && (lookB K c (fileB file) && decide (fd.defaults = Value.none))))
  | _, _ => false
def closO (K : PySem.W.Frag) (C : Addr) (file q : Str) (o : Obj) : Bool := match o.data with
  | .func fd => closFd K C file q fd
  | _ => false
def closB (K : PySem.W.Frag) (fI C : Addr) (file : Str) (q : Str) : Bool := lookB K fI (closO K C file q)
def initB (K : PySem.W.Frag) (y x q file : Str) : Bool :=
  oexB K (He.ga K y) && (He.eqO (PySem.W.findIn K (.ref (He.ga K y)) "__setattr__") (some (some (.builtin "object.__setattr__"))) && (eqB1 (PySem.W.subIn K (.ref (He.ga K y)) (.type "BaseException")) true && (eqV1 (PySem.W.typeIn K (.ref (He.ga K y))) (some (.type "type")) && (PySem.W.keepIn K (.ref (He.ga K y)) &&
  (closB K (He.ma K (He.ga K y) "__init__") (He.ga K y) file q && (He.eqO (PySem.W.ks_superIn K (He.ga K y) (He.ga K y) "__init__") (some (some (.builtin "ValueError.__init__"))) && (He.eqO (PySem.W.nsIn K cStatics "thirdparty.any") (some none) &&
  (eqB1 (PySem.W.subIn K (.ref (He.ga K y)) (.type "ValueError")) true && (eqB1 (PySem.W.mroIn K (He.ga K y) (.ref (He.ga K y))) true && (He.eqO (PySem.W.findIn K (.ref (He.ga K y)) x) (some none) && (He.eqO (PySem.W.findIn K (.ref (He.ga K y)) "__init__") (some (some (.ref (He.ma K (He.ga K y) "__init__")))) &&
  eqV1 (PySem.W.typeIn K (.ref (He.ma K (He.ga K y) "__init__"))) (some (.type "function")))))))))))))
end PyT

-- Pre50
set_option maxRecDepth 100000
set_option maxHeartbeats 8000000
namespace Py
open PySem PySem.Spec PyProof.Rows L2 PyD PyM
def topS (i : Nat) : Stmt := PySem.Challenge.pw_nearanswer_k50_whole_heaps_reached_and_c.main.body.getD i (.Pass ⟨0, 0, 0, 0⟩)
abbrev st__law_cup : Stmt := topS 34
abbrev st__law_roll : Stmt := topS 35
abbrev st__law_some : Stmt := topS 36
abbrev st__law_word : Stmt := topS 41
abbrev st__law_heap : Stmt := topS 42
abbrev st__law_led : Stmt := topS 44
abbrev st__law_reached : Stmt := topS 45
abbrev st_is_tuple_of : Stmt := topS 14
abbrev st_begins_with_word : Stmt := topS 15
abbrev st_is_index_of : Stmt := topS 16
abbrev st_is_address : Stmt := topS 24
abbrev st_is_integer : Stmt := topS 12
abbrev st_is_number : Stmt := topS 13
abbrev st_is_heap_word : Stmt := topS 23
abbrev st_are_words : Stmt := topS 22
abbrev st_is_cell : Stmt := topS 21
abbrev st_fits_heap : Stmt := topS 20
abbrev st_check_heap : Stmt := topS 25
abbrev st_check_roots : Stmt := topS 26
abbrev st_addresses_in : Stmt := topS 27
abbrev st_reached_from : Stmt := topS 31
abbrev st_counts_in : Stmt := topS 32
abbrev st_is_heap : Stmt := topS 29
abbrev st_are_roots : Stmt := topS 30
abbrev st__law_bent : Stmt := topS 49
abbrev st__law_is_whole : Stmt := topS 39
abbrev st__law_is_word : Stmt := topS 46
abbrev st__law_are_words : Stmt := topS 47
abbrev st__law_is_heap : Stmt := topS 48
abbrev st__law_truly : Stmt := topS 40
abbrev st__law_names : Stmt := topS 37
def sub0 (a b : Str) : Bool := match ([("InvalidTree", "InvalidTree"), ("InvalidTree", "ValueError"), ("InvalidProgram", "InvalidProgram"), ("InvalidProgram", "ValueError"), ("InvalidNumber", "InvalidNumber"), ("InvalidNumber", "ValueError"), ("InvalidHeap", "InvalidHeap"), ("InvalidHeap", "ValueError"), ("InvalidRoots", "InvalidRoots"), ("InvalidRoots", "ValueError"), ("InvalidAddress", "InvalidAddress"), ("InvalidAddress", "ValueError"), ("InvalidClearing", "InvalidClearing"), ("InvalidClearing", "ValueError"), ("TooMany", "TooMany"), ("TooMany", "ValueError")] : List (Str × Str)).find? fun p => match sbeq p.1 a with | true => sbeq p.2 b | false => false with | some _ => true | none => false
abbrev st__law_error : Stmt := topS 38
abbrev st__law_right : Stmt := topS 50
def qv__law_right : Str := (envOfC "_law_right" (defScope st__law_right) 0 0 .none).qual
abbrev st__law_roots : Stmt := topS 43
abbrev st_law : Stmt := topS 51
def qv_law : Str := (envOfC "law" (defScope st_law) 0 0 .none).qual
end Py

-- Run50
set_option maxRecDepth 100000
set_option maxHeartbeats 0
namespace Py
open PySem PySem.Spec PyProof.Rows L2 PyD PyM
abbrev R50 : PySem.W.OpenRow := PySem.W.OpenLaw.row PySem.Challenge.rw_nearanswer_k50_whole_heaps_reached_and_c
abbrev P50 : Program := PySem.Challenge.pw_nearanswer_k50_whole_heaps_reached_and_c
def xs50_0 : List Str := ["_law_cup", "_law_roll", "_law_some", "_law_word", "_law_heap", "_law_led", "_law_reached", "is_tuple_of", "begins_with_word", "is_index_of", "is_address", "is_integer", "is_number", "is_heap_word", "are_words", "is_cell", "fits_heap", "check_heap", "check_roots", "addresses_in"]
def xs50_1 : List Str := ["reached_from", "counts_in", "is_heap", "are_roots", "_law_bent", "_law_is_whole", "_law_is_word", "_law_are_words", "_law_is_heap", "_law_truly", "_law_names", "_law_error", "_law_right", "_law_roots", "law", "InvalidAddress", "InvalidClearing", "InvalidHeap", "InvalidNumber", "InvalidProgram"]
def xs50_2 : List Str := ["InvalidRoots", "InvalidTree", "NearError", "TooMany"]
def xs50 : List Str := xs50_0 ++ xs50_1 ++ xs50_2
def nm50_0 : List Str := ["NearError", "InvalidTree", "InvalidProgram", "InvalidNumber", "InvalidHeap", "InvalidRoots", "InvalidAddress", "InvalidClearing", "TooMany", "MOST_NUMBER", "is_integer", "is_number", "is_tuple_of", "begins_with_word", "is_index_of", "MOST_ITEMS", "MOST_WORDS", "fits_heap", "is_cell", "are_words"]
def nm50_1 : List Str := ["is_heap_word", "is_address", "check_heap", "check_roots", "addresses_in", "is_heap", "are_roots", "reached_from", "counts_in", "_law_cup", "_law_roll", "_law_some", "_law_names", "_law_error", "_law_is_whole", "_law_truly", "_law_word", "_law_heap", "_law_roots", "_law_led"]
def nm50_2 : List Str := ["_law_reached", "_law_is_word", "_law_are_words", "_law_is_heap", "_law_bent", "_law_right"]
def nm50 : List Str := nm50_0 ++ nm50_1 ++ nm50_2
def fa50_0 : List He.Fa := [.glo "_law_cup", .glo "_law_roll", .glo "_law_some", .glo "_law_word", .glo "_law_heap", .glo "_law_led", .glo "_law_reached", .glo "is_tuple_of", .glo "begins_with_word", .glo "is_index_of", .glo "is_address", .glo "is_integer", .glo "is_number", .glo "is_heap_word", .glo "are_words", .glo "is_cell", .glo "fits_heap", .glo "check_heap", .glo "check_roots", .glo "addresses_in"]
def fa50_1 : List He.Fa := [.glo "reached_from", .glo "counts_in", .glo "is_heap", .glo "are_roots", .glo "_law_bent", .glo "_law_is_whole", .glo "_law_is_word", .glo "_law_are_words", .glo "_law_is_heap", .glo "_law_truly", .glo "_law_names", .glo "_law_error", .glo "_law_right", .glo "_law_roots", .glo "law", .glo "InvalidAddress", .glo "InvalidClearing", .glo "InvalidHeap", .glo "InvalidNumber", .glo "InvalidProgram"]
def fa50_2 : List He.Fa := [.glo "InvalidRoots", .glo "InvalidTree", .glo "NearError", .glo "TooMany", .free "ValueError", .free "abs", .free "all", .free "bool", .free "enumerate", .free "int", .free "isinstance", .free "len", .free "list", .free "range", .free "sorted", .free "str", .free "tuple", .free "type", .free "zip", .free "super"]
def fa50_3 : List He.Fa := [.int "MOST_ITEMS" 1000, .int "MOST_NUMBER" 1000000000000, .int "MOST_WORDS" 12, .exc "InvalidAddress", .exc "InvalidClearing", .exc "InvalidHeap", .exc "InvalidNumber", .exc "InvalidProgram", .exc "InvalidRoots", .exc "InvalidTree", .exc "NearError"]
def fa50 : List He.Fa := fa50_0 ++ fa50_1 ++ fa50_2 ++ fa50_3
def fn50_0 : List He.DefD := [PyT.defD "_law_cup" st__law_cup, PyT.defD "_law_roll" st__law_roll, PyT.defD "_law_some" st__law_some, PyT.defD "_law_word" st__law_word, PyT.defD "_law_heap" st__law_heap, PyT.defD "_law_led" st__law_led, PyT.defD "_law_reached" st__law_reached, PyT.defD "is_tuple_of" st_is_tuple_of, PyT.defD "begins_with_word" st_begins_with_word, PyT.defD "is_index_of" st_is_index_of, PyT.defD "is_address" st_is_address, PyT.defD "is_integer" st_is_integer, PyT.defD "is_number" st_is_number, PyT.defD "is_heap_word" st_is_heap_word, PyT.defD "are_words" st_are_words, PyT.defD "is_cell" st_is_cell, PyT.defD "fits_heap" st_fits_heap, PyT.defD "check_heap" st_check_heap, PyT.defD "check_roots" st_check_roots, PyT.defD "addresses_in" st_addresses_in]
def fn50_1 : List He.DefD := [PyT.defD "reached_from" st_reached_from, PyT.defD "counts_in" st_counts_in, PyT.defD "is_heap" st_is_heap, PyT.defD "are_roots" st_are_roots, PyT.defD "_law_bent" st__law_bent, PyT.defD "_law_is_whole" st__law_is_whole, PyT.defD "_law_is_word" st__law_is_word, PyT.defD "_law_are_words" st__law_are_words, PyT.defD "_law_is_heap" st__law_is_heap, PyT.defD "_law_truly" st__law_truly, PyT.defD "_law_names" st__law_names, PyT.defD "_law_error" st__law_error, PyT.defD "_law_right" st__law_right, PyT.defD "_law_roots" st__law_roots, PyT.defD "law" st_law]
def fn50 : List He.DefD := fn50_0 ++ fn50_1
def ts50 : List He.Tab := []
def mk50 : List PyT.Mkr := [("_law_right", qv__law_right ++ "<lambda>"), ("law", qv_law ++ "<lambda>")]
def tab50 : List Str := ["InvalidClearing", "InvalidAddress", "InvalidRoots", "InvalidHeap", "InvalidNumber", "InvalidProgram", "InvalidTree", "TooMany"]
def ex50_0 (K : PySem.W.Frag) : Bool := PyT.mkB K mk50
def ex50_1 (K : PySem.W.Frag) : Bool := PyT.clsFB K "InvalidTree" "NearError" tab50 sub0 "limit"
def ex50_2 (K : PySem.W.Frag) : Bool := PyT.clsFB K "InvalidProgram" "NearError" tab50 sub0 "limit"
def ex50_3 (K : PySem.W.Frag) : Bool := PyT.clsFB K "InvalidNumber" "NearError" tab50 sub0 "limit"
def ex50_4 (K : PySem.W.Frag) : Bool := PyT.clsFB K "InvalidHeap" "NearError" tab50 sub0 "limit"
def ex50_5 (K : PySem.W.Frag) : Bool := PyT.clsFB K "InvalidRoots" "NearError" tab50 sub0 "limit"
def ex50_6 (K : PySem.W.Frag) : Bool := PyT.clsFB K "InvalidAddress" "NearError" tab50 sub0 "limit"
def ex50_7 (K : PySem.W.Frag) : Bool := PyT.clsFB K "InvalidClearing" "NearError" tab50 sub0 "limit"
def ex50_8 (K : PySem.W.Frag) : Bool := PyT.clsFB K "TooMany" "NearError" tab50 sub0 "limit"
def ex50 (K : PySem.W.Frag) : Bool := ex50_0 K && (ex50_1 K && (ex50_2 K && (ex50_3 K && (ex50_4 K && (ex50_5 K && (ex50_6 K && (ex50_7 K && (ex50_8 K))))))))
def look50 : PyT.Look := ⟨xs50, ["TooMany"], fa50, fn50, ts50, mk50.map PyT.mkD, ex50, [], []⟩
abbrev vw50 : Program := PySem.W.view R50.prog [51]
theorem run50f_1 (w : World) (os : OsState) : (PyT.endR R50 (w.withFollow "special-get-raises" false) os).map (fun s => (HandSHeadRun.looksF R50.prog (PySem.W.boot_heap (w.withFollow "special-get-raises" false).params) s.abs, PyT.seesR R50 vw50 nm50 s)) = some (true, PySem.W.openGood vw50 nm50) := by
  kernel_rfl
theorem run50f_2 (w : World) (os : OsState) : (PyT.endR R50 (w.withFollow "special-get-raises" false) os).map (fun s => look50.obs (HandSHeadRun.getT s)) = some (look50.valA (w.withFollow "special-get-raises" false), true) := by
  kernel_rfl
theorem run50f (w : World) : HandSHeadRun.RunEq R50 vw50 look50.hook (fun s => look50.obs (HandSHeadRun.getT s)) 60000 nm50 (w.withFollow "special-get-raises" false) :=
  fun os => PyT.join3 (run50f_1 w os) (run50f_2 w os)
theorem run50t_1 (w : World) (os : OsState) : (PyT.endR R50 (w.withFollow "special-get-raises" true) os).map (fun s => (HandSHeadRun.looksF R50.prog (PySem.W.boot_heap (w.withFollow "special-get-raises" true).params) s.abs, PyT.seesR R50 vw50 nm50 s)) = some (true, PySem.W.openGood vw50 nm50) := by
  kernel_rfl
theorem run50t_2 (w : World) (os : OsState) : (PyT.endR R50 (w.withFollow "special-get-raises" true) os).map (fun s => look50.obs (HandSHeadRun.getT s)) = some (look50.valA (w.withFollow "special-get-raises" true), true) := by
  kernel_rfl
theorem run50t (w : World) : HandSHeadRun.RunEq R50 vw50 look50.hook (fun s => look50.obs (HandSHeadRun.getT s)) 60000 nm50 (w.withFollow "special-get-raises" true) :=
  fun os => PyT.join3 (run50t_1 w os) (run50t_2 w os)
theorem run50 (w : World) : HandSHeadRun.RunEq R50 vw50 look50.hook (fun s => look50.obs (HandSHeadRun.getT s)) 60000 nm50 w :=
  PySem.W.byRow2 "special-get-raises" (P := fun w => HandSHeadRun.RunEq R50 vw50 look50.hook (fun s => look50.obs (HandSHeadRun.getT s)) 60000 nm50 w) run50f run50t w
end Py

-- PyK0
set_option maxRecDepth 100000
set_option maxHeartbeats 4000000
noncomputable section
namespace PyK
open PySem PySem.Spec PyProof.Rows L2
/-! ### a tuple taken once is itself -/
theorem mul_one_t (l : Addr) (its : Array Value) (n : Nat) (dd : Option Addr) (sl : Array (Option Value)) (u : Tok) :
    Meets (Builtin.«tuple.__mul__» ⟨[.ref l, .int 1 u], []⟩) (fun _ R s2 => s2.heap.get? l = some { cls := .type "tuple", dict := dd, data := .seq its n, slots := sl } ∧ R (.ok (.ret (.ref l))) s2) := .of_wp fun prog w A R s2 hh => by
  obtain ⟨hp, gg, d0, tt, oo⟩ := s2
  obtain ⟨hl, hr⟩ := hh
  have f1 := AutoSeq1.idx_int
  have c0 : (decide ((1 : Int) < -(2 ^ 63)) || decide ((1 : Int) ≥ 2 ^ 63)) = false := by decide
  have c1 : (its.isEmpty || (1 : Int) == 1) = true := by rw [show ((1 : Int) == 1) = true from rfl, Bool.or_true]
  wp_walk using wpAny_loadPart' hl
  repeat (first
    | (refine wpAny_ite_false (decide_eq_false (by rw [c0]; exact Bool.false_ne_true)) ?_; wp_walk using wpAny_loadPart' hl)
    | (refine wpAny_ite_true (decide_eq_true (by rw [c1])) ?_; wp_walk using wpAny_loadPart' hl))
  exact ⟨_, rfl, hr⟩
def rOneT (K : PySem.W.Frag) : R2 := fun x y H Q => ∃ l xs, x = .ref l ∧ y = .int 1 ∧ SqT K H l xs ∧ Q (.ref l) H
theorem op_oneT {X : Cx} : OpR X (binaryOp .Mult) (rOneT X.K) := by
  intro pins s g H x y v u Q I rx ry h
  obtain ⟨l, xs, rfl, rfl, hT, q⟩ := h
  cases rx
  obtain ⟨t, rfl⟩ := ry
  obtain ⟨its, r, ⟨⟨cls, dd, data, sl⟩, ho, hc, n, hd⟩, hs⟩ := I.tuple hT
  simp only at hc hd
  subst hc hd
  refine wpAny_binaryOp_repeat_ref (T := "tuple") (U := "int") (by decide) ⟨_, ho, rfl⟩ (fun s2 => typeIs_int s2 1 t) noFill_tuple_mul F.fills_int_mul F.slot_int_rmul repeat_tuple F.slot_int_index.lookup ?_
  refine call_meets F.slot_int_rmul (typeIs_int s 1 t) F.entry_int_rmul (F.args_int_rmul_2 _ _) (int_rmul_tuple 1 t l its.toArray n dd sl) ⟨ho, rfl, ⟨_, ho, rfl⟩, ?_⟩
  refine call_meets F.slot_tuple_mul ⟨_, ho, rfl⟩ F.entry_tuple_mul (F.args_tuple_mul_2 _ _) (mul_one_t l its.toArray n dd sl t) ⟨ho, ?_⟩
  exact ⟨.ref l, H, I, rfl, q⟩
end PyK

-- PyD1
set_option maxRecDepth 100000
set_option maxHeartbeats 4000000
noncomputable section
namespace PyD
open PySem PySem.Spec PyProof.Rows L2

/-! ### data: values without the heap; lists and dicts by their number in a store -/
inductive D where
  | non | bl (b : Bool) | int (i : Int) | str (x : Str) | ty (n : String) | tup (ds : List D) | ktup (ds : List D) | lst (i : Nat) | dic (i : Nat) | fn (n : Nat) | exn (cls : Str) (as : List D)
inductive Cell where
  | lst (ds : List D)
  | dk (kvs : List (Key × D))
  | dt (kvs : List (List Key × D))
  | ob (c : Str) (fs : List (Str × D))
  | dead
/-- a tuple of the written part -/
def SqK (K : PySem.W.Frag) (a : Addr) (xs : List V) : Prop := ∃ (o : Obj) (its : Array Value) (n : Nat), K.lookup a = some o ∧ o.cls = .type "tuple" ∧ o.data = .seq its n ∧ its.size ≤ sizeLine ∧ Vals xs its.toList
theorem SqK.sq {K : PySem.W.Frag} {H : Hp} {a : Addr} {xs : List V} (h : SqK K a xs) : SqT K H a xs := .inr h
abbrev Sto := List Cell
abbrev DEnv := List (Option D)

/-- the i-th cell, by recursors -/
def sGet (M : Sto) : Nat → Option Cell := List.rec (motive := fun _ => Nat → Option Cell) (fun _ => none) (fun x _ ih i => Nat.rec (motive := fun _ => Option Cell) (some x) (fun k _ => ih k) i) M
theorem sGet_eq : ∀ (M : Sto) (i : Nat), sGet M i = M[i]?
  | [], i => by cases i <;> rfl
  | x :: M, 0 => rfl
  | x :: M, i + 1 => by
    rw [List.getElem?_cons_succ, ← sGet_eq M i]
    rfl
theorem sGet_mem {M : Sto} {i : Nat} {c : Cell} (h : sGet M i = some c) : c ∈ M := List.mem_of_getElem? (by rw [← sGet_eq]; exact h)
def sApp (M : Sto) (c : Cell) : Sto := List.rec (motive := fun _ => Sto) [c] (fun x _ ih => x :: ih) M
theorem sApp_eq : ∀ (M : Sto) (c : Cell), sApp M c = M ++ [c]
  | [], _ => rfl
  | x :: M, c => congrArg (x :: ·) (sApp_eq M c)
/-- what never changes -/
def Stb : HO → Prop
  | .tup _ => True
  | .ext _ => True
  | .xd _ => True
  | _ => False
/-- the written part; the tables of the makers' code; the lambdas made, by number -/
structure KT where
  f : PySem.W.Frag
  T : List (Addr × Str)
  lam : Nat → Addr → HO → Addr → HO → Prop
  exn : Str → Addr → Option (Addr × Str) → Prop
theorem kt {A : PySem.W.Frag} {K : KT} (h : A = K.f) : K = ⟨A, K.T, K.lam, K.exn⟩ := by subst h; rfl
mutual
inductive R (K : KT) (H : Hp) (io : List Addr) : D → V → Prop
  | non : R K H io .non .non
  | bl (b : Bool) : R K H io (.bl b) (.bl b)
  | int (i : Int) : R K H io (.int i) (.int i)
  | str (x : Str) : R K H io (.str x) (.str x)
  | ty (n : String) : R K H io (.ty n) (.ty n)
  | tup {a : Addr} {xs : List V} {ds : List D} : H a = some (.tup xs) → RL K H io ds xs → R K H io (.tup ds) (.ref a)
  | ktup {a : Addr} {xs : List V} {ds : List D} : SqK K.f a xs → RL K H io ds xs → R K H io (.ktup ds) (.ref a)
  | lst {i : Nat} {a : Addr} : io[i]? = some a → R K H io (.lst i) (.ref a)
  | dic {i : Nat} {a : Addr} : io[i]? = some a → R K H io (.dic i) (.ref a)
  | fn {n : Nat} {a b : Addr} {o u : HO} : K.lam n a o b u → H a = some o → Stb o → H b = some u → Stb u → R K H io (.fn n) (.ref a)
  | exn0 {cls : Str} {a : Addr} : K.exn cls a none → R K H io (.exn cls []) (.ref a)
  | exn1 {cls f : Str} {a dx : Addr} {d : D} {v : V} : K.exn cls a (some (dx, f)) → H dx = some (.xd [(f, v)]) → R K H io d v → R K H io (.exn cls [d]) (.ref a)
inductive RL (K : KT) (H : Hp) (io : List Addr) : List D → List V → Prop
  | nil : RL K H io [] []
  | cons {d : D} {v : V} {ds : List D} {vs : List V} : R K H io d v → RL K H io ds vs → RL K H io (d :: ds) (v :: vs)
end

structure Ext (K : KT) (io : List Addr) (H : Hp) (io' : List Addr) (H' : Hp) : Prop where
  u : ∀ (a : Addr) (o : HO), H a = some o → Stb o → H' a = some o
  i : ∀ (j : Nat) (a : Addr), io[j]? = some a → io'[j]? = some a

section
variable {K : KT} {H H' H1 H2 : Hp} {io io' io1 io2 : List Addr}
theorem Ext.refl : Ext K io H io H := ⟨fun _ _ h _ => h, fun _ _ h => h⟩
theorem Ext.t (e : Ext K io H io' H') (a : Addr) (xs : List V) (h : H a = some (.tup xs)) : H' a = some (.tup xs) := e.u a _ h trivial
theorem Ext.trans (a : Ext K io H io1 H1) (b : Ext K io1 H1 io2 H2) : Ext K io H io2 H2 := ⟨fun _ _ h q => b.u _ _ (a.u _ _ h q) q, fun _ _ h => b.i _ _ (a.i _ _ h)⟩
mutual
theorem R.mono (e : Ext K io H io' H') : ∀ {d : D} {v : V}, R K H io d v → R K H' io' d v
  | _, _, .non => .non
  | _, _, .bl b => .bl b
  | _, _, .int i => .int i
  | _, _, .str x => .str x
  | _, _, .ty n => .ty n
  | _, _, .tup h r => .tup (e.t _ _ h) (RL.mono e r)
  | _, _, .ktup h r => .ktup h (RL.mono e r)
  | _, _, .lst h => .lst (e.i _ _ h)
  | _, _, .dic h => .dic (e.i _ _ h)
  | _, _, .fn l h q h2 q2 => .fn l (e.u _ _ h q) q (e.u _ _ h2 q2) q2
  | _, _, .exn0 h => .exn0 h
  | _, _, .exn1 h g r => .exn1 h (e.u _ _ g trivial) (R.mono e r)
theorem RL.mono (e : Ext K io H io' H') : ∀ {ds : List D} {vs : List V}, RL K H io ds vs → RL K H' io' ds vs
  | _, _, .nil => .nil
  | _, _, .cons r t => .cons (R.mono e r) (RL.mono e t)
end
theorem RL.length : ∀ {ds : List D} {vs : List V}, RL K H io ds vs → ds.length = vs.length
  | _, _, .nil => rfl
  | _, _, .cons _ t => by rw [List.length_cons, List.length_cons, RL.length t]
theorem RL.get : ∀ {ds : List D} {vs : List V} {i : Nat} {d : D}, RL K H io ds vs → ds[i]? = some d → ∃ v, vs[i]? = some v ∧ R K H io d v
  | _, _, _, _, .nil, e => by simp at e
  | _, _, 0, _, .cons r _, e => by simp at e; subst e; exact ⟨_, rfl, r⟩
  | _, _, i + 1, _, .cons _ t, e => by
    obtain ⟨v, h1, h2⟩ := RL.get (i := i) t (by simpa using e)
    exact ⟨v, by simpa using h1, h2⟩
theorem RL.append : ∀ {ds es : List D} {vs ws : List V}, RL K H io ds vs → RL K H io es ws → RL K H io (ds ++ es) (vs ++ ws)
  | _, _, _, _, .nil, s => s
  | _, _, _, _, .cons r t, s => .cons r (RL.append t s)
theorem RL.take : ∀ {ds : List D} {vs : List V} (n : Nat), RL K H io ds vs → RL K H io (ds.take n) (vs.take n)
  | _, _, 0, _ => .nil
  | _, _, _ + 1, .nil => .nil
  | _, _, n + 1, .cons r t => .cons r (RL.take n t)
theorem RL.drop : ∀ {ds : List D} {vs : List V} (n : Nat), RL K H io ds vs → RL K H io (ds.drop n) (vs.drop n)
  | _, _, 0, r => r
  | _, _, _ + 1, .nil => .nil
  | _, _, n + 1, .cons _ t => RL.drop n t
theorem RL.set {d : D} {v : V} (r : R K H io d v) : ∀ {ds : List D} {vs : List V} (i : Nat), RL K H io ds vs → RL K H io (ds.set i d) (vs.set i v)
  | _, _, _, .nil => .nil
  | _, _, 0, .cons _ t => .cons r t
  | _, _, i + 1, .cons q t => .cons q (RL.set r i t)
theorem RL.reverse : ∀ {ds : List D} {vs : List V}, RL K H io ds vs → RL K H io ds.reverse vs.reverse
  | _, _, .nil => .nil
  | _, _, .cons r t => by
    rw [List.reverse_cons, List.reverse_cons]
    exact RL.append (RL.reverse t) (.cons r .nil)
theorem RL.dropLast : ∀ {ds : List D} {vs : List V}, RL K H io ds vs → RL K H io ds.dropLast vs.dropLast
  | _, _, .nil => .nil
  | _, _, .cons _ .nil => .nil
  | _, _, .cons r (.cons r2 t) => .cons r (RL.dropLast (.cons r2 t))
theorem RL.rep {ds : List D} {vs : List V} (h : RL K H io ds vs) : ∀ k : Nat, RL K H io (List.replicate k ds).flatten (List.replicate k vs).flatten
  | 0 => .nil
  | k + 1 => by
    rw [List.replicate_succ, List.replicate_succ, List.flatten_cons, List.flatten_cons]
    exact RL.append h (RL.rep h k)

/-! ### the store -/
def RKV {κ : Type} (K : KT) (H : Hp) (io : List Addr) : List (κ × D) → List (κ × V) → Prop := Paired fun p q => p.1 = q.1 ∧ R K H io p.2 q.2
def RC (K : KT) (H : Hp) (io : List Addr) : Cell → HO → Prop
  | .lst ds, o => ∃ xs, o = .lst xs ∧ RL K H io ds xs
  | .dk kvs, o => ∃ xs, o = .dK xs ∧ RKV K H io kvs xs
  | .dt kvs, o => ∃ xs, o = .dT xs ∧ RKV K H io kvs xs
  | .ob c fs, o => ∃ (dx : Addr) (xs : List (Str × V)), o = .ins (He.ga K.f c) dx xs ∧ RKV K H io fs xs
  | .dead, o => ¬ Stb o ∧ ∀ ps, o ≠ .tbl ps
end
end PyD

-- PyD2
set_option maxRecDepth 100000
set_option maxHeartbeats 4000000
noncomputable section
namespace PyD
open PySem PySem.Spec PyProof.Rows L2
section
variable {K : KT} {H H' H1 H2 : Hp} {io io' io1 io2 : List Addr}
theorem paired_mono {α β : Type} {F G : α → β → Prop} : ∀ {l : List α} {m : List β}, Paired F l m → (∀ a b, F a b → G a b) → Paired G l m
  | _, _, .nil, _ => .nil
  | _, _, .cons r t, f => .cons (f _ _ r) (paired_mono t f)
theorem RKV.mono {κ : Type} {a : List (κ × D)} {b : List (κ × V)} (e : Ext K io H io' H') (h : RKV K H io a b) : RKV K H' io' a b := paired_mono h fun _ _ z => ⟨z.1, z.2.mono e⟩
theorem RC.mono {c : Cell} {o : HO} (e : Ext K io H io' H') (h : RC K H io c o) : RC K H' io' c o := by
  cases c with
  | lst ds => obtain ⟨xs, q, r⟩ := h; exact ⟨xs, q, r.mono e⟩
  | dk kvs => obtain ⟨xs, q, r⟩ := h; exact ⟨xs, q, r.mono e⟩
  | dt kvs => obtain ⟨xs, q, r⟩ := h; exact ⟨xs, q, r.mono e⟩
  | ob cl fs => obtain ⟨dx, xs, q, r⟩ := h; exact ⟨dx, xs, q, r.mono e⟩
  | dead => exact h
/-- what is known of the store -/
structure RS (K : KT) (H : Hp) (io : List Addr) (M : Sto) : Prop where
  len : io.length = M.length
  nd : io.Nodup
  tab : LamX.Tabs K.T H
  cell : ∀ (i : Nat) (c : Cell), (sGet M i) = some c → ∃ (a : Addr) (o : HO), io[i]? = some a ∧ H a = some o ∧ RC K H io c o
theorem RS.there {M : Sto} (h : RS K H io M) {i : Nat} {a : Addr} (e : io[i]? = some a) : ∃ (c : Cell) (o : HO), (sGet M i) = some c ∧ H a = some o ∧ RC K H io c o := by
  obtain ⟨hl, e1⟩ := List.getElem?_eq_some_iff.mp e
  have hm : i < M.length := by rw [← h.len]; exact hl
  obtain ⟨a', o, e2, ho, rc⟩ := h.cell i M[i] (by rw [sGet_eq]; exact List.getElem?_eq_getElem hm)
  rw [e] at e2
  cases e2
  exact ⟨_, o, by rw [sGet_eq]; exact List.getElem?_eq_getElem hm, ho, rc⟩
theorem sqT_new {p : Addr} {o : HO} (n : H p = none) (a : Addr) (x : HO) (h : H a = some x) (_ : Stb x) : upd H p o a = some x := by rw [upd_ne (ne_of_none h n)]; exact h
def notTup (o : HO) : Prop := ¬ Stb o ∧ ∀ ps, o ≠ .tbl ps
theorem nt_lst {xs : List V} : notTup (.lst xs) := ⟨id, fun _ z => nomatch z⟩
theorem nt_dk {xs : List (Key × V)} : notTup (.dK xs) := ⟨id, fun _ z => nomatch z⟩
theorem nt_dt {xs : List (List Key × V)} : notTup (.dT xs) := ⟨id, fun _ z => nomatch z⟩
theorem tabs_new {T : List (Addr × Str)} {p : Addr} {o : HO} (h : LamX.Tabs T H) (n : H p = none) : LamX.Tabs T (upd H p o) := h.ext fun b x e => by rw [upd_ne (ne_of_none e n)]; exact e
theorem tabs_mut {T : List (Addr × Str)} {p : Addr} {o u : HO} (h : LamX.Tabs T H) (n : H p = some u) (m : notTup u) : LamX.Tabs T (upd H p o) := fun q hq => by
  obtain ⟨ps, h1, h2, h3⟩ := h q hq
  have ne : ∀ b x, H b = some x → (∀ y, u = y → x ≠ y) → b ≠ p := fun b x e d z => by subst z; rw [n] at e; cases e; exact d _ rfl rfl
  refine ⟨ps, by rw [upd_ne (ne _ _ h1 fun y e z => by subst e; exact m.2 ps z.symm)]; exact h1, h2, fun pos cv hc => ?_⟩
  obtain ⟨c, e1, e2⟩ := h3 pos cv hc
  exact ⟨c, e1, by rw [upd_ne (ne _ _ e2 fun y e z => by subst e; exact m.1 (by rw [← z]; exact True.intro))]; exact e2⟩
theorem sqT_mut {p : Addr} {o u : HO} (n : H p = some u) (m : notTup u) (a : Addr) (x : HO) (h : H a = some x) (q : Stb x) : upd H p o a = some x := by
  rw [upd_ne (fun z => by subst z; rw [n] at h; cases h; exact m.1 q)]
  exact h
theorem Ext.tupNew {p : Addr} {o : HO} (n : H p = none) : Ext K io H io (upd H p o) := ⟨sqT_new n, fun _ _ h => h⟩
/-- a new object that the store doesn't hold -/
theorem RS.tupNew {M : Sto} {p : Addr} {o : HO} (h : RS K H io M) (n : H p = none) : RS K (upd H p o) io M := by
  refine ⟨h.len, h.nd, tabs_new h.tab n, fun i c e => ?_⟩
  obtain ⟨a, u, e1, e2, r⟩ := h.cell i c e
  exact ⟨a, u, e1, by rw [upd_ne (ne_of_none e2 n)]; exact e2, r.mono (Ext.tupNew n)⟩
theorem Ext.alloc {p : Addr} {o : HO} (n : H p = none) : Ext K io H (io ++ [p]) (upd H p o) := ⟨sqT_new n, fun j a h => by
  rw [List.getElem?_append_left (List.getElem?_eq_some_iff.mp h).1]; exact h⟩
/-- a new object of the store -/
theorem RS.alloc {M : Sto} {p : Addr} {o : HO} {c : Cell} (h : RS K H io M) (n : H p = none) (rc : RC K (upd H p o) (io ++ [p]) c o) : RS K (upd H p o) (io ++ [p]) ((sApp M (c))) := by
  rw [sApp_eq]
  refine ⟨by simp [h.len], ?_, tabs_new h.tab n, fun i c' e => ?_⟩
  · rw [List.nodup_append]
    refine ⟨h.nd, by simp, fun a ha b hb => ?_⟩
    have hb' : b = p := by simpa using hb
    subst hb'
    intro z
    subst z
    obtain ⟨i, hi, e⟩ := List.getElem_of_mem ha
    obtain ⟨c0, o0, _, e2, _⟩ := h.there (i := i) (a := a) (by rw [List.getElem?_eq_getElem hi, e])
    rw [n] at e2
    cases e2
  · rw [sGet_eq] at e
    by_cases hi : i < M.length
    · rw [List.getElem?_append_left hi, ← sGet_eq] at e
      obtain ⟨a, u, e1, e2, r⟩ := h.cell i c' e
      exact ⟨a, u, (Ext.alloc (K := K) (o := o) n).i i a e1, by rw [upd_ne (ne_of_none e2 n)]; exact e2, r.mono (Ext.alloc n)⟩
    · have hi2 : i = M.length := by
        have := (List.getElem?_eq_some_iff.mp e).1
        simp at this
        omega
      subst hi2
      rw [List.getElem?_append_right (Nat.le_refl _)] at e
      simp at e
      subst e
      exact ⟨p, o, by rw [← h.len, List.getElem?_append_right (Nat.le_refl _)]; simp, upd_same, rc⟩
def CellKind : Cell → HO → Prop
  | .lst _, .lst _ => True
  | .dk _, .dK _ => True
  | .dt _, .dT _ => True
  | _, _ => False
theorem RC.notTup {c : Cell} {o : HO} (h : RC K H io c o) : notTup o := by
  cases c with
  | lst ds => obtain ⟨xs, q, r⟩ := h; subst q; exact ⟨id, fun _ z => nomatch z⟩
  | dk ds => obtain ⟨xs, q, r⟩ := h; subst q; exact ⟨id, fun _ z => nomatch z⟩
  | dt ds => obtain ⟨xs, q, r⟩ := h; subst q; exact ⟨id, fun _ z => nomatch z⟩
  | ob cl fs => obtain ⟨dx, xs, q, r⟩ := h; subst q; exact ⟨id, fun _ z => nomatch z⟩
  | dead => exact h
theorem Ext.write {p : Addr} {o u : HO} (n : H p = some u) (m : notTup u) : Ext K io H io (upd H p o) := ⟨sqT_mut n m, fun _ _ h => h⟩
/-- an object of the store changed -/
theorem RS.write {M : Sto} {p : Addr} {o u : HO} {c : Cell} {i : Nat} (h : RS K H io M) (e : io[i]? = some p) (n : H p = some u) (m : notTup u) (rc : RC K (upd H p o) io c o) : RS K (upd H p o) io (M.set i c) := by
  have hl := (List.getElem?_eq_some_iff.mp e).1
  refine ⟨by simp [h.len], h.nd, tabs_mut h.tab n m, fun j c' e' => ?_⟩
  rw [sGet_eq] at e'
  by_cases hj : j = i
  · subst hj
    rw [List.getElem?_set_self (by rw [← h.len]; exact hl)] at e'
    cases e'
    exact ⟨p, o, e, upd_same, rc⟩
  · rw [List.getElem?_set_ne (Ne.symm hj), ← sGet_eq] at e'
    obtain ⟨a, w, e1, e2, r⟩ := h.cell j c' e'
    have ne : a ≠ p := fun z => by
      subst z
      obtain ⟨h1, q1⟩ := List.getElem?_eq_some_iff.mp e1
      obtain ⟨h2, q2⟩ := List.getElem?_eq_some_iff.mp e
      exact hj ((List.getElem_inj h.nd).mp (q1.trans q2.symm))
    exact ⟨a, w, e1, by rw [upd_ne ne]; exact e2, r.mono (Ext.write n m)⟩

/-! ### the frame -/
def RE (K : KT) (H : Hp) (io : List Addr) (r : DEnv) (g : L2.St) : Prop := r.length = g.length ∧ ∀ (i : Nat) (d : D), r[i]? = some (some d) → ∃ v, g[i]? = some (some v) ∧ R K H io d v
theorem RE.mono {r : DEnv} {g : L2.St} (h : RE K H io r g) (e : Ext K io H io' H') : RE K H' io' r g := ⟨h.1, fun i d q => by
  obtain ⟨v, a, b⟩ := h.2 i d q
  exact ⟨v, a, b.mono e⟩⟩
theorem RE.set {r : DEnv} {g : L2.St} {i : Nat} {d : D} {v : V} (h : RE K H io r g) (rv : R K H io d v) : RE K H io (r.set i (some d)) (g.set i (some v)) := ⟨by simp [h.1], fun j e q => by
  by_cases hj : j = i
  · subst hj
    have hl : j < r.length := by
      have := (List.getElem?_eq_some_iff.mp q).1
      simpa using this
    rw [List.getElem?_set_self hl] at q
    cases q
    exact ⟨v, List.getElem?_set_self (by rw [← h.1]; exact hl), rv⟩
  · rw [List.getElem?_set_ne (Ne.symm hj)] at q
    obtain ⟨w, a, b⟩ := h.2 j e q
    exact ⟨w, by rw [List.getElem?_set_ne (Ne.symm hj)]; exact a, b⟩⟩
/-- less is known -/
theorem RE.clear {r : DEnv} {g : L2.St} {i : Nat} (h : RE K H io r g) : RE K H io (r.set i none) (g.set i none) := ⟨by simp [h.1], fun j e q => by
  by_cases hj : j = i
  · subst hj
    have hl : j < r.length := by
      have := (List.getElem?_eq_some_iff.mp q).1
      simpa using this
    rw [List.getElem?_set_self hl] at q
    cases q
  · rw [List.getElem?_set_ne (Ne.symm hj)] at q
    obtain ⟨w, a, b⟩ := h.2 j e q
    exact ⟨w, by rw [List.getElem?_set_ne (Ne.symm hj)]; exact a, b⟩⟩
def wipeD (r : DEnv) : List Nat → DEnv
  | [] => r
  | v :: vs => (wipeD r vs).set v none
theorem RE.wipe {r : DEnv} {g : L2.St} (h : RE K H io r g) : ∀ vs : List Nat, RE K H io (wipeD r vs) (L2.wipe g vs)
  | [] => h
  | v :: vs => (RE.wipe h vs).clear
end

/-! ### what is read: an exception, a result -/
/-- an exception: its class's name, the field's value where it has one -/
structure Ex where
  cls : Str
  arg : Option D
inductive Res (α : Type) where
  | ok (a : α)
  | ex (x : Ex)
/-- the fields by class name: none, or the name of the one field -/
abbrev Flds := Str → Option Str
def RX (mg : Str → Option Value) (K : KT) (fl : Flds) (H : Hp) (io : List Addr) (x : Ex) (cv : Value) (dx : Option Addr) : Prop :=
  mg x.cls = some cv ∧ match x.arg with
    | none => dx = none
    | some d => ∃ (f : Str) (a : Addr) (v : V), fl x.cls = some f ∧ dx = some a ∧ H a = some (.xd [(f, v)]) ∧ R K H io d v
/-- the setting of a def's body -/
structure Cfg where
  K : KT
  mg : Str → Option Value
  fl : Flds
  W : XK
abbrev Den (α : Type) := DEnv → Sto → Option (Res α × Sto)
/-- what is wanted behind: a value, or an exception -/
def Aft {α β : Type} (c : Cfg) (Ra : Hp → List Addr → α → β → Prop) (g : L2.St) (io : List Addr) (H : Hp) (M' : Sto) (x : Res α) (Q : β → Hp → Prop) : Prop :=
  ∀ (io' : List Addr) (H' : Hp), Ext c.K io H io' H' → RS c.K H' io' M' → match x with
      | .ok a => ∀ b, Ra H' io' a b → Q b H'
      | .ex x => ∀ cv dx, RX c.mg c.K c.fl H' io' x cv dx → c.W cv dx H'
def Run {α β : Type} (c : Cfg) (Ra : Hp → List Addr → α → β → Prop) (f : Den α) (r : DEnv) (M : Sto) (io : List Addr) (g : L2.St) (H : Hp) (Q : β → Hp → Prop) : Prop :=
  ∃ (x : Res α) (M' : Sto), f r M = some (x, M') ∧ Aft c Ra g io H M' x Q
def sG {α β : Type} (c : Cfg) (Ra : Hp → List Addr → α → β → Prop) (f : Den α) : L2.St → Hp → (β → Hp → Prop) → Prop := fun g H Q =>
  ∃ (r : DEnv) (M : Sto) (io : List Addr), RE c.K H io r g ∧ RS c.K H io M ∧ Run c Ra f r M io g H Q
abbrev rD (c : Cfg) : Hp → List Addr → D → V → Prop := fun H io d v => R c.K H io d v
abbrev rDs (c : Cfg) : Hp → List Addr → List D → List V → Prop := fun H io d v => RL c.K H io d v
abbrev rQ {α : Type} : Hp → List Addr → α → α → Prop := fun _ _ a b => a = b
abbrev sE (c : Cfg) (f : Den D) : TE := sG c (rD c) f
abbrev sA (c : Cfg) (f : Den (List D)) : TA := sG c (rDs c) f
abbrev sT (c : Cfg) (f : Den Bool) : TT := sG c rQ f
def bindD {α β : Type} (f : Den α) (g : α → Den β) : Den β := fun r M => match f r M with
  | none => none
  | some (.ex x, M1) => some (.ex x, M1)
  | some (.ok a, M1) => g a r M1
def liftD {α β : Type} (op : α → Sto → Option (β × Sto)) (a : α) : Den β := fun _ M => match op a M with
  | none => none
  | some (x, M1) => some (.ok x, M1)
section
variable {α β γ δ : Type} {c : Cfg} {Ra : Hp → List Addr → α → β → Prop} {Rc : Hp → List Addr → γ → δ → Prop} {f : Den α} {g : L2.St} {H H1 : Hp} {r : DEnv} {M M' : Sto} {io io1 : List Addr}
theorem Aft.ext {x : Res α} {Q : β → Hp → Prop} (k : Aft c Ra g io H M' x Q) (e : Ext c.K io H io1 H1) : Aft c Ra g io1 H1 M' x Q := fun io' H' e2 rs => k io' H' (e.trans e2) rs
theorem Aft.ok {a : α} {b : β} {Q : β → Hp → Prop} (k : Aft c Ra g io H M' (.ok a) Q) (e : Ext c.K io H io1 H1) (rs : RS c.K H1 io1 M') (ra : Ra H1 io1 a b) : Q b H1 := k io1 H1 e rs b ra
theorem Run.bind {h : α → Den γ} {Q : δ → Hp → Prop} {T : β → Hp → Prop} (s : Run c Rc (bindD f h) r M io g H Q)
    (ht : ∀ (a : α) (b : β) (M1 : Sto) (io1 : List Addr) (H1 : Hp), Ext c.K io H io1 H1 → RS c.K H1 io1 M1 → Ra H1 io1 a b → Run c Rc (h a) r M1 io1 g H1 Q → T b H1) : Run c Ra f r M io g H T := by
  obtain ⟨x, M', e, k⟩ := s
  unfold bindD at e
  cases ef : f r M with
  | none => rw [ef] at e; cases e
  | some p =>
    obtain ⟨y, M1⟩ := p
    rw [ef] at e
    cases y with
    | ex y =>
      cases e
      exact ⟨.ex y, _, ef, fun io' H' ex rs' => k io' H' ex rs'⟩
    | ok a =>
      refine ⟨.ok a, _, ef, fun io1 H1 e1 rs1 b rb => ?_⟩
      exact ht a b M1 io1 H1 e1 rs1 rb ⟨x, M', e, k.ext e1⟩
theorem Run.lift {op : α → Sto → Option (γ × Sto)} {a : α} {Q : δ → Hp → Prop} (s : Run c Rc (liftD op a) r M io g H Q) : ∃ x M', op a M = some (x, M') ∧ Aft c Rc g io H M' (.ok x) Q := by
  obtain ⟨x, M', e, k⟩ := s
  unfold liftD at e
  cases eo : op a M with
  | none => rw [eo] at e; cases e
  | some p =>
    obtain ⟨y, M1⟩ := p
    rw [eo] at e
    cases e
    exact ⟨y, _, rfl, k⟩
theorem sG.bind {h : α → Den γ} {Q : δ → Hp → Prop} {T : β → Hp → Prop} (s : sG c Rc (bindD f h) g H Q)
    (ht : ∀ (a : α) (b : β) (r : DEnv) (M1 : Sto) (io1 : List Addr) (H1 : Hp), RE c.K H1 io1 r g → RS c.K H1 io1 M1 → Ra H1 io1 a b → Run c Rc (h a) r M1 io1 g H1 Q → T b H1) : sG c Ra f g H T := by
  obtain ⟨r, M, io, re, rs, run⟩ := s
  exact ⟨r, M, io, re, rs, run.bind fun a b M1 io1 H1 e1 rs1 ra run1 => ht a b r M1 io1 H1 (re.mono e1) rs1 ra run1⟩
end
/-- two values, an operation without exceptions -/
def sV2 (c : Cfg) (op : D → D → Sto → Option (D × Sto)) : R2 := fun x y H Q =>
  ∃ (M : Sto) (io : List Addr) (a b d : D) (M' : Sto), op a b M = some (d, M') ∧ R c.K H io a x ∧ R c.K H io b y ∧ RS c.K H io M ∧
    ∀ (io' : List Addr) (H' : Hp), Ext c.K io H io' H' → RS c.K H' io' M' → ∀ v, R c.K H' io' d v → Q v H'
def sV1 (c : Cfg) (op : D → Sto → Option (D × Sto)) : V → Hp → VK → Prop := fun x H Q =>
  ∃ (M : Sto) (io : List Addr) (a d : D) (M' : Sto), op a M = some (d, M') ∧ R c.K H io a x ∧ RS c.K H io M ∧
    ∀ (io' : List Addr) (H' : Hp), Ext c.K io H io' H' → RS c.K H' io' M' → ∀ v, R c.K H' io' d v → Q v H'
def sVs (c : Cfg) (op : List D → Sto → Option (D × Sto)) : List V → Hp → VK → Prop := fun x H Q =>
  ∃ (M : Sto) (io : List Addr) (a : List D) (d : D) (M' : Sto), op a M = some (d, M') ∧ RL c.K H io a x ∧ RS c.K H io M ∧
    ∀ (io' : List Addr) (H' : Hp), Ext c.K io H io' H' → RS c.K H' io' M' → ∀ v, R c.K H' io' d v → Q v H'
def op2 (op : D → D → Sto → Option (D × Sto)) (f h : Den D) : Den D := bindD f fun a => bindD h fun b => liftD (fun p : D × D => op p.1 p.2) (a, b)
def op1 (op : D → Sto → Option (D × Sto)) (f : Den D) : Den D := bindD f fun a => liftD op a
def opS (op : List D → Sto → Option (D × Sto)) (f : Den (List D)) : Den D := bindD f fun a => liftD op a
section
variable {c : Cfg} {f h : Den D} {g : L2.St} {H : Hp} {Q : VK}
theorem sE_op2 {op : D → D → Sto → Option (D × Sto)} (s : sE c (op2 op f h) g H Q) : tOp (sV2 c op) (sE c f) (sE c h) g H Q := by
  refine sG.bind s fun a x r M1 io1 H1 re rs ra run => ⟨r, M1, io1, re, rs, run.bind fun b y M2 io2 H2 e2 rs2 rb run2 => ?_⟩
  obtain ⟨d, M3, e, k⟩ := run2.lift
  exact ⟨M2, io2, a, b, d, M3, e, ra.mono e2, rb, rs2, k⟩
theorem sE_op1 {op : D → Sto → Option (D × Sto)} (s : sE c (op1 op f) g H Q) : tUn (sV1 c op) (sE c f) g H Q := by
  refine sG.bind s fun a x r M1 io1 H1 re rs ra run => ?_
  obtain ⟨d, M3, e, k⟩ := run.lift
  exact ⟨M1, io1, a, d, M3, e, ra, rs, k⟩
theorem sE_opS {op : List D → Sto → Option (D × Sto)} {f : Den (List D)} (s : sE c (opS op f) g H Q) : tCB (sVs c op) (sA c f) g H Q := by
  refine sG.bind s fun a x r M1 io1 H1 re rs ra run => ?_
  obtain ⟨d, M3, e, k⟩ := run.lift
  exact ⟨M1, io1, a, d, M3, e, ra, rs, k⟩
end
/-- the same, a weaker reading -/
theorem PE.imp {X : Cx} {e : Expr} {t t' : TE} (h : PE X e t) (i : ∀ g H Q, t' g H Q → t g H Q) : PE X e t' := ⟨fun pins s g H Q I q => h.run pins s g H Q I (i g H Q q)⟩
theorem PT.imp {X : Cx} {e : Expr} {t t' : TT} (h : PT X e t) (i : ∀ g H Q, t' g H Q → t g H Q) : PT X e t' := ⟨fun pins s g H Q I q => h.run pins s g H Q I (i g H Q q)⟩
theorem PA.imp {X : Cx} {e : List Expr} {t t' : TA} (h : PA X e t) (i : ∀ g H Q, t' g H Q → t g H Q) : PA X e t' := ⟨fun pos pins s g H Q I q => h.run pos pins s g H Q I (i g H Q q)⟩
theorem PS.imp {X : Cx} {e : Stmt} {t t' : TS} (h : PS X e t) (i : ∀ D g H, t' D g H → t D g H) : PS X e t' := ⟨fun pins s g H D I q => h.run pins s g H D I (i D g H q)⟩
theorem PSs.imp {X : Cx} {e : List Stmt} {t t' : TS} (h : PSs X e t) (i : ∀ D g H, t' D g H → t D g H) : PSs X e t' := ⟨fun pins s g H D I q => h.run pins s g H D I (i D g H q)⟩
theorem PE.or {X : Cx} {e : Expr} {t t' : TE} (h : PE X e t) (h' : PE X e t') : PE X e (fun g H Q => t g H Q ∨ t' g H Q) := ⟨fun pins s g H Q I q => q.elim (h.run pins s g H Q I) (h'.run pins s g H Q I)⟩
theorem PI.or {X : Cx} {a b : Expr} {t t' : TI} (h : PI X a b t) (h' : PI X a b t') : PI X a b (fun g H Q => t g H Q ∨ t' g H Q) := ⟨fun pins s g H Q I q => q.elim (h.run pins s g H Q I) (h'.run pins s g H Q I)⟩
theorem PE.never {X : Cx} {e : Expr} {t : TE} (n : ∀ g H Q, ¬ t g H Q) : PE X e t := ⟨fun _ _ g H Q _ q => (n g H Q q).elim⟩
theorem PE.stuck {X : Cx} {e : Expr} {c : Cfg} : PE X e (sE c fun _ _ => none) := PE.never fun g H Q s => by
  obtain ⟨r, M, io, _, _, x, M', e, _⟩ := s
  cases e
end PyD

-- PyDX
set_option maxRecDepth 100000
set_option maxHeartbeats 4000000
noncomputable section
namespace PyDX
open PySem PySem.Spec PyProof.Rows L2
/-! ### extend by a tuple -/
theorem extend_meets (S it : Addr) (c₀ : Nat) (mine items : Array Value) (n : Nat) (h1 : mine.size + items.size ≤ sizeLine) :
    Meets (Builtin.«list.extend» ⟨[.ref S, .ref it], []⟩) (fun _ R s => s.heap.get? S = some { cls := .type "list", data := .seq mine c₀ } ∧ (∃ o, s.heap.get? it = some o ∧ o.cls = .type "tuple" ∧ o.data = .seq items n) ∧ R (.ok (.ret Value.none)) { s with heap := s.heap.update S (Obj.mapSeq (· ++ items)) }) := by
  intro prog w A R s h
  obtain ⟨hS, ⟨o, ho, hc, hd⟩, hR⟩ := h
  show wpAny _ A.in1 (Builtin.List.listExtendWith (.ref S) (.ref it) .none) _ _ s
  unfold Builtin.List.listExtendWith
  refine wpAny_bind (wpAny_typeOf ⟨o, ho, hc⟩ ?_)
  have h1' : (Builtin.List.listSameRef (.ref S) (.ref it) || Value.type "tuple" == Value.type "list" || Value.type "tuple" == Value.type "tuple") = true := by simp
  simp only [h1', if_true]
  refine wpAny_bind ?_
  unfold Builtin.List.listItems
  refine wpAny_bind (wpAny_seqItems ho hd (wpAny_pure ?_))
  refine wpAny_bind ?_
  refine wpAny_bind (wpAny_seqItems hS rfl (wpAny_pure ?_))
  have hlong : (!mine.isEmpty && Builtin.List.listTooLong (mine.size + items.size)) = false := by
    rw [L2.notLongL h1, Bool.and_false]
  rw [hlong]
  show wpAny _ A.in1 (updateSeq S (· ++ items) >>= fun _ => ret .none) _ _ s
  refine wpAny_bind (wpAny_updateSeq hS rfl ?_ (by omega) (by rw [Array.size_append]; omega))
  exact wpAny_pure hR
section
variable {X : Cx}
theorem mt_extendT : MtM X "list.extend" (fun x vs H Q => ∃ l b xs zs, x = .ref l ∧ vs = [.ref b] ∧ H l = some (.lst xs) ∧ H b = some (.tup zs) ∧ xs.length + zs.length ≤ sizeLine ∧ Q .non (upd H l (.lst (xs ++ zs)))) := by
  intro pins s σ H x vs v us Q I rx rv h
  obtain ⟨l, b, xs, zs, rfl, rfl, hH, hB, hz, q⟩ := h
  cases rx
  obtain ⟨u, rfl, ru⟩ := rv.one
  cases ru
  obtain ⟨z, its, n, r, hl, e⟩ := I.lstM hH
  obtain ⟨z2, its2, r2, ⟨ob, e2, hc2, n2, hd2⟩⟩ : zs.length ≤ sizeLine ∧ ∃ its : List Value, Vals zs its ∧ IsTup s.heap b its.toArray := I.hok b _ hB
  have hl2 := r2.length
  have hsz : its.toArray.size + its2.toArray.size ≤ sizeLine := by rw [List.size_toArray, List.size_toArray]; omega
  refine call_meets F.slot_list_extend ⟨_, e, rfl⟩ F.entry_list_extend (F.args_list_extend_2 _ _) (extend_meets l b n its.toArray its2.toArray n2 hsz) ⟨e, ⟨ob, e2, hc2, hd2⟩, ?_⟩
  refine ⟨.non, _, I.lset (its' := its ++ its2) (t' := s.toks) hH e (by simp) (r.append r2) ?_, rfl, q⟩
  rw [List.length_append]
  omega
end

/-! ### t[::-1] of a tuple -/
section
variable {prog : Program} {w : World} {A : Around} {E : Value → Shared → Prop} {s : Shared}
theorem adjust_rev (n : Nat) : Builtin.Slice.sliceAdjust none none (-1) (n : Int) = ((n : Int) - 1, -1) := by
  unfold Builtin.Slice.sliceAdjust
  rfl
theorem places_rev (n : Nat) : Builtin.Slice.slicePlaces ((n : Int) - 1) (-1) (-1) = n := by
  unfold Builtin.Slice.slicePlaces
  have h1 : ¬ ((-1 : Int) > 0) := by decide
  simp only [h1, if_false, show (- -1 : Int) = 1 by decide, Int.ediv_one]
  split <;> omega
theorem sliceApplied_rev {sl : Addr} {vs : Value} {n : Nat} {Q : Int × Int × Nat → Shared → Prop} (hs : s.heap.IsSliceOf sl .none .none vs) (ps : IsPart vs (some (-1)))
    (h : Q ((n : Int) - 1, -1, n) s) : wpAny (model prog w) A (Builtin.Slice.sliceApplied (.ref sl) (pure (n : Int))) Q E s := by
  obtain ⟨os, hos, hcs, hds⟩ := id hs
  cases ps with
  | int i t =>
  unfold Builtin.Slice.sliceApplied Builtin.Slice.sliceFields
  refine wpAny_bind (wpAny_bind (wpAny_field hos hds (x := .none) rfl (wpAny_bind (wpAny_field hos hds (x := .none) rfl (wpAny_bind (wpAny_field hos hds (x := .int (-1) t) rfl (wpAny_pure ?_)))))))
  refine wpAny_bind (slicePart_int ?_)
  show wpAny _ _ (if ((-1 : Int) == 0) = true then _ else _) _ _ s
  rw [if_neg (by decide)]
  refine wpAny_bind (slicePart_none (wpAny_bind (slicePart_none (wpAny_bind (wpAny_pure ?_)))))
  show wpAny _ _ (match Builtin.Slice.sliceAdjust none none (-1) (n : Int) with | (lo, hi) => pure (lo, (-1 : Int), Builtin.Slice.slicePlaces lo hi (-1))) _ _ s
  rw [adjust_rev n]
  show wpAny _ _ (pure ((n : Int) - 1, (-1 : Int), Builtin.Slice.slicePlaces ((n : Int) - 1) (-1) (-1))) _ _ s
  rw [places_rev]
  exact wpAny_pure h
theorem fm_congr {α β : Type} {f g : α → Option β} : ∀ {l : List α}, (∀ a ∈ l, f a = g a) → l.filterMap f = l.filterMap g
  | [], _ => rfl
  | a :: l, h => by rw [List.filterMap_cons, List.filterMap_cons, h a List.mem_cons_self, fm_congr fun b hb => h b (List.mem_cons_of_mem _ hb)]
theorem pick_rev (xs : Array Value) : ((List.range xs.size).filterMap fun (m : Nat) => xs[(((xs.size : Int) - 1) + (m : Int) * (-1)).toNat]?).toArray = xs.toList.reverse.toArray := by
  have e : ((List.range xs.size).filterMap fun (m : Nat) => xs[(((xs.size : Int) - 1) + (m : Int) * (-1)).toNat]?) = ((List.range xs.size).map fun k => xs.size - 1 - k).filterMap (xs[·]?) := by
    rw [List.filterMap_map]
    apply fm_congr
    intro m hm
    have := List.mem_range.mp hm
    have e2 : (((xs.size : Int) - 1) + (m : Int) * (-1)).toNat = xs.size - 1 - m := by omega
    rw [e2]
    rfl
  rw [e, PySem.W.krv_range, List.filterMap_reverse, PySem.W.krv_all]
theorem getItem_tuple_rev {t sl : Addr} {items : Array Value} {vs : Value} {Q : Value → Shared → Prop} (ht : IsTup s.heap t items) (hs : s.heap.IsSliceOf sl .none .none vs) (ps : IsPart vs (some (-1)))
    (h : Q (.ref s.heap.objs.size) { s with heap := s.heap.push { cls := .type "tuple", data := .seq items.toList.reverse.toArray } })
    (hsz : items.size ≤ sizeLine) : wpAny (model prog w) A (getItem (.ref t) (.ref sl)) Q E s := by
  have htake : sizeOk (.seq items.toList.reverse.toArray) := by
    show items.toList.reverse.toArray.size ≤ sizeLine
    rw [List.size_toArray, List.length_reverse, Array.length_toList]
    omega
  obtain ⟨os, hos, hcs, hds⟩ := id hs
  have hTs : s.TypeIs (.ref sl) "slice" := ⟨os, hos, hcs⟩
  unfold getItem
  try with_reducible refine wpAny_holding ?_
  first | refine wpAny_bind (wpAny_pure ?_) | skip
  refine wpAny_bind (wpAny_sequenceKey ht.typeIs (by decide) ?_)
  refine wpAny_bind (wpAny_callSpecial?_slot (name := Str.ofString "__getitem__") ht.typeIs PyProof.Rows.slot_tuple_getitem
    (wpAny_call_entry PyProof.Rows.slot_tuple_getitem ht.typeIs entry_tuple_getitem ?_ (args_tuple_getitem _ _)))
  show wpAny _ _ (Builtin.Tuple.tupleItemsOf (.ref t) >>= _) _ _ s
  refine wpAny_bind (tupleItemsOf_ ht ?_)
  refine wpAny_bind (wpAny_typeOf hTs ?_)
  rw [if_pos (by decide)]
  refine wpAny_bind (sliceApplied_rev hs ps ?_)
  have hno : ¬ ((((items.size : Int) - 1) == 0 && (-1 : Int) == 1 && items.size == items.size) = true) := by
    intro q
    rw [Bool.and_eq_true, Bool.and_eq_true] at q
    exact absurd q.1.2 (by decide)
  show wpAny _ _ (if (((items.size : Int) - 1) == 0 && (-1 : Int) == 1 && items.size == items.size) = true then _ else _) _ _ s
  rw [if_neg hno, pick_rev]
  first
    | exact wpAny_bind (m := Builtin.Tuple.tupleExact _) (wpAny_newObj_type (wpAny_pure ⟨_, rfl, wpAny_pure h⟩) htake)
    | exact wpAny_bind (m := Builtin.Tuple.tupleExact _) (wpAny_newObj_type (wpAny_bind (wpAny_pure (wpAny_pure ⟨_, rfl, wpAny_pure h⟩))) htake)
    | exact wpAny_bind (wpAny_bind (m := Builtin.Tuple.tupleExact _) (wpAny_newObj_type (wpAny_pure (wpAny_pure ⟨_, rfl, wpAny_pure h⟩)) htake))
    | exact wpAny_bind (wpAny_bind (m := Builtin.Tuple.tupleExact _) (wpAny_newObj_type (wpAny_pure ⟨_, rfl, wpAny_pure h⟩) htake))
end
def tRevT (K : PySem.W.Frag) (te : TE) : TE := fun σ H Q => te σ H fun x H1 => ∃ a xs, x = .ref a ∧ SqT K H1 a xs ∧ ∀ p, H1 p = none → Q (.ref p) (upd H1 p (.tup xs.reverse))
theorem pe_revT {X : Cx} {e : Expr} {te : TE} {k : Nat} {p1 p2 p3 pos : Pos} (he : PE X e te) : PE X (.Subscript e (.Slice none none (some (.UnaryOp .USub (.Constant (.int 1) k p1) p2)) p3) pos) (tRevT X.K te) := by
  refine ⟨fun pins s σ H Q I h => ?_⟩
  refine Subscript_ (thn (he.run pins s σ H _ I h) fun v s1 ⟨x, H1, I1, r1, q1⟩ => ?_)
  obtain ⟨a, xs, ex, hx, q⟩ := q1
  subst ex
  cases r1
  have hst : PO X (some (.UnaryOp .USub (.Constant (.int 1) k p1) p2)) (tPart (tUn (rU fun i => .int (-i)) (tC (.int 1)))) := po_some (pe_un un_neg pe_int)
  refine wpAny_Slice (thn (po_none.run pins s1 σ H1 (fun o H2 => o = none ∧ H2 = H1) I1 ⟨rfl, rfl⟩) fun vl s2 ⟨l, H2, I2, pl, el, e2⟩ => ?_)
  subst el e2
  refine thn (po_none.run pins s2 σ H2 (fun o H3 => o = none ∧ H3 = H2) I2 ⟨rfl, rfl⟩) fun vu s3 ⟨u, H3, I3, pu, eu, e3⟩ => ?_
  subst eu e3
  refine thn (hst.run pins s3 σ H3 (fun o H4 => o = some (-1) ∧ H4 = H3) I3 ⟨1, rfl, -1, rfl, rfl, rfl⟩) fun vs s4 ⟨o, H4, I4, ps, eo, e4⟩ => ?_
  subst eo e4
  cases pl
  cases pu
  have I5 : Inv X pins σ H4 { s4 with heap := s4.heap.push { cls := .type "slice", data := .fields #[.none, .none, vs] } } := I4.kept (t' := s4.toks) fun b ob q => Heap.get?_push_of_some _ q
  obtain ⟨its, r, ht, hz⟩ := I5.tuple hx
  have hlen := r.length
  show wpAny (model X.prog X.w) X.A (subscriptTail e (.Slice none none (some (.UnaryOp .USub (.Constant (.int 1) k p1) p2)) p3) (.ref a) (.ref s4.heap.objs.size)) (EP X pins σ Q) X.xe { s4 with heap := s4.heap.push { cls := .type "slice", data := .fields #[.none, .none, vs] } }
  refine tail_any (ops := [.ref a, .ref s4.heap.objs.size]) ht.typeIs (PyProof.Rows.slot_tuple_getitem.lookup) ?_ (by with_unfolding_all rfl)
  refine getItem_tuple_rev ht (Heap.IsSliceOf.new _ .none .none vs) ps ?_ (by rw [List.size_toArray]; omega)
  refine ⟨.ref _, _, I5.laid (t' := s4.toks) (o := .tup xs.reverse) (fun b ob q => Heap.get?_push_of_some _ q) (Nat.le_refl _) ?_, rfl, q _ (I5.hok.fresh (Nat.le_refl _))⟩
  exact ⟨by rw [List.length_reverse]; exact hz, its.reverse, r.reverse, ⟨_, Heap.get?_push_size _ rfl, rfl, _, rfl⟩⟩
end PyDX

-- PyD3
set_option maxRecDepth 100000
set_option maxHeartbeats 4000000
noncomputable section
namespace PyD
open PySem PySem.Spec PyProof.Rows L2

/-! ### the ends of an operation -/
section
variable {K : KT} {H H' : Hp} {io : List Addr} {M : Sto} {ds : List D} {xs : List V} {p : Addr} {Q : VK}
/-- what is wanted of a value -/
abbrev Aft1 (K : KT) (io : List Addr) (H : Hp) (M' : Sto) (d : D) (Q : VK) : Prop := ∀ (io' : List Addr) (H' : Hp), Ext K io H io' H' → RS K H' io' M' → ∀ v, R K H' io' d v → Q v H'
theorem k_now {d : D} {v : V} (k : Aft1 K io H M d Q) (rs : RS K H io M) (r : R K H io d v) : Q v H := k io H Ext.refl rs v r
theorem k_tup (k : Aft1 K io H M (.tup ds) Q) (rs : RS K H io M) (rl : RL K H io ds xs) (n : H p = none) : Q (.ref p) (upd H p (.tup xs)) :=
  k io _ (Ext.tupNew n) (rs.tupNew n) _ (.tup upd_same (rl.mono (Ext.tupNew n)))
theorem k_cell {c : Cell} {o : HO} (k : Aft1 K io H ((sApp M (c))) (.lst M.length) Q) (rs : RS K H io M) (n : H p = none) (rc : RC K (upd H p o) (io ++ [p]) c o) : Q (.ref p) (upd H p o) :=
  k (io ++ [p]) _ (Ext.alloc n) (rs.alloc n rc) _ (.lst (by rw [← rs.len, List.getElem?_append_right (Nat.le_refl _)]; simp))
theorem k_cellD {c : Cell} {o : HO} (k : Aft1 K io H ((sApp M (c))) (.dic M.length) Q) (rs : RS K H io M) (n : H p = none) (rc : RC K (upd H p o) (io ++ [p]) c o) : Q (.ref p) (upd H p o) :=
  k (io ++ [p]) _ (Ext.alloc n) (rs.alloc n rc) _ (.dic (by rw [← rs.len, List.getElem?_append_right (Nat.le_refl _)]; simp))
theorem k_lst (k : Aft1 K io H ((sApp M (.lst ds))) (.lst M.length) Q) (rs : RS K H io M) (rl : RL K H io ds xs) (n : H p = none) : Q (.ref p) (upd H p (.lst xs)) :=
  k_cell k rs n ⟨xs, rfl, rl.mono (Ext.alloc n)⟩
/-- a list of the store -/
theorem RS.lst {i : Nat} {a : Addr} (h : RS K H io M) (e : io[i]? = some a) {ds : List D} (em : (sGet M i) = some (.lst ds)) : ∃ xs, H a = some (.lst xs) ∧ RL K H io ds xs := by
  obtain ⟨c, o, e1, e2, rc⟩ := h.there e
  rw [em] at e1
  cases e1
  obtain ⟨xs, rfl, rl⟩ := rc
  exact ⟨xs, e2, rl⟩
theorem lst_at {i : Nat} {v : V} {ds : List D} (r : R K H io (.lst i) v) (h : RS K H io M) (em : (sGet M i) = some (.lst ds)) : ∃ a xs, v = .ref a ∧ io[i]? = some a ∧ H a = some (.lst xs) ∧ RL K H io ds xs := by
  cases r with
  | lst e =>
    obtain ⟨xs, h1, h2⟩ := h.lst e em
    exact ⟨_, xs, rfl, e, h1, h2⟩
end
theorem big_le {n : Nat} (h : n ≤ 100000) : n ≤ sizeLine := Nat.le_trans h (by decide)
theorem big_lt {n : Nat} (h : n < 100000) : n < sizeLine := Nat.lt_of_lt_of_le h (by decide)

/-! ### arithmetic -/
def smallI (i : Int) : Bool := decide (-(2 ^ 64) < i) && decide (i < 2 ^ 64)
def addD (a b : D) (M : Sto) : Option (D × Sto) :=
  match a, b with
  | .int i, .int j => some (.int (i + j), M)
  | .str x, .str y => if x.length + y.length ≤ 100000 then some (.str (x ++ y), M) else none
  | .tup x, .tup y => if x.length + y.length ≤ 100000 then some (.tup (x ++ y), M) else none
  | .lst i, .lst j => match (sGet M i), (sGet M j) with
    | some (.lst x), some (.lst y) => if x.length + y.length ≤ 100000 then some (.lst M.length, (sApp M (.lst (x ++ y)))) else none
    | _, _ => none
  | _, _ => none
def subD (a b : D) (M : Sto) : Option (D × Sto) :=
  match a, b with
  | .int i, .int j => some (.int (i - j), M)
  | _, _ => none
def mulD (a b : D) (M : Sto) : Option (D × Sto) :=
  match a, b with
  | .int i, .int j => if i.natAbs.log2 + j.natAbs.log2 < 1000000 ∨ (-(2 ^ 64) < j ∧ j < 2 ^ 64) then some (.int (i * j), M) else none
  | .tup x, .int j => if j = 1 then some (.tup x, M) else if decide (x ≠ []) = true ∧ 2 ≤ j ∧ j ≤ 1000 ∧ x.length ≤ 1000 then some (.tup (List.replicate j.toNat x).flatten, M) else none
  | .lst i, .int j => match (sGet M i) with
    | some (.lst x) => if 0 ≤ j ∧ j ≤ 1000 ∧ x.length * j.toNat ≤ 100000 then some (.lst M.length, (sApp M (.lst (List.replicate j.toNat x).flatten))) else none
    | _ => none
  | _, _ => none
def fdivD (a b : D) (M : Sto) : Option (D × Sto) :=
  match a, b with
  | .int i, .int j => if 0 < j ∧ j.natAbs.log2 < 9000 then some (.int (i / j), M) else none
  | _, _ => none
def modD (a b : D) (M : Sto) : Option (D × Sto) :=
  match a, b with
  | .int i, .int j => if j ≠ 0 then some (.int (i.fmod j), M) else none
  | _, _ => none
def powD (a b : D) (M : Sto) : Option (D × Sto) :=
  match a, b with
  | .int i, .int j => if 0 ≤ j ∧ j ≤ 1000000 ∧ i.natAbs < 2 ^ 64 then some (.int (i ^ j.toNat), M) else none
  | _, _ => none
def binD : Operator → D → D → Sto → Option (D × Sto)
  | .Add => addD
  | .Sub => subD
  | .Mult => mulD
  | .FloorDiv => fdivD
  | .Mod => modD
  | .Pow => powD
  | _ => fun _ _ _ => none
theorem rl_ne {K : KT} {H : Hp} {io : List Addr} {ds : List D} {xs : List V} (h : RL K H io ds xs) (n : ds ≠ []) : xs ≠ [] := by
  cases h with
  | nil => exact absurd rfl n
  | cons _ _ => simp
theorem rl_nil {K : KT} {H : Hp} {io : List Addr} {ds : List D} (h : RL K H io ds []) : ds = [] := by cases h; rfl
section
variable {X : Cx} {c : Cfg}
theorem or_add (hK : X.K = c.K.f) : OpR X (binaryOp .Add) (sV2 c addD) := by
  intro pins s g H x y v u Q I rx ry h
  obtain ⟨M, io, a, b, d, M', e, ra, rb, rs, k⟩ := h
  rw [kt hK] at ra rb rs k
  unfold addD at e
  split at e
  · cases e; cases ra; cases rb
    exact op_add pins s g H _ _ v u Q I rx ry ⟨_, _, rfl, rfl, k_now k rs (.int _)⟩
  · split at e
    · rename_i hl
      cases e; cases ra; cases rb
      exact op_add_str pins s g H _ _ v u Q I rx ry ⟨_, _, rfl, rfl, big_le hl, k_now k rs (.str _)⟩
    · cases e
  · split at e
    · rename_i hl
      cases e
      cases ra with
      | tup h1 r1 =>
        cases rb with
        | tup h2 r2 =>
          refine op_catA pins s g H _ _ v u Q I rx ry ⟨_, _, _, _, rfl, rfl, SqT.of h1, SqT.of h2, by rw [← r1.length, ← r2.length]; exact big_le hl, fun z => ?_, fun z1 z2 => ?_, fun z1 z2 p n => ?_⟩
          · subst z
            rw [rl_nil r1] at k
            exact k_now k rs (.tup h2 r2)
          · subst z2
            rw [rl_nil r2, List.append_nil] at k
            exact k_now k rs (.tup h1 r1)
          · exact k_tup k rs (r1.append r2) n
    · cases e
  · split at e
    · rename_i e1 e2
      split at e
      · rename_i hl
        cases e
        obtain ⟨a1, xs, rfl, i1, h1, r1⟩ := lst_at ra rs e1
        obtain ⟨a2, ys, rfl, i2, h2, r2⟩ := lst_at rb rs e2
        exact op_cat pins s g H _ _ v u Q I rx ry ⟨_, _, _, _, rfl, rfl, h1, h2, by rw [← r1.length, ← r2.length]; exact big_le hl, fun p n => k_lst k rs (r1.append r2) n⟩
      · cases e
    · cases e
  · cases e
theorem or_sub (hK : X.K = c.K.f) : OpR X (binaryOp .Sub) (sV2 c subD) := by
  intro pins s g H x y v u Q I rx ry h
  obtain ⟨M, io, a, b, d, M', e, ra, rb, rs, k⟩ := h
  rw [kt hK] at ra rb rs k
  unfold subD at e
  split at e
  · cases e; cases ra; cases rb
    exact op_sub pins s g H _ _ v u Q I rx ry ⟨_, _, rfl, rfl, k_now k rs (.int _)⟩
  · cases e
theorem or_mul (hK : X.K = c.K.f) : OpR X (binaryOp .Mult) (sV2 c mulD) := by
  intro pins s g H x y v u Q I rx ry h
  obtain ⟨M, io, a, b, d, M', e, ra, rb, rs, k⟩ := h
  rw [kt hK] at ra rb rs k
  unfold mulD at e
  split at e
  · split at e
    · rename_i hl
      cases e; cases ra; cases rb
      rcases hl with hl | hl
      · exact op_mulW pins s g H _ _ v u Q I rx ry ⟨_, _, rfl, rfl, hl, k_now k rs (.int _)⟩
      · exact op_mul pins s g H _ _ v u Q I rx ry ⟨_, _, rfl, rfl, .inr hl, k_now k rs (.int _)⟩
    · cases e
  · split at e
    · rename_i h1
      subst h1
      cases e
      cases rb
      cases ra with
      | tup h1 r1 => exact PyK.op_oneT pins s g H _ _ v u Q I rx ry ⟨_, _, rfl, rfl, SqT.of h1, k_now k rs (.tup h1 r1)⟩
    split at e
    · rename_i hl
      cases e
      cases rb
      cases ra with
      | tup h1 r1 =>
        exact op_repT pins s g H _ _ v u Q I rx ry ⟨_, _, _, rfl, rfl, SqT.of h1, rl_ne r1 (of_decide_eq_true hl.1), hl.2.1, hl.2.2.1, by rw [← r1.length]; exact hl.2.2.2, fun p n => k_tup k rs (r1.rep _) n⟩
    · cases e
  · split at e
    · rename_i e1
      split at e
      · rename_i hl
        cases e
        cases rb
        obtain ⟨a1, xs, rfl, i1, h1, r1⟩ := lst_at ra rs e1
        exact op_rep pins s g H _ _ v u Q I rx ry ⟨_, _, _, rfl, rfl, h1, by omega, by omega, by rw [← r1.length]; exact big_le hl.2.2, fun p n => k_lst k rs (r1.rep _) n⟩
      · cases e
    · cases e
  · cases e
theorem or_fdiv (hK : X.K = c.K.f) : OpR X (binaryOp .FloorDiv) (sV2 c fdivD) := by
  intro pins s g H x y v u Q I rx ry h
  obtain ⟨M, io, a, b, d, M', e, ra, rb, rs, k⟩ := h
  rw [kt hK] at ra rb rs k
  unfold fdivD at e
  split at e
  · split at e
    · rename_i hl
      cases e; cases ra; cases rb
      exact op_fdivW pins s g H _ _ v u Q I rx ry ⟨_, _, rfl, rfl, hl, k_now k rs (.int _)⟩
    · cases e
  · cases e
theorem or_mod (hK : X.K = c.K.f) : OpR X (binaryOp .Mod) (sV2 c modD) := by
  intro pins s g H x y v u Q I rx ry h
  obtain ⟨M, io, a, b, d, M', e, ra, rb, rs, k⟩ := h
  rw [kt hK] at ra rb rs k
  unfold modD at e
  split at e
  · split at e
    · rename_i hl
      cases e; cases ra; cases rb
      exact op_modN pins s g H _ _ v u Q I rx ry ⟨_, _, rfl, rfl, hl, k_now k rs (.int _)⟩
    · cases e
  · cases e
theorem or_pow (hK : X.K = c.K.f) : OpR X (binaryOp .Pow) (sV2 c powD) := by
  intro pins s g H x y v u Q I rx ry h
  obtain ⟨M, io, a, b, d, M', e, ra, rb, rs, k⟩ := h
  rw [kt hK] at ra rb rs k
  unfold powD at e
  split at e
  · split at e
    · rename_i hl
      cases e; cases ra; cases rb
      exact op_pow pins s g H _ _ v u Q I rx ry ⟨_, _, rfl, rfl, hl, k_now k rs (.int _)⟩
    · cases e
  · cases e
theorem or_none {f : Value → Value → Sem Value} : OpR X f (sV2 c fun _ _ _ => none) := by
  intro pins s g H x y v u Q I rx ry h
  obtain ⟨M, io, a, b, d, M', e, _⟩ := h
  cases e
theorem or_bin (hK : X.K = c.K.f) : ∀ op : Operator, OpR X (binaryOp op) (sV2 c (binD op))
  | .Add => or_add hK
  | .Sub => or_sub hK
  | .Mult => or_mul hK
  | .FloorDiv => or_fdiv hK
  | .Mod => or_mod hK
  | .Pow => or_pow hK
  | .MatMult => or_none
  | .Div => or_none
  | .LShift => or_none
  | .RShift => or_none
  | .BitOr => or_none
  | .BitXor => or_none
  | .BitAnd => or_none
end

/-! ### data as PyData -/
mutual
def toPy (M : Sto) : Nat → D → Option PyData
  | 0, _ => none
  | _ + 1, .non => some .none
  | _ + 1, .bl b => some (.bool b)
  | _ + 1, .int i => some (.int i)
  | _ + 1, .str x => some (.str x)
  | n + 1, .tup ds => (toPys M n ds).map .tuple
  | n + 1, .ktup ds => (toPys M n ds).map .tuple
  | n + 1, .lst i => match (sGet M i) with
    | some (.lst ds) => (toPys M n ds).map .list
    | _ => none
  | _ + 1, _ => none
def toPys (M : Sto) : Nat → List D → Option (List PyData)
  | _, [] => some []
  | 0, _ :: _ => none
  | n + 1, d :: ds => match toPy M n d, toPys M n ds with
    | some p, some ps => some (p :: ps)
    | _, _ => none
end
mutual
theorem toPy_ok {K : KT} {H : Hp} {io : List Addr} {M : Sto} (rs : RS K H io M) : ∀ (n : Nat) (d : D) (p : PyData) (v : V), toPy M n d = some p → R K H io d v → Dp K.f H v p
  | 0, _, _, _, e, _ => by simp [toPy] at e
  | n + 1, .non, _, _, e, r => by simp only [toPy] at e; cases e; cases r; exact .non
  | n + 1, .bl b, _, _, e, r => by simp only [toPy] at e; cases e; cases r; exact .bl _
  | n + 1, .int b, _, _, e, r => by simp only [toPy] at e; cases e; cases r; exact .int _
  | n + 1, .str b, _, _, e, r => by simp only [toPy] at e; cases e; cases r; exact .str _
  | n + 1, .tup ds, _, _, e, r => by
    simp only [toPy] at e
    cases eq : toPys M n ds with
    | none => rw [eq] at e; cases e
    | some ps =>
      rw [eq] at e
      cases e
      cases r with
      | tup h rl => exact .tup (SqT.of h) (toPys_ok rs n ds ps _ eq rl)
  | n + 1, .ktup ds, _, _, e, r => by
    simp only [toPy] at e
    cases eq : toPys M n ds with
    | none => rw [eq] at e; cases e
    | some ps =>
      rw [eq] at e
      cases e
      cases r with
      | ktup h rl => exact .tup h.sq (toPys_ok rs n ds ps _ eq rl)
  | n + 1, .lst i, _, v, e, r => by
    simp only [toPy] at e
    split at e
    · rename_i ds em
      cases eq : toPys M n ds with
      | none => rw [eq] at e; cases e
      | some ps =>
        rw [eq] at e
        cases e
        obtain ⟨a1, xs, rfl, i1, h1, r1⟩ := lst_at r rs em
        exact .lst (SqL.of h1) (toPys_ok rs n ds ps _ eq r1)
    · cases e
  | n + 1, .ty _, _, _, e, _ => by simp [toPy] at e
  | n + 1, .dic _, _, _, e, _ => by simp [toPy] at e
theorem toPys_ok {K : KT} {H : Hp} {io : List Addr} {M : Sto} (rs : RS K H io M) : ∀ (n : Nat) (ds : List D) (ps : List PyData) (vs : List V), toPys M n ds = some ps → RL K H io ds vs → DpAll K.f H vs ps
  | _, [], _, _, e, r => by simp only [toPys] at e; cases e; cases r; exact .nil
  | 0, _ :: _, _, _, e, _ => by simp [toPys] at e
  | n + 1, d :: ds, _, _, e, r => by
    simp only [toPys] at e
    split at e
    · rename_i p ps e1 e2
      cases e
      cases r with
      | cons r1 r2 => exact .cons (toPy_ok rs n d p _ e1 r1) (toPys_ok rs n ds ps _ e2 r2)
    · cases e
end
end PyD

-- PyD4
set_option maxRecDepth 100000
set_option maxHeartbeats 4000000
noncomputable section
namespace PyD
open PySem PySem.Spec PyProof.Rows L2

/-! ### texts compared item by item -/
def slt : List Nat → List Nat → Bool
  | [], [] => false
  | [], _ :: _ => true
  | _ :: _, [] => false
  | a :: as, b :: bs => match Nat.blt a b with
    | true => true
    | false => match Nat.beq a b with
      | true => slt as bs
      | false => false
theorem slt_iff : ∀ {a b : List Nat}, slt a b = true ↔ a < b
  | [], [] => by simp [slt]
  | [], b :: bs => by simp [slt]
  | a :: as, [] => by simp [slt]
  | a :: as, b :: bs => by
    rw [List.cons_lt_cons_iff]
    unfold slt
    cases h : Nat.blt a b with
    | true =>
      have e : a < b := Nat.le_of_ble_eq_true h
      simp [e]
    | false =>
      have e : ¬ a < b := fun q => by
        have z : Nat.blt a b = true := Nat.ble_eq_true_of_le q
        rw [h] at z
        cases z
      cases h2 : Nat.beq a b with
      | true =>
        have e2 : a = b := Nat.eq_of_beq_eq_true h2
        subst e2
        simp [slt_iff (a := as) (b := bs)]
      | false =>
        have e2 : a ≠ b := Nat.ne_of_beq_eq_false h2
        simp [e, e2]
theorem slt_dec {a b : List Nat} : slt a b = decide (a < b) := by
  rw [Bool.eq_iff_iff, slt_iff, decide_eq_true_iff]
def anyS (x : Str) : List Str → Bool
  | [] => false
  | y :: ys => match sbeq y x with
    | true => true
    | false => anyS x ys
def hasS (l : List Str) (x : Str) : Bool := anyS x l
theorem anyS_iff {x : Str} : ∀ {l : List Str}, anyS x l = true ↔ x ∈ l
  | [] => by simp [anyS]
  | y :: ys => by
    unfold anyS
    cases h : sbeq y x with
    | true =>
      have e := sbeq_iff.mp h
      simp [e]
    | false =>
      have e : ¬ x = y := fun q => by
        have z : sbeq y x = true := sbeq_iff.mpr q.symm
        rw [h] at z
        cases z
      simp [anyS_iff (l := ys), e]
def strsT : List D → Option (List Str)
  | [] => some []
  | .str x :: ds => match strsT ds with
    | some ss => some (x :: ss)
    | none => none
  | _ :: _ => none
def xorB (neg b : Bool) : Bool := match neg with
  | true => !b
  | false => b
/-! ### comparisons -/
def shp (p : PyData) : Bool := SeqAt.shaped p
def eqD (neg : Bool) (a b : D) (M : Sto) : Option (D × Sto) :=
  match toPy M 200 a, toPy M 200 b with
  | some p, some q => if shp p && shp q then some (.bl (if neg then !PyData.eqv p q else PyData.eqv p q), M) else none
  | _, _ => none
def isD (neg : Bool) (a b : D) (M : Sto) : Option (D × Sto) :=
  match a, b with
  | .bl x, .bl y => some (.bl (if neg then !decide (x = y) else decide (x = y)), M)
  | .ty x, .ty y => some (.bl (if neg then !decide (x = y) else decide (x = y)), M)
  | .non, .non => some (.bl (!neg), M)
  | _, .non => some (.bl neg, M)
  | _, _ => none
def isTupP : PyData → Bool
  | .tuple _ => true
  | _ => false
/-- tuples whose places are of one kind -/
def ltG (a b : D) (M : Sto) : Option (D × Sto) :=
  match toPy M 200 a, toPy M 200 b with
  | some p, some q => if isTupP p && PySem.W.alike p q && decide (min p.depth q.depth ≤ 60) then some (.bl (PySem.W.dataLt p q), M) else none
  | _, _ => none
def ltD (a b : D) (M : Sto) : Option (D × Sto) :=
  match a, b with
  | .int i, .int j => some (.bl (decide (i < j)), M)
  | .str i, .str j => some (.bl (decide (i.cps.toList < j.cps.toList)), M)
  | a, b => ltG a b M
def leD (a b : D) (M : Sto) : Option (D × Sto) :=
  match a, b with
  | .int i, .int j => some (.bl (decide (i ≤ j)), M)
  | .str i, .str j => some (.bl (!decide (j.cps.toList < i.cps.toList)), M)
  | _, _ => none
def gtD (a b : D) (M : Sto) : Option (D × Sto) :=
  match a, b with
  | .int i, .int j => some (.bl (decide (j < i)), M)
  | .str i, .str j => some (.bl (decide (j.cps.toList < i.cps.toList)), M)
  | _, _ => none
def geD (a b : D) (M : Sto) : Option (D × Sto) :=
  match a, b with
  | .int i, .int j => some (.bl (decide (j ≤ i)), M)
  | .str i, .str j => some (.bl (!decide (i.cps.toList < j.cps.toList)), M)
  | _, _ => none
def keyD : D → Option Key
  | .int i => some (.inl i)
  | .str x => some (.inr x)
  | _ => none
def keysD : List D → Option (List Key)
  | [] => some []
  | d :: ds => match keyD d, keysD ds with
    | some k, some ks => some (k :: ks)
    | _, _ => none
def lookK {κ : Type} [DecidableEq κ] (kvs : List (κ × D)) (k : κ) : Option D := (kvs.find? fun kv => decide (kv.1 = k)).map (·.2)
def putKD {κ : Type} [DecidableEq κ] (kvs : List (κ × D)) (k : κ) (v : D) : List (κ × D) := if (kvs.any fun kv => decide (kv.1 = k)) then kvs.map fun kv => if kv.1 = k then (kv.1, v) else kv else kvs ++ [(k, v)]
/-- d.get -/
def dicGet (i : Nat) (k : D) (M : Sto) : Option (Option D) :=
  match (sGet M i) with
  | some (.dk kvs) => match keyD k with
    | some k => some (lookK kvs k)
    | none => none
  | some (.dt kvs) => match k with
    | .tup ks => match keysD ks with
      | some ks => some (lookK kvs ks)
      | none => none
    | _ => none
  | _ => none
def inD (neg : Bool) (a b : D) (M : Sto) : Option (D × Sto) :=
  match b with
  | .dic i => match dicGet i a M with
    | some o => some (.bl (if neg then !o.isSome else o.isSome), M)
    | none => none
  | .tup ds => match toPy M 200 a, toPy M 200 (.tup ds) with
    | some p, some (.tuple qs) => if shp p && shp (.tuple qs) then some (.bl (if neg then !(qs.any fun z => PyData.eqv z p) else (qs.any fun z => PyData.eqv z p)), M) else none
    | _, _ => none
  | .ktup ds => match toPy M 200 a, toPy M 200 (.ktup ds) with
    | some p, some (.tuple qs) => if shp p && shp (.tuple qs) then some (.bl (if neg then !(qs.any fun z => PyData.eqv z p) else (qs.any fun z => PyData.eqv z p)), M) else none
    | _, _ => none
  | .lst i => match toPy M 200 a, toPy M 200 (.lst i) with
    | some p, some (.list qs) => if shp p && shp (.list qs) then some (.bl (if neg then !(qs.any fun z => PyData.eqv z p) else (qs.any fun z => PyData.eqv z p)), M) else none
    | _, _ => none
  | _ => none
def eqF (neg : Bool) (a b : D) (M : Sto) : Option (D × Sto) :=
  match a, b with
  | .str x, .str y => some (.bl (xorB neg (sbeq x y)), M)
  | .int i, .int j => some (.bl (xorB neg (decide (i = j))), M)
  | a, b => eqD neg a b M
def inF (neg : Bool) (a b : D) (M : Sto) : Option (D × Sto) :=
  match a, b with
  | .str x, .ktup ds => match strsT ds with
    | some ss => some (.bl (xorB neg (anyS x ss)), M)
    | none => inD neg a b M
  | a, b => inD neg a b M
def ltF (a b : D) (M : Sto) : Option (D × Sto) :=
  match a, b with
  | .str i, .str j => some (.bl (slt i.cps.toList j.cps.toList), M)
  | a, b => ltD a b M
def leF (a b : D) (M : Sto) : Option (D × Sto) :=
  match a, b with
  | .str i, .str j => some (.bl (!slt j.cps.toList i.cps.toList), M)
  | a, b => leD a b M
def cmpD : CmpOp → D → D → Sto → Option (D × Sto)
  | .Eq => eqF false
  | .NotEq => eqF true
  | .Lt => ltF
  | .LtE => leF
  | .Gt => gtD
  | .GtE => geD
  | .Is => isD false
  | .IsNot => isD true
  | .In => inF false
  | .NotIn => inF true
section
variable {X : Cx} {c : Cfg}
theorem or_eq (hK : X.K = c.K.f) (hu : X.A.units + 64 < cLine) : OpR X (compareOp .Eq) (sV2 c (eqD false)) := by
  intro pins s g H x y v u Q I rx ry h
  obtain ⟨M, io, a, b, d, M', e, ra, rb, rs, k⟩ := h
  rw [kt hK] at ra rb rs k
  unfold eqD at e
  split at e
  · rename_i p q e1 e2
    split at e
    · rename_i hl
      cases e
      rw [Bool.and_eq_true] at hl
      exact op_eqD hu pins s g H _ _ v u Q I rx ry ⟨p, q, toPy_ok rs _ _ _ _ e1 ra, toPy_ok rs _ _ _ _ e2 rb, hl.1, hl.2, k_now k rs (.bl _)⟩
    · cases e
  · cases e
theorem or_ne (hK : X.K = c.K.f) (hu : X.A.units + 64 < cLine) : OpR X (compareOp .NotEq) (sV2 c (eqD true)) := by
  intro pins s g H x y v u Q I rx ry h
  obtain ⟨M, io, a, b, d, M', e, ra, rb, rs, k⟩ := h
  rw [kt hK] at ra rb rs k
  unfold eqD at e
  split at e
  · rename_i p q e1 e2
    split at e
    · rename_i hl
      cases e
      rw [Bool.and_eq_true] at hl
      exact op_neD hu pins s g H _ _ v u Q I rx ry ⟨p, q, toPy_ok rs _ _ _ _ e1 ra, toPy_ok rs _ _ _ _ e2 rb, hl.1, hl.2, k_now k rs (.bl _)⟩
    · cases e
  · cases e
theorem or_lt (hK : X.K = c.K.f) (hu : X.A.units + 65 < cLine) : OpR X (compareOp .Lt) (sV2 c ltD) := by
  intro pins s g H x y v u Q I rx ry h
  obtain ⟨M, io, a, b, d, M', e, ra, rb, rs, k⟩ := h
  rw [kt hK] at ra rb rs k
  unfold ltD at e
  split at e
  · cases e; cases ra; cases rb
    exact op_lt pins s g H _ _ v u Q I rx ry ⟨_, _, rfl, rfl, k_now k rs (.bl _)⟩
  · cases e; cases ra; cases rb
    exact op_lt_str pins s g H _ _ v u Q I rx ry ⟨_, _, rfl, rfl, k_now k rs (.bl _)⟩
  · unfold ltG at e
    split at e
    · rename_i p q e1 e2
      split at e
      · rename_i hl
        cases e
        rw [Bool.and_eq_true, Bool.and_eq_true] at hl
        obtain ⟨⟨h1, h2⟩, h3⟩ := hl
        have h3 := of_decide_eq_true h3
        obtain ⟨as, r1⟩ := Dp.reads I p x v (toPy_ok rs _ _ _ _ e1 ra) rx
        obtain ⟨bs, r2⟩ := Dp.reads I q y u (toPy_ok rs _ _ _ _ e2 rb) ry
        exact PySem.W.rcLt_alike p q _ _ _ _ _ _ r1 r2 h2 (fun z => by subst z; cases h1) (by omega) _ _ _ _ ⟨.bl _, H, I, rfl, k_now k rs (.bl _)⟩
      · cases e
    · cases e
theorem or_le (hK : X.K = c.K.f) : OpR X (compareOp .LtE) (sV2 c leD) := by
  intro pins s g H x y v u Q I rx ry h
  obtain ⟨M, io, a, b, d, M', e, ra, rb, rs, k⟩ := h
  rw [kt hK] at ra rb rs k
  unfold leD at e
  split at e
  · cases e; cases ra; cases rb
    exact op_le pins s g H _ _ v u Q I rx ry ⟨_, _, rfl, rfl, k_now k rs (.bl _)⟩
  · cases e; cases ra; cases rb
    exact op_le_str pins s g H _ _ v u Q I rx ry ⟨_, _, rfl, rfl, k_now k rs (.bl _)⟩
  · cases e
theorem or_gt (hK : X.K = c.K.f) : OpR X (compareOp .Gt) (sV2 c gtD) := by
  intro pins s g H x y v u Q I rx ry h
  obtain ⟨M, io, a, b, d, M', e, ra, rb, rs, k⟩ := h
  rw [kt hK] at ra rb rs k
  unfold gtD at e
  split at e
  · cases e; cases ra; cases rb
    exact op_gt pins s g H _ _ v u Q I rx ry ⟨_, _, rfl, rfl, k_now k rs (.bl _)⟩
  · cases e; cases ra; cases rb
    exact op_gt_str pins s g H _ _ v u Q I rx ry ⟨_, _, rfl, rfl, k_now k rs (.bl _)⟩
  · cases e
theorem or_ge (hK : X.K = c.K.f) : OpR X (compareOp .GtE) (sV2 c geD) := by
  intro pins s g H x y v u Q I rx ry h
  obtain ⟨M, io, a, b, d, M', e, ra, rb, rs, k⟩ := h
  rw [kt hK] at ra rb rs k
  unfold geD at e
  split at e
  · cases e; cases ra; cases rb
    exact op_ge pins s g H _ _ v u Q I rx ry ⟨_, _, rfl, rfl, k_now k rs (.bl _)⟩
  · cases e; cases ra; cases rb
    exact op_ge_str pins s g H _ _ v u Q I rx ry ⟨_, _, rfl, rfl, k_now k rs (.bl _)⟩
  · cases e
theorem non_of {K : KT} {H : Hp} {io : List Addr} {a : D} {x : V} (r : R K H io a x) (n : a ≠ .non) : decide (x = .non) = false := by
  refine decide_eq_false fun z => ?_
  subst z
  cases r
  exact n rfl
theorem or_is (hK : X.K = c.K.f) : OpR X (compareOp .Is) (sV2 c (isD false)) := by
  intro pins s g H x y v u Q I rx ry h
  obtain ⟨M, io, a, b, d, M', e, ra, rb, rs, k⟩ := h
  rw [kt hK] at ra rb rs k
  unfold isD at e
  split at e
  · cases e; cases ra; cases rb
    exact op_isBl pins s g H _ _ v u Q I rx ry ⟨_, _, rfl, rfl, k_now k rs (.bl _)⟩
  · cases e; cases ra; cases rb
    exact op_isTyB pins s g H _ _ v u Q I rx ry ⟨_, _, rfl, rfl, k_now k rs (.bl _)⟩
  · cases e; cases ra; cases rb
    exact op_isN pins s g H _ _ v u Q I rx ry ⟨rfl, k_now k rs (.bl _)⟩
  · rename_i hn
    cases e; cases rb
    refine op_isN pins s g H _ _ v u Q I rx ry ⟨rfl, ?_⟩
    rw [non_of ra fun z => hn z]
    exact k_now k rs (.bl _)
  · cases e
theorem or_isnot (hK : X.K = c.K.f) : OpR X (compareOp .IsNot) (sV2 c (isD true)) := by
  intro pins s g H x y v u Q I rx ry h
  obtain ⟨M, io, a, b, d, M', e, ra, rb, rs, k⟩ := h
  rw [kt hK] at ra rb rs k
  unfold isD at e
  split at e
  · cases e; cases ra; cases rb
    exact op_notBl pins s g H _ _ v u Q I rx ry ⟨_, _, rfl, rfl, k_now k rs (.bl _)⟩
  · cases e; cases ra; cases rb
    exact op_notTyB pins s g H _ _ v u Q I rx ry ⟨_, _, rfl, rfl, k_now k rs (.bl _)⟩
  · cases e; cases ra; cases rb
    exact op_notN pins s g H _ _ v u Q I rx ry ⟨rfl, k_now k rs (.bl _)⟩
  · rename_i hn
    cases e; cases rb
    refine op_notN pins s g H _ _ v u Q I rx ry ⟨rfl, ?_⟩
    rw [non_of ra fun z => hn z]
    exact k_now k rs (.bl _)
  · cases e
/-! dicts -/
theorem key_of_D {K : KT} {H : Hp} {io : List Addr} {d : D} {k : Key} {y : V} (e : keyD d = some k) (r : R K H io d y) : y = kV k := by
  unfold keyD at e
  split at e
  · cases e; cases r; rfl
  · cases e; cases r; rfl
  · cases e
theorem keys_of_D {K : KT} {H : Hp} {io : List Addr} : ∀ {ds : List D} {ks : List Key} {ys : List V}, keysD ds = some ks → RL K H io ds ys → ys = ks.map kV
  | [], _, _, e, r => by simp only [keysD] at e; cases e; cases r; rfl
  | d :: ds, _, _, e, r => by
    simp only [keysD] at e
    split at e
    · rename_i k ks e1 e2
      cases e
      cases r with
      | cons r1 r2 => rw [List.map_cons, key_of_D e1 r1, keys_of_D e2 r2]
    · cases e
/-- the values at a key agree -/
def RO (K : KT) (H : Hp) (io : List Addr) : Option D → Option V → Prop
  | none, none => True
  | some d, some v => R K H io d v
  | _, _ => False
theorem lookK_val {κ : Type} [DecidableEq κ] {K : KT} {H : Hp} {io : List Addr} (k : κ) : ∀ {kvs : List (κ × D)} {xs : List (κ × V)}, RKV K H io kvs xs → RO K H io (lookK kvs k) (valV xs k)
  | [], _, h => by
    cases h
    trivial
  | (k', d) :: r, _, h => by
    cases h with
    | @cons _ q _ t h1 h2 =>
      obtain ⟨e1, e2⟩ := h1
      have ih := lookK_val k h2
      unfold lookK valV
      simp only [List.find?_cons]
      have e1' : k' = q.1 := e1
      rw [← e1']
      by_cases hk : k' = k
      · rw [decide_eq_true hk]
        exact e2
      · rw [decide_eq_false hk]
        exact ih
theorem dicGet_ok {K : KT} {H : Hp} {io : List Addr} {M : Sto} {i : Nat} {a : Addr} {kd : D} {y : V} {o : Option D} (rs : RS K H io M) (ei : io[i]? = some a) (rk : R K H io kd y) (e : dicGet i kd M = some o) :
    ∃ ov, DGet H a y ov ∧ RO K H io o ov := by
  obtain ⟨c, ho, e1, e2, rc⟩ := rs.there ei
  unfold dicGet at e
  rw [e1] at e
  cases c with
  | lst ds => cases e
  | dead => cases e
  | ob cl fs => cases e
  | dk kvs =>
    obtain ⟨xs, q, rk'⟩ := rc
    subst q
    simp only at e
    cases hk : keyD kd with
    | none => rw [hk] at e; cases e
    | some k =>
      rw [hk] at e
      cases e
      rw [key_of_D hk rk]
      exact ⟨_, DGet.k e2, lookK_val k rk'⟩
  | dt kvs =>
    obtain ⟨xs, q, rk'⟩ := rc
    subst q
    simp only at e
    split at e
    · rename_i ks
      split at e
      · rename_i ks' hk
        cases e
        cases rk with
        | tup hb rl =>
          have z := keys_of_D hk rl
          subst z
          exact ⟨_, DGet.t e2 hb, lookK_val ks' rk'⟩
      · cases e
    · cases e
theorem RO.isSome {K : KT} {H : Hp} {io : List Addr} {o : Option D} {ov : Option V} (h : RO K H io o ov) : o.isSome = ov.isSome := by
  cases o <;> cases ov <;> first | rfl | exact h.elim
theorem or_in (hK : X.K = c.K.f) (hu : X.A.units + 65 < cLine) : OpR X (compareOp .In) (sV2 c (inD false)) := by
  intro pins s g H x y v u Q I rx ry h
  obtain ⟨M, io, a, b, d, M', e, ra, rb, rs, k⟩ := h
  rw [kt hK] at ra rb rs k
  unfold inD at e
  split at e
  · rename_i i
    split at e
    · rename_i o eo
      cases e
      cases rb with
      | dic ei =>
        obtain ⟨ov, gt, ro⟩ := dicGet_ok rs ei ra eo
        cases ry
        refine d_in (by omega) I gt rx fun s' I' => ⟨.bl _, H, I', rfl, ?_⟩
        rw [← ro.isSome]
        exact k_now k rs (.bl _)
    · cases e
  · rename_i ds
    split at e
    · rename_i p qs e1 e2
      split at e
      · rename_i hl
        cases e
        rw [Bool.and_eq_true] at hl
        obtain ⟨as, r1⟩ := Dp.reads I p x v (toPy_ok rs _ _ _ _ e1 ra) rx
        obtain ⟨bs, r2⟩ := Dp.reads I (.tuple qs) y u (toPy_ok rs _ _ _ _ e2 rb) ry
        exact SeqAt.in_tuple_reads r2 r1 (SeqAt.canLay_of_shaped hl.2) (SeqAt.canLay_of_shaped hl.1) (room_in_shaped hl.1 hu) ⟨.bl _, H, I, rfl, k_now k rs (.bl _)⟩
      · cases e
    · cases e
  · rename_i ds
    split at e
    · rename_i p qs e1 e2
      split at e
      · rename_i hl
        cases e
        rw [Bool.and_eq_true] at hl
        obtain ⟨as, r1⟩ := Dp.reads I p x v (toPy_ok rs _ _ _ _ e1 ra) rx
        obtain ⟨bs, r2⟩ := Dp.reads I (.tuple qs) y u (toPy_ok rs _ _ _ _ e2 rb) ry
        exact SeqAt.in_tuple_reads r2 r1 (SeqAt.canLay_of_shaped hl.2) (SeqAt.canLay_of_shaped hl.1) (room_in_shaped hl.1 hu) ⟨.bl _, H, I, rfl, k_now k rs (.bl _)⟩
      · cases e
    · cases e
  · rename_i i
    split at e
    · rename_i p qs e1 e2
      split at e
      · rename_i hl
        cases e
        rw [Bool.and_eq_true] at hl
        exact op_inD hu pins s g H _ _ v u Q I rx ry ⟨p, qs, toPy_ok rs _ _ _ _ e1 ra, toPy_ok rs _ _ _ _ e2 rb, hl.1, hl.2, k_now k rs (.bl _)⟩
      · cases e
    · cases e
  · cases e
theorem or_notin (hK : X.K = c.K.f) (hu : X.A.units + 65 < cLine) : OpR X (compareOp .NotIn) (sV2 c (inD true)) := by
  intro pins s g H x y v u Q I rx ry h
  obtain ⟨M, io, a, b, d, M', e, ra, rb, rs, k⟩ := h
  rw [kt hK] at ra rb rs k
  unfold inD at e
  split at e
  · rename_i i
    split at e
    · rename_i o eo
      cases e
      cases rb with
      | dic ei =>
        obtain ⟨ov, gt, ro⟩ := dicGet_ok rs ei ra eo
        cases ry
        refine d_notIn (by omega) I gt rx fun s' I' => ⟨.bl _, H, I', rfl, ?_⟩
        rw [← ro.isSome]
        exact k_now k rs (.bl _)
    · cases e
  · rename_i ds
    split at e
    · rename_i p qs e1 e2
      split at e
      · rename_i hl
        cases e
        rw [Bool.and_eq_true] at hl
        obtain ⟨as, r1⟩ := Dp.reads I p x v (toPy_ok rs _ _ _ _ e1 ra) rx
        obtain ⟨bs, r2⟩ := Dp.reads I (.tuple qs) y u (toPy_ok rs _ _ _ _ e2 rb) ry
        exact SeqAt.notIn_tuple_reads r2 r1 (SeqAt.canLay_of_shaped hl.2) (SeqAt.canLay_of_shaped hl.1) (room_in_shaped hl.1 hu) ⟨.bl _, H, I, rfl, k_now k rs (.bl _)⟩
      · cases e
    · cases e
  · rename_i ds
    split at e
    · rename_i p qs e1 e2
      split at e
      · rename_i hl
        cases e
        rw [Bool.and_eq_true] at hl
        obtain ⟨as, r1⟩ := Dp.reads I p x v (toPy_ok rs _ _ _ _ e1 ra) rx
        obtain ⟨bs, r2⟩ := Dp.reads I (.tuple qs) y u (toPy_ok rs _ _ _ _ e2 rb) ry
        exact SeqAt.notIn_tuple_reads r2 r1 (SeqAt.canLay_of_shaped hl.2) (SeqAt.canLay_of_shaped hl.1) (room_in_shaped hl.1 hu) ⟨.bl _, H, I, rfl, k_now k rs (.bl _)⟩
      · cases e
    · cases e
  · rename_i i
    split at e
    · rename_i p qs e1 e2
      split at e
      · rename_i hl
        cases e
        rw [Bool.and_eq_true] at hl
        exact op_notInD hu pins s g H _ _ v u Q I rx ry ⟨p, qs, toPy_ok rs _ _ _ _ e1 ra, toPy_ok rs _ _ _ _ e2 rb, hl.1, hl.2, k_now k rs (.bl _)⟩
      · cases e
    · cases e
  · cases e
theorem ltF_sub {a b d : D} {M M' : Sto} (e : ltF a b M = some (d, M')) : ltD a b M = some (d, M') := by
  unfold ltF at e
  split at e
  · rw [slt_dec] at e
    exact e
  · exact e
theorem leF_sub {a b d : D} {M M' : Sto} (e : leF a b M = some (d, M')) : leD a b M = some (d, M') := by
  unfold leF at e
  split at e
  · rw [slt_dec] at e
    exact e
  · exact e
theorem or_ltF (hK : X.K = c.K.f) (hu : X.A.units + 65 < cLine) : OpR X (compareOp .Lt) (sV2 c ltF) := by
  intro pins s g H x y v u Q I rx ry ⟨M, io, a, b, d, M', e, ra, rb, rs, k⟩
  exact or_lt hK hu pins s g H x y v u Q I rx ry ⟨M, io, a, b, d, M', ltF_sub e, ra, rb, rs, k⟩
theorem or_leF (hK : X.K = c.K.f) : OpR X (compareOp .LtE) (sV2 c leF) := by
  intro pins s g H x y v u Q I rx ry ⟨M, io, a, b, d, M', e, ra, rb, rs, k⟩
  exact or_le hK pins s g H x y v u Q I rx ry ⟨M, io, a, b, d, M', leF_sub e, ra, rb, rs, k⟩
theorem dec_strV {x y : Str} : decide (V.str x = V.str y) = sbeq x y := by
  rw [sbeq_dec, Bool.eq_iff_iff, decide_eq_true_iff, decide_eq_true_iff]
  exact ⟨fun h => V.str.inj h, fun h => by rw [h]⟩
theorem dec_intV {i j : Int} : decide (V.int i = V.int j) = decide (i = j) := by
  rw [Bool.eq_iff_iff, decide_eq_true_iff, decide_eq_true_iff]
  exact ⟨fun h => V.int.inj h, fun h => by rw [h]⟩
theorem or_eqF (hK : X.K = c.K.f) (hu : X.A.units + 64 < cLine) : OpR X (compareOp .Eq) (sV2 c (eqF false)) := by
  intro pins s g H x y v u Q I rx ry ⟨M, io, a, b, d, M', e, ra, rb, rs, k⟩
  unfold eqF at e
  split at e
  · cases e
    cases ra
    cases rb
    exact op_eq pins s g H _ _ v u Q I rx ry ⟨rfl, by rw [dec_strV]; exact k_now k rs (.bl _)⟩
  · cases e
    cases ra
    cases rb
    exact op_eq pins s g H _ _ v u Q I rx ry ⟨rfl, by rw [dec_intV]; exact k_now k rs (.bl _)⟩
  · exact or_eq hK hu pins s g H x y v u Q I rx ry ⟨M, io, _, _, d, M', e, ra, rb, rs, k⟩
theorem or_neF (hK : X.K = c.K.f) (hu : X.A.units + 64 < cLine) : OpR X (compareOp .NotEq) (sV2 c (eqF true)) := by
  intro pins s g H x y v u Q I rx ry ⟨M, io, a, b, d, M', e, ra, rb, rs, k⟩
  unfold eqF at e
  split at e
  · cases e
    cases ra
    cases rb
    exact op_ne pins s g H _ _ v u Q I rx ry ⟨rfl, by rw [dec_strV]; exact k_now k rs (.bl _)⟩
  · cases e
    cases ra
    cases rb
    exact op_ne pins s g H _ _ v u Q I rx ry ⟨rfl, by rw [dec_intV]; exact k_now k rs (.bl _)⟩
  · exact or_ne hK hu pins s g H x y v u Q I rx ry ⟨M, io, _, _, d, M', e, ra, rb, rs, k⟩
theorem strsT_rl {K : KT} {H : Hp} {io : List Addr} : ∀ {ds : List D} {ss : List Str} {xs : List V}, strsT ds = some ss → RL K H io ds xs → xs = ss.map V.str
  | [], _, _, e, r => by
    cases e
    cases r
    rfl
  | .str x :: ds, ss, _, e, r => by
    unfold strsT at e
    split at e
    · rename_i tt et
      cases e
      cases r with
      | cons r1 r2 =>
        cases r1
        rw [strsT_rl et r2]
        rfl
    · cases e
  | .non :: _, _, _, e, _ => by cases e
  | .bl _ :: _, _, _, e, _ => by cases e
  | .int _ :: _, _, _, e, _ => by cases e
  | .ty _ :: _, _, _, e, _ => by cases e
  | .tup _ :: _, _, _, e, _ => by cases e
  | .ktup _ :: _, _, _, e, _ => by cases e
  | .lst _ :: _, _, _, e, _ => by cases e
  | .dic _ :: _, _, _, e, _ => by cases e
  | .fn _ :: _, _, _, e, _ => by cases e
  | .exn _ _ :: _, _, _, e, _ => by cases e
theorem inV_strs {x : Str} : ∀ {ss : List Str}, inV (.str x) (ss.map V.str) = anyS x ss
  | [] => rfl
  | y :: ys => by
    have h := inV_strs (x := x) (ss := ys)
    unfold inV at h ⊢
    rw [List.map_cons, List.any_cons, h]
    have e : eqV (.str y) (.str x) = sbeq y x := by
      rw [sbeq_dec, Bool.eq_iff_iff, decide_eq_true_iff]
      simp [eqV]
    rw [e]
    conv => rhs; unfold anyS
    cases sbeq y x <;> simp
theorem flat_strs : ∀ {ss : List Str}, (ss.map V.str).all flatV = true
  | [] => rfl
  | y :: ys => by
    rw [List.map_cons, List.all_cons, flat_strs (ss := ys)]
    rfl
theorem or_inF (hK : X.K = c.K.f) (hu : X.A.units + 65 < cLine) : OpR X (compareOp .In) (sV2 c (inF false)) := by
  intro pins s g H x y v u Q I rx ry ⟨M, io, a, b, d, M', e, ra, rb, rs, k⟩
  unfold inF at e
  split at e
  · split at e
    · rename_i ss es
      cases e
      cases ra
      cases rb with
      | ktup h1 rl =>
        rw [strsT_rl es rl] at h1
        rw [← hK] at h1
        exact op_in_seq pins s g H _ _ v u Q I rx ry ⟨_, _, rfl, .inr h1.sq, rfl, flat_strs, by rw [inV_strs]; exact k_now k rs (.bl _)⟩
    · exact or_in hK hu pins s g H x y v u Q I rx ry ⟨M, io, _, _, d, M', e, ra, rb, rs, k⟩
  · exact or_in hK hu pins s g H x y v u Q I rx ry ⟨M, io, _, _, d, M', e, ra, rb, rs, k⟩
theorem or_notinF (hK : X.K = c.K.f) (hu : X.A.units + 65 < cLine) : OpR X (compareOp .NotIn) (sV2 c (inF true)) := by
  intro pins s g H x y v u Q I rx ry ⟨M, io, a, b, d, M', e, ra, rb, rs, k⟩
  unfold inF at e
  split at e
  · split at e
    · rename_i ss es
      cases e
      cases ra
      cases rb with
      | ktup h1 rl =>
        rw [strsT_rl es rl] at h1
        rw [← hK] at h1
        exact op_notIn_seq pins s g H _ _ v u Q I rx ry ⟨_, _, rfl, .inr h1.sq, rfl, flat_strs, by rw [inV_strs]; exact k_now k rs (.bl _)⟩
    · exact or_notin hK hu pins s g H x y v u Q I rx ry ⟨M, io, _, _, d, M', e, ra, rb, rs, k⟩
  · exact or_notin hK hu pins s g H x y v u Q I rx ry ⟨M, io, _, _, d, M', e, ra, rb, rs, k⟩
theorem or_cmp (hK : X.K = c.K.f) (hu : X.A.units + 65 < cLine) : ∀ op : CmpOp, OpR X (compareOp op) (sV2 c (cmpD op))
  | .Eq => or_eqF hK (by omega)
  | .NotEq => or_neF hK (by omega)
  | .Lt => or_ltF hK hu
  | .LtE => or_leF hK
  | .Gt => or_gt hK
  | .GtE => or_ge hK
  | .Is => or_is hK
  | .IsNot => or_isnot hK
  | .In => or_inF hK hu
  | .NotIn => or_notinF hK hu
end
end PyD

-- PyD5
set_option maxRecDepth 100000
set_option maxHeartbeats 4000000
noncomputable section
namespace PyD
open PySem PySem.Spec PyProof.Rows L2
/-! ### expressions -/
def cstD (d : D) : Den D := fun _ M => some (.ok d, M)
def nmD (i : Nat) : Den D := fun r M => match r[i]? with
  | some (some d) => some (.ok d, M)
  | _ => none
def nilD : Den (List D) := fun _ M => some (.ok [], M)
def consD (f : Den D) (h : Den (List D)) : Den (List D) := bindD f fun a => bindD h fun as => liftD (fun p : D × List D => fun M => some (p.1 :: p.2, M)) (a, as)
def tupD (ds : List D) (M : Sto) : Option (D × Sto) := if ds.length ≤ 100000 then some (.tup ds, M) else none
def lstD (ds : List D) (M : Sto) : Option (D × Sto) := if ds.length ≤ 100000 then some (.lst M.length, (sApp M (.lst ds))) else none
/-- truth -/
def truD (d : D) (M : Sto) : Option (Bool × Sto) :=
  match d with
  | .non => some (false, M)
  | .bl b => some (b, M)
  | .int i => some (i != 0, M)
  | .str x => if x.length ≤ 100000 then some ((x.length : Int) != 0, M) else none
  | .tup ds => some (!ds.isEmpty, M)
  | .ktup ds => some (!ds.isEmpty, M)
  | .lst i => match (sGet M i) with
    | some (.lst ds) => some (!ds.isEmpty, M)
    | _ => none
  | _ => none
def blD (d : D) (M : Sto) : Option (Bool × Sto) :=
  match d with
  | .bl b => some (b, M)
  | _ => none
def testD (f : Den D) : Den Bool := bindD f fun a => liftD truD a
def btestD (f : Den D) : Den Bool := bindD f fun a => liftD blD a
def notT (t : Den Bool) : Den Bool := bindD t fun b => liftD (fun b M => some (!b, M)) b
def andT (t u : Den Bool) : Den Bool := bindD t fun b => if b = true then u else fun _ M => some (.ok false, M)
def orT (t u : Den Bool) : Den Bool := bindD t fun b => if b = true then fun _ M => some (.ok true, M) else u
def andE (f h : Den D) : Den D := bindD f fun a => match a with
  | .bl true => h
  | .bl false => fun _ M => some (.ok (.bl false), M)
  | _ => fun _ _ => none
def orE (f h : Den D) : Den D := bindD f fun a => match a with
  | .bl true => fun _ M => some (.ok (.bl true), M)
  | .bl false => h
  | _ => fun _ _ => none
def notE (f : Den D) : Den D := bindD f fun a => match a with
  | .bl b => fun _ M => some (.ok (.bl (!b)), M)
  | _ => fun _ _ => none
def ifE (t : Den Bool) (f h : Den D) : Den D := bindD t fun b => if b = true then f else h
def chainE (op op' : D → D → Sto → Option (D × Sto)) (f h j : Den D) : Den D := bindD f fun a => bindD h fun b => bindD (liftD (fun p : D × D => op p.1 p.2) (a, b)) fun z => match z with
  | .bl true => bindD j fun e => liftD (fun p : D × D => op' p.1 p.2) (b, e)
  | .bl false => fun _ M => some (.ok (.bl false), M)
  | _ => fun _ _ => none
section
variable {X : Cx} {c : Cfg} {f h j : Den D} {t u : Den Bool} {a b e o : Expr} {es : List Expr} {pos : Pos}
theorem run_ok {α β : Type} {Ra : Hp → List Addr → α → β → Prop} {x : α} {r : DEnv} {M : Sto} {io : List Addr} {g : L2.St} {H : Hp} {Q : β → Hp → Prop} (s : Run c Ra (fun _ M => some (.ok x, M)) r M io g H Q) : Aft c Ra g io H M (.ok x) Q := by
  obtain ⟨y, M', e, k⟩ := s
  cases e
  exact k
theorem run_no {α β : Type} {Ra : Hp → List Addr → α → β → Prop} {r : DEnv} {M : Sto} {io : List Addr} {g : L2.St} {H : Hp} {Q : β → Hp → Prop} (s : Run c Ra (fun _ _ => none) r M io g H Q) : False := by
  obtain ⟨y, M', e, k⟩ := s
  cases e
theorem de_cst {v : V} {d : D} (h : PE X e (tC v)) (r : ∀ H io, R c.K H io d v) : PE X e (sE c (cstD d)) := PE.imp h fun g H Q s => by
  obtain ⟨r', M, io, re, rs, run⟩ := s
  exact (run_ok run).ok Ext.refl rs (r H io)
theorem de_nm {i : Nat} (h : PE X e (tVar i)) : PE X e (sE c (nmD i)) := PE.imp h fun g H Q s => by
  obtain ⟨r', M, io, re, rs, x, M', eq, k⟩ := s
  unfold nmD at eq
  split at eq
  · rename_i d ed
    cases eq
    obtain ⟨v, h1, h2⟩ := re.2 i d ed
    exact ⟨v, h1, k.ok Ext.refl rs h2⟩
  · cases eq
theorem da_nil : PA X [] (sA c nilD) := PA.imp pa_nil fun g H Q s => by
  obtain ⟨r', M, io, re, rs, run⟩ := s
  exact (run_ok run).ok Ext.refl rs .nil
theorem da_cons {hs : Den (List D)} (ha : PE X e (sE c f)) (hr : PA X es (sA c hs)) (hst : starEach (e :: es) X.env = (false, eval e X.env) :: starEach es X.env := by rfl) : PA X (e :: es) (sA c (consD f hs)) := PA.imp (pa_cons ha hr hst) fun g H Q s => by
  refine sG.bind s fun a x r M1 io1 H1 re rs ra run => ⟨r, M1, io1, re, rs, run.bind fun b y M2 io2 H2 e2 rs2 rb run2 => ?_⟩
  obtain ⟨d, M3, e, k⟩ := run2.lift
  cases e
  exact k.ok Ext.refl rs2 (.cons (ra.mono e2) rb)
theorem de_bin {op : Operator} (hK : X.K = c.K.f) (ha : PE X a (sE c f)) (hb : PE X b (sE c h)) : PE X (.BinOp a op b pos) (sE c (op2 (binD op) f h)) := PE.imp (pe_op (or_bin hK op) ha hb) fun _ _ _ s => sE_op2 s
theorem de_cmp {op : CmpOp} (hK : X.K = c.K.f) (hu : X.A.units + 65 < cLine) (ha : PE X a (sE c f)) (hb : PE X b (sE c h)) (hm : behindInMarks op b = false) : PE X (.Compare a [op] [b] pos) (sE c (op2 (cmpD op) f h)) := PE.imp (pe_cmpR (or_cmp hK hu op) ha hb hm) fun _ _ _ s => sE_op2 s
theorem sT_b {g : L2.St} {H : Hp} {Q : Bool → Hp → Prop} (s : sT c (btestD f) g H Q) : tTest (sE c f) g H Q := by
  refine sG.bind s fun a x r M1 io1 H1 re rs ra run => ?_
  obtain ⟨d, M3, e, k⟩ := run.lift
  unfold blD at e
  split at e
  · cases e
    cases ra
    exact ⟨_, rfl, k.ok Ext.refl rs rfl⟩
  · cases e
theorem dt_cmp {op : CmpOp} (hK : X.K = c.K.f) (hu : X.A.units + 65 < cLine) (ha : PE X a (sE c f)) (hb : PE X b (sE c h)) (hm : behindInMarks op b = false) : PT X (.Compare a [op] [b] pos) (sT c (btestD (op2 (cmpD op) f h))) := PT.imp (pt_cmpR (or_cmp hK hu op) ha hb hm) fun g H Q s => by
  obtain ⟨r, M, io, re, rs, run⟩ := s
  have q := sT_b (c := c) (f := op2 (cmpD op) f h) ⟨r, M, io, re, rs, run⟩
  exact sE_op2 q
theorem de_tup {x1 : Nat} {hs : Den (List D)} (h : PA X es (sA c hs)) : PE X (.Tuple es x1 pos) (sE c (opS tupD hs)) := PE.imp (pe_tup h) fun g H Q s => by
  refine sG.bind s fun a x r M1 io1 H1 re rs ra run => ?_
  obtain ⟨d, M3, e, k⟩ := run.lift
  unfold tupD at e
  split at e
  · rename_i hl
    cases e
    exact ⟨by rw [← ra.length]; exact big_le hl, fun p n => k_tup (fun io' H' ex rs' v rv => k io' H' ex rs' v rv) rs ra n⟩
  · cases e
theorem de_lst {hs : Den (List D)} (h : PA X es (sA c hs)) : PE X (.List es pos) (sE c (opS lstD hs)) := PE.imp (pe_lst h) fun g H Q s => by
  refine sG.bind s fun a x r M1 io1 H1 re rs ra run => ?_
  obtain ⟨d, M3, e, k⟩ := run.lift
  unfold lstD at e
  split at e
  · rename_i hl
    cases e
    exact ⟨by rw [← ra.length]; exact big_le hl, fun p n => k_lst (fun io' H' ex rs' v rv => k io' H' ex rs' v rv) rs ra n⟩
  · cases e
theorem isE_eq {α : Type} {K : KT} {H : Hp} {io : List Addr} {ds : List D} {xs : List V} (h : RL K H io ds xs) : (!ds.isEmpty) = !xs.isEmpty := by cases h <;> rfl
/-- any value's truth -/
theorem dt_val (hK : X.K = c.K.f) (ha : PE X e (sE c f)) (he : ∀ whole, isTrue e X.env whole = (do let v ← whole; standAt e.pos; holding [v] (truthy v)) := by intro _; rfl) : PT X e (sT c (testD f)) := PT.imp (pt_truth ha he) fun g H Q s => by
  refine sG.bind s fun a x r M1 io1 H1 re rs ra run => ?_
  obtain ⟨d, M3, e, k⟩ := run.lift
  unfold truD at e
  split at e
  · cases e; cases ra; exact ⟨false, rfl, k.ok Ext.refl rs rfl⟩
  · cases e; cases ra; exact ⟨_, rfl, k.ok Ext.refl rs rfl⟩
  · cases e; cases ra; exact ⟨_, rfl, k.ok Ext.refl rs rfl⟩
  · split at e
    · rename_i hl
      cases e; cases ra
      exact ⟨_, ⟨big_le hl, rfl⟩, k.ok Ext.refl rs rfl⟩
    · cases e
  · cases e
    cases ra with
    | tup h1 rl => exact ⟨_, .inr (.inl ⟨_, SqT.of h1, isE_eq (α := Nat) rl⟩), k.ok Ext.refl rs rfl⟩
  · cases e
    cases ra with
    | ktup h1 rl =>
      have h2 := h1.sq (H := H1)
      rw [kt hK] at h2
      exact ⟨_, .inr (.inl ⟨_, h2, isE_eq (α := Nat) rl⟩), k.ok Ext.refl rs rfl⟩
  · split at e
    · rename_i ds em
      cases e
      obtain ⟨a1, xs, rfl, i1, h1, r1⟩ := lst_at ra rs em
      exact ⟨_, .inl ⟨_, SqL.of h1, isE_eq (α := Nat) r1⟩, k.ok Ext.refl rs rfl⟩
    · cases e
  · cases e
theorem dt_not (ha : PT X a (sT c t)) : PT X (.UnaryOp .Not a pos) (sT c (notT t)) := PT.imp (pt_not ha) fun g H Q s => by
  refine sG.bind s fun a x r M1 io1 H1 re rs ra run => ?_
  obtain ⟨d, M3, e, k⟩ := run.lift
  cases e
  cases ra
  exact k.ok Ext.refl rs rfl
structure PWs (X : Cx) (e : Expr) (t : TT) : Prop where
  pw : PW X e t
theorem PW.imp {t t' : TT} (h : PW X e t) (i : ∀ g H Q, t' g H Q → t g H Q) : PW X e t' := ⟨fun w pins s g H Q I q => h.run w pins s g H Q I (i g H Q q)⟩
theorem dw_and1 (ha : PT X a (sT c t)) : PW X (.BoolOp .And [a] pos) (sT c t) := pw_and1 ha
theorem dw_or1 (ha : PT X a (sT c t)) : PW X (.BoolOp .Or [a] pos) (sT c t) := pw_or1 ha
theorem dw_and (ha : PT X a (sT c t)) (hb : PW X (.BoolOp .And (b :: es) pos) (sT c u)) : PW X (.BoolOp .And (a :: b :: es) pos) (sT c (andT t u)) := PW.imp (pw_and ha hb) fun g H Q s => by
  refine sG.bind s fun a x r M1 io1 H1 re rs ra run => ?_
  cases ra
  cases a with
  | true => exact ⟨r, M1, io1, re, rs, run⟩
  | false => exact (run_ok run).ok Ext.refl rs rfl
theorem dw_or (ha : PT X a (sT c t)) (hb : PW X (.BoolOp .Or (b :: es) pos) (sT c u)) : PW X (.BoolOp .Or (a :: b :: es) pos) (sT c (orT t u)) := PW.imp (pw_or ha hb) fun g H Q s => by
  refine sG.bind s fun a x r M1 io1 H1 re rs ra run => ?_
  cases ra
  cases a with
  | false => exact ⟨r, M1, io1, re, rs, run⟩
  | true => exact (run_ok run).ok Ext.refl rs rfl
theorem de_and (ha : PE X a (sE c f)) (hb : PE X (.BoolOp .And (b :: es) pos) (sE c h)) : PE X (.BoolOp .And (a :: b :: es) pos) (sE c (andE f h)) := PE.imp (pe_and ha hb) fun g H Q s => by
  refine sG.bind s fun a x r M1 io1 H1 re rs ra run => ?_
  split at run
  · cases ra; exact ⟨true, rfl, r, M1, io1, re, rs, run⟩
  · cases ra; exact ⟨false, rfl, (run_ok run).ok Ext.refl rs (.bl false)⟩
  · exact (run_no run).elim
theorem de_or (ha : PE X a (sE c f)) (hb : PE X (.BoolOp .Or (b :: es) pos) (sE c h)) : PE X (.BoolOp .Or (a :: b :: es) pos) (sE c (orE f h)) := PE.imp (pe_or ha hb) fun g H Q s => by
  refine sG.bind s fun a x r M1 io1 H1 re rs ra run => ?_
  split at run
  · cases ra; exact ⟨true, rfl, (run_ok run).ok Ext.refl rs (.bl true)⟩
  · cases ra; exact ⟨false, rfl, r, M1, io1, re, rs, run⟩
  · exact (run_no run).elim
theorem de_not (ha : PE X a (sE c f)) : PE X (.UnaryOp .Not a pos) (sE c (notE f)) := PE.imp (pe_not ha) fun g H Q s => by
  refine sG.bind s fun a x r M1 io1 H1 re rs ra run => ?_
  split at run
  · cases ra; exact ⟨_, rfl, (run_ok run).ok Ext.refl rs (.bl _)⟩
  · exact (run_no run).elim
theorem de_ifE {q : Expr} (hc : PT X q (sT c t)) (ha : PE X a (sE c f)) (hb : PE X b (sE c h)) : PE X (.IfExp q a b pos) (sE c (ifE t f h)) := PE.imp (pe_ifExp hc ha hb) fun g H Q s => by
  refine sG.bind s fun a x r M1 io1 H1 re rs ra run => ?_
  cases ra
  cases a with
  | true => exact ⟨r, M1, io1, re, rs, run⟩
  | false => exact ⟨r, M1, io1, re, rs, run⟩
theorem sE_chain {op op' : CmpOp} {g : L2.St} {H : Hp} {Q : VK} (s : sE c (chainE (cmpD op) (cmpD op') f h j) g H Q) : tChain (sV2 c (cmpD op)) (sV2 c (cmpD op')) (sE c f) (sE c h) (sE c j) g H Q := by
  refine sG.bind s fun a x r M1 io1 H1 re rs ra run => ⟨r, M1, io1, re, rs, run.bind fun b y M2 io2 H2 e2 rs2 rb run2 => ?_⟩
  obtain ⟨zx, M4, ez, kz⟩ := run2
  unfold bindD liftD at ez
  simp only at ez
  cases eo : cmpD op a b M2 with
  | none => rw [eo] at ez; cases ez
  | some p =>
    obtain ⟨z, M3⟩ := p
    rw [eo] at ez
    refine ⟨M2, io2, a, b, z, M3, eo, ra.mono e2, rb, rs2, fun io3 H3 e3 rs3 v rv => ?_⟩
    cases z with
    | bl k =>
      cases rv
      refine ⟨k, rfl, ?_⟩
      cases k with
      | true =>
        rw [if_pos rfl]
        have run3 : Run c (rD c) (bindD j fun e => liftD (fun p : D × D => cmpD op' p.1 p.2) (b, e)) r M3 io3 g H3 Q := ⟨zx, M4, ez, kz.ext e3⟩
        refine ⟨r, M3, io3, (re.mono e2).mono e3, rs3, run3.bind fun d w M5 io5 H5 e5 rs5 rd run5 => ?_⟩
        obtain ⟨d', M6, e6, k6⟩ := run5.lift
        exact ⟨M5, io5, b, d, d', M6, e6, (rb.mono e3).mono e5, rd, rs5, k6⟩
      | false =>
        rw [if_neg Bool.false_ne_true]
        cases ez
        exact (kz.ext e3).ok Ext.refl rs3 (.bl false)
    | _ => cases ez
theorem de_chain {op op' : CmpOp} {q : Expr} (hK : X.K = c.K.f) (hu : X.A.units + 65 < cLine) (ha : PE X a (sE c f)) (hb : PE X b (sE c h)) (hq : PE X q (sE c j)) (hm : lastMarks [op, op'] [b, q] = false := by with_unfolding_all rfl) : PE X (.Compare a [op, op'] [b, q] pos) (sE c (chainE (cmpD op) (cmpD op') f h j)) :=
  PE.imp (pe_chain (or_cmp hK hu op) (or_cmp hK hu op') ha hb hq hm) fun _ _ _ s => sE_chain s
theorem dt_chain {op op' : CmpOp} {q : Expr} (hK : X.K = c.K.f) (hu : X.A.units + 65 < cLine) (ha : PE X a (sE c f)) (hb : PE X b (sE c h)) (hq : PE X q (sE c j)) (hm : lastMarks [op, op'] [b, q] = false := by with_unfolding_all rfl) : PT X (.Compare a [op, op'] [b, q] pos) (sT c (btestD (chainE (cmpD op) (cmpD op') f h j))) :=
  PT.imp (pt_chain (or_cmp hK hu op) (or_cmp hK hu op') ha hb hq hm) fun g H Q s => by
    have q := sT_b (c := c) (f := chainE (cmpD op) (cmpD op') f h j) s
    exact sE_chain q
/-- -i -/
def negD (a : D) (M : Sto) : Option (D × Sto) :=
  match a with
  | .int i => some (.int (-i), M)
  | _ => none
theorem de_neg (hK : X.K = c.K.f) (ha : PE X a (sE c f)) : PE X (.UnaryOp .USub a pos) (sE c (op1 negD f)) := PE.imp (pe_un un_neg ha) fun g H Q s => by
  refine sG.bind s fun a x r M1 io1 H1 re rs ra run => ?_
  obtain ⟨d, M3, e, k⟩ := run.lift
  unfold negD at e
  split at e
  · cases e; cases ra
    exact ⟨_, rfl, k.ok Ext.refl rs (.int _)⟩
  · cases e
end
end PyD

-- PyD6
set_option maxRecDepth 100000
set_option maxHeartbeats 4000000
noncomputable section
namespace PyD
open PySem PySem.Spec PyProof.Rows L2
/-! ### subscripts -/
def ixD (a b : D) (M : Sto) : Option (D × Sto) :=
  match b with
  | .int i => match a with
    | .tup ds => (atI ds i).map fun d => (d, M)
    | .ktup ds => (atI ds i).map fun d => (d, M)
    | .str z => if z.length ≤ 100000 then (atI z.cps.toList i).map fun k => (.str ⟨#[k]⟩, M) else none
    | .lst j => match (sGet M j) with
      | some (.lst ds) => (atI ds i).map fun d => (d, M)
      | _ => none
    | _ => none
  | _ => none
theorem RL.at {K : KT} {H : Hp} {io : List Addr} {ds : List D} {xs : List V} {i : Int} {d : D} (h : RL K H io ds xs) (e : atI ds i = some d) : ∃ v, atI xs i = some v ∧ R K H io d v := by
  unfold atI at e ⊢
  rw [← h.length]
  cases q : ixN ds.length i with
  | none => rw [q] at e; cases e
  | some j =>
    rw [q] at e
    exact h.get e
theorem map_some {α β : Type} {o : Option α} {f : α → β} {b : β} (h : o.map f = some b) : ∃ a, o = some a ∧ f a = b := by
  cases o with
  | none => cases h
  | some a => exact ⟨a, rfl, Option.some.inj h⟩
section
variable {X : Cx} {c : Cfg} {f h j : Den D} {hs : Den (List D)} {a b e o : Expr} {es : List Expr} {pos : Pos}
theorem ir_ix (hK : X.K = c.K.f) : IxR X (sV2 c ixD) := by
  intro value slice pins s g H x y v u Q I rx ry hh hsub
  obtain ⟨M, io, a, b, d, M', e, ra, rb, rs, k⟩ := hh
  rw [kt hK] at ra rb rs k
  unfold ixD at e
  split at e
  · rename_i i
    cases rb
    split at e
    · obtain ⟨z, e1, e2⟩ := map_some e
      cases e2
      cases ra with
      | tup h1 rl =>
        obtain ⟨w, hw, rw'⟩ := rl.at e1
        exact ix_tup value slice pins s g H _ _ v u Q I rx ry ⟨_, _, _, _, rfl, rfl, SqT.of h1, hw, k_now k rs rw'⟩ hsub
    · obtain ⟨z, e1, e2⟩ := map_some e
      cases e2
      cases ra with
      | ktup h1 rl =>
        obtain ⟨w, hw, rw'⟩ := rl.at e1
        exact ix_tup value slice pins s g H _ _ v u Q I rx ry ⟨_, _, _, _, rfl, rfl, h1.sq, hw, k_now k rs rw'⟩ hsub
    · split at e
      · rename_i hl
        obtain ⟨z, e1, e2⟩ := map_some e
        cases e2
        cases ra
        exact ix_str value slice pins s g H _ _ v u Q I rx ry ⟨_, _, _, rfl, rfl, big_le hl, e1, k_now k rs (.str _)⟩ hsub
      · cases e
    · split at e
      · rename_i ds em
        obtain ⟨z, e1, e2⟩ := map_some e
        cases e2
        obtain ⟨a1, xs, rfl, i1, h1, r1⟩ := lst_at ra rs em
        obtain ⟨w, hw, rw'⟩ := r1.at e1
        exact ix_list value slice pins s g H _ _ v u Q I rx ry ⟨_, _, _, _, rfl, rfl, SqL.of h1, hw, k_now k rs rw'⟩ hsub
      · cases e
    · cases e
  · cases e
theorem de_ix (hK : X.K = c.K.f) (ha : PE X a (sE c f)) (hb : PE X b (sE c h)) (hs : PlainIx b := by intro _ _; rfl) : PE X (.Subscript a b pos) (sE c (op2 ixD f h)) := PE.imp (pe_ix (ir_ix hK) ha hb hs) fun _ _ _ s => sE_op2 s
/-! d[k] -/
def dgetD (a b : D) (M : Sto) : Option (D × Sto) :=
  match a with
  | .dic i => match dicGet i b M with
    | some (some d) => some (d, M)
    | _ => none
  | _ => none
theorem RO.some' {K : KT} {H : Hp} {io : List Addr} {d : D} {ov : Option V} (h : RO K H io (some d) ov) : ∃ v, ov = some v ∧ R K H io d v := by
  cases ov with
  | none => exact h.elim
  | some v => exact ⟨v, rfl, h⟩
theorem op2_congr {op op' : D → D → Sto → Option (D × Sto)} {r : DEnv} {M M1 : Sto} {a : D} (ef : f r M = some (.ok a, M1)) (q : ∀ b M, op a b M = op' a b M) : op2 op f h r M = op2 op' f h r M := by
  unfold op2 bindD
  rw [ef]
  simp only
  cases h r M1 with
  | none => rfl
  | some p =>
    obtain ⟨y, M2⟩ := p
    cases y with
    | ex x => rfl
    | ok b =>
      simp only
      unfold liftD
      simp only
      rw [q b M2]
/-- an item of a sequence, of a dict -/
def itemD (a b : D) (M : Sto) : Option (D × Sto) :=
  match a with
  | .dic _ => dgetD a b M
  | _ => ixD a b M
theorem itemD_ix {a : D} (n : ∀ i, a ≠ .dic i) (b : D) (M : Sto) : itemD a b M = ixD a b M := by
  unfold itemD
  split
  · rename_i i
    exact absurd rfl (n i)
  · rfl
theorem sE_dget {g : L2.St} {H : Hp} {Q : VK} (s : sE c (op2 dgetD f h) g H Q) : tDGet (sE c f) (sE c h) g H Q := by
  refine sG.bind s fun a x r M1 io1 H1 re rs ra run => ⟨r, M1, io1, re, rs, run.bind fun b y M2 io2 H2 e2 rs2 rb run2 => ?_⟩
  obtain ⟨d, M3, e, k⟩ := run2.lift
  simp only at e
  unfold dgetD at e
  split at e
  · split at e
    · rename_i i o eo
      cases e
      have ra2 := ra.mono e2
      cases ra2 with
      | dic ei =>
        obtain ⟨ov, gt, ro⟩ := dicGet_ok rs2 ei rb eo
        obtain ⟨v, rfl, rv⟩ := ro.some'
        exact ⟨_, v, rfl, gt, k.ok Ext.refl rs2 rv⟩
    · cases e
  · cases e
theorem de_item (hK : X.K = c.K.f) (hu : X.A.units + 1 < cLine) (ha : PE X a (sE c f)) (hb : PE X b (sE c h)) (hs : PlainIx b := by intro _ _; rfl) : PE X (.Subscript a b pos) (sE c (op2 itemD f h)) :=
  PE.imp (PE.or (pe_ix (ir_ix hK) ha hb hs) (pe_dget hu ha hb hs)) fun g H Q s => by
    obtain ⟨r, M, io, re, rs, x, M', e, k⟩ := s
    cases ef : f r M with
    | none => unfold op2 bindD at e; rw [ef] at e; cases e
    | some p =>
      obtain ⟨y, M1⟩ := p
      cases y with
      | ex y =>
        have e' : op2 ixD f h r M = some (x, M') := by
          unfold op2 bindD at e ⊢
          rw [ef] at e ⊢
          exact e
        exact .inl (sE_op2 ⟨r, M, io, re, rs, x, M', e', k⟩)
      | ok a =>
        by_cases n : ∃ i, a = .dic i
        · obtain ⟨i, rfl⟩ := n
          rw [op2_congr (op := itemD) (op' := dgetD) ef fun b M => rfl] at e
          exact .inr (sE_dget ⟨r, M, io, re, rs, x, M', e, k⟩)
        · rw [op2_congr (op := itemD) (op' := ixD) ef fun b M => itemD_ix (fun i z => n ⟨i, z⟩) b M] at e
          exact .inl (sE_op2 ⟨r, M, io, re, rs, x, M', e, k⟩)

/-! ### slices -/
def cutDs (ds : List D) (lo hi : Option Int) : List D := (ds.drop (HT.sIx ds.length 0 lo)).take (HT.sIx ds.length ds.length hi - HT.sIx ds.length 0 lo)
theorem RL.cut {K : KT} {H : Hp} {io : List Addr} {ds : List D} {xs : List V} (h : RL K H io ds xs) (lo hi : Option Int) : RL K H io (cutDs ds lo hi) (cutV xs lo hi) := by
  unfold cutDs cutV
  rw [h.length]
  exact (h.drop _).take _
theorem cut_whole {ds : List D} {lo hi : Option Int} (h : HT.sIx ds.length 0 lo = 0 ∧ HT.sIx ds.length ds.length hi = ds.length) : cutDs ds lo hi = ds := by
  unfold cutDs
  rw [h.1, h.2, List.drop_zero, Nat.sub_zero]
  exact List.take_length
def slD (a : D) (lo hi : Option Int) (M : Sto) : Option (D × Sto) :=
  match a with
  | .tup ds => some (.tup (cutDs ds lo hi), M)
  | .ktup ds => if HT.sIx ds.length 0 lo = 0 ∧ HT.sIx ds.length ds.length hi = ds.length then some (.ktup ds, M) else some (.tup (cutDs ds lo hi), M)
  | .str z => if z.length ≤ 100000 then some (.str (cutS z lo hi), M) else none
  | .lst j => match (sGet M j) with
    | some (.lst ds) => some (.lst M.length, (sApp M (.lst (cutDs ds lo hi))))
    | _ => none
  | _ => none
def sVsl (c : Cfg) : V → Option Int → Option Int → Hp → VK → Prop := fun x lo hi H Q =>
  ∃ (M : Sto) (io : List Addr) (a d : D) (M' : Sto), slD a lo hi M = some (d, M') ∧ R c.K H io a x ∧ RS c.K H io M ∧
    ∀ (io' : List Addr) (H' : Hp), Ext c.K io H io' H' → RS c.K H' io' M' → ∀ v, R c.K H' io' d v → Q v H'
theorem sr_sl (hK : X.K = c.K.f) : SlR X (sVsl c) := by
  intro pins s g H x v vl vu lo hi sl Q I rx hs pl pu hh
  obtain ⟨M, io, a, d, M', e, ra, rs, k⟩ := hh
  rw [kt hK] at ra rs k
  unfold slD at e
  split at e
  · cases e
    cases ra with
    | tup h1 rl =>
      refine sl_tupA pins s g H _ v vl vu lo hi sl Q I rx hs pl pu ⟨_, _, rfl, SqT.of h1, fun w => ?_, fun w p n => ?_⟩
      · rw [← rl.length] at w
        rw [cut_whole w] at k
        exact k_now k rs (.tup h1 rl)
      · exact k_tup k rs (rl.cut lo hi) n
  · cases ra with
    | ktup h1 rl =>
      split at e
      · rename_i hw
        cases e
        refine sl_tupA pins s g H _ v vl vu lo hi sl Q I rx hs pl pu ⟨_, _, rfl, h1.sq, fun w => k_now k rs (.ktup h1 rl), fun w p n => ?_⟩
        rw [rl.length] at hw
        exact absurd hw w
      · rename_i hw
        cases e
        refine sl_tupA pins s g H _ v vl vu lo hi sl Q I rx hs pl pu ⟨_, _, rfl, h1.sq, fun w => ?_, fun w p n => k_tup k rs (rl.cut lo hi) n⟩
        rw [← rl.length] at w
        exact absurd w hw
  · split at e
    · rename_i hl
      cases e; cases ra
      exact sl_str pins s g H _ v vl vu lo hi sl Q I rx hs pl pu ⟨_, rfl, big_le hl, k_now k rs (.str _)⟩
    · cases e
  · split at e
    · rename_i ds em
      cases e
      obtain ⟨a1, xs, rfl, i1, h1, r1⟩ := lst_at ra rs em
      exact sl_list pins s g H _ v vl vu lo hi sl Q I rx hs pl pu ⟨_, _, rfl, SqL.of h1, fun p n => k_lst k rs (r1.cut lo hi) n⟩
    · cases e
  · cases e
abbrev sO (c : Cfg) (f : Den (Option Int)) : TO := sG c rQ f
theorem PO.imp {q : Option Expr} {t t' : TO} (h : PO X q t) (i : ∀ g H Q, t' g H Q → t g H Q) : PO X q t' := ⟨fun pins s g H Q I z => h.run pins s g H Q I (i g H Q z)⟩
def noPart : Den (Option Int) := fun _ M => some (.ok none, M)
def somePart (f : Den D) : Den (Option Int) := bindD f fun a => match a with
  | .int i => fun _ M => some (.ok (some i), M)
  | _ => fun _ _ => none
theorem dp_none : PO X none (sO c noPart) := PO.imp po_none fun g H Q s => by
  obtain ⟨r', M, io, re, rs, run⟩ := s
  exact (run_ok run).ok Ext.refl rs rfl
theorem dp_some (ha : PE X a (sE c f)) : PO X (some a) (sO c (somePart f)) := PO.imp (po_some ha) fun g H Q s => by
  refine sG.bind s fun a x r M1 io1 H1 re rs ra run => ?_
  split at run
  · cases ra; exact ⟨_, rfl, (run_ok run).ok Ext.refl rs rfl⟩
  · exact (run_no run).elim
def sliceE (f : Den D) (l u : Den (Option Int)) : Den D := bindD f fun a => bindD l fun lo => bindD u fun hi => liftD (fun p : D × Option Int × Option Int => slD p.1 p.2.1 p.2.2) (a, lo, hi)
theorem de_slice {l u : Den (Option Int)} {ql qu : Option Expr} {p2 : Pos} (hK : X.K = c.K.f) (ha : PE X a (sE c f)) (hl : PO X ql (sO c l)) (hu : PO X qu (sO c u)) : PE X (.Subscript a (.Slice ql qu none p2) pos) (sE c (sliceE f l u)) := PE.imp (pe_slice (sr_sl hK) ha hl hu) fun g H Q s => by
  refine sG.bind s fun a x r M1 io1 H1 re rs ra run => ⟨r, M1, io1, re, rs, run.bind fun lo lo' M2 io2 H2 e2 rs2 rl run2 => ⟨r, M2, io2, re.mono e2, rs2, run2.bind fun hi hi' M3 io3 H3 e3 rs3 rh run3 => ?_⟩⟩
  cases rl
  cases rh
  obtain ⟨d, M4, e, k⟩ := run3.lift
  exact ⟨M3, io3, a, d, M4, e, (ra.mono e2).mono e3, rs3, k⟩
/-- xs[::-1] of a list -/
def revD (a : D) (M : Sto) : Option (D × Sto) :=
  match a with
  | .lst j => match (sGet M j) with
    | some (.lst ds) => some (.lst M.length, (sApp M (.lst ds.reverse)))
    | _ => none
  | _ => none
theorem de_revL {k : Nat} {p1 p2 p3 : Pos} (hK : X.K = c.K.f) (ha : PE X a (sE c f)) : PE X (.Subscript a (.Slice none none (some (.UnaryOp .USub (.Constant (.int 1) k p1) p2)) p3) pos) (sE c (op1 revD f)) := PE.imp (pe_revL ha) fun g H Q s => by
  refine sG.bind s fun a x r M1 io1 H1 re rs ra run => ?_
  obtain ⟨d, M3, e, k⟩ := run.lift
  unfold revD at e
  split at e
  · split at e
    · rename_i ds em
      cases e
      obtain ⟨a1, xs, rfl, i1, h1, r1⟩ := lst_at ra rs em
      exact ⟨_, _, rfl, SqL.of h1, fun p n => k_lst (fun io' H' ex rs' v rv => k io' H' ex rs' v rv) rs r1.reverse n⟩
    · cases e
  · cases e

/-! ### calls of built-ins -/
def lenD (as : List D) (M : Sto) : Option (D × Sto) :=
  match as with
  | [.tup ds] => some (.int ds.length, M)
  | [.ktup ds] => some (.int ds.length, M)
  | [.str z] => if z.length ≤ 100000 then some (.int z.length, M) else none
  | [.lst j] => match (sGet M j) with
    | some (.lst ds) => some (.int ds.length, M)
    | _ => none
  | [.dic j] => match (sGet M j) with
    | some (.dk kvs) => some (.int kvs.length, M)
    | some (.dt kvs) => some (.int kvs.length, M)
    | _ => none
  | _ => none
theorem RL.one {K : KT} {H : Hp} {io : List Addr} {d : D} {xs : List V} (h : RL K H io [d] xs) : ∃ x, xs = [x] ∧ R K H io d x := by
  cases h with
  | cons r t => cases t; exact ⟨_, rfl, r⟩
theorem RL.two {K : KT} {H : Hp} {io : List Addr} {d e : D} {xs : List V} (h : RL K H io [d, e] xs) : ∃ x y, xs = [x, y] ∧ R K H io d x ∧ R K H io e y := by
  cases h with
  | cons r t => cases t with
    | cons r2 t2 => cases t2; exact ⟨_, _, rfl, r, r2⟩
theorem RKV.length {κ : Type} {K : KT} {H : Hp} {io : List Addr} {a : List (κ × D)} {b : List (κ × V)} (h : RKV K H io a b) : a.length = b.length := Paired.length h
theorem cr_len (hK : X.K = c.K.f) : CallR X (.builtin "len") (sVs c lenD) := by
  intro pins s g H xs us Q I rv hh
  obtain ⟨M, io, as, d, M', e, ra, rs, k⟩ := hh
  rw [kt hK] at ra rs k
  unfold lenD at e
  split at e
  · cases e
    obtain ⟨x, rfl, rx⟩ := ra.one
    cases rx with
    | tup h1 rl => exact call_len_seq pins s g H _ us Q I rv ⟨_, _, rfl, .inr (SqT.of h1), by rw [← rl.length]; exact k_now k rs (.int _)⟩
  · cases e
    obtain ⟨x, rfl, rx⟩ := ra.one
    cases rx with
    | ktup h1 rl => exact call_len_seq pins s g H _ us Q I rv ⟨_, _, rfl, .inr h1.sq, by rw [← rl.length]; exact k_now k rs (.int _)⟩
  · split at e
    · rename_i hl
      cases e
      obtain ⟨x, rfl, rx⟩ := ra.one
      cases rx
      exact call_len_str pins s g H _ us Q I rv ⟨_, rfl, big_le hl, k_now k rs (.int _)⟩
    · cases e
  · split at e
    · rename_i ds em
      cases e
      obtain ⟨x, rfl, rx⟩ := ra.one
      obtain ⟨a1, xs, rfl, i1, h1, r1⟩ := lst_at rx rs em
      exact call_len_seq pins s g H _ us Q I rv ⟨_, _, rfl, .inl (SqL.of h1), by rw [← r1.length]; exact k_now k rs (.int _)⟩
    · cases e
  · split at e
    · rename_i kvs em
      cases e
      obtain ⟨x, rfl, rx⟩ := ra.one
      cases rx with
      | dic ei =>
        obtain ⟨cc, ho, e1, e2, rc⟩ := rs.there ei
        rw [em] at e1
        cases e1
        obtain ⟨ys, q, rk⟩ := rc
        subst q
        obtain ⟨u, rfl, ru⟩ := rv.one
        cases ru
        exact d_len I (.inl e2) fun t s' I' => ⟨.int ys.length, H, I', ⟨t, rfl⟩, by rw [← rk.length]; exact k_now k rs (.int _)⟩
    · rename_i kvs em
      cases e
      obtain ⟨x, rfl, rx⟩ := ra.one
      cases rx with
      | dic ei =>
        obtain ⟨cc, ho, e1, e2, rc⟩ := rs.there ei
        rw [em] at e1
        cases e1
        obtain ⟨ys, q, rk⟩ := rc
        subst q
        exact call_len_dT pins s g H _ us Q I rv ⟨_, _, rfl, e2, by rw [← rk.length]; exact k_now k rs (.int _)⟩
    · cases e
  · cases e
end
end PyD

-- PyD7
set_option maxRecDepth 100000
set_option maxHeartbeats 4000000
noncomputable section
namespace PyD
open PySem PySem.Spec PyProof.Rows L2
def intsD : List D → Option (List Int)
  | [] => some []
  | .int i :: r => (intsD r).map fun ns => i :: ns
  | _ => none
def blsD : List D → Option (List Bool)
  | [] => some []
  | .bl i :: r => (blsD r).map fun ns => i :: ns
  | _ => none
def strsD : List D → Option (List Str)
  | [] => some []
  | .str i :: r => (strsD r).map fun ns => i :: ns
  | _ => none
theorem ints_of {K : KT} {H : Hp} {io : List Addr} : ∀ {ds : List D} {ns : List Int} {xs : List V}, intsD ds = some ns → RL K H io ds xs → xs = ns.map V.int
  | [], _, _, e, r => by simp only [intsD] at e; cases e; cases r; rfl
  | d :: ds, _, _, e, r => by
    cases d <;> simp only [intsD] at e <;> first | (cases e; done) | skip
    obtain ⟨ms, e1, e2⟩ := map_some e
    cases e2
    cases r with
    | cons r1 r2 => cases r1; rw [List.map_cons, ints_of e1 r2]
theorem bls_of {K : KT} {H : Hp} {io : List Addr} : ∀ {ds : List D} {ns : List Bool} {xs : List V}, blsD ds = some ns → RL K H io ds xs → xs = ns.map V.bl
  | [], _, _, e, r => by simp only [blsD] at e; cases e; cases r; rfl
  | d :: ds, _, _, e, r => by
    cases d <;> simp only [blsD] at e <;> first | (cases e; done) | skip
    obtain ⟨ms, e1, e2⟩ := map_some e
    cases e2
    cases r with
    | cons r1 r2 => cases r1; rw [List.map_cons, bls_of e1 r2]
theorem strs_of {K : KT} {H : Hp} {io : List Addr} : ∀ {ds : List D} {ns : List Str} {xs : List V}, strsD ds = some ns → RL K H io ds xs → xs = ns.map V.str
  | [], _, _, e, r => by simp only [strsD] at e; cases e; cases r; rfl
  | d :: ds, _, _, e, r => by
    cases d <;> simp only [strsD] at e <;> first | (cases e; done) | skip
    obtain ⟨ms, e1, e2⟩ := map_some e
    cases e2
    cases r with
    | cons r1 r2 => cases r1; rw [List.map_cons, strs_of e1 r2]
/-- type(x) -/
def tyOfD (as : List D) (M : Sto) : Option (D × Sto) :=
  match as with
  | [.non] => some (.ty "NoneType", M)
  | [.bl _] => some (.ty "bool", M)
  | [.int _] => some (.ty "int", M)
  | [.str _] => some (.ty "str", M)
  | [.tup _] => some (.ty "tuple", M)
  | [.ktup _] => some (.ty "tuple", M)
  | [.lst j] => match (sGet M j) with
    | some (.lst _) => some (.ty "list", M)
    | _ => none
  | [.dic j] => match (sGet M j) with
    | some (.dk _) => some (.ty "dict", M)
    | _ => none
  | _ => none
/-- list(x) -/
def listD (as : List D) (M : Sto) : Option (D × Sto) :=
  match as with
  | [.tup ds] => some (.lst M.length, (sApp M (.lst ds)))
  | [.ktup ds] => some (.lst M.length, (sApp M (.lst ds)))
  | [.lst j] => match (sGet M j) with
    | some (.lst ds) => some (.lst M.length, (sApp M (.lst ds)))
    | _ => none
  | _ => none
/-- tuple(x) -/
def tupleD (as : List D) (M : Sto) : Option (D × Sto) :=
  match as with
  | [.tup ds] => some (.tup ds, M)
  | [.lst j] => match (sGet M j) with
    | some (.lst ds) => some (.tup ds, M)
    | _ => none
  | _ => none
def lstOf (d : D) (M : Sto) : Option (List D) :=
  match d with
  | .lst j => match (sGet M j) with
    | some (.lst ds) => some ds
    | _ => none
  | _ => none
theorem lstOf_ok {K : KT} {H : Hp} {io : List Addr} {M : Sto} {d : D} {ds : List D} {v : V} (e : lstOf d M = some ds) (rs : RS K H io M) (r : R K H io d v) : ∃ a xs, v = .ref a ∧ H a = some (.lst xs) ∧ RL K H io ds xs := by
  unfold lstOf at e
  split at e
  · split at e
    · rename_i em
      cases e
      obtain ⟨a, xs, e1, e2, e3, e4⟩ := lst_at r rs em
      exact ⟨a, xs, e1, e3, e4⟩
    · cases e
  · cases e
def sumD (as : List D) (M : Sto) : Option (D × Sto) :=
  match as with
  | [d] => match lstOf d M with
    | some ds => (intsD ds).map fun ns => (.int ns.sum, M)
    | none => none
  | _ => none
def allD (as : List D) (M : Sto) : Option (D × Sto) :=
  match as with
  | [d] => match lstOf d M with
    | some ds => (blsD ds).map fun ns => (.bl (ns.all id), M)
    | none => none
  | _ => none
def anyD (as : List D) (M : Sto) : Option (D × Sto) :=
  match as with
  | [d] => match lstOf d M with
    | some ds => (blsD ds).map fun ns => (.bl (ns.any id), M)
    | none => none
  | _ => none
def maxI : List Int → Int
  | [] => 0
  | [a] => a
  | a :: b :: r => max a (maxI (b :: r))
theorem maxI_mem : ∀ (l : List Int), l ≠ [] → maxI l ∈ l
  | [], h => absurd rfl h
  | [a], _ => by simp [maxI]
  | a :: b :: r, _ => by
    have ih := maxI_mem (b :: r) (by simp)
    unfold maxI
    by_cases h : a ≤ maxI (b :: r)
    · rw [Int.max_eq_right h]; exact List.mem_cons_of_mem _ ih
    · rw [Int.max_eq_left (by omega)]; exact List.mem_cons_self
theorem maxI_le : ∀ (l : List Int) (x : Int), x ∈ l → x ≤ maxI l
  | [a], x, h => by simp at h; subst h; simp [maxI]
  | a :: b :: r, x, h => by
    unfold maxI
    rcases List.mem_cons.mp h with e | h
    · subst e; exact Int.le_max_left _ _
    · exact Int.le_trans (maxI_le (b :: r) x h) (Int.le_max_right _ _)
/-- max(a, b), max(xs) -/
def maxDD (as : List D) (M : Sto) : Option (D × Sto) :=
  match as with
  | [.int i, .int j] => some (.int (if j > i then j else i), M)
  | [d] => match lstOf d M with
    | some ds => match intsD ds with
      | some (n :: ns) => some (.int (maxI (n :: ns)), M)
      | _ => none
    | none => none
  | _ => none
def minDD (as : List D) (M : Sto) : Option (D × Sto) :=
  match as with
  | [.int i, .int j] => some (.int (if j < i then j else i), M)
  | _ => none
def absD (as : List D) (M : Sto) : Option (D × Sto) :=
  match as with
  | [.int i] => some (.int (if i < 0 then -i else i), M)
  | _ => none
def intD (as : List D) (M : Sto) : Option (D × Sto) :=
  match as with
  | [.int i] => some (.int i, M)
  | [.bl b] => some (.int (if b then 1 else 0), M)
  | _ => none
def strD (as : List D) (M : Sto) : Option (D × Sto) :=
  match as with
  | [.int i] => if i.natAbs.log2 < 1920 then some (.str (toString i), M) else none
  | _ => none
/-- sorted: of one item at most, for now -/
def sortedD (as : List D) (M : Sto) : Option (D × Sto) :=
  match as with
  | [.dic j] => match (sGet M j) with
    | some (.dk []) => some (.lst M.length, (sApp M (.lst [])))
    | some (.dk [(.inr x, _)]) => some (.lst M.length, (sApp M (.lst [.str x])))
    | _ => none
  | _ => none
section
variable {X : Cx} {c : Cfg}
theorem cr_ty (hK : X.K = c.K.f) : CallR X (.type "type") (sVs c tyOfD) := by
  intro pins s g H xs us Q I rv hh
  obtain ⟨M, io, as, d, M', e, ra, rs, k⟩ := hh
  rw [kt hK] at ra rs k
  unfold tyOfD at e
  split at e
  · cases e
    obtain ⟨x, rfl, rx⟩ := ra.one
    cases rx
    exact call_type1 pins s g H _ us Q I rv ⟨_, _, rfl, .non, k_now k rs (.ty _)⟩
  · cases e
    obtain ⟨x, rfl, rx⟩ := ra.one
    cases rx
    exact call_type1 pins s g H _ us Q I rv ⟨_, _, rfl, .bl _, k_now k rs (.ty _)⟩
  · cases e
    obtain ⟨x, rfl, rx⟩ := ra.one
    cases rx
    exact call_type1 pins s g H _ us Q I rv ⟨_, _, rfl, .int _, k_now k rs (.ty _)⟩
  · cases e
    obtain ⟨x, rfl, rx⟩ := ra.one
    cases rx
    exact call_type1 pins s g H _ us Q I rv ⟨_, _, rfl, .str _, k_now k rs (.ty _)⟩
  · cases e
    obtain ⟨x, rfl, rx⟩ := ra.one
    cases rx with
    | tup h1 rl => exact call_type1 pins s g H _ us Q I rv ⟨_, _, rfl, .tup (SqT.of h1), k_now k rs (.ty _)⟩
  · cases e
    obtain ⟨x, rfl, rx⟩ := ra.one
    cases rx with
    | ktup h1 rl => exact call_type1 pins s g H _ us Q I rv ⟨_, _, rfl, .tup h1.sq, k_now k rs (.ty _)⟩
  · split at e
    · rename_i ds em
      cases e
      obtain ⟨x, rfl, rx⟩ := ra.one
      obtain ⟨a1, xs, rfl, i1, h1, r1⟩ := lst_at rx rs em
      exact call_type1 pins s g H _ us Q I rv ⟨_, _, rfl, .lst (SqL.of h1), k_now k rs (.ty _)⟩
    · cases e
  · split at e
    · rename_i ds em
      cases e
      obtain ⟨x, rfl, rx⟩ := ra.one
      cases rx with
      | dic ei =>
        obtain ⟨cc, ho, e1, e2, rc⟩ := rs.there ei
        rw [em] at e1
        cases e1
        obtain ⟨ys, q, rk⟩ := rc
        subst q
        exact call_type1 pins s g H _ us Q I rv ⟨_, _, rfl, .dK e2, k_now k rs (.ty _)⟩
    · cases e
  · cases e
theorem cr_list (hK : X.K = c.K.f) : CallR X (.type "list") (sVs c listD) := by
  intro pins s g H xs us Q I rv hh
  obtain ⟨M, io, as, d, M', e, ra, rs, k⟩ := hh
  rw [kt hK] at ra rs k
  unfold listD at e
  split at e
  · cases e
    obtain ⟨x, rfl, rx⟩ := ra.one
    cases rx with
    | tup h1 rl => exact call_list_of pins s g H _ us Q I rv ⟨_, _, rfl, .inr (SqT.of h1), fun p n => k_lst k rs rl n⟩
  · cases e
    obtain ⟨x, rfl, rx⟩ := ra.one
    cases rx with
    | ktup h1 rl => exact call_list_of pins s g H _ us Q I rv ⟨_, _, rfl, .inr h1.sq, fun p n => k_lst k rs rl n⟩
  · split at e
    · rename_i ds em
      cases e
      obtain ⟨x, rfl, rx⟩ := ra.one
      obtain ⟨a1, xs, rfl, i1, h1, r1⟩ := lst_at rx rs em
      exact call_list_of pins s g H _ us Q I rv ⟨_, _, rfl, .inl (SqL.of h1), fun p n => k_lst k rs r1 n⟩
    · cases e
  · cases e
theorem cr_tuple (hK : X.K = c.K.f) : CallR X (.type "tuple") (sVs c tupleD) := by
  intro pins s g H xs us Q I rv hh
  obtain ⟨M, io, as, d, M', e, ra, rs, k⟩ := hh
  rw [kt hK] at ra rs k
  unfold tupleD at e
  split at e
  · cases e
    obtain ⟨x, rfl, rx⟩ := ra.one
    cases rx with
    | tup h1 rl => exact call_tuple_of pins s g H _ us Q I rv ⟨_, _, rfl, .inr ⟨SqT.of h1, k_now k rs (.tup h1 rl)⟩⟩
  · split at e
    · rename_i ds em
      cases e
      obtain ⟨x, rfl, rx⟩ := ra.one
      obtain ⟨a1, xs, rfl, i1, h1, r1⟩ := lst_at rx rs em
      exact call_tuple_of pins s g H _ us Q I rv ⟨_, _, rfl, .inl ⟨SqL.of h1, fun p n => k_tup k rs r1 n⟩⟩
    · cases e
  · cases e
theorem cr_sumD (hK : X.K = c.K.f) (hc : X.calm = true) : CallR X (.builtin "sum") (sVs c sumD) := by
  intro pins s g H xs us Q I rv hh
  obtain ⟨M, io, as, d, M', e, ra, rs, k⟩ := hh
  rw [kt hK] at ra rs k
  unfold sumD at e
  split at e
  · obtain ⟨x, rfl, rx⟩ := ra.one
    split at e
    · rename_i ds el
      obtain ⟨ns, e1, e2⟩ := map_some e
      cases e2
      obtain ⟨a, ys, rfl, h1, r1⟩ := lstOf_ok el rs rx
      have z := ints_of e1 r1
      subst z
      exact cr_sum hc pins s g H _ us Q I rv ⟨_, _, rfl, SqL.of h1, k_now k rs (.int _)⟩
    · cases e
  · cases e
theorem cr_allD (hK : X.K = c.K.f) (hc : X.calm = true) : CallR X (.builtin "all") (sVs c allD) := by
  intro pins s g H xs us Q I rv hh
  obtain ⟨M, io, as, d, M', e, ra, rs, k⟩ := hh
  rw [kt hK] at ra rs k
  unfold allD at e
  split at e
  · obtain ⟨x, rfl, rx⟩ := ra.one
    split at e
    · rename_i ds el
      obtain ⟨ns, e1, e2⟩ := map_some e
      cases e2
      obtain ⟨a, ys, rfl, h1, r1⟩ := lstOf_ok el rs rx
      have z := bls_of e1 r1
      subst z
      exact cr_all hc pins s g H _ us Q I rv ⟨_, _, rfl, SqL.of h1, k_now k rs (.bl _)⟩
    · cases e
  · cases e
theorem cr_anyD (hK : X.K = c.K.f) (hc : X.calm = true) : CallR X (.builtin "any") (sVs c anyD) := by
  intro pins s g H xs us Q I rv hh
  obtain ⟨M, io, as, d, M', e, ra, rs, k⟩ := hh
  rw [kt hK] at ra rs k
  unfold anyD at e
  split at e
  · obtain ⟨x, rfl, rx⟩ := ra.one
    split at e
    · rename_i ds el
      obtain ⟨ns, e1, e2⟩ := map_some e
      cases e2
      obtain ⟨a, ys, rfl, h1, r1⟩ := lstOf_ok el rs rx
      have z := bls_of e1 r1
      subst z
      exact cr_any hc pins s g H _ us Q I rv ⟨_, _, rfl, SqL.of h1, k_now k rs (.bl _)⟩
    · cases e
  · cases e
theorem cr_maxDD (hK : X.K = c.K.f) (hc : X.calm = true) : CallR X (.builtin "max") (sVs c maxDD) := by
  intro pins s g H xs us Q I rv hh
  obtain ⟨M, io, as, d, M', e, ra, rs, k⟩ := hh
  rw [kt hK] at ra rs k
  unfold maxDD at e
  split at e
  · cases e
    obtain ⟨x, y, rfl, rx, ry⟩ := ra.two
    cases rx
    cases ry
    exact call_max2 hc pins s g H _ us Q I rv ⟨_, _, rfl, k_now k rs (.int _)⟩
  · obtain ⟨x, rfl, rx⟩ := ra.one
    split at e
    · rename_i ds el
      split at e
      · rename_i n ns e1
        cases e
        obtain ⟨a, ys, rfl, h1, r1⟩ := lstOf_ok el rs rx
        have z := ints_of e1 r1
        subst z
        refine cr_max hc pins s g H _ us Q I rv ⟨_, _, rfl, SqL.of h1, by simp, fun m hm hle => ?_⟩
        have e2 : m = maxI (n :: ns) := Int.le_antisymm (maxI_le _ _ hm) (hle _ (maxI_mem _ (by simp)))
        rw [e2]
        exact k_now k rs (.int _)
      · cases e
    · cases e
  · cases e
theorem cr_minDD (hK : X.K = c.K.f) (hc : X.calm = true) : CallR X (.builtin "min") (sVs c minDD) := by
  intro pins s g H xs us Q I rv hh
  obtain ⟨M, io, as, d, M', e, ra, rs, k⟩ := hh
  rw [kt hK] at ra rs k
  unfold minDD at e
  split at e
  · cases e
    obtain ⟨x, y, rfl, rx, ry⟩ := ra.two
    cases rx
    cases ry
    exact call_min2 hc pins s g H _ us Q I rv ⟨_, _, rfl, k_now k rs (.int _)⟩
  · cases e
theorem cr_absD (hK : X.K = c.K.f) : CallR X (.builtin "abs") (sVs c absD) := by
  intro pins s g H xs us Q I rv hh
  obtain ⟨M, io, as, d, M', e, ra, rs, k⟩ := hh
  rw [kt hK] at ra rs k
  unfold absD at e
  split at e
  · cases e
    obtain ⟨x, rfl, rx⟩ := ra.one
    cases rx
    exact call_abs pins s g H _ us Q I rv ⟨_, rfl, k_now k rs (.int _)⟩
  · cases e
theorem cr_intD (hK : X.K = c.K.f) : CallR X (.type "int") (sVs c intD) := by
  intro pins s g H xs us Q I rv hh
  obtain ⟨M, io, as, d, M', e, ra, rs, k⟩ := hh
  rw [kt hK] at ra rs k
  unfold intD at e
  split at e
  · cases e
    obtain ⟨x, rfl, rx⟩ := ra.one
    cases rx
    exact call_int1 pins s g H _ us Q I rv (.inl ⟨_, rfl, k_now k rs (.int _)⟩)
  · cases e
    obtain ⟨x, rfl, rx⟩ := ra.one
    cases rx
    exact call_int1 pins s g H _ us Q I rv (.inr ⟨_, rfl, k_now k rs (.int _)⟩)
  · cases e
theorem cr_strD (hK : X.K = c.K.f) : CallR X (.type "str") (sVs c strD) := by
  intro pins s g H xs us Q I rv hh
  obtain ⟨M, io, as, d, M', e, ra, rs, k⟩ := hh
  rw [kt hK] at ra rs k
  unfold strD at e
  split at e
  · split at e
    · rename_i hl
      cases e
      obtain ⟨x, rfl, rx⟩ := ra.one
      cases rx
      exact call_str_int pins s g H _ us Q I rv ⟨_, rfl, hl, k_now k rs (.str _)⟩
    · cases e
  · cases e
theorem cr_sortedD (hK : X.K = c.K.f) (hc : X.calm = true) : CallR X (.builtin "sorted") (sVs c sortedD) := by
  intro pins s g H xs us Q I rv hh
  obtain ⟨M, io, as, d, M', e, ra, rs, k⟩ := hh
  rw [kt hK] at ra rs k
  unfold sortedD at e
  split at e
  · obtain ⟨x, rfl, rx⟩ := ra.one
    cases rx with
    | dic ei =>
      obtain ⟨cc, ho, e1, e2, rc⟩ := rs.there ei
      rw [e1] at e
      split at e
      · rename_i em
        cases em
        cases e
        obtain ⟨ys, q, rk⟩ := rc
        subst q
        cases rk
        exact call_sortedD hc pins s g H _ us Q I rv ⟨_, _, [], rfl, .inl e2, rfl, by simp, fun zs p hp _ n => by
          have z : zs = [] := List.Perm.eq_nil hp
          subst z
          exact k_lst k rs .nil n⟩
      · rename_i kx w em
        cases em
        cases e
        obtain ⟨ys, q, rk⟩ := rc
        subst q
        cases rk with
        | cons z1 z2 =>
          cases z2
          exact call_sortedD hc pins s g H _ us Q I rv ⟨_, _, [kx], rfl, .inl e2, by rw [List.map_cons, List.map_cons, ← z1.1]; rfl, by simp, fun zs p hp _ n => by
            have z : zs = [kx] := List.perm_singleton.mp hp
            subst z
            exact k_lst k rs (.cons (.str _) .nil) n⟩
      · cases e
  · cases e
end
end PyD

-- PyD8
set_option maxRecDepth 100000
set_option maxHeartbeats 4000000
noncomputable section
namespace PyD
open PySem PySem.Spec PyProof.Rows L2
/-! ### statements -/
inductive Fl where
  | nx | rt (d : D) | bk | ct | ex (x : Ex)
abbrev SDen := DEnv → Sto → Option (Fl × DEnv × Sto)
def AftS (c : Cfg) (io : List Addr) (H : Hp) (fl : Fl) (r' : DEnv) (M' : Sto) (Ds : Ends) : Prop :=
  ∀ (io' : List Addr) (H' : Hp), Ext c.K io H io' H' → RS c.K H' io' M' → match fl with
    | .nx => ∀ g', RE c.K H' io' r' g' → Ds.nx g' H'
    | .rt d => ∀ v, R c.K H' io' d v → Ds.rt v H'
    | .bk => ∀ g', RE c.K H' io' r' g' → Ds.bk g' H'
    | .ct => ∀ g', RE c.K H' io' r' g' → Ds.ct g' H'
    | .ex x => ∀ cv dx, RX c.mg c.K c.fl H' io' x cv dx → c.W cv dx H'
def RunS (c : Cfg) (f : SDen) (r : DEnv) (M : Sto) (io : List Addr) (H : Hp) (Ds : Ends) : Prop := ∃ (fl : Fl) (r' : DEnv) (M' : Sto), f r M = some (fl, r', M') ∧ AftS c io H fl r' M' Ds
def sS (c : Cfg) (f : SDen) : TS := fun Ds g H => ∃ (r : DEnv) (M : Sto) (io : List Addr), RE c.K H io r g ∧ RS c.K H io M ∧ RunS c f r M io H Ds
def bindS {α : Type} (f : Den α) (k : α → SDen) : SDen := fun r M => match f r M with
  | none => none
  | some (.ex x, M1) => some (.ex x, r, M1)
  | some (.ok a, M1) => k a r M1
section
variable {α β : Type} {c : Cfg} {Ra : Hp → List Addr → α → β → Prop} {f : Den α} {k : α → SDen} {g : L2.St} {H H1 : Hp} {r r' : DEnv} {M M' : Sto} {io io1 : List Addr} {Ds : Ends} {fl : Fl}
theorem AftS.ext (z : AftS c io H fl r' M' Ds) (e : Ext c.K io H io1 H1) : AftS c io1 H1 fl r' M' Ds := fun io' H' e2 rs => z io' H' (e.trans e2) rs
theorem RunS.bind {T : β → Hp → Prop} (s : RunS c (bindS f k) r M io H Ds)
    (ht : ∀ (a : α) (b : β) (M1 : Sto) (io1 : List Addr) (H1 : Hp), Ext c.K io H io1 H1 → RS c.K H1 io1 M1 → Ra H1 io1 a b → RunS c (k a) r M1 io1 H1 Ds → T b H1) : Run c Ra f r M io g H T := by
  obtain ⟨fl, r', M', e, z⟩ := s
  unfold bindS at e
  cases ef : f r M with
  | none => rw [ef] at e; cases e
  | some p =>
    obtain ⟨y, M1⟩ := p
    rw [ef] at e
    cases y with
    | ex y =>
      cases e
      exact ⟨.ex y, _, ef, fun io' H' ex rs' => z io' H' ex rs'⟩
    | ok a =>
      refine ⟨.ok a, _, ef, fun io1 H1 e1 rs1 b rb => ?_⟩
      exact ht a b _ io1 H1 e1 rs1 rb ⟨fl, r', M', e, z.ext e1⟩
theorem sS.bind {T : β → Hp → Prop} (s : sS c (bindS f k) Ds g H)
    (ht : ∀ (a : α) (b : β) (r : DEnv) (M1 : Sto) (io1 : List Addr) (H1 : Hp), RE c.K H1 io1 r g → RS c.K H1 io1 M1 → Ra H1 io1 a b → RunS c (k a) r M1 io1 H1 Ds → T b H1) : sG c Ra f g H T := by
  obtain ⟨r, M, io, re, rs, run⟩ := s
  exact ⟨r, M, io, re, rs, run.bind fun a b M1 io1 H1 e1 rs1 ra run1 => ht a b r M1 io1 H1 (re.mono e1) rs1 ra run1⟩
end
def skipS : SDen := fun r M => some (.nx, r, M)
def breakS : SDen := fun r M => some (.bk, r, M)
def contS : SDen := fun r M => some (.ct, r, M)
def retS (f : Den D) : SDen := bindS f fun d r M => some (.rt d, r, M)
def retNS : SDen := fun r M => some (.rt .non, r, M)
def exprS (f : Den D) : SDen := bindS f fun _ r M => some (.nx, r, M)
def seqS (a b : SDen) : SDen := fun r M => match a r M with
  | none => none
  | some (.nx, r1, M1) => b r1 M1
  | some (fl, r1, M1) => some (fl, r1, M1)
def ifS (t : Den Bool) (a b : SDen) : SDen := bindS t fun z => if z = true then a else b
/-- a while of at most n turns -/
def whileS (t : Den Bool) (b : SDen) : Nat → SDen
  | 0 => fun _ _ => none
  | n + 1 => bindS t fun z => if z = true then (fun r M => match b r M with
      | none => none
      | some (.nx, r1, M1) => whileS t b n r1 M1
      | some (.ct, r1, M1) => whileS t b n r1 M1
      | some (.bk, r1, M1) => some (.nx, r1, M1)
      | some (fl, r1, M1) => some (fl, r1, M1)) else skipS
/-! targets -/
abbrev TDen := D → DEnv → Sto → Option (DEnv × Sto)
abbrev TsDen := List D → DEnv → Sto → Option (DEnv × Sto)
def sTg (c : Cfg) (t : TDen) : TG := fun v g H Q => ∃ (r : DEnv) (M : Sto) (io : List Addr) (d : D) (r' : DEnv) (M' : Sto), t d r M = some (r', M') ∧ R c.K H io d v ∧ RE c.K H io r g ∧ RS c.K H io M ∧
  ∀ (io' : List Addr) (H' : Hp), Ext c.K io H io' H' → RS c.K H' io' M' → ∀ g', RE c.K H' io' r' g' → Q g' H'
def sTgs (c : Cfg) (t : TsDen) : TGs := fun vs g H Q => ∃ (r : DEnv) (M : Sto) (io : List Addr) (ds : List D) (r' : DEnv) (M' : Sto), t ds r M = some (r', M') ∧ RL c.K H io ds vs ∧ RE c.K H io r g ∧ RS c.K H io M ∧
  ∀ (io' : List Addr) (H' : Hp), Ext c.K io H io' H' → RS c.K H' io' M' → ∀ g', RE c.K H' io' r' g' → Q g' H'
def nmT (i : Nat) : TDen := fun d r M => some (r.set i (some d), M)
def nilT : TsDen := fun ds r M => match ds with
  | [] => some (r, M)
  | _ => none
def consT (t : TDen) (u : TsDen) : TsDen := fun ds r M => match ds with
  | d :: ds => match t d r M with
    | some (r1, M1) => u ds r1 M1
    | none => none
  | [] => none
def tupT (n : Nat) (t : TsDen) : TDen := fun d r M => match d with
  | .tup ds => if ds.length = n then t ds r M else none
  | .ktup ds => if ds.length = n then t ds r M else none
  | _ => none
def setS (f : Den D) (t : TDen) : SDen := bindS f fun d r M => match t d r M with
  | some (r1, M1) => some (.nx, r1, M1)
  | none => none
theorem PG.imp {X : Cx} {e : Expr} {t t' : TG} (h : PG X e t) (i : ∀ v g H Q, t' v g H Q → t v g H Q) : PG X e t' := ⟨fun pins s g H v u Q I r q => h.run pins s g H v u Q I r (i v g H Q q)⟩
theorem PGs.imp {X : Cx} {e : List Expr} {t t' : TGs} (h : PGs X e t) (i : ∀ v g H Q, t' v g H Q → t v g H Q) : PGs X e t' := ⟨fun pins s g H v u Q I r q => h.run pins s g H v u Q I r (i v g H Q q)⟩
section
variable {X : Cx} {c : Cfg} {f h : Den D} {t : Den Bool} {a b : SDen} {e o q : Expr} {es : List Expr} {st : Stmt} {sts : List Stmt} {pos : Pos} {tg : TDen} {tgs : TsDen}
theorem dg_nm {i : Nat} (hg : PG X e (gName i)) : PG X e (sTg c (nmT i)) := PG.imp hg fun v g H Q s => by
  obtain ⟨r, M, io, d, r', M', eq, rd, re, rs, k⟩ := s
  cases eq
  exact k io H Ext.refl rs _ (re.set rd)
theorem dgs_nil : PGs X [] (sTgs c nilT) := PGs.imp pgs_nil fun v g H Q s => by
  obtain ⟨r, M, io, d, r', M', eq, rd, re, rs, k⟩ := s
  unfold nilT at eq
  split at eq
  · cases eq
    cases rd
    exact ⟨rfl, k io H Ext.refl rs _ re⟩
  · cases eq
theorem dgs_cons (h1 : PG X e (sTg c tg)) (h2 : PGs X es (sTgs c tgs)) (hs : (assignEach (e :: es) X.env).map (·.2) = assign e X.env :: (assignEach es X.env).map (·.2) := by rfl) : PGs X (e :: es) (sTgs c (consT tg tgs)) := PGs.imp (pgs_cons h1 h2 hs) fun v g H Q s => by
  obtain ⟨r, M, io, d, r', M', eq, rd, re, rs, k⟩ := s
  unfold consT at eq
  split at eq
  · rename_i d ds
    split at eq
    · rename_i r1 M1 e1
      cases rd with
      | cons z1 z2 =>
        refine ⟨_, _, rfl, r, M, io, d, r1, M1, e1, z1, re, rs, fun io1 H1 x1 rs1 g1 re1 => ?_⟩
        exact ⟨r1, M1, io1, ds, r', M', eq, z2.mono x1, re1, rs1, fun io' H' x2 rs' => k io' H' (x1.trans x2) rs'⟩
    · cases eq
  · cases eq
theorem dg_tup {kk n : Nat} (hK : X.K = c.K.f) (hc : X.calm = true) (h : PGs X es (sTgs c tgs)) (hn : (assignEach es X.env).length = n := by rfl) (hst : (assignEach es X.env).findIdx? (·.1) = none := by rfl) : PG X (.Tuple es kk pos) (sTg c (tupT n tgs)) := PG.imp (pg_tup hc h hn hst) fun v g H Q s => by
  obtain ⟨r, M, io, d, r', M', eq, rd, re, rs, k⟩ := s
  unfold tupT at eq
  split at eq
  · split at eq
    · rename_i hl
      cases rd with
      | tup h1 rl => exact ⟨_, _, rfl, SqT.of h1, by rw [← rl.length]; exact hl, r, M, io, _, r', M', eq, rl, re, rs, k⟩
    · cases eq
  · split at eq
    · rename_i hl
      cases rd with
      | ktup h1 rl =>
        have h2 := h1.sq (H := H)
        rw [kt hK] at h2
        exact ⟨_, _, rfl, h2, by rw [← rl.length]; exact hl, r, M, io, _, r', M', eq, rl, re, rs, k⟩
    · cases eq
  · cases eq
theorem ds_set (ha : PS X st (tAsg (sE c f) (sTg c tg))) : PS X st (sS c (setS f tg)) := PS.imp ha fun Ds g H s => by
  refine sS.bind s fun d x r M1 io1 H1 re rs ra run => ?_
  obtain ⟨fl, r', M', eq, z⟩ := run
  dsimp only at eq
  split at eq
  · rename_i r1 M2 e1
    cases eq
    exact ⟨r, M1, io1, d, _, _, e1, ra, re, rs, z⟩
  · cases eq
theorem ds_skip (hp : PS X st tNext) : PS X st (sS c skipS) := PS.imp hp fun Ds g H s => by
  obtain ⟨r, M, io, re, rs, fl, r', M', eq, z⟩ := s
  cases eq
  exact z io H Ext.refl rs g re
theorem ds_break (hp : PS X st tBreak) : PS X st (sS c breakS) := PS.imp hp fun Ds g H s => by
  obtain ⟨r, M, io, re, rs, fl, r', M', eq, z⟩ := s
  cases eq
  exact z io H Ext.refl rs g re
theorem ds_cont (hp : PS X st tCont) : PS X st (sS c contS) := PS.imp hp fun Ds g H s => by
  obtain ⟨r, M, io, re, rs, fl, r', M', eq, z⟩ := s
  cases eq
  exact z io H Ext.refl rs g re
theorem ds_ret (he : PE X e (sE c f)) : PS X (.Return (some e) pos) (sS c (retS f)) := PS.imp (ps_ret he) fun Ds g H s => by
  refine sS.bind s fun d x r M1 io1 H1 re rs ra run => ?_
  obtain ⟨fl, r', M', eq, z⟩ := run
  cases eq
  exact z io1 H1 Ext.refl rs x ra
theorem ds_retN : PS X (.Return none pos) (sS c retNS) := PS.imp ps_retN fun Ds g H s => by
  obtain ⟨r, M, io, re, rs, fl, r', M', eq, z⟩ := s
  cases eq
  exact z io H Ext.refl rs _ .non
theorem ds_expr (he : PE X e (sE c f)) (hs : swapsWith e none pos.line X.env = pure false := by rfl) : PS X (.Expr e pos) (sS c (exprS f)) := PS.imp (ps_expr he hs) fun Ds g H s => by
  refine sS.bind s fun d x r M1 io1 H1 re rs ra run => ?_
  obtain ⟨fl, r', M', eq, z⟩ := run
  cases eq
  exact z io1 H1 Ext.refl rs g re
theorem ds_nil : PSs X [] (sS c skipS) := PSs.imp pss_nil fun Ds g H s => by
  obtain ⟨r, M, io, re, rs, fl, r', M', eq, z⟩ := s
  cases eq
  exact z io H Ext.refl rs g re
theorem ds_cons (h1 : PS X st (sS c a)) (h2 : PSs X sts (sS c b)) : PSs X (st :: sts) (sS c (seqS a b)) := PSs.imp (pss_cons h1 h2) fun Ds g H s => by
  obtain ⟨r, M, io, re, rs, fl, r', M', eq, z⟩ := s
  unfold seqS at eq
  cases ea : a r M with
  | none => rw [ea] at eq; cases eq
  | some p =>
    obtain ⟨fl1, r1, M1⟩ := p
    rw [ea] at eq
    refine ⟨r, M, io, re, rs, fl1, r1, M1, ea, fun io1 H1 e1 rs1 => ?_⟩
    cases fl1 with
    | nx => exact fun g1 re1 => ⟨r1, M1, io1, re1, rs1, fl, r', M', eq, z.ext e1⟩
    | rt d => cases eq; exact z io1 H1 e1 rs1
    | bk => cases eq; exact z io1 H1 e1 rs1
    | ct => cases eq; exact z io1 H1 e1 rs1
    | ex x => cases eq; exact z io1 H1 e1 rs1
theorem ds_one (h1 : PS X st (sS c a)) : PSs X [st] (sS c a) := pss_one h1
theorem ds_if {sa sb : List Stmt} (hc : PT X q (sT c t)) (ha : PSs X sa (sS c a)) (hb : PSs X sb (sS c b)) : PS X (.If q sa sb pos) (sS c (ifS t a b)) := PS.imp (ps_if hc ha hb) fun Ds g H s => by
  refine sS.bind s fun d x r M1 io1 H1 re rs ra run => ?_
  cases ra
  cases d with
  | true => exact ⟨r, M1, io1, re, rs, run⟩
  | false => exact ⟨r, M1, io1, re, rs, run⟩
theorem ds_while {n : Nat} {body : List Stmt} (hp : PassesOwn (model X.prog X.w) X.A X.env X.xe) (hc : PT X q (sT c t)) (hb : PSs X body (sS c a)) : PS X (.While q body [] pos) (sS c (whileS t a n)) := PS.imp (ps_while hp hc hb) fun Ds g H s => by
  obtain ⟨r, M, io, re, rs, run⟩ := s
  refine ⟨fun m g H => ∃ (r : DEnv) (M : Sto) (io : List Addr), RE c.K H io r g ∧ RS c.K H io M ∧ RunS c (whileS t a m) r M io H Ds, ⟨n, r, M, io, re, rs, run⟩, ?_⟩
  rintro m g H ⟨r, M, io, re, rs, run⟩
  cases m with
  | zero =>
    obtain ⟨_, _, _, e, _⟩ := run
    cases e
  | succ m =>
    refine sS.bind (k := fun z => if z = true then (fun r M => match a r M with
      | none => none
      | some (.nx, r1, M1) => whileS t a m r1 M1
      | some (.ct, r1, M1) => whileS t a m r1 M1
      | some (.bk, r1, M1) => some (.nx, r1, M1)
      | some (fl, r1, M1) => some (fl, r1, M1)) else skipS) ⟨r, M, io, re, rs, run⟩ fun d x r M1 io1 H1 re rs ra run => ?_
    cases ra
    cases d with
    | false =>
      obtain ⟨fl, r', M', eq, z⟩ := run
      cases eq
      exact z io1 H1 Ext.refl rs g re
    | true =>
      obtain ⟨fl, r', M', eq, z⟩ := run
      rw [if_pos rfl] at eq
      refine ⟨fun g' H' => ∃ (r : DEnv) (M : Sto) (io : List Addr), RE c.K H' io r g' ∧ RS c.K H' io M ∧ RunS c (whileS t a m) r M io H' Ds, fun g' H' h => ⟨m, Nat.lt_succ_self m, h⟩, ?_⟩
      cases ea : a r M1 with
      | none => rw [ea] at eq; cases eq
      | some p =>
        obtain ⟨fl1, r1, M2⟩ := p
        rw [ea] at eq
        refine ⟨r, M1, io1, re, rs, fl1, r1, M2, ea, fun io2 H2 e2 rs2 => ?_⟩
        cases fl1 with
        | nx => exact fun g2 re2 => ⟨r1, M2, io2, re2, rs2, fl, r', M', eq, z.ext e2⟩
        | ct => exact fun g2 re2 => ⟨r1, M2, io2, re2, rs2, fl, r', M', eq, z.ext e2⟩
        | bk => cases eq; exact z io2 H2 e2 rs2
        | rt d => cases eq; exact z io2 H2 e2 rs2
        | ex x => cases eq; exact z io2 H2 e2 rs2
end
end PyD

-- PyD9
set_option maxRecDepth 100000
set_option maxHeartbeats 4000000
noncomputable section
namespace PyD
open PySem PySem.Spec PyProof.Rows L2
/-! ### defs -/
abbrev FDen := List D → Sto → Option (Res D × Sto)
def Cfg.to (c : Cfg) (E : XK) : Cfg := ⟨c.K, c.mg, c.fl, E⟩
/-- what a def promises: what its data function says -/
def spF (c : Cfg) (n : Nat) (f : FDen) : Sp := fun vs H Q E => ∃ (M : Sto) (io : List Addr) (ds : List D) (x : Res D) (M' : Sto), f ds M = some (x, M') ∧ RL c.K H io ds vs ∧ RS c.K H io M ∧ ds.length = n ∧ Aft (c.to E) (rD c) [] io H M' x Q
def bodyF (n : Nat) (b : SDen) : FDen := fun ds M => match b (ds.map some ++ List.replicate (n - ds.length) none) M with
  | some (.rt d, _, M') => some (.ok d, M')
  | some (.nx, _, M') => some (.ok .non, M')
  | some (.ex x, _, M') => some (.ex x, M')
  | _ => none
theorem re_start {K : KT} {H : Hp} {io : List Addr} {ds : List D} {vs : List V} {N : List Str} (rl : RL K H io ds vs) : RE K H io (ds.map some ++ List.replicate (N.length - ds.length) none) (L2.start N vs) := by
  unfold L2.start
  refine ⟨by simp [rl.length], fun i d h => ?_⟩
  by_cases hi : i < ds.length
  · rw [List.getElem?_append_left (by simpa using hi), List.getElem?_map] at h
    cases e : ds[i]? with
    | none => rw [e] at h; cases h
    | some d' =>
      rw [e] at h
      cases h
      obtain ⟨v, hv, rv⟩ := rl.get e
      have hl : i < vs.length := (List.getElem?_eq_some_iff.mp hv).1
      exact ⟨v, by rw [List.getElem?_append_left (by simpa using hl), List.getElem?_map, hv]; rfl, rv⟩
  · rw [List.getElem?_append_right (by simpa using hi), List.getElem?_replicate] at h
    split at h <;> cases h
section
variable {P : Program} {w : World} {K : PySem.W.Frag} {mg : Str → Option Value} {base : Heap}
theorem fn_ok {c : Cfg} {x qual : Str} {st : Stmt} {f : Addr} {fd : FuncData} {N ps : List Str} {k n : Nat} {b : SDen} (hK : c.K.f = K) (F : Fun K x qual st f fd) (S : FnScope N ps (defScope st)) (hn : N.length = n)
    (hb : ∀ (cdv : Value) (A : Around) (outer : List Env) (s : Shared) (H : Hp) (E : XK), Room k (A.deeper (envOfC qual (defScope st) s.heap.objs.size f cdv)) →
      PSs (cxOf (L2N.CX P w) P w K mg base N qual (defScope st) f cdv A outer s H E) (defBody st) (sS (c.to E) b)) : FnOk P w K mg base (L2N.CX P w) (k + 1) f fd ps (spF c ps.length (bodyF n b)) := by
  subst hn
  obtain ⟨oc, od, kV, doc, pm, an, cdv, ct, osl, rfl, lk, hcd⟩ := F.ex
  refine fn_of lk hcd S (fun vs H Q E h => ?_) (fun A outer s H vs Q E hr h => ⟨_, hb cdv A outer s H E hr, ?_⟩)
  · obtain ⟨M, io, ds, x, M', _, rl, _, hl, _⟩ := h
    rw [← rl.length]
    exact hl
  · obtain ⟨M, io, ds, x, M', e, rl, rs, hl, k⟩ := h
    unfold bodyF at e
    cases eb : b (ds.map some ++ List.replicate (N.length - ds.length) none) M with
    | none => rw [eb] at e; cases e
    | some p =>
      obtain ⟨fl, r', M1⟩ := p
      rw [eb] at e
      refine ⟨_, M, io, re_start (N := N) rl, rs, fl, r', M1, eb, fun io1 H1 e1 rs1 => ?_⟩
      cases fl with
      | rt d => cases e; exact fun v rv => k io1 H1 e1 rs1 v rv
      | nx => cases e; exact fun g' re => k io1 H1 e1 rs1 _ .non
      | ex x => cases e; exact fun cv dx rx => k io1 H1 e1 rs1 cv dx rx
      | bk => cases e
      | ct => cases e
end
def callE (n : Nat) (fd : FDen) (as : Den (List D)) : Den D := bindD as fun ds _ M => if ds.length = n then fd ds M else none
/-- where nothing may be let out -/
def callN (n : Nat) (fd : FDen) (as : Den (List D)) : Den D := bindD as fun ds _ M => if ds.length = n then (match fd ds M with
  | some (.ok d, M') => some (.ok d, M')
  | _ => none) else none
section
variable {X : Cx} {c : Cfg} {f h : Den D} {hs : Den (List D)} {a b e o : Expr} {es : List Expr} {pos p : Pos} {fa : Addr} {fdt : FuncData} {ps : List Str} {k n : Nat} {fd : FDen} {x : Str}
theorem passLN {X : Cx} : Passes (L2N.CX X.prog X.w) X E0 := fun _ _ _ _ _ _ _ h => by
  obtain ⟨_, _, _, _, _, _, _, _, _, _, _, _, z⟩ := h
  exact z.elim
theorem de_call (tk : L2N.Takes X (fun cls d _ H => c.W cls d H)) (F : FnOk X.prog X.w X.K X.mg X.base (L2N.CX X.prog X.w) k fa fdt ps (spF c n fd)) (hr : Room k X.A) (hg : Gl X x) (hm : X.mg x = some (.ref fa)) (hk : PySem.W.keepIn X.K (.ref fa) = true) (hb : Binds X.K fdt ps [])
    (ha : PA X (e :: es) (sA c hs)) (hdb : (x == ("__debug__" : Str)) = false := by decide) (he : starEach (e :: es) X.env = (false, eval e X.env) :: starEach es X.env := by rfl) (hpl : (backTo pos (starEach es X.env)).any (·.1) = false := by rfl) :
    PE X (.Call (.Name x p) (e :: es) [] pos) (sE c (callE n fd hs)) := PE.imp (pe_call (E := c.W) F hr hg hm hk hb .nil (L2N.passes_call tk fun _ _ _ _ h => h) ha hdb he hpl) fun g H Q s => by
  refine sG.bind s fun ds vs r M1 io1 H1 re rs ra run => ?_
  rw [List.append_nil]
  obtain ⟨y, M', eq, z⟩ := run
  dsimp only at eq
  split at eq
  · rename_i hl
    exact ⟨M1, io1, ds, y, M', eq, ra, rs, hl, z⟩
  · cases eq
theorem de_callN (F : FnOk X.prog X.w X.K X.mg X.base (L2N.CX X.prog X.w) k fa fdt ps (spF c n fd)) (hr : Room k X.A) (hg : Gl X x) (hm : X.mg x = some (.ref fa)) (hk : PySem.W.keepIn X.K (.ref fa) = true) (hb : Binds X.K fdt ps [])
    (ha : PA X (e :: es) (sA c hs)) (hdb : (x == ("__debug__" : Str)) = false := by decide) (he : starEach (e :: es) X.env = (false, eval e X.env) :: starEach es X.env := by rfl) (hpl : (backTo pos (starEach es X.env)).any (·.1) = false := by rfl) :
    PE X (.Call (.Name x p) (e :: es) [] pos) (sE c (callN n fd hs)) := PE.imp (pe_call (E := E0) F hr hg hm hk hb .nil passLN ha hdb he hpl) fun g H Q s => by
  refine sG.bind s fun ds vs r M1 io1 H1 re rs ra run => ?_
  rw [List.append_nil]
  obtain ⟨y, M', eq, z⟩ := run
  dsimp only at eq
  split at eq
  · rename_i hl
    split at eq
    · rename_i d M2 e2
      cases eq
      exact ⟨M1, io1, ds, .ok d, _, e2, ra, rs, hl, z⟩
    · cases eq
  · cases eq
/-! built-ins by name -/
theorem de_callB {id : String} {op : List D → Sto → Option (D × Sto)} (hc : CallR X (.builtin id) (sVs c op)) (hg : Gl X x) (hm : X.mg x = none) (hv : bootBuiltins x = some (.builtin id)) (ha : PA X (e :: es) (sA c hs)) (hn : x ≠ "__name__" := by decide) (hdb : (x == ("__debug__" : Str)) = false := by decide)
    (he : starEach (e :: es) X.env = (false, eval e X.env) :: starEach es X.env := by rfl) (hpl : (backTo pos (starEach es X.env)).any (·.1) = false := by rfl) : PE X (.Call (.Name x p) (e :: es) [] pos) (sE c (opS op hs)) := PE.imp (pe_callB hc hg hm hv ha hn hdb he hpl) fun _ _ _ s => sE_opS s
theorem de_callTy {T : String} {op : List D → Sto → Option (D × Sto)} (hc : CallR X (.type T) (sVs c op)) (hg : Gl X x) (hm : X.mg x = none) (hv : bootBuiltins x = some (.type T)) (ha : PA X (e :: es) (sA c hs)) (hn : x ≠ "__name__" := by decide) (hdb : (x == ("__debug__" : Str)) = false := by decide)
    (he : starEach (e :: es) X.env = (false, eval e X.env) :: starEach es X.env := by rfl) (hpl : (backTo pos (starEach es X.env)).any (·.1) = false := by rfl) : PE X (.Call (.Name x p) (e :: es) [] pos) (sE c (opS op hs)) := PE.imp (pe_callTy hc hg hm hv ha hn hdb he hpl) fun _ _ _ s => sE_opS s
end
/-! ### raise -/
def raiseS (cls : Str) : SDen := fun r M => some (.ex ⟨cls, none⟩, r, M)
section
variable {X : Cx} {c : Cfg} {e : Expr} {pos : Pos} {cls : Str} {C : Addr}
theorem ds_raise (hc : X.calm = true) (tk : L2N.Takes X (fun cls d _ H => c.W cls d H)) (hm : c.mg cls = some (.ref C)) (he : L2N.PMk X e (fun _ H Q => Q (.ref C) none H)) : PS X (.Raise (some e) none pos) (sS c (raiseS cls)) := PS.imp (L2N.ps_raise hc tk he) fun Ds g H s => by
  obtain ⟨r, M, io, re, rs, fl, r', M', eq, z⟩ := s
  cases eq
  exact z io H Ext.refl rs (.ref C) none ⟨hm, rfl⟩
end
/-! ### methods of lists -/
def isLst (a : D) (M : Sto) : Bool := match a with
  | .lst i => match (sGet M i) with
    | some (.lst _) => true
    | _ => false
  | _ => false
def methE (op : D → List D → Sto → Option (D × Sto)) (f : Den D) (as : Den (List D)) : Den D := bindD f fun a r M => if isLst a M = true then (bindD as fun ds => liftD (fun p : D × List D => op p.1 p.2) (a, ds)) r M else none
def meth0 (op : D → List D → Sto → Option (D × Sto)) (f : Den D) : Den D := bindD f fun a _ M => if isLst a M = true then (match op a [] M with
  | some (d, M') => some (.ok d, M')
  | none => none) else none
def sVm (c : Cfg) (op : D → List D → Sto → Option (D × Sto)) : V → List V → Hp → VK → Prop := fun x xs H Q =>
  ∃ (M : Sto) (io : List Addr) (a : D) (ds : List D) (d : D) (M' : Sto), op a ds M = some (d, M') ∧ R c.K H io a x ∧ RL c.K H io ds xs ∧ RS c.K H io M ∧
    ∀ (io' : List Addr) (H' : Hp), Ext c.K io H io' H' → RS c.K H' io' M' → ∀ v, R c.K H' io' d v → Q v H'
def appendD (a : D) (ds : List D) (M : Sto) : Option (D × Sto) :=
  match a, ds with
  | .lst i, [d] => match (sGet M i) with
    | some (.lst xs) => if xs.length < 100000 then some (.non, M.set i (.lst (xs ++ [d]))) else none
    | _ => none
  | _, _ => none
def popD (a : D) (ds : List D) (M : Sto) : Option (D × Sto) :=
  match a, ds with
  | .lst i, [] => match (sGet M i) with
    | some (.lst xs) => match xs[xs.length - 1]? with
      | some d => some (d, M.set i (.lst xs.dropLast))
      | none => none
    | _ => none
  | _, _ => none
def extendD (a : D) (ds : List D) (M : Sto) : Option (D × Sto) :=
  match a, ds with
  | .lst i, [.lst j] => match (sGet M i), (sGet M j) with
    | some (.lst xs), some (.lst ys) => if xs.length + ys.length ≤ 100000 then some (.non, M.set i (.lst (xs ++ ys))) else none
    | _, _ => none
  | .lst i, [.tup ys] => match (sGet M i) with
    | some (.lst xs) => if xs.length + ys.length ≤ 100000 then some (.non, M.set i (.lst (xs ++ ys))) else none
    | _ => none
  | _, _ => none
theorem RS.wlst {K : KT} {H : Hp} {io : List Addr} {M : Sto} {i : Nat} {a : Addr} {xs ys : List V} {ds : List D} (rs : RS K H io M) (ei : io[i]? = some a) (h : H a = some (.lst xs)) (rl : RL K H io ds ys) : Ext K io H io (upd H a (.lst ys)) ∧ RS K (upd H a (.lst ys)) io (M.set i (.lst ds)) := by
  have n : notTup (.lst xs) := nt_lst
  exact ⟨Ext.write h n, rs.write ei h n ⟨ys, rfl, rl.mono (Ext.write h n)⟩⟩
section
variable {X : Cx} {c : Cfg} {f h : Den D} {hs : Den (List D)} {a b e o : Expr} {es : List Expr} {pos p : Pos}
theorem mr_append (hK : X.K = c.K.f) : MtR X "list.append" (sVm c appendD) := by
  intro pins s g H x xs v us Q I rx rv hh
  obtain ⟨M, io, a, ds, d, M', e, ra, rd, rs, k⟩ := hh
  rw [kt hK] at ra rd rs k
  unfold appendD at e
  split at e
  · split at e
    · rename_i ys em
      split at e
      · rename_i hl
        cases e
        obtain ⟨y, rfl, ry⟩ := rd.one
        obtain ⟨a1, zs, rfl, i1, h1, r1⟩ := lst_at ra rs em
        obtain ⟨ex, rs2⟩ := rs.wlst i1 h1 (r1.append (.cons ry .nil))
        exact mt_append pins s g H _ _ v us Q I rx rv ⟨_, _, _, rfl, rfl, h1, by rw [← r1.length]; exact big_lt hl, k io _ ex rs2 _ .non⟩
      · cases e
    · cases e
  · cases e
theorem mr_pop (hK : X.K = c.K.f) : MtR X "list.pop" (sVm c popD) := by
  intro pins s g H x xs v us Q I rx rv hh
  obtain ⟨M, io, a, ds, d, M', e, ra, rd, rs, k⟩ := hh
  rw [kt hK] at ra rd rs k
  unfold popD at e
  split at e
  · split at e
    · rename_i ys em
      split at e
      · rename_i dd ed
        cases e
        cases rd
        obtain ⟨a1, zs, rfl, i1, h1, r1⟩ := lst_at ra rs em
        obtain ⟨ex, rs2⟩ := rs.wlst i1 h1 r1.dropLast
        obtain ⟨w, hw, rw'⟩ := r1.get ed
        rw [r1.length] at hw
        exact mt_pop pins s g H _ _ v us Q I rx rv ⟨_, _, _, rfl, rfl, h1, hw, k io _ ex rs2 _ (rw'.mono ex)⟩
      · cases e
    · cases e
  · cases e
theorem mr_extend (hK : X.K = c.K.f) : MtR X "list.extend" (sVm c extendD) := by
  intro pins s g H x xs v us Q I rx rv hh
  obtain ⟨M, io, a, ds, d, M', e, ra, rd, rs, k⟩ := hh
  rw [kt hK] at ra rd rs k
  unfold extendD at e
  split at e
  · split at e
    · rename_i ys zs em ej
      split at e
      · rename_i hl
        cases e
        obtain ⟨y, rfl, ry⟩ := rd.one
        obtain ⟨a1, ws, rfl, i1, h1, r1⟩ := lst_at ra rs em
        obtain ⟨a2, qs, rfl, i2, h2, r2⟩ := lst_at ry rs ej
        obtain ⟨ex, rs2⟩ := rs.wlst i1 h1 (r1.append r2)
        exact mt_extend pins s g H _ _ v us Q I rx rv ⟨_, _, _, _, rfl, rfl, h1, h2, by rw [← r1.length, ← r2.length]; exact big_le hl, k io _ ex rs2 _ .non⟩
      · cases e
    · cases e
  · split at e
    · rename_i ys em
      split at e
      · rename_i hl
        cases e
        obtain ⟨y, rfl, ry⟩ := rd.one
        obtain ⟨a1, ws, rfl, i1, h1, r1⟩ := lst_at ra rs em
        cases ry with
        | tup h2 r2 =>
          obtain ⟨ex, rs2⟩ := rs.wlst i1 h1 (r1.append r2)
          exact PyDX.mt_extendT pins s g H _ _ v us Q I rx rv ⟨_, _, _, _, rfl, rfl, h1, h2, by rw [← r1.length, ← r2.length]; exact big_le hl, k io _ ex rs2 _ .non⟩
      · cases e
    · cases e
  · cases e
theorem isLst_ty {K : KT} {H : Hp} {io : List Addr} {M : Sto} {a : D} {x : V} (h : isLst a M = true) (rs : RS K H io M) (r : R K H io a x) : tyV K.f "list" x H := by
  unfold isLst at h
  split at h
  · split at h
    · rename_i em
      obtain ⟨a1, ws, rfl, i1, h1, r1⟩ := lst_at r rs em
      exact .inl ⟨rfl, _, SqL.of h1⟩
    · cases h
  · cases h
theorem de_meth {id : String} {name : Str} {apos cpos : Pos} {op : D → List D → Sto → Option (D × Sto)} (hK : X.K = c.K.f) (pa : PlainAttrs "list") (slot : Slot "list" name id) (hty : typeOf (.builtin id) = pure (.type "method_descriptor")) (hm : MtR X id (sVm c op)) (ho : PE X o (sE c f)) (ha : PA X (e :: es) (sA c hs))
    (hbase : attributeBase o name X.env (eval o X.env) = eval o X.env := by rfl)
    (hfew : ((backTo cpos (starEach (e :: es) X.env)).all (fun x => !x.1) && (backToKw cpos (keywordEach [] X.env)).all (fun x => x.1.isSome)
      && decide ((e :: es).length + ([] : List Keyword).length + (if ([] : List Keyword).isEmpty then 0 else 1) < 30)) = true := by rfl)
    (hline : (apos.endLine == cpos.line) = true := by rfl) (hst : starEach (e :: es) X.env = (false, eval e X.env) :: starEach es X.env := by rfl) (hplain : (backTo cpos (starEach es X.env)).any (·.1) = false := by rfl) :
    PE X (.Call (.Attribute o name apos) (e :: es) [] cpos) (sE c (methE op f hs)) := PE.imp (pe_bm pa slot hty hm ho ha hbase hfew hline hst hplain) fun g H Q s => by
  refine sG.bind s fun a x r M1 io1 H1 re rs ra run => ?_
  obtain ⟨y, M', eq, z⟩ := run
  dsimp only at eq
  split at eq
  · rename_i hl
    refine ⟨by rw [hK]; exact isLst_ty hl rs ra, r, M1, io1, re, rs, ?_⟩
    have run2 : Run c (rD c) (bindD hs fun ds => liftD (fun p : D × List D => op p.1 p.2) (a, ds)) r M1 io1 g H1 Q := ⟨y, M', eq, z⟩
    refine run2.bind fun ds vs M2 io2 H2 e2 rs2 rd run3 => ?_
    obtain ⟨d, M3, e3, k3⟩ := run3.lift
    exact ⟨M2, io2, a, ds, d, M3, e3, ra.mono e2, rd, rs2, k3⟩
  · cases eq
theorem de_meth0 {id : String} {name : Str} {apos cpos : Pos} {op : D → List D → Sto → Option (D × Sto)} (hK : X.K = c.K.f) (pa : PlainAttrs "list") (slot : Slot "list" name id) (hty : typeOf (.builtin id) = pure (.type "method_descriptor")) (hm : MtR X id (sVm c op)) (ho : PE X o (sE c f))
    (hbase : attributeBase o name X.env (eval o X.env) = eval o X.env := by rfl) (hline : (apos.endLine == cpos.line) = true := by rfl) : PE X (.Call (.Attribute o name apos) [] [] cpos) (sE c (meth0 op f)) := PE.imp (pe_bm0 pa slot hty hm ho hbase hline) fun g H Q s => by
  refine sG.bind s fun a x r M1 io1 H1 re rs ra run => ?_
  obtain ⟨y, M', eq, z⟩ := run
  dsimp only at eq
  split at eq
  · rename_i hl
    refine ⟨by rw [hK]; exact isLst_ty hl rs ra, ?_⟩
    split at eq
    · rename_i d M2 e2
      cases eq
      exact ⟨M1, io1, a, [], d, _, e2, ra, .nil, rs, z⟩
    · cases eq
  · cases eq
/-! xs[::-1], of a list or a tuple -/
def revDT (a : D) (M : Sto) : Option (D × Sto) :=
  match a with
  | .tup ds => some (.tup ds.reverse, M)
  | _ => none
def revAny (a : D) (M : Sto) : Option (D × Sto) :=
  match a with
  | .tup ds => some (.tup ds.reverse, M)
  | _ => revD a M
theorem de_revT {k : Nat} {p1 p2 p3 : Pos} (hK : X.K = c.K.f) (ha : PE X a (sE c f)) : PE X (.Subscript a (.Slice none none (some (.UnaryOp .USub (.Constant (.int 1) k p1) p2)) p3) pos) (sE c (op1 revDT f)) := PE.imp (PyDX.pe_revT ha) fun g H Q s => by
  refine sG.bind s fun a x r M1 io1 H1 re rs ra run => ?_
  obtain ⟨d, M3, e, k⟩ := run.lift
  unfold revDT at e
  split at e
  · cases e
    cases ra with
    | tup h1 rl => exact ⟨_, _, rfl, SqT.of h1, fun p n => k_tup (fun io' H' ex rs' v rv => k io' H' ex rs' v rv) rs rl.reverse n⟩
  · cases e
theorem op1_congr {op op' : D → Sto → Option (D × Sto)} {r : DEnv} {M M1 : Sto} {a : D} (ef : f r M = some (.ok a, M1)) (q : ∀ M, op a M = op' a M) : op1 op f r M = op1 op' f r M := by
  unfold op1 bindD
  rw [ef]
  simp only
  unfold liftD
  rw [q M1]
theorem de_rev {k : Nat} {p1 p2 p3 : Pos} (hK : X.K = c.K.f) (ha : PE X a (sE c f)) : PE X (.Subscript a (.Slice none none (some (.UnaryOp .USub (.Constant (.int 1) k p1) p2)) p3) pos) (sE c (op1 revAny f)) :=
  PE.imp (PE.or (de_revT hK ha) (de_revL hK ha)) fun g H Q s => by
    obtain ⟨r, M, io, re, rs, x, M', e, k⟩ := s
    cases ef : f r M with
    | none => unfold op1 bindD at e; rw [ef] at e; cases e
    | some p =>
      obtain ⟨y, M1⟩ := p
      cases y with
      | ex y =>
        have e' : op1 revD f r M = some (x, M') := by
          unfold op1 bindD at e ⊢
          rw [ef] at e ⊢
          exact e
        exact .inr ⟨r, M, io, re, rs, x, M', e', k⟩
      | ok a =>
        cases a with
        | tup ds =>
          rw [op1_congr (op := revAny) (op' := revDT) ef fun M => rfl] at e
          exact .inl ⟨r, M, io, re, rs, x, M', e, k⟩
        | _ =>
          rw [op1_congr (op := revAny) (op' := revD) ef fun M => rfl] at e
          exact .inr ⟨r, M, io, re, rs, x, M', e, k⟩
end
end PyD

-- PyD10
set_option maxRecDepth 100000
set_option maxHeartbeats 4000000
noncomputable section
namespace PyD
open PySem PySem.Spec PyProof.Rows L2
/-! ### what is walked -/
inductive Src where
  | seq (d : D)
  | sign (x : Str)
  | rng (lo : Int) (n : Nat)
  | zip (a b : D)
  | enum (d : D)
  | zipM (a b : D)
  | enumT (d : D)
def itemsD (d : D) (M : Sto) : Option (List D) :=
  match d with
  | .tup ds => some ds
  | .ktup ds => some ds
  | .lst j => match (sGet M j) with
    | some (.lst ds) => some ds
    | _ => none
  | _ => none
/-- the i-th thing; none within: it is over -/
def nextI (s : Src) (i : Nat) (M : Sto) : Option (Option D) :=
  match s with
  | .seq d => (itemsD d M).map fun ds => ds[i]?
  | .sign x => some ((x.cps[i]?).map fun k => .str ⟨#[k]⟩)
  | .rng lo n => some (if i < n then some (.int (lo + i)) else none)
  | .zip a b => match itemsD a M, itemsD b M with
    | some as, some bs => some (match as[i]?, bs[i]? with
      | some x, some y => some (.tup [x, y])
      | _, _ => none)
    | _, _ => none
  | .enum d => (itemsD d M).map fun ds => (ds[i]?).map fun x => .tup [.int (i : Nat), x]
  | .zipM a b => match itemsD a M, itemsD b M with
    | some as, some bs => (match as[i]?, bs[i]? with
      | some x, some y => some (some (.tup [x, y]))
      | _, _ => if min as.length bs.length = i then some none else none)
    | _, _ => none
  | .enumT d => match itemsD d M with
    | some ds => (match ds[i]? with
      | some x => some (some (.tup [.int (i : Nat), x]))
      | none => if ds.length = i then some none else none)
    | none => none
structure JOk (c : Cfg) (io : List Addr) (H : Hp) (J : It) (nxt : Nat → Sto → Option (Option D)) : Prop where
  stop : ∀ (i : Nat) (M : Sto) (io' : List Addr) (H' : Hp), Ext c.K io H io' H' → RS c.K H' io' M → nxt i M = some none → J.stop i H'
  go : ∀ (i : Nat) (M : Sto) (io' : List Addr) (H' : Hp) (d : D), Ext c.K io H io' H' → RS c.K H' io' M → nxt i M = some (some d) →
    J.go i H' ∧ ∀ x H'', J.yld i H' x H'' → Ext c.K io' H' io' H'' ∧ RS c.K H'' io' M ∧ R c.K H'' io' d x
def wS (c : Cfg) (src : Den Src) : TI := fun g H Rr => ∃ (r : DEnv) (M : Sto) (io : List Addr), RE c.K H io r g ∧ RS c.K H io M ∧ ∃ (s : Src) (M' : Sto), src r M = some (.ok s, M') ∧
  ∀ (io1 : List Addr) (H1 : Hp), Ext c.K io H io1 H1 → RS c.K H1 io1 M' → ∀ J, JOk c io1 H1 J (nextI s) → Rr J H1
theorem PI.imp {X : Cx} {a b : Expr} {t t' : TI} (h : PI X a b t) (i : ∀ g H Q, t' g H Q → t g H Q) : PI X a b t' := ⟨fun pins s g H Q I q => h.run pins s g H Q I (i g H Q q)⟩
section
variable {c : Cfg} {io io' : List Addr} {H H' : Hp} {J : It}
theorem jok_list {j : Nat} {a : Addr} (ei : io[j]? = some a) : JOk c io H (Itl c.K.f a) (nextI (.seq (.lst j))) where
  stop := fun i M io' H' e rs h => by
    obtain ⟨ds, e1, e2⟩ := map_some h
    unfold itemsD at e1
    dsimp only at e1
    split at e1
    · rename_i em
      cases e1
      obtain ⟨xs, h1, h2⟩ := rs.lst (e.i _ _ ei) em
      refine ⟨xs, SqL.of h1, ?_⟩
      rw [← h2.length]
      exact List.getElem?_eq_none_iff.mp e2
    · cases e1
  go := fun i M io' H' d e rs h => by
    obtain ⟨ds, e1, e2⟩ := map_some h
    unfold itemsD at e1
    dsimp only at e1
    split at e1
    · rename_i em
      cases e1
      obtain ⟨xs, h1, h2⟩ := rs.lst (e.i _ _ ei) em
      obtain ⟨v, hv, rv⟩ := h2.get e2
      refine ⟨⟨xs, v, SqL.of h1, hv⟩, fun x H'' y => ?_⟩
      obtain ⟨rfl, y⟩ := y
      have hx := y xs (SqL.of h1)
      rw [hv] at hx
      cases hx
      exact ⟨Ext.refl, rs, rv⟩
    · cases e1
theorem jok_tup {ds : List D} {xs : List V} {a : Addr} (h : H a = some (.tup xs)) (rl : RL c.K H io ds xs) : JOk c io H (Itt c.K.f a) (nextI (.seq (.tup ds))) where
  stop := fun i M io' H' e rs h' => by
    have e2 : ds[i]? = none := Option.some.inj h'
    refine ⟨xs, SqT.of (e.t _ _ h), ?_⟩
    rw [← rl.length]
    exact List.getElem?_eq_none_iff.mp e2
  go := fun i M io' H' d e rs h' => by
    have e2 : ds[i]? = some d := Option.some.inj h'
    obtain ⟨v, hv, rv⟩ := rl.get e2
    refine ⟨⟨xs, v, SqT.of (e.t _ _ h), hv⟩, fun x H'' y => ?_⟩
    obtain ⟨rfl, y⟩ := y
    have hx := y xs (SqT.of (e.t _ _ h))
    rw [hv] at hx
    cases hx
    exact ⟨Ext.refl, rs, rv.mono e⟩
theorem jok_ktup {ds : List D} {xs : List V} {a : Addr} (h : SqK c.K.f a xs) (rl : RL c.K H io ds xs) : JOk c io H (Itt c.K.f a) (nextI (.seq (.ktup ds))) where
  stop := fun i M io' H' e rs h' => by
    have e2 : ds[i]? = none := Option.some.inj h'
    refine ⟨xs, h.sq, ?_⟩
    rw [← rl.length]
    exact List.getElem?_eq_none_iff.mp e2
  go := fun i M io' H' d e rs h' => by
    have e2 : ds[i]? = some d := Option.some.inj h'
    obtain ⟨v, hv, rv⟩ := rl.get e2
    refine ⟨⟨xs, v, h.sq, hv⟩, fun x H'' y => ?_⟩
    obtain ⟨rfl, y⟩ := y
    have hx := y xs h.sq
    rw [hv] at hx
    cases hx
    exact ⟨Ext.refl, rs, rv.mono e⟩
theorem jok_str {x : Str} : JOk c io H (Its x) (nextI (.sign x)) where
  stop := fun i M io' H' e rs h => by
    have h' : (x.cps[i]?).map (fun k => D.str ⟨#[k]⟩) = none := Option.some.inj h
    rw [Option.map_eq_none_iff] at h'
    exact Array.getElem?_eq_none_iff.mp h'
  go := fun i M io' H' d e rs h => by
    have h' : (x.cps[i]?).map (fun k => D.str ⟨#[k]⟩) = some d := Option.some.inj h
    obtain ⟨k, e1, e2⟩ := map_some h'
    cases e2
    obtain ⟨hl, _⟩ := Array.getElem?_eq_some_iff.mp e1
    refine ⟨hl, fun v H'' y => ?_⟩
    obtain ⟨rfl, k', e3, rfl⟩ := y
    rw [e1] at e3
    cases e3
    exact ⟨Ext.refl, rs, .str _⟩
theorem jok_rng {lo : Int} {n : Nat} : JOk c io H (Itr lo n) (nextI (.rng lo n)) where
  stop := fun i M io' H' e rs h => by
    have h' : (if i < n then some (D.int (lo + i)) else none) = none := Option.some.inj h
    split at h'
    · cases h'
    · exact Nat.le_of_not_lt (by assumption)
  go := fun i M io' H' d e rs h => by
    have h' : (if i < n then some (D.int (lo + i)) else none) = some d := Option.some.inj h
    split at h'
    · cases h'
      refine ⟨by assumption, fun v H'' y => ?_⟩
      obtain ⟨rfl, rfl⟩ := y
      exact ⟨Ext.refl, rs, .int _⟩
    · cases h'
end
/-! sources -/
def seqSrc (f : Den D) : Den Src := bindD f fun d _ M => match itemsD d M with
  | some _ => some (.ok (.seq d), M)
  | none => none
def strSrc (f : Den D) : Den Src := bindD f fun d _ M => match d with
  | .str x => some (.ok (.sign x), M)
  | _ => none
def anySrc (f : Den D) : Den Src := bindD f fun d _ M => match d with
  | .str x => some (.ok (.sign x), M)
  | _ => match itemsD d M with
    | some _ => some (.ok (.seq d), M)
    | none => none
def rngSrc1 (f : Den (List D)) : Den Src := bindD f fun ds _ M => match ds with
  | [.int j] => if -(2 ^ 62) ≤ j ∧ j < 2 ^ 62 then some (.ok (.rng 0 j.toNat), M) else none
  | _ => none
section
variable {X : Cx} {c : Cfg} {f : Den D} {hs : Den (List D)} {tg e : Expr} {pos p : Pos}
theorem bind_ok {α β : Type} {f : Den α} {k : α → Den β} {r : DEnv} {M M' : Sto} {b : β} (h : bindD f k r M = some (.ok b, M')) : ∃ a M1, f r M = some (.ok a, M1) ∧ k a r M1 = some (.ok b, M') := by
  unfold bindD at h
  cases ef : f r M with
  | none => rw [ef] at h; cases h
  | some q =>
    obtain ⟨y, M1⟩ := q
    rw [ef] at h
    cases y with
    | ex y => cases h
    | ok a => exact ⟨a, M1, rfl, h⟩
/-- a list or a tuple -/
theorem dp_seq (hK : X.K = c.K.f) (he : PE X e (sE c f)) : PI X tg e (wS c (seqSrc f)) := PI.imp (PI.or (pi_list he) (pi_tup he)) fun g H Q s => by
  obtain ⟨r, M, io, re, rs, sx, M', eq, k⟩ := s
  obtain ⟨d, M1, ef, ek⟩ := bind_ok eq
  have last : ∀ (T : V → Hp → Prop), (∀ io1 H1 v, Ext c.K io H io1 H1 → RS c.K H1 io1 M1 → R c.K H1 io1 d v → T v H1) → sE c f g H T := fun T hT =>
    ⟨r, M, io, re, rs, .ok d, M1, ef, fun io1 H1 e1 rs1 v rv => hT io1 H1 v e1 rs1 rv⟩
  unfold itemsD at ek
  cases d with
  | tup ds =>
    cases ek
    refine .inr (last _ fun io1 H1 v e1 rs1 rv => ?_)
    cases rv with
    | tup h1 rl => exact ⟨_, rfl, ⟨_, SqT.of h1⟩, by rw [hK]; exact k io1 H1 e1 rs1 _ (jok_tup h1 rl)⟩
  | ktup ds =>
    cases ek
    refine .inr (last _ fun io1 H1 v e1 rs1 rv => ?_)
    cases rv with
    | ktup h1 rl => exact ⟨_, rfl, ⟨_, by rw [hK]; exact h1.sq⟩, by rw [hK]; exact k io1 H1 e1 rs1 _ (jok_ktup h1 rl)⟩
  | lst j =>
    dsimp only at ek
    split at ek
    · rename_i em
      split at em
      · rename_i em2
        cases em
        cases ek
        refine .inl (last _ fun io1 H1 v e1 rs1 rv => ?_)
        obtain ⟨a1, xs, rfl, i1, h1, r1⟩ := lst_at rv rs1 em2
        exact ⟨_, rfl, ⟨_, SqL.of h1⟩, by rw [hK]; exact k io1 H1 e1 rs1 _ (jok_list i1)⟩
      · cases em
    · cases ek
  | non => cases ek
  | bl _ => cases ek
  | int _ => cases ek
  | str _ => cases ek
  | ty _ => cases ek
  | dic _ => cases ek
  | fn _ => cases ek
  | exn _ _ => cases ek
theorem dp_str (he : PE X e (sE c f)) : PI X tg e (wS c (strSrc f)) := PI.imp (pi_str he) fun g H Q s => by
  obtain ⟨r, M, io, re, rs, sx, M', eq, k⟩ := s
  obtain ⟨d, M1, ef, ek⟩ := bind_ok eq
  cases d with
  | str x =>
    cases ek
    refine ⟨r, M, io, re, rs, .ok (.str x), _, ef, fun io1 H1 e1 rs1 v rv => ?_⟩
    cases rv
    exact ⟨x, rfl, k io1 H1 e1 rs1 _ jok_str⟩
  | _ => cases ek
theorem dp_any (hK : X.K = c.K.f) (he : PE X e (sE c f)) : PI X tg e (wS c (anySrc f)) := PI.imp (PI.or (dp_str (tg := tg) he) (dp_seq hK he)) fun g H Q s => by
  obtain ⟨r, M, io, re, rs, sx, M', eq, k⟩ := s
  obtain ⟨d, M1, ef, ek⟩ := bind_ok eq
  cases d with
  | str x => exact .inl ⟨r, M, io, re, rs, sx, M', by unfold strSrc bindD; rw [ef]; exact ek, k⟩
  | tup ds => exact .inr ⟨r, M, io, re, rs, sx, M', by unfold seqSrc bindD; rw [ef]; exact ek, k⟩
  | ktup ds => exact .inr ⟨r, M, io, re, rs, sx, M', by unfold seqSrc bindD; rw [ef]; exact ek, k⟩
  | lst ds => exact .inr ⟨r, M, io, re, rs, sx, M', by unfold seqSrc bindD; rw [ef]; exact ek, k⟩
  | non => cases ek
  | bl _ => cases ek
  | int _ => cases ek
  | ty _ => cases ek
  | dic _ => cases ek
  | fn _ => cases ek
  | exn _ _ => cases ek
theorem dp_rng1 (hg : Gl X "range") (hm : X.mg "range" = none) (ha : PA X [e] (sA c hs)) (hst : starEach [e] X.env = [(false, eval e X.env)] := by rfl) : PI X tg (.Call (.Name "range" p) [e] [] pos) (wS c (rngSrc1 hs)) := PI.imp (pi_range1 hg hm ha hst) fun g H Q s => by
  obtain ⟨r, M, io, re, rs, sx, M', eq, k⟩ := s
  obtain ⟨ds, M1, ef, ek⟩ := bind_ok eq
  split at ek
  · split at ek
    · rename_i hl
      cases ek
      refine ⟨r, M, io, re, rs, .ok _, _, ef, fun io1 H1 e1 rs1 v rv => ?_⟩
      obtain ⟨x, rfl, rx⟩ := rv.one
      cases rx
      exact ⟨_, rfl, hl.1, hl.2, k io1 H1 e1 rs1 _ jok_rng⟩
    · cases ek
  · cases ek
end
/-! ### for -/
def forL (nxt : Nat → Sto → Option (Option D)) (t : TDen) (b : SDen) : Nat → Nat → SDen
  | 0, _ => fun _ _ => none
  | n + 1, i => fun r M => match nxt i M with
    | none => none
    | some none => some (.nx, r, M)
    | some (some d) => match t d r M with
      | none => none
      | some (r1, M1) => match b r1 M1 with
        | none => none
        | some (.nx, r2, M2) => forL nxt t b n (i + 1) r2 M2
        | some (.ct, r2, M2) => forL nxt t b n (i + 1) r2 M2
        | some (.bk, r2, M2) => some (.nx, r2, M2)
        | some (fl, r2, M2) => some (fl, r2, M2)
def forS (src : Den Src) (t : TDen) (b : SDen) (n : Nat) : SDen := fun r M => match src r M with
  | some (.ok s, M1) => forL (nextI s) t b n 0 r M1
  | _ => none
section
variable {X : Cx} {c : Cfg} {tg : TDen} {b : SDen} {q iter : Expr} {body : List Stmt} {pos : Pos} {src : Den Src}
theorem ds_for {n : Nat} (hp : PassesOwn (model X.prog X.w) X.A X.env X.xe) (hc : X.calm = true) (hi : PI X q iter (wS c src)) (hg : PG X q (sTg c tg)) (hb : PSs X body (sS c b))
    (hs : ∀ x, foldedSetIterable iter X.env x = pure x := by intro _; rfl) : PS X (.For q iter body [] pos) (sS c (forS src tg b n)) := PS.imp (ps_for hp hc hi hg hb hs) fun Ds g H s => by
  obtain ⟨r, M, io, re, rs, fl, r', M', eq, z⟩ := s
  unfold forS at eq
  split at eq
  · rename_i sx M1 es
    refine ⟨r, M, io, re, rs, sx, M1, es, fun io1 H1 e1 rs1 J hJ => ?_⟩
    refine ⟨fun i m g H => ∃ (r : DEnv) (M : Sto) (io : List Addr), Ext c.K io1 H1 io H ∧ RE c.K H io r g ∧ RS c.K H io M ∧ RunS c (forL (nextI sx) tg b m i) r M io H Ds,
      ⟨n, r, M1, io1, Ext.refl, re.mono e1, rs1, fl, r', M', eq, z.ext e1⟩, ?_⟩
    rintro i m g H ⟨r, M, io, ex, re, rs, fl, r', M', eq, z⟩
    cases m with
    | zero => cases eq
    | succ m =>
      unfold forL at eq
      split at eq
      · cases eq
      · rename_i en
        cases eq
        exact .inl ⟨hJ.stop i M io H ex rs en, z io H Ext.refl rs g re⟩
      · rename_i d en
        obtain ⟨go, yl⟩ := hJ.go i M io H d ex rs en
        refine .inr ⟨go, fun g H => ∃ (r : DEnv) (M : Sto) (io : List Addr), Ext c.K io1 H1 io H ∧ RE c.K H io r g ∧ RS c.K H io M ∧ RunS c (forL (nextI sx) tg b m (i + 1)) r M io H Ds, fun g' H' h => ⟨m, Nat.lt_succ_self m, h⟩, fun x H' y => ?_⟩
        obtain ⟨ex2, rs2, rx⟩ := yl x H' y
        split at eq
        · cases eq
        · rename_i r1 M2 et
          refine ⟨r, M, io, d, r1, M2, et, rx, re.mono ex2, rs2, fun io3 H3 ex3 rs3 g3 re3 => ?_⟩
          split at eq
          · cases eq
          · rename_i r2 M3 eb
            exact ⟨r1, M2, io3, re3, rs3, .nx, r2, M3, eb, fun io4 H4 ex4 rs4 g4 re4 => ⟨r2, M3, io4, ((ex.trans ex2).trans ex3).trans ex4, re4, rs4, fl, r', M', eq, z.ext ((ex2.trans ex3).trans ex4)⟩⟩
          · rename_i r2 M3 eb
            exact ⟨r1, M2, io3, re3, rs3, .ct, r2, M3, eb, fun io4 H4 ex4 rs4 g4 re4 => ⟨r2, M3, io4, ((ex.trans ex2).trans ex3).trans ex4, re4, rs4, fl, r', M', eq, z.ext ((ex2.trans ex3).trans ex4)⟩⟩
          · rename_i r2 M3 eb
            cases eq
            exact ⟨r1, M2, io3, re3, rs3, .bk, _, _, eb, fun io4 H4 ex4 rs4 g4 re4 => z io4 H4 ((ex2.trans ex3).trans ex4) rs4 g4 re4⟩
          · rename_i fl2 r2 M3 n1 n2 n3 eb
            cases eq
            refine ⟨r1, M2, io3, re3, rs3, fl, _, _, eb, fun io4 H4 ex4 rs4 => ?_⟩
            have zz := z io4 H4 ((ex2.trans ex3).trans ex4) rs4
            cases fl with
            | nx => first | exact (n1 rfl).elim | exact absurd rfl (n1 _)
            | ct => first | exact (n2 rfl).elim | exact absurd rfl (n2 _)
            | bk => first | exact (n3 rfl).elim | exact absurd rfl (n3 _)
            | rt d => exact zz
            | ex x => exact zz
  · cases eq
end
end PyD

-- PyD11
set_option maxRecDepth 100000
set_option maxHeartbeats 4000000
noncomputable section
namespace PyD
open PySem PySem.Spec PyProof.Rows L2
/-! ### comprehensions -/
theorem wipe_get {σ : L2.St} {j : Nat} : ∀ {vs : List Nat}, (L2.wipe σ vs)[j]? = if j ∈ vs ∧ j < σ.length then some none else σ[j]?
  | [] => by simp [L2.wipe]
  | v :: vs => by
    show ((L2.wipe σ vs).set v none)[j]? = _
    by_cases h : v = j
    · subst h
      by_cases hl : v < σ.length
      · rw [List.getElem?_set_self (by rw [wipe_length]; exact hl), if_pos ⟨List.mem_cons_self, hl⟩]
      · rw [if_neg (fun z => hl z.2), List.getElem?_eq_none (by rw [List.length_set, wipe_length]; omega), List.getElem?_eq_none (by omega)]
    · rw [List.getElem?_set_ne h, wipe_get (vs := vs)]
      have e : (j ∈ v :: vs ∧ j < σ.length) ↔ (j ∈ vs ∧ j < σ.length) := by
        rw [List.mem_cons]
        exact ⟨fun z => ⟨z.1.resolve_left (Ne.symm h), z.2⟩, fun z => ⟨.inr z.1, z.2⟩⟩
      by_cases q : j ∈ vs ∧ j < σ.length
      · rw [if_pos q, if_pos (e.mpr q)]
      · rw [if_neg q, if_neg (fun z => q (e.mp z))]
theorem wipe_set {σ : L2.St} {i : Nat} {x : Option V} {vs : List Nat} (h : i ∈ vs) : L2.wipe (σ.set i x) vs = L2.wipe σ vs := by
  apply List.ext_getElem?
  intro j
  rw [wipe_get, wipe_get, List.length_set]
  by_cases q : j ∈ vs ∧ j < σ.length
  · rw [if_pos q, if_pos q]
  · rw [if_neg q, if_neg q]
    by_cases hj : i = j
    · subst hj
      have hl : ¬ i < σ.length := fun z => q ⟨h, z⟩
      rw [List.getElem?_eq_none (by rw [List.length_set]; omega), List.getElem?_eq_none (by omega)]
    · rw [List.getElem?_set_ne hj]
theorem wipe_wipe {σ : L2.St} {vs : List Nat} : L2.wipe (L2.wipe σ vs) vs = L2.wipe σ vs := by
  apply List.ext_getElem?
  intro j
  rw [wipe_get, wipe_get, wipe_length]
  by_cases q : j ∈ vs ∧ j < σ.length
  · rw [if_pos q, if_pos q]
  · rw [if_neg q, if_neg q]
/-- a comprehension's target: one name, or several -/
inductive CT where
  | one (i : Nat)
  | many (is : List Nat)
def CT.slots : CT → List Nat
  | .one i => [i]
  | .many is => is
def gCs : List Nat → TGs
  | [] => gNil
  | i :: is => gCons (gName i) (gCs is)
def gC (K : PySem.W.Frag) : CT → TG
  | .one i => gName i
  | .many is => gTup K is.length (gCs is)
def setCs : List Nat → List D → DEnv → Option DEnv
  | [], [], r => some r
  | i :: is, d :: ds, r => setCs is ds (r.set i (some d))
  | _, _, _ => none
def setC : CT → D → DEnv → Option DEnv
  | .one i, d, r => some (r.set i (some d))
  | .many is, .tup ds, r => setCs is ds r
  | .many is, .ktup ds, r => setCs is ds r
  | _, _, _ => none
section
variable {K : KT} {H : Hp} {io : List Addr} {vs : List Nat}
theorem setCs_ok : ∀ {is : List Nat} {ds : List D} {xs : List V} {r r' : DEnv} {g : L2.St} {Q : L2.St → Hp → Prop}, setCs is ds r = some r' → RL K H io ds xs → RE K H io r g → (∀ i ∈ is, i ∈ vs) → (∀ g', RE K H io r' g' → L2.wipe g' vs = L2.wipe g vs → Q g' H) → gCs is xs g H Q
  | [], [], _, _, _, _, _, e, rl, re, _, q => by
    simp only [setCs] at e
    cases e
    cases rl
    exact ⟨rfl, q _ re rfl⟩
  | i :: is, d :: ds, _, _, _, g, _, e, rl, re, hv, q => by
    simp only [setCs] at e
    cases rl with
    | cons r1 r2 =>
      exact ⟨_, _, rfl, setCs_ok e r2 (re.set r1) (fun j hj => hv j (List.mem_cons_of_mem _ hj)) fun g' re' w => q g' re' (w.trans (wipe_set (hv i List.mem_cons_self)))⟩
  | [], _ :: _, _, _, _, _, _, e, _, _, _, _ => by simp [setCs] at e
  | _ :: _, [], _, _, _, _, _, e, _, _, _, _ => by simp [setCs] at e
theorem setCs_len : ∀ {is : List Nat} {ds : List D} {r r' : DEnv}, setCs is ds r = some r' → ds.length = is.length
  | [], [], _, _, _ => rfl
  | _ :: is, _ :: ds, _, _, e => by simp only [setCs] at e; rw [List.length_cons, List.length_cons, setCs_len e]
  | [], _ :: _, _, _, e => by simp [setCs] at e
  | _ :: _, [], _, _, e => by simp [setCs] at e
theorem setC_ok {t : CT} {d : D} {v : V} {r r' : DEnv} {g : L2.St} {Q : L2.St → Hp → Prop} (e : setC t d r = some r') (rd : R K H io d v) (re : RE K H io r g) (hv : ∀ i ∈ t.slots, i ∈ vs) (q : ∀ g', RE K H io r' g' → L2.wipe g' vs = L2.wipe g vs → Q g' H) : gC K.f t v g H Q := by
  cases t with
  | one i =>
    simp only [setC] at e
    cases e
    exact q _ (re.set rd) (wipe_set (hv i (List.mem_cons_self)))
  | many is =>
    cases d with
    | tup ds =>
      simp only [setC] at e
      cases rd with
      | tup h1 rl => exact ⟨_, _, rfl, SqT.of h1, by rw [← rl.length]; exact setCs_len e, setCs_ok e rl re hv q⟩
    | ktup ds =>
      simp only [setC] at e
      cases rd with
      | ktup h1 rl => exact ⟨_, _, rfl, h1.sq, by rw [← rl.length]; exact setCs_len e, setCs_ok e rl re hv q⟩
    | _ => simp [setC] at e
end
def yesT : Den Bool := fun _ M => some (.ok true, M)
def compL (nxt : Nat → Sto → Option (Option D)) (ct : CT) (ifs : Den Bool) (elt : Den D) (id : Nat) : Nat → Nat → DEnv → Sto → Option Sto
  | 0, _, _, _ => none
  | n + 1, i, r, M => match nxt i M with
    | none => none
    | some none => some M
    | some (some d) => match setC ct d r with
      | none => none
      | some r1 => match ifs r1 M with
        | some (.ok true, M1) => match elt r1 M1 with
          | some (.ok e, M2) => match (sGet M2 id) with
            | some (.lst acc) => if acc.length < 100000 then compL nxt ct ifs elt id n (i + 1) r (M2.set id (.lst (acc ++ [e]))) else none
            | _ => none
          | _ => none
        | some (.ok false, M1) => compL nxt ct ifs elt id n (i + 1) r M1
        | _ => none
def compE (src : Den Src) (vs : List Nat) (ct : CT) (ifs : Den Bool) (elt : Den D) (n : Nat) : Den D := fun r M => match src r M with
  | some (.ok s, M1) => match compL (nextI s) ct ifs elt M1.length n 0 (wipeD r vs) ((sApp M1 (.lst []))) with
    | some M2 => some (.ok (.lst M1.length), M2)
    | none => none
  | _ => none
theorem compE_lc {c : Cfg} {src : Den Src} {vs : List Nat} {ct : CT} {ifs : Den Bool} {elt : Den D} {n : Nat} {g : L2.St} {H : Hp} {Q : VK} (hv : ∀ i ∈ ct.slots, i ∈ vs)
    (s : sE c (compE src vs ct ifs elt n) g H Q) : tLc (wS c src) (gC c.K.f ct) (sT c ifs) (sE c elt) vs g H Q := by
  obtain ⟨r, M, io, re, rs, x, M', eq, z⟩ := s
  unfold compE at eq
  split at eq
  · rename_i sx M1 es
    split at eq
    · rename_i M2 el
      cases eq
      refine ⟨r, M, io, re, rs, sx, M1, es, fun io1 H1 e1 rs1 J hJ => fun Dd hn => ?_⟩
      have ex0 : Ext c.K io1 H1 (io1 ++ [Dd]) (upd H1 Dd (.lst [])) := Ext.alloc hn
      have rs0 : RS c.K (upd H1 Dd (.lst [])) (io1 ++ [Dd]) ((sApp M1 (.lst []))) := rs1.alloc hn ⟨[], rfl, .nil⟩
      have id0 : (io1 ++ [Dd])[M1.length]? = some Dd := by rw [← rs1.len, List.getElem?_append_right (Nat.le_refl _)]; simp
      have re0 := ((re.mono e1).mono ex0).wipe vs
      refine ⟨fun i m H => ∃ (M : Sto) (io : List Addr), Ext c.K (io1 ++ [Dd]) (upd H1 Dd (.lst [])) io H ∧ RS c.K H io M ∧ ∃ M2, compL (nextI sx) ct ifs elt M1.length m i (wipeD r vs) M = some M2 ∧
        (∀ io' H', Ext c.K io H io' H' → RS c.K H' io' M2 → Q (.ref Dd) H'), ⟨n, (sApp M1 (.lst [])), io1 ++ [Dd], Ext.refl, rs0, _, el, fun io' H' ex rs' => z io' H' ((e1.trans ex0).trans ex) rs' _ (.lst (ex.i _ _ id0))⟩, ?_⟩
      rintro i m H ⟨M, io, ex, rs, M2, el, k⟩
      have re1 := re0.mono ex
      cases m with
      | zero => cases el
      | succ m =>
        unfold compL at el
        split at el
        · cases el
        · rename_i en
          cases el
          exact .inl ⟨hJ.stop i _ io H (ex0.trans ex) rs en, k io H Ext.refl rs⟩
        · rename_i d en
          obtain ⟨go, yl⟩ := hJ.go i M io H d (ex0.trans ex) rs en
          refine .inr ⟨go, fun H => ∃ (M : Sto) (io : List Addr), Ext c.K (io1 ++ [Dd]) (upd H1 Dd (.lst [])) io H ∧ RS c.K H io M ∧ ∃ M2, compL (nextI sx) ct ifs elt M1.length m (i + 1) (wipeD r vs) M = some M2 ∧
            (∀ io' H', Ext c.K io H io' H' → RS c.K H' io' M2 → Q (.ref Dd) H'), fun H' h => ⟨m, Nat.lt_succ_self m, h⟩, fun x H' y => ?_⟩
          obtain ⟨ex2, rs2, rx⟩ := yl x H' y
          split at el
          · cases el
          · rename_i r1 et
            refine setC_ok (vs := vs) et rx (re1.mono ex2) hv fun g2 re2 wp => ⟨wp.trans wipe_wipe, ?_⟩
            split at el
            · rename_i M3 ei
              split at el
              · rename_i e3 M4 ee
                split at el
                · rename_i acc ea
                  split at el
                  · rename_i hl
                    refine ⟨r1, M, io, re2, rs2, .ok true, M3, ei, fun io3 H3 ex3 rs3 b hb => ?_⟩
                    cases hb
                    rw [if_pos rfl]
                    refine ⟨r1, M3, io3, re2.mono ex3, rs3, .ok e3, M4, ee, fun io4 H4 ex4 rs4 v rv => ?_⟩
                    have idD : io4[M1.length]? = some Dd := ex4.i _ _ (ex3.i _ _ (ex2.i _ _ (ex.i _ _ id0)))
                    obtain ⟨xs, hD, rl⟩ := rs4.lst idD ea
                    refine ⟨xs, hD, by rw [← rl.length]; exact big_lt hl, ?_⟩
                    obtain ⟨ex5, rs5⟩ := rs4.wlst idD hD (rl.append (.cons rv .nil))
                    exact ⟨_, io4, (((ex.trans ex2).trans ex3).trans ex4).trans ex5, rs5, M2, el, fun io' H' e rs' => k io' H' ((((ex2.trans ex3).trans ex4).trans ex5).trans e) rs'⟩
                  · cases el
                · cases el
              · cases el
            · rename_i M3 ei
              refine ⟨r1, M, io, re2, rs2, .ok false, M3, ei, fun io3 H3 ex3 rs3 b hb => ?_⟩
              cases hb
              rw [if_neg Bool.false_ne_true]
              exact ⟨M3, io3, (ex.trans ex2).trans ex3, rs3, M2, el, fun io' H' e rs' => k io' H' ((ex2.trans ex3).trans e) rs'⟩
            · cases el
    · cases eq
  · cases eq
theorem PTs.imp {X : Cx} {e : List Expr} {t t' : TT} (h : PTs X e t) (i : ∀ g H Q, t' g H Q → t g H Q) : PTs X e t' := ⟨fun pins s g H Q I q => h.run pins s g H Q I (i g H Q q)⟩
theorem dpts_nil {X : Cx} {c : Cfg} : PTs X [] (sT c yesT) := PTs.imp pts_nil fun g H Q s => by
  obtain ⟨r', M, io, re, rs, run⟩ := s
  exact (run_ok run).ok Ext.refl rs rfl
section
variable {X : Cx} {c : Cfg} {src : Den Src} {ct : CT} {ift : Den Bool} {eltD : Den D} {n : Nat} {elt tg iter : Expr} {ifs : List Expr} {scope : Scope} {own : List (Str × Nat)} {sl : List Nat} {pos spos py : Pos}
theorem de_lc (hK : X.K = c.K.f) (hc : X.calm = true) (hN : X.N.Nodup) (hi : PI X tg iter (wS c src)) (ok : BlkOk X.N X.env.scope scope own) (hv : ∀ i ∈ ct.slots, i ∈ sl)
    (hg : ∀ (s : Shared) (H : Hp) (C : Addr) (cl : List (Str × Addr)) (fp : List Addr), PG (X.blk s H scope (compEnvC scope cl C X.env) fp) tg (gC X.K ct)) (ht : ∀ (s : Shared) (H : Hp) (C : Addr) (cl : List (Str × Addr)) (fp : List Addr), PTs (X.blk s H scope (compEnvC scope cl C X.env) fp) ifs (sT c ift))
    (he : ∀ (s : Shared) (H : Hp) (C : Addr) (cl : List (Str × Addr)) (fp : List Addr), PE (X.blk s H scope (compEnvC scope cl C X.env) fp) elt (sE c eltD)) (hs : ∀ x, foldedSetIterable iter X.env x = pure x := by intro _; rfl) (hsl : own.map (·.2) = sl := by rfl) :
    PE X (.ListComp elt [⟨tg, iter, ifs, 0⟩] scope pos) (sE c (compE src sl ct ift eltD n)) := PE.imp (pe_lc hc hN hi ok hg ht he hs) fun g H Q s => by
  subst hsl
  rw [hK]
  exact compE_lc hv s
theorem ds_setLc {i : Nat} {y : Str} (hK : X.K = c.K.f) (hc : X.calm = true) (hN : X.N.Nodup) (hy : X.N[i]? = some y) (hyl : X.env.scope.names.lookup y = some .local)
    (hsw : swapsWith (.ListComp elt [⟨tg, iter, ifs, 0⟩] scope pos) (some (.Name y py)) spos.line X.env = pure true) (hi : PI X tg iter (wS c src)) (ok : BlkOk X.N X.env.scope scope own) (hv : ∀ i ∈ ct.slots, i ∈ sl)
    (hg : ∀ (s : Shared) (H : Hp) (C : Addr) (cl : List (Str × Addr)) (fp : List Addr), PG (X.blk s H scope (compEnvC scope cl C X.env) fp) tg (gC X.K ct)) (ht : ∀ (s : Shared) (H : Hp) (C : Addr) (cl : List (Str × Addr)) (fp : List Addr), PTs (X.blk s H scope (compEnvC scope cl C X.env) fp) ifs (sT c ift))
    (he : ∀ (s : Shared) (H : Hp) (C : Addr) (cl : List (Str × Addr)) (fp : List Addr), PE (X.blk s H scope (compEnvC scope cl C X.env) fp) elt (sE c eltD)) (hs : ∀ x, foldedSetIterable iter X.env x = pure x := by intro _; rfl) (hsl : own.map (·.2) = sl := by rfl) :
    PS X (.Assign [.Name y py] (.ListComp elt [⟨tg, iter, ifs, 0⟩] scope pos) spos) (sS c (setS (compE src sl ct ift eltD n) (nmT i))) := PS.imp (ps_setLc hc hN hy hyl hsw hi ok hg ht he hs) fun Ds g H s => by
  subst hsl
  have q : sE c (compE src (own.map (·.2)) ct ift eltD n) g H (fun x H1 => gName i x g H1 Ds.nx) := by
    refine sS.bind s fun d x r M1 io1 H1 re rs ra run => ?_
    obtain ⟨fl, r', M', eq, z⟩ := run
    cases eq
    exact z io1 H1 Ext.refl rs _ (re.set ra)
  have q2 := compE_lc hv q
  rw [kt hK] at q2
  exact q2
end
end PyD

-- PyD12
set_option maxRecDepth 100000
set_option maxHeartbeats 4000000
noncomputable section
namespace PyD
open PySem PySem.Spec PyProof.Rows L2
/-! ### short words for defs -/
theorem hu65 {A : Around} {k : Nat} (hr : Room k A) : A.units + 65 < cLine := by have := hr.un; omega
theorem hu1 {A : Around} {k : Nat} (hr : Room k A) : A.units + 1 < cLine := by have := hr.un; omega
def stuckS : SDen := fun _ _ => none
theorem ds_stuck {X : Cx} {c : Cfg} {st : Stmt} : PS X st (sS c stuckS) := PS.imp ps_never fun Ds g H s => by
  obtain ⟨r, M, io, re, rs, fl, r', M', eq, z⟩ := s
  cases eq
theorem dss_stuck {X : Cx} {c : Cfg} {st : List Stmt} : PSs X st (sS c stuckS) := PSs.imp pss_never fun Ds g H s => by
  obtain ⟨r, M, io, re, rs, fl, r', M', eq, z⟩ := s
  cases eq
def stuckE : Den D := fun _ _ => none
theorem de_stuck {X : Cx} {c : Cfg} {e : Expr} : PE X e (sE c stuckE) := PE.stuck
section
variable {X : Cx} {c : Cfg} {x : Str} {pos : Pos}
theorem de_gint {i : Int} (hg : Gl X x) (h : ∃ t, X.mg x = some (.int i t)) (hd : (x == ("__debug__" : Str)) = false := by decide) : PE X (.Name x pos) (sE c (cstD (.int i))) := by
  obtain ⟨t, h⟩ := h
  exact de_cst (pe_glob (v := .int i) hg h ⟨t, rfl⟩ hd) fun _ _ => .int _
theorem de_gstr {i : Str} (hg : Gl X x) (h : ∃ t, X.mg x = some (.str i t)) (hd : (x == ("__debug__" : Str)) = false := by decide) : PE X (.Name x pos) (sE c (cstD (.str i))) := by
  obtain ⟨t, h⟩ := h
  exact de_cst (pe_glob (v := .str i) hg h ⟨t, rfl⟩ hd) fun _ _ => .str _
/-- flat things as data -/
def flatD : V → Option D
  | .non => some .non
  | .bl b => some (.bl b)
  | .int i => some (.int i)
  | .str z => some (.str z)
  | _ => none
def flatDs : List V → Option (List D)
  | [] => some []
  | v :: vs => match flatD v, flatDs vs with
    | some d, some ds => some (d :: ds)
    | _, _ => none
theorem flatD_ok {K : KT} {H : Hp} {io : List Addr} {v : V} {d : D} (e : flatD v = some d) : R K H io d v := by
  cases v <;> simp only [flatD] at e <;> first | (cases e; done) | skip
  · cases e; exact .non
  · cases e; exact .bl _
  · cases e; exact .int _
  · cases e; exact .str _
theorem flatDs_ok {K : KT} {H : Hp} {io : List Addr} : ∀ {vs : List V} {ds : List D}, flatDs vs = some ds → RL K H io ds vs
  | [], _, e => by simp only [flatDs] at e; cases e; exact .nil
  | v :: vs, _, e => by
    simp only [flatDs] at e
    split at e
    · rename_i d ds e1 e2
      cases e
      exact .cons (flatD_ok e1) (flatDs_ok e2)
    · cases e
/-- a written tuple of flat things -/
def KTup (K : PySem.W.Frag) (mg : Str → Option Value) (x : Str) (vs : List V) : Prop := ∃ a, mg x = some (.ref a) ∧ SqK K a vs
theorem de_gtup {vs : List V} {ds : List D} (hK : X.K = c.K.f) (hg : Gl X x) (h : KTup X.K X.mg x vs) (e : flatDs vs = some ds := by rfl) (hd : (x == ("__debug__" : Str)) = false := by decide) : PE X (.Name x pos) (sE c (cstD (.ktup ds))) := by
  obtain ⟨a, h, s⟩ := h
  rw [hK] at s
  exact de_cst (pe_glob (v := .ref a) hg h rfl hd) fun _ _ => .ktup s (flatDs_ok e)
/-- a built-in type as a value -/
theorem de_gty {T : String} (hg : Gl X x) (hm : X.mg x = none) (hv : bootBuiltins x = some (.type T)) (hn : x ≠ "__name__" := by decide) (hd : (x == ("__debug__" : Str)) = false := by decide) : PE X (.Name x pos) (sE c (cstD (.ty T))) :=
  de_cst (pe_bltn (v := .ty T) hg hm hv rfl hn hd) fun _ _ => .ty _
end
/-- a def that is never asked with anything -/
theorem fn_none {P : Program} {w : World} {K : PySem.W.Frag} {mg : Str → Option Value} {base : Heap} {CX : CXT} {k n : Nat} {f : Addr} {fd : FuncData} {ps : List Str} {c : Cfg} : FnOk P w K mg base CX k f fd ps (spF c n fun _ _ => none) := by
  have no : ∀ vs H Q E, ¬ spF c n (fun _ _ => none) vs H Q E := fun vs H Q E h => by
    obtain ⟨M, io, ds, x, M', e, _⟩ := h
    cases e
  exact ⟨fun vs H Q E h => absurd h (no vs H Q E), fun A outer s H args us vs Q E _ _ _ _ h => absurd h (no vs H Q E)⟩
end PyD

-- PyS1
set_option maxRecDepth 100000
set_option maxHeartbeats 4000000
/-! sets of any number of texts: how many are unlike -/
noncomputable section
namespace PyS
open PySem PySem.Spec PyProof.Rows
/-- how many texts are new -/
def dcnt : List Str → Nat → List Str → Nat
  | _, n, [] => n
  | acc, n, x :: r => dcnt (acc ++ [x]) (if acc.any (· == x) then n else n + 1) r
theorem dcnt_le : ∀ (r acc : List Str) (n : Nat), dcnt acc n r ≤ n + r.length
  | [], _, n => by simp [dcnt]
  | x :: r, acc, n => by
    have h := dcnt_le r (acc ++ [x]) (if acc.any (· == x) then n else n + 1)
    simp only [dcnt, List.length_cons]
    split at h <;> rename_i q <;> simp only [q, if_true, if_false] at * <;> first | omega | (simp_all; omega)
section
variable {pr : Program} {w : World} {A : Around} {R : Result → Shared → Prop} {I S : Addr} {fp wr : List Addr} {G : Array GenState → Array GenState → Prop} {N : Nat} {P : Nat → Value → Prop} {St : Nat → Shared → Prop} {xs : List Str}
abbrev Holds (pr : Program) (w : World) (S : Addr) (ys : List Str) (m : Nat) (h : Heap) : Prop := h.SetOf (PySem.strKind pr w) S (fun z => ys.any (· == z)) m
theorem Holds.moved {ys : List Str} {m : Nat} {s t : Shared} (h : Holds pr w S ys m s.heap) (mv : Moved wr G s t) (n : S ∉ wr) : Holds pr w S ys m t.heap := by
  obtain ⟨ob, e1, e2, e3, look, more⟩ := h
  exact ⟨ob, e1, e2, e3, mv.heap S _ n look, more⟩
theorem loopT (W : WalksS pr w A.in1 I fp wr G N P St) (free : S ∉ fp) (len : xs.length = N) (small : xs.length + 1 < scanBound) (val : ∀ j u, P j u → ∃ t, u = .str (xs.getD j Str.empty) t) :
    ∀ (todo acc : List Str) (m : Nat) (s : Shared), acc ++ todo = xs → m ≤ acc.length → St acc.length s → Holds pr w S acc m s.heap →
      (∀ t, Moved (S :: wr) G s t → Holds pr w S xs (dcnt acc m todo) t.heap → R (.ok (.ret .none)) t) → codeAny (model pr w) A (.builtin "set.update.loop" ⟨[.ref S, .ref I], []⟩) R s := by
  have nw : S ∉ wr := fun q => free (W.sub _ q)
  have up : ∀ b ∈ wr, b ∈ S :: wr := fun b q => List.mem_cons_of_mem _ q
  intro todo
  induction todo with
  | nil =>
    intro acc m s e le st h fin
    rw [List.append_nil] at e
    subst e
    rw [len] at st
    refine codeAny_builtin PyProof.Rows.F.entry_set_update_loop ?_
    rw [Around.under_plainId PyProof.Rows.F.plain_set_update_loop _]
    show wpAny _ A.in1 (pyNext (.ref I) >>= _) _ _ s
    exact wpAny_bind (W.done s _ _ st fun t mv => wpAny_pure (fin t (mv.mono up) (h.moved mv nw)))
  | cons x r ih =>
    intro acc m s e le st h fin
    have tot : acc.length + (r.length + 1) = N := by rw [← len, ← e, List.length_append, List.length_cons]
    have at_ : xs.getD acc.length Str.empty = x := by rw [← e, List.getD_eq_getElem?_getD, List.getElem?_append_right (Nat.le_refl _)]; simp
    refine codeAny_builtin PyProof.Rows.F.entry_set_update_loop ?_
    rw [Around.under_plainId PyProof.Rows.F.plain_set_update_loop _]
    show wpAny _ A.in1 (pyNext (.ref I) >>= _) _ _ s
    refine wpAny_bind (W.item acc.length s _ _ (by omega) st fun u t pu st' mv => ?_)
    obtain ⟨k, rfl⟩ := val _ u pu
    rw [at_]
    have h1 := h.moved mv nw
    show wpAny _ A.in1 (holding [Value.str x k] (setAdd S (.str x k)) >>= _) _ _ t
    refine wpAny_bind (wpAny_holding ?_)
    unfold setAdd
    refine wpAny_holding (wpAny_bind ((PySem.strKind pr w).pyHash (k := x) (strKind_is _ _ _ _) ?_))
    refine wpAny_setAddHashed_of (knd := PySem.strKind pr w) (s := { t with toks := t.toks + 1 }) (strKind_is _ _ _ _) rfl h1 (by omega) fun h' same now => ?_
    have now' : Holds pr w S (acc ++ [x]) (if acc.any (· == x) then m else m + 1) h' := by
      refine SetOf_congr now (fun z => ?_) rfl
      rw [List.any_append]
      by_cases q : z = x
      · subst q; simp
      · have q' : (x == z) = false := by simpa [beq_iff_eq] using (fun y : x = z => q y.symm)
        simp [q', q]
    refine wpAny_pure ⟨plainId_quiet PyProof.Rows.F.plain_set_update_loop _, ih (acc ++ [x]) _ _ (by rw [← e, List.append_assoc]; rfl) (by rw [List.length_append, List.length_singleton]; split <;> omega) ?_ now' fun t2 mv2 h2 => ?_⟩
    · rw [List.length_append, List.length_singleton]
      exact W.frame _ t _ _ st' (Nat.le_succ _) fun b hb o q => by
        rw [same.2 b (fun z : b = S => free (by rw [← z]; exact hb))]
        exact q
    · exact fin t2 (Moved.trans W.gtrans ((mv.mono up).then_heap (Nat.le_succ _) fun b o nb q => by
        rw [same.2 b (fun z : b = S => nb (by rw [z]; exact List.mem_cons_self))]
        exact q) mv2) h2
end
end PyS

-- PyS2
set_option maxRecDepth 100000
set_option maxHeartbeats 4000000
noncomputable section
namespace PyS
open PySem PySem.Spec PyProof.Rows L2
section
variable {pr : Program} {w : World} {A : Around} {E : Value → Shared → Prop} {s : Shared} {l : Addr} {its : Array Value} {xs : List Str}
/-- what is there when the set is filled -/
abbrev Full (pr : Program) (w : World) (s : Shared) (xs : List Str) (h' : Heap) : Prop := Holds pr w s.heap.objs.size xs (dcnt [] 0 xs) h' ∧ ∀ b o, b < s.heap.objs.size → s.heap.get? b = some o → h'.get? b = some o
abbrev bareSet (led : Bool) : Obj := { cls := .type "set", dict := none, data := .set #[] 0 (.fresh 0 0 led) }
theorem fill {led : Bool} (hh : A.handled = none) (hl : s.heap.IsList l its) (hi : StrsAre its.toList xs) (small : xs.length + 1 < scanBound) :
    codeAny (model pr w) A (.call (.builtin "set.__init__") ⟨[.ref s.heap.objs.size, .ref l], []⟩) (wants (fun r t => r = .none ∧ ∃ h' tk, t = { s with heap := h', toks := tk } ∧ Full pr w s xs h') E) { s with heap := s.heap.push (bareSet led) } := by
  have nw : (s.heap.push (bareSet led)).get? s.heap.objs.size = some (bareSet led) := Heap.get?_push_size _ rfl
  refine codeAny_call_builtin (R := wants (fun r t => r = .none ∧ ∃ h' tk, t = { s with heap := h', toks := tk } ∧ Full pr w s xs h') E) PySem.F.called_set.init.plain PySem.F.entry_set_init (check_set_init_1 ⟨_, nw, rfl⟩ ?_)
  obtain ⟨⟨ocl, odi, oda, osl⟩, got, e1, cap, e2⟩ := hl
  simp only at e1 e2
  subst e1 e2
  have got' : (s.heap.push (bareSet led)).get? l = some ⟨.type "list", odi, .seq its cap, osl⟩ := Heap.get?_push_of_some _ got
  have il : (s.heap.push (bareSet led)).IsList l its := ⟨_, got', rfl, cap, rfl⟩
  have f1 := PySem.F.sub_list_set
  have f2 := PySem.F.sub_list_frozenset
  have f3 : (Value.type "list" == Value.type "dict") = false := by decide
  unfold Builtin.«set.__init__» noKeywords Builtin.Frozenset.updateFrom
  generalize hgen : pyIter = it
  wp_walk
  subst hgen
  refine wpAny_pyIter_list il (wpAny_bind (wpAny_runValue ?_))
  have lS : l < s.heap.objs.size := Heap.lt_size got
  have sz : (s.heap.push (bareSet led)).objs.size = s.heap.objs.size + 1 := Heap.size_push ..
  have n1 : l ≠ (s.heap.push (bareSet led)).objs.size := by rw [sz]; exact Nat.ne_of_lt (Nat.lt_succ_of_lt lS)
  have n2 : s.heap.objs.size ∉ [(s.heap.push (bareSet led)).objs.size, l] := by
    rw [sz]
    intro z
    rcases List.mem_cons.mp z with z | z
    · exact absurd z (Nat.ne_of_lt (Nat.lt_succ_self _))
    · exact absurd (List.mem_singleton.mp z) (Nat.ne_of_gt lS)
  have len : xs.length = its.size := by rw [← StrsAre.len_eq hi, Array.length_toList]
  refine loopT (xs := xs) ((Walks.list (by simp [hh]) _ l n1 its).toS) n2 len small (fun j u q => SS.strs_at hi j u (by rw [Array.getElem?_toList]; exact q)) xs [] 0 _ rfl (Nat.zero_le _) ⟨⟨_, Heap.get?_push_size _ rfl, rfl, rfl⟩, il.push _⟩ ?_ ?_
  · exact SetOf_congr ((setObjOf_fresh (knd := PySem.strKind pr w) led).setOf (Heap.get?_push_of_some _ nw) (by unfold scanBound; omega)) (fun _ => rfl) rfl
  · rintro ⟨h', g', d', tk', os'⟩ mv full
    obtain rfl : g' = s.gens := mv.gens
    obtain rfl : d' = s.drawn := mv.drawn
    obtain rfl : os' = s.os := mv.os
    show wpAny _ _ _ _ _ _
    refine wpAny_pure ?_
    show wpAny _ _ (ret Value.none) _ _ _
    refine wpAny_pure ⟨rfl, h', tk', rfl, full, fun b o hb q => ?_⟩
    refine mv.heap b o (fun z => ?_) (Heap.get?_push_of_some _ (Heap.get?_push_of_some _ q))
    rcases List.mem_cons.mp z with z | z
    · exact absurd z (Nat.ne_of_lt hb)
    · have z := List.mem_singleton.mp z
      rw [z, sz] at hb
      omega
end
end PyS

-- PyS3
set_option maxRecDepth 100000
set_option maxHeartbeats 4000000
noncomputable section
namespace PyS
open PySem PySem.Spec PyProof.Rows L2
section
variable {pr : Program} {w : World} {A : Around} {E : Value → Shared → Prop} {s : Shared} {l : Addr} {its : Array Value} {xs : List Str}
theorem call_setT {Q : Value → Shared → Prop} (hh : A.handled = none) (hl : s.heap.IsList l its) (hi : StrsAre its.toList xs) (small : xs.length + 1 < scanBound)
    (fin : ∀ (h' : Heap) (tk : Nat), Full pr w s xs h' → Q (.ref s.heap.objs.size) { s with heap := h', toks := tk }) : wpAny (model pr w) A (call (.type "set") [.ref l]) Q E s := by
  obtain ⟨cl, tl, mro⟩ := PySem.F.called_set.mro
  have m1 := PySem.F.called_set.made
  have m2 := PySem.F.called_set.sub
  refine wpAny_call (codeAny_of_tree ?_)
  show wpAny _ _ (callAny (.type "set") _) _ _ _
  refine wpAny_pure ⟨Code.quiet_builtin _ (by decide +kernel), ?_⟩
  refine codeAny_builtin PySem.F.entry_type_call ?_
  rw [Around.under_plain (weight_type_call_type "set" [.ref l] []) rfl]
  have m3 := PySem.F.called_set.notType
  have m4 := PySem.F.called_set.canCreate
  have m5 := PySem.F.typeCall_set_1 (.ref l)
  repeat (any_goals (first | assumption | wp_step))
  refine codeAny_mono (code_set_new_1 (.ref l) (E := E) (Q₁ := fun ob t => ∃ led : Bool, ob = .ref s.heap.objs.size ∧ t = { s with heap := s.heap.push (bareSet led) }) fun led => ⟨led, rfl, rfl⟩) ?_
  intro r t got
  cases r with
  | error e => exact got
  | ok fl =>
    cases fl with
    | ret ob =>
      obtain ⟨led, rfl, rfl⟩ := got
      have t0 : Shared.TypeIs { s with heap := s.heap.push (bareSet led) } (.ref s.heap.objs.size) "set" := ⟨_, Heap.get?_push_size _ rfl, rfl⟩
      have t1 := PySem.F.called_set.init.lookup
      have t2 := PySem.F.called_set.init.bind (.ref s.heap.objs.size)
      repeat (any_goals (first | assumption | wp_step))
      refine codeAny_mono (fill (E := E) (by simpa using hh) hl hi small) ?_
      intro r2 t2 got2
      cases r2 with
      | error e => exact got2
      | ok fl2 =>
        cases fl2 with
        | ret r =>
          obtain ⟨rfl, h', tk, rfl, full⟩ := got2
          repeat (any_goals (first | assumption | wp_step))
          exact fin _ _ full
        | _ => exact got2.elim
    | _ => exact got.elim
end
/-- len(set(texts of a list)) -/
def tLenSetN (K : PySem.W.Frag) (ta : TE) : TE := fun g H Q => ta g H fun x H1 => ∃ l, ∃ xs : List Str, x = .ref l ∧ SqL K H1 l (xs.map V.str) ∧ xs.length < 4000 ∧ Q (.int (dcnt [] 0 xs)) H1
theorem pe_lenSetN {X : Cx} {a : Expr} {ta : TE} {p p2 q pos : Pos} (hc : X.calm = true) (hg : Gl X "len") (hm : X.mg "len" = none) (hg2 : Gl X "set") (hm2 : X.mg "set" = none) (ha : PE X a ta)
    (na : starEach [a] X.env = (false, eval a X.env) :: starEach [] X.env := by rfl) : PE X (.Call (.Name "len" p) [.Call (.Name "set" p2) [a] [] q] [] pos) (tLenSetN X.K ta) := by
  refine ⟨fun pins s g H Q I h => Call_ (ld_blt I hg hm boot_len (callWith_builtin1 (args_cons (Call_ (ld_blt I hg2 hm2 boot_set ?_)) rfl) rfl rfl))⟩
  refine callWith_type1 (args_cons (thn (ha.run pins s g H _ I h) fun v s1 ⟨x, H1, I1, r1, q1⟩ => args_nil ?_) na) na rfl
  obtain ⟨l, xs, rfl, hq, sm, q1⟩ := q1
  cases r1
  obtain ⟨its, r, pl, hz⟩ := I1.list hq
  refine call_setT (I1.ok.hd hc) pl.isList (by simpa using L2.strsAre_of r) (by unfold scanBound; omega) fun h' tk full => args_nil ?_
  obtain ⟨⟨ob, es, ep, t, look, ex, da, _, _, _, hf, hn⟩, kept⟩ := full
  have I2 : Inv X pins g H1 { s1 with heap := h', toks := tk } := I1.kept fun b o e => kept b o (Heap.lt_size e) e
  exact call_len_set look ex da hf (by have z := dcnt_le xs [] 0; rw [hn]; omega) ⟨.int (dcnt [] 0 xs), H1, I2.tok _, ⟨_, by rw [hn]⟩, q1⟩
end PyS

-- PyD13
set_option maxRecDepth 100000
set_option maxHeartbeats 4000000
noncomputable section
namespace PyD
open PySem PySem.Spec PyProof.Rows L2 RZ
/-! ### how many texts are unlike -/
def lenSetD (d : D) (M : Sto) : Option (D × Sto) :=
  match lstOf d M with
  | some ds => match strsD ds with
    | some xs => if xs.length < 4000 then some (.int (PyS.dcnt [] 0 xs), M) else none
    | none => none
  | none => none
section
variable {X : Cx} {c : Cfg} {f h : Den D} {e a b o i v : Expr} {pos : Pos} {tg : Expr}
theorem de_lenSet {p p2 q : Pos} (hK : X.K = c.K.f) (hc : X.calm = true) (hg : Gl X "len") (hm : X.mg "len" = none) (hg2 : Gl X "set") (hm2 : X.mg "set" = none) (ha : PE X a (sE c f))
    (na : starEach [a] X.env = (false, eval a X.env) :: starEach [] X.env := by rfl) : PE X (.Call (.Name "len" p) [.Call (.Name "set" p2) [a] [] q] [] pos) (sE c (op1 lenSetD f)) :=
  PE.imp (PyS.pe_lenSetN hc hg hm hg2 hm2 ha na) fun g H Q s => by
    refine sG.bind s fun d x r M1 io1 H1 re rs ra run => ?_
    obtain ⟨z, M3, e, k⟩ := run.lift
    unfold lenSetD at e
    split at e
    · rename_i ds e1
      split at e
      · rename_i xs e2
        split at e
        · rename_i hl
          cases e
          obtain ⟨p, vs, rfl, hp, rl⟩ := lstOf_ok e1 rs ra
          have z := strs_of e2 rl
          subst z
          rw [hK]
          exact ⟨p, xs, rfl, SqL.of hp, hl, k.ok Ext.refl rs (.int _)⟩
        · cases e
      · cases e
    · cases e
/-! ### zip -/
def isTp : D → Bool
  | .tup _ => true
  | .ktup _ => true
  | _ => false
def isLs : D → Bool
  | .lst _ => true
  | _ => false
def zipSrc (f : Den (List D)) : Den Src := bindD f fun ds _ M => match ds with
  | [a, b] => if (isTp a && isTp b || isLs a && isLs b) && (itemsD a M).isSome && (itemsD b M).isSome then some (.ok (.zip a b), M) else none
  | _ => none
theorem tp_of {K : KT} {H : Hp} {io : List Addr} {d : D} {x : V} (t : isTp d = true) (r : R K H io d x) : ∃ p xs ds, x = .ref p ∧ (∀ M, itemsD d M = some ds) ∧ ∀ io' H', Ext K io H io' H' → SqT K.f H' p xs ∧ RL K H' io' ds xs := by
  cases r <;> first | (cases t; done) | skip
  · rename_i a xs ds h1 rl
    exact ⟨a, xs, ds, rfl, fun M => rfl, fun io' H' e => ⟨SqT.of (e.t _ _ h1), rl.mono e⟩⟩
  · rename_i a xs ds h1 rl
    exact ⟨a, xs, ds, rfl, fun M => rfl, fun io' H' e => ⟨h1.sq, rl.mono e⟩⟩
theorem sqT_uniq {K : KT} {H : Hp} {a : Addr} {xs : List V} (h : SqT K.f H a xs) {io : List Addr} {ds : List D} (rl : RL K H io ds xs) : SqT K.f H a xs := h
theorem jok_zipT {c : Cfg} {io : List Addr} {H : Hp} {a b : D} {x y : V} {p q : Addr} (ta : isTp a = true) (tb : isTp b = true) (ra : R c.K H io a x) (rb : R c.K H io b y) (ex : x = .ref p) (ey : y = .ref q) : JOk c io H (ItzT c.K.f p q) (nextI (.zip a b)) := by
  obtain ⟨p1, xs, ds, e1, i1, k1⟩ := tp_of ta ra
  obtain ⟨p2, ys, es, e2, i2, k2⟩ := tp_of tb rb
  subst ex ey
  cases e1
  cases e2
  refine ⟨fun i M io' H' e rs h => ?_, fun i M io' H' d e rs h => ?_⟩
  · obtain ⟨q1, r1⟩ := k1 io' H' e
    obtain ⟨q2, r2⟩ := k2 io' H' e
    refine ⟨xs, ys, q1, q2, ?_⟩
    have l1 := r1.length
    have l2 := r2.length
    simp only [nextI, i1, i2] at h
    have h := Option.some.inj h
    split at h
    · cases h
    · rename_i hn
      by_cases z1 : i < ds.length
      · by_cases z2 : i < es.length
        · exact absurd (List.getElem?_eq_getElem z2) (fun w => hn _ _ (List.getElem?_eq_getElem z1) w)
        · exact .inr (by omega)
      · exact .inl (by omega)
  · obtain ⟨q1, r1⟩ := k1 io' H' e
    obtain ⟨q2, r2⟩ := k2 io' H' e
    simp only [nextI, i1, i2] at h
    have h := Option.some.inj h
    split at h
    · rename_i u w hu hw
      cases h
      obtain ⟨v1, g1, rv1⟩ := r1.get hu
      obtain ⟨v2, g2, rv2⟩ := r2.get hw
      refine ⟨⟨xs, ys, v1, v2, q1, q2, g1, g2⟩, fun z H'' y => ?_⟩
      obtain ⟨T, x', y', rfl, hT, rfl, f1, f2⟩ := y
      have s1 := f1 xs q1
      have s2 := f2 ys q2
      rw [g1] at s1
      rw [g2] at s2
      cases s1
      cases s2
      exact ⟨Ext.tupNew hT, rs.tupNew hT, .tup upd_same (.cons (rv1.mono (Ext.tupNew hT)) (.cons (rv2.mono (Ext.tupNew hT)) .nil))⟩
    · cases h
theorem jok_zipL {c : Cfg} {io : List Addr} {H : Hp} {j k : Nat} {p q : Addr} (ep : io[j]? = some p) (eq : io[k]? = some q) : JOk c io H (Itz c.K.f p q) (nextI (.zip (.lst j) (.lst k))) := by
  refine ⟨fun i M io' H' e rs h => ?_, fun i M io' H' d e rs h => ?_⟩
  · unfold nextI itemsD at h
    dsimp only at h
    cases m1 : (sGet M j) with
    | none => rw [m1] at h; cases h
    | some c1 =>
      cases m2 : (sGet M k) with
      | none => rw [m1, m2] at h; cases c1 <;> cases h
      | some c2 =>
        rw [m1, m2] at h
        cases c1 <;> cases c2 <;> first | (cases h; done) | skip
        rename_i ds es
        obtain ⟨xs, h1, r1⟩ := rs.lst (e.i _ _ ep) m1
        obtain ⟨ys, h2, r2⟩ := rs.lst (e.i _ _ eq) m2
        refine ⟨xs, ys, SqL.of h1, SqL.of h2, ?_⟩
        have l1 := r1.length
        have l2 := r2.length
        have h := Option.some.inj h
        split at h
        · cases h
        · rename_i hn
          by_cases z1 : i < ds.length
          · by_cases z2 : i < es.length
            · exact absurd (List.getElem?_eq_getElem z2) (fun w => hn _ _ (List.getElem?_eq_getElem z1) w)
            · exact .inr (by omega)
          · exact .inl (by omega)
  · unfold nextI itemsD at h
    dsimp only at h
    cases m1 : (sGet M j) with
    | none => rw [m1] at h; cases h
    | some c1 =>
      cases m2 : (sGet M k) with
      | none => rw [m1, m2] at h; cases c1 <;> cases h
      | some c2 =>
        rw [m1, m2] at h
        cases c1 <;> cases c2 <;> first | (cases h; done) | skip
        rename_i ds es
        obtain ⟨xs, h1, r1⟩ := rs.lst (e.i _ _ ep) m1
        obtain ⟨ys, h2, r2⟩ := rs.lst (e.i _ _ eq) m2
        have h := Option.some.inj h
        split at h
        · rename_i u w hu hw
          cases h
          obtain ⟨v1, g1, rv1⟩ := r1.get hu
          obtain ⟨v2, g2, rv2⟩ := r2.get hw
          refine ⟨⟨xs, ys, v1, v2, SqL.of h1, SqL.of h2, g1, g2⟩, fun z H'' y => ?_⟩
          obtain ⟨T, x', y', rfl, hT, rfl, f1, f2⟩ := y
          have s1 := f1 xs (SqL.of h1)
          have s2 := f2 ys (SqL.of h2)
          rw [g1] at s1
          rw [g2] at s2
          cases s1
          cases s2
          exact ⟨Ext.tupNew hT, rs.tupNew hT, .tup upd_same (.cons (rv1.mono (Ext.tupNew hT)) (.cons (rv2.mono (Ext.tupNew hT)) .nil))⟩
        · cases h
end
end PyD

-- PyD14
set_option maxRecDepth 100000
set_option maxHeartbeats 4000000
noncomputable section
namespace PyD
open PySem PySem.Spec PyProof.Rows L2 RZ
section
variable {X : Cx} {c : Cfg} {f h k : Den D} {hs : Den (List D)} {e e2 a b o i v : Expr} {pos : Pos} {tg : Expr}
theorem ls_of {K : KT} {H : Hp} {io : List Addr} {d : D} {x : V} (t : isLs d = true) (r : R K H io d x) : ∃ j p, d = .lst j ∧ x = .ref p ∧ io[j]? = some p := by
  cases r <;> first | (cases t; done) | skip
  exact ⟨_, _, rfl, rfl, by assumption⟩
theorem itemsD_L {K : KT} {H : Hp} {io : List Addr} {M : Sto} {j : Nat} {p : Addr} (rs : RS K H io M) (e : io[j]? = some p) (h : (itemsD (.lst j) M).isSome = true) : ∃ xs, SqL K.f H p xs := by
  unfold itemsD at h
  dsimp only at h
  split at h
  · rename_i em
    obtain ⟨xs, h1, _⟩ := rs.lst e em
    exact ⟨xs, SqL.of h1⟩
  · cases h
theorem dp_zip {elts : List Expr} {kk : Nat} {tpos p : Pos} (hK : X.K = c.K.f) (hg : Gl X "zip") (hm : X.mg "zip" = none) (ha : PA X [e, e2] (sA c hs))
    (hst : starEach [e, e2] X.env = (false, eval e X.env) :: starEach [e2] X.env := by rfl) (hpl : (backTo pos (starEach [e2] X.env)).any (·.1) = false := by rfl) :
    PI X (.Tuple elts kk tpos) (.Call (.Name "zip" p) [e, e2] [] pos) (wS c (zipSrc hs)) := PI.imp (pi_zipA hg hm ha hst hpl) fun g H Q s => by
  obtain ⟨r, M, io, re, rs, sx, M', eq, k⟩ := s
  obtain ⟨ds, M1, ef, ek⟩ := bind_ok eq
  rw [hK]
  split at ek
  · rename_i a b
    split at ek
    · rename_i hl
      cases ek
      refine ⟨r, M, io, re, rs, .ok _, _, ef, fun io1 H1 e1 rs1 vs rv => ?_⟩
      obtain ⟨x, y, rfl, rx, ry⟩ := rv.two
      rw [Bool.and_eq_true, Bool.and_eq_true, Bool.or_eq_true, Bool.and_eq_true, Bool.and_eq_true] at hl
      obtain ⟨⟨hk, h1⟩, h2⟩ := hl
      rcases hk with ⟨ta, tb⟩ | ⟨ta, tb⟩
      · obtain ⟨p, xs, as, rfl, i1, k1⟩ := tp_of ta rx
        obtain ⟨q, ys, bs, rfl, i2, k2⟩ := tp_of tb ry
        exact ⟨p, q, xs, ys, rfl, .inr ⟨(k1 io1 H1 Ext.refl).1, (k2 io1 H1 Ext.refl).1, k io1 H1 e1 rs1 _ (jok_zipT ta tb rx ry rfl rfl)⟩⟩
      · obtain ⟨j, p, rfl, rfl, ep⟩ := ls_of ta rx
        obtain ⟨l, q, rfl, rfl, eq⟩ := ls_of tb ry
        obtain ⟨xs, hx⟩ := itemsD_L rs1 ep h1
        obtain ⟨ys, hy⟩ := itemsD_L rs1 eq h2
        exact ⟨p, q, xs, ys, rfl, .inl ⟨hx, hy, k io1 H1 e1 rs1 _ (jok_zipL ep eq)⟩⟩
    · cases ek
  · cases ek
/-! ### dicts made, written -/
def dk0 : Den D := fun _ M => some (.ok (.dic M.length), (sApp M (.dk [])))
def dt0 : Den D := fun _ M => some (.ok (.dic M.length), (sApp M (.dt [])))
theorem de_dk0 (hK : X.K = c.K.f) : PE X (.Dict [] [] pos) (sE c dk0) := PE.imp pe_dnewK fun g H Q s => by
  obtain ⟨r, M, io, re, rs, x, M', eq, k⟩ := s
  cases eq
  intro p n
  exact k (io ++ [p]) _ (Ext.alloc n) (rs.alloc n ⟨[], rfl, .nil⟩) _ (.dic (by rw [← rs.len, List.getElem?_append_right (Nat.le_refl _)]; simp))
theorem de_dt0 (hK : X.K = c.K.f) : PE X (.Dict [] [] pos) (sE c dt0) := PE.imp pe_dnewT fun g H Q s => by
  obtain ⟨r, M, io, re, rs, x, M', eq, k⟩ := s
  cases eq
  intro p n
  exact k (io ++ [p]) _ (Ext.alloc n) (rs.alloc n ⟨[], rfl, .nil⟩) _ (.dic (by rw [← rs.len, List.getElem?_append_right (Nat.le_refl _)]; simp))
theorem rkv_len {κ : Type} {K : KT} {H : Hp} {io : List Addr} : ∀ {a : List (κ × D)} {b : List (κ × V)}, RKV K H io a b → a.length = b.length
  | [], _, h => by cases h; rfl
  | _ :: _, _, h => by
    cases h with
    | cons _ t => rw [List.length_cons, List.length_cons, rkv_len t]
theorem rkv_any {κ : Type} [DecidableEq κ] {K : KT} {H : Hp} {io : List Addr} (k : κ) : ∀ {a : List (κ × D)} {b : List (κ × V)}, RKV K H io a b → (a.any fun kv => decide (kv.1 = k)) = (b.any fun kv => decide (kv.1 = k))
  | [], _, h => by cases h; rfl
  | _ :: _, _, h => by
    cases h with
    | cons r t => rw [List.any_cons, List.any_cons, r.1, rkv_any k t]
theorem rkv_map {κ : Type} [DecidableEq κ] {K : KT} {H : Hp} {io : List Addr} (k : κ) {d : D} {v : V} (rv : R K H io d v) : ∀ {a : List (κ × D)} {b : List (κ × V)}, RKV K H io a b →
    RKV K H io (a.map fun kv => if kv.1 = k then (kv.1, d) else kv) (b.map fun kv => if kv.1 = k then (kv.1, v) else kv)
  | [], _, h => by cases h; exact .nil
  | p :: _, _, h => by
    cases h with
    | @cons _ q _ _ r t =>
      rw [List.map_cons, List.map_cons]
      refine .cons ?_ (rkv_map k rv t)
      rw [r.1]
      by_cases z : q.1 = k
      · rw [if_pos z, if_pos z]; exact ⟨rfl, rv⟩
      · rw [if_neg z, if_neg z]; exact ⟨r.1, r.2⟩
theorem rkv_snoc {κ : Type} {K : KT} {H : Hp} {io : List Addr} {p : κ × D} {q : κ × V} (e : p.1 = q.1) (rv : R K H io p.2 q.2) : ∀ {a : List (κ × D)} {b : List (κ × V)}, RKV K H io a b → RKV K H io (a ++ [p]) (b ++ [q])
  | [], _, h => by cases h; exact .cons ⟨e, rv⟩ .nil
  | _ :: _, _, h => by
    cases h with
    | cons r t => exact .cons r (rkv_snoc e rv t)
theorem RKV.put {κ : Type} [DecidableEq κ] {K : KT} {H : Hp} {io : List Addr} {a : List (κ × D)} {b : List (κ × V)} (h : RKV K H io a b) (k : κ) {d : D} {v : V} (rv : R K H io d v) : RKV K H io (putKD a k d) (putK b k v) := by
  unfold putKD putK
  rw [rkv_any k h]
  split
  · exact rkv_map k rv h
  · exact rkv_snoc rfl rv h
def putD (o k v : D) (M : Sto) : Option Sto :=
  match o with
  | .dic i => match (sGet M i) with
    | some (.dk kvs) => match keyD k with
      | some k => if kvs.length < 100000 then some (M.set i (.dk (putKD kvs k v))) else none
      | none => none
    | some (.dt kvs) => match k with
      | .tup ks => match keysD ks with
        | some ks => if kvs.length < 100000 then some (M.set i (.dt (putKD kvs ks v))) else none
        | none => none
      | _ => none
    | _ => none
  | .lst i => match k, (sGet M i) with
    | .int z, some (.lst ds) => match ixN ds.length z with
      | some j => some (M.set i (.lst (ds.set j v)))
      | none => none
    | _, _ => none
  | _ => none
def putS (fo fk fv : Den D) : SDen := bindS fv fun v => bindS fo fun o => bindS fk fun k r M => match putD o k v M with
  | some M' => some (.nx, r, M')
  | none => none
/-- o[i] = v: a dict or a list -/
def sPut (td ty tv : TE) : TS := fun Ds g H => tv g H fun v H1 => td g H1 fun x H2 => ty g H2 fun y H3 => (∃ a H4, x = .ref a ∧ DPut H3 a y v H4 ∧ Ds.nx g H4) ∨ rSetL x y v H3 (fun H4 => Ds.nx g H4)
theorem ps_put {td ty tv : TE} {p' : Pos} (hu : X.A.units + 1 < cLine) (ho : PE X o td) (hi : PE X i ty) (hv : PE X v tv) (hs : swapsWith v (some (.Subscript o i p')) pos.line X.env = pure false) :
    PS X (.Assign [.Subscript o i p'] v pos) (sPut td ty tv) := by
  refine ⟨fun pins s g H Ds I h => wpAny_Assign_Subscript (thn (hv.run pins s g H _ I h) fun r s1 ⟨x1, H1, I1, rv, q1⟩ => thn (ho.run pins s1 g H1 _ I1 q1) fun u s2 ⟨x2, H2, I2, rx, q2⟩ => thn (hi.run pins s2 g H2 _ I2 q2) fun iv s3 ⟨y, H3, I3, ry, q3⟩ => ?_) hs⟩
  rcases q3 with ⟨a, H4, ex, gg, q3⟩ | q3
  · subst ex
    obtain rfl : u = Value.ref a := rx
    exact d_setItem hu I3 gg ry rv fun s4 I4 => ⟨g, H4, I4, q3⟩
  · exact thn (set_list pins s3 g H3 _ _ _ _ _ _ _ I3 rx ry rv q3) fun _ s4 ⟨H4, I4, q4⟩ => ⟨g, H4, I4, q4⟩
theorem ds_put {p' : Pos} (hK : X.K = c.K.f) (hu : X.A.units + 1 < cLine) (ho : PE X o (sE c f)) (hi : PE X i (sE c h)) (hv : PE X v (sE c k)) (hs : swapsWith v (some (.Subscript o i p')) pos.line X.env = pure false := by rfl) :
    PS X (.Assign [.Subscript o i p'] v pos) (sS c (putS f h k)) := PS.imp (ps_put hu ho hi hv hs) fun Ds g H s => by
  refine sS.bind s fun d x r M1 io1 H1 re rs ra run => ?_
  refine ⟨r, M1, io1, re, rs, run.bind fun d2 x2 M2 io2 H2 e2 rs2 ra2 run2 => ?_⟩
  refine ⟨r, M2, io2, re.mono e2, rs2, run2.bind fun d3 x3 M3 io3 H3 e3 rs3 ra3 run3 => ?_⟩
  obtain ⟨fl, r', M', eq, z⟩ := run3
  dsimp only at eq
  split at eq
  · rename_i M4 e4
    cases eq
    have rd := ra.mono (e2.trans e3)
    have ro := ra2.mono e3
    have re3 := (re.mono e2).mono e3
    unfold putD at e4
    split at e4
    · rename_i j
      cases ro with
      | dic ei =>
        obtain ⟨cc, ob, m1, h1, rc⟩ := rs3.there ei
        rw [m1] at e4
        cases cc with
        | lst ds => cases e4
        | dead => cases e4
        | ob cl fs => cases e4
        | dk kvs =>
          dsimp only at e4
          obtain ⟨xs, rfl, rk⟩ := rc
          split at e4
          · rename_i kk ek
            split at e4
            · rename_i hl
              cases e4
              have nt : notTup (.dK xs) := nt_dk
              have ex := Ext.write (K := c.K) (io := io3) (o := .dK (putK xs kk x)) h1 nt
              rw [key_of_D ek ra3]
              exact .inl ⟨_, _, rfl, DPut.k h1 (by rw [← rkv_len rk]; exact big_lt hl), z io3 _ ex (rs3.write ei h1 nt ⟨_, rfl, (RKV.put rk kk rd).mono ex⟩) g (re3.mono ex)⟩
            · cases e4
          · cases e4
        | dt kvs =>
          dsimp only at e4
          obtain ⟨xs, rfl, rk⟩ := rc
          split at e4
          · rename_i ks
            split at e4
            · rename_i kk ek
              split at e4
              · rename_i hl
                cases e4
                cases ra3 with
                | tup hb rl =>
                  have zz := keys_of_D ek rl
                  subst zz
                  have nt : notTup (.dT xs) := nt_dt
                  have ex := Ext.write (K := c.K) (io := io3) (o := .dT (putK xs kk x)) h1 nt
                  exact .inl ⟨_, _, rfl, DPut.t h1 hb (by rw [← rkv_len rk]; exact big_lt hl), z io3 _ ex (rs3.write ei h1 nt ⟨_, rfl, (RKV.put rk kk rd).mono ex⟩) g (re3.mono ex)⟩
              · cases e4
            · cases e4
          · cases e4
    · rename_i j
      split at e4
      · rename_i zz ds m1
        split at e4
        · rename_i n en
          cases e4
          cases ra3
          obtain ⟨a1, xs, rfl, i1, h1, r1⟩ := lst_at ro rs3 m1
          have nt : notTup (.lst xs) := nt_lst
          have ex := Ext.write (K := c.K) (io := io3) (o := .lst (xs.set n x)) h1 nt
          refine .inr ⟨a1, xs, zz, n, rfl, rfl, h1, by rw [← r1.length]; exact en, ?_⟩
          exact z io3 _ ex (rs3.write i1 h1 nt ⟨_, rfl, (r1.set rd n).mono ex⟩) g (re3.mono ex)
        · cases e4
      · cases e4
    · cases e4
  · cases eq
end
end PyD

-- PyD15
set_option maxRecDepth 100000
set_option maxHeartbeats 4000000
noncomputable section
namespace PyD
open PySem PySem.Spec PyProof.Rows L2 RZ
section
variable {X : Cx} {c : Cfg} {f h k : Den D} {hs : Den (List D)} {e e2 a b o i v : Expr} {pos : Pos} {tg : Expr}
/-! ### texts put together -/
def fmtD (d : D) (M : Sto) : Option (D × Sto) :=
  match d with
  | .str y => if y.length ≤ 100000 then some (.str y, M) else none
  | .int i => if i.natAbs.log2 < 1900 then some (.str (toString i), M) else none
  | _ => none
theorem de_fmt (he : PE X e (sE c f)) : PE X (.FormattedValue e (-1) none pos) (sE c (op1 fmtD f)) := PE.imp (pe_fmt he) fun g H Q s => by
  refine sG.bind s fun d x r M1 io1 H1 re rs ra run => ?_
  obtain ⟨z, M3, eq, k⟩ := run.lift
  unfold fmtD at eq
  split at eq
  · split at eq
    · rename_i hl
      cases eq; cases ra
      exact .inl ⟨_, rfl, big_le hl, k.ok Ext.refl rs (.str _)⟩
    · cases eq
  · split at eq
    · rename_i hl
      cases eq; cases ra
      exact .inr ⟨_, rfl, by omega, k.ok Ext.refl rs (.str _)⟩
    · cases eq
  · cases eq
def joinF : List (Den D) → Str → Den D
  | [], acc => fun _ M => some (.ok (.str acc), M)
  | p :: ps, acc => bindD p fun d => match d with
    | .str y => if (acc ++ y).length ≤ 100000 then joinF ps (acc ++ y) else fun _ _ => none
    | _ => fun _ _ => none
inductive PJD (X : Cx) (c : Cfg) : List Expr → List (Den D) → Prop where
  | nil : PJD X c [] []
  | cons {e : Expr} {t : Den D} {es : List Expr} {ts : List (Den D)} (h : PE X e (sE c t)) (r : PJD X c es ts) : PJD X c (e :: es) (t :: ts)
theorem PJD.to {es : List Expr} {ts : List (Den D)} (h : PJD X c es ts) : PJ X es (ts.map (sE c)) := by
  induction h with
  | nil => exact .nil
  | cons h r ih => exact .cons h ih
theorem joinF_ok : ∀ (ts : List (Den D)) (acc : Str) (g : L2.St) (H : Hp) (Q : VK), sE c (joinF ts acc) g H Q → tJs (ts.map (sE c)) acc g H fun out H1 => Q (.str out) H1
  | [], acc, g, H, Q, s => by
    obtain ⟨r, M, io, re, rs, x, M', eq, k⟩ := s
    cases eq
    exact k.ok Ext.refl rs (.str _)
  | p :: ps, acc, g, H, Q, s => by
    refine sG.bind s fun d x r M1 io1 H1 re rs ra run => ?_
    cases d with
    | str y =>
      dsimp only at run
      split at run
      · rename_i hl
        cases ra
        exact ⟨y, rfl, big_le hl, joinF_ok ps _ g H1 Q ⟨r, M1, io1, re, rs, run⟩⟩
      · obtain ⟨x, M', eq, k⟩ := run
        cases eq
    | _ => obtain ⟨x, M', eq, k⟩ := run; cases eq
theorem de_joined {v1 v2 : Expr} {rest : List Expr} {ts : List (Den D)} (h : PJD X c (v1 :: v2 :: rest) ts) : PE X (.JoinedStr (v1 :: v2 :: rest) pos) (sE c (joinF ts Str.empty)) := PE.imp (pe_joined h.to) fun g H Q s => joinF_ok ts _ g H Q s
theorem de_joined1 (h : PE X e (sE c f)) : PE X (.JoinedStr [e] pos) (sE c f) := pe_joined1 h
/-! ### raise with what is worked out -/
theorem pmk_ownN {C : Addr} {bmB : List Value} {B newId initId : String} {x : Str} {p : Pos} {es : List Expr} {t : TA} (F : ExcBaseFacts B newId initId bmB) (q : PySem.W.excIn X.K C bmB newId = true) (gC : X.mg x = some (.ref C)) (kC : PySem.W.keepIn X.K (.ref C) = true) (r : Raises X (.ref C)) (hg : Gl X x) (ha : PA X (e :: es) t)
    (hd : (x == ("__debug__" : Str)) = false := by decide) (hst : starEach (e :: es) X.env = (false, eval e X.env) :: starEach es X.env := by rfl) (hpl : (backTo pos (starEach es X.env)).any (·.1) = false := by rfl) :
    L2N.PMk X (.Call (.Name x p) (e :: es) [] pos) (fun g H Q => t g H fun vs H1 => vs.length ≤ sizeLine ∧ Q (.ref C) none H1) := by
  intro pins s g H Q I h
  refine wpAny_Call_Name_kw (ld_glob I hg gC (PySem.W.callWith_K (h₀ := X.base) I.ok.mod.kin kC (thn (ha.run pos pins s g H _ I h) fun us s1 ⟨vs, H1, I1, r1, hz, q1⟩ => ⟨I1.kIn, ?_⟩) hst hpl) hd)
  show wpAny _ _ (call (.ref C) us) _ _ _
  obtain ⟨bm, N, nm, qn, bs, hdct, sn, sub, ab, col, dd, k0, k1, k2, k3, k5, mN, hC, hN, hni, T⟩ := exc_obj I1.kIn q
  exact wpAny_call_exc_subT F T hC hN hni (fun h' e hm => L2N.mk_of I1 hm r q1 (I1.hok.gone hm.new)) (by rw [← r1.length]; exact hz)
def raiseAS (cls : Str) (as : Den (List D)) : SDen := bindS as fun ds r M => if ds.length ≤ 100000 then some (.ex ⟨cls, none⟩, r, M) else none
theorem ds_raiseA {cls : Str} {C : Addr} (hc : X.calm = true) (tk : L2N.Takes X (fun cls d _ H => c.W cls d H)) (hm : c.mg cls = some (.ref C)) (he : L2N.PMk X e (fun g H Q => sA c hs g H fun vs H1 => vs.length ≤ sizeLine ∧ Q (.ref C) none H1)) :
    PS X (.Raise (some e) none pos) (sS c (raiseAS cls hs)) := PS.imp (L2N.ps_raise hc tk he) fun Ds g H s => by
  refine sS.bind s fun ds vs r M1 io1 H1 re rs ra run => ?_
  obtain ⟨fl, r', M', eq, z⟩ := run
  dsimp only at eq
  split at eq
  · rename_i hl
    cases eq
    exact ⟨by rw [← ra.length]; exact big_le hl, z io1 H1 Ext.refl rs (.ref C) none ⟨hm, rfl⟩⟩
  · cases eq
/-! ### a written dict -/
def lookS (kds : List (Str × D)) (d : D) (M : Sto) : Option (D × Sto) :=
  match d with
  | .str z => match kds.find? fun p => sbeq p.1 z with
    | some p => some (p.2, M)
    | none => none
  | _ => none
/-- the dict of the written part that x names: its texts and what they lead to -/
def KDic (K : PySem.W.Frag) (w : World) (mg : Str → Option Value) (x : Str) (kds : List (Str × D)) : Prop := ∃ a, mg x = some (.ref a) ∧ ∀ p ∈ kds, ∃ v, KDct K w a p.1 v ∧ ∀ (T : List (Addr × Str)) (lam : Nat → Addr → HO → Addr → HO → Prop) (ex : Str → Addr → Option (Addr × Str) → Prop) (H : Hp) (io : List Addr), R ⟨K, T, lam, ex⟩ H io p.2 v
theorem de_kdict {kds : List (Str × D)} {x : Str} {p : Pos} (hK : X.K = c.K.f) (hg : Gl X x) (h : KDic X.K X.w X.mg x kds) (hb : PE X b (sE c f)) (hs : PlainIx b := by intro _ _; rfl) (hd : (x == ("__debug__" : Str)) = false := by decide) :
    PE X (.Subscript (.Name x p) b pos) (sE c (op1 (lookS kds) f)) := by
  obtain ⟨a, hm, all⟩ := h
  refine PE.imp (pe_ix ix_kdict (pe_glob (v := .ref a) hg hm rfl hd) hb hs) fun g H Q s => ?_
  refine sG.bind s fun d x r M1 io1 H1 re rs ra run => ?_
  obtain ⟨z, M3, eq, k⟩ := run.lift
  unfold lookS at eq
  split at eq
  · split at eq
    · rename_i q hq
      cases eq; cases ra
      obtain ⟨v, h1, h2⟩ := all _ (List.mem_of_find?_eq_some hq)
      have e0 := List.find?_some hq
      have e1 := sbeq_iff.mp e0
      rw [e1] at h1
      refine ⟨a, _, v, rfl, rfl, h1, ?_⟩
      have h3 := h2 c.K.T c.K.lam c.K.exn H1 io1
      rw [← kt hK] at h3
      exact k.ok Ext.refl rs h3
    · cases eq
  · cases eq
end
end PyD

-- PyD16
set_option maxRecDepth 100000
set_option maxHeartbeats 4000000
noncomputable section
namespace PyD
open PySem PySem.Spec PyProof.Rows L2 RZ
/-! ### {k: d[k] for k in d} -/
def copyK : List (Key × D) → List (Key × D) → List (Key × D) → Option (List (Key × D))
  | _, [], acc => some acc
  | all, p :: r, acc => match lookK all p.1 with
    | some d => copyK all r (putKD acc p.1 d)
    | none => none
def copyKV : List (Key × V) → List (Key × V) → List (Key × V) → List (Key × V)
  | _, [], acc => acc
  | all, p :: r, acc => copyKV all r (putK acc p.1 ((valV all p.1).getD .non))
def copyDict (i j : Nat) : Den D := fun r M => match r[j]? with
  | some (some (.dic n)) => match (sGet M n) with
    | some (.dk kvs) => if kvs.length < 100000 ∧ i < r.length then (match copyK kvs kvs [] with
      | some out => some (.ok (.dic M.length), (sApp M (.dk out)))
      | none => none) else none
    | _ => none
  | _ => none
theorem copyK_ok {K : KT} {H : Hp} {io : List Addr} {all : List (Key × D)} {xall : List (Key × V)} (ra : RKV K H io all xall) : ∀ {todo : List (Key × D)} {xt : List (Key × V)} {acc out : List (Key × D)} {xa : List (Key × V)}, RKV K H io todo xt → RKV K H io acc xa → copyK all todo acc = some out →
    RKV K H io out (copyKV xall xt xa)
  | [], _, _, _, _, rt, rc, e => by
    cases rt
    cases e
    exact rc
  | p :: r, _, _, _, _, rt, rc, e => by
    cases rt with
    | @cons _ q _ t h1 h2 =>
      unfold copyK at e
      split at e
      · rename_i d hd
        have ro := lookK_val p.1 ra
        rw [hd] at ro
        rw [h1.1] at ro
        unfold copyKV
        cases ev : valV xall q.1 with
        | none => rw [ev] at ro; exact ro.elim
        | some v =>
          rw [ev] at ro
          rw [h1.1] at e
          exact copyK_ok ra h2 (RKV.put rc q.1 ro) e
      · cases e
theorem copyKV_snoc {all : List (Key × V)} {p : Key × V} : ∀ {t acc : List (Key × V)}, copyKV all (t ++ [p]) acc = putK (copyKV all t acc) p.1 ((valV all p.1).getD .non)
  | [], acc => rfl
  | q :: t, acc => by
    rw [List.cons_append]
    unfold copyKV
    rw [copyKV_snoc]
theorem putK_len {kvs : List (Key × V)} {k : Key} {v : V} : (putK kvs k v).length ≤ kvs.length + 1 := by
  unfold putK
  split <;> simp
theorem copyKV_len {all : List (Key × V)} : ∀ {t acc : List (Key × V)}, (copyKV all t acc).length ≤ acc.length + t.length
  | [], acc => by simp [copyKV]
  | q :: t, acc => by
    unfold copyKV
    have h := copyKV_len (all := all) (t := t) (acc := putK acc q.1 ((valV all q.1).getD .non))
    have h2 := putK_len (kvs := acc) (k := q.1) (v := (valV all q.1).getD .non)
    rw [List.length_cons]
    omega
theorem valV_some {xs : List (Key × V)} {i : Nat} {k : Key} {v : V} (e : xs[i]? = some (k, v)) : ∃ u, valV xs k = some u := by
  have h : (xs.find? fun kv => decide (kv.1 = k)).isSome = true := by
    rw [List.find?_isSome]
    exact ⟨(k, v), List.mem_of_getElem? e, by simp⟩
  obtain ⟨q, hq⟩ := Option.isSome_iff_exists.mp h
  exact ⟨q.2, by unfold valV; rw [hq]; rfl⟩
section
variable {X : Cx} {c : Cfg} {scope : Scope} {own : List (Str × Nat)} {pos p1 p2 p3 p4 p5 p6 : Pos} {x t : Str} {i j : Nat}
theorem copy_read {c : Cfg} {i j : Nat} (hij : j ≠ i) {g : L2.St} {H : Hp} {Q : VK} (s : sE c (copyDict i j) g H Q) : tLockE (tDc (iKeys (tVar j)) (gName i) tYes (tVar i) (tDGet (tVar j) (tVar i)) [i]) g H Q := by
  obtain ⟨r, M, io, re, rs, z, M', eq, k⟩ := s
  unfold copyDict at eq
  split at eq
  · rename_i n hr
    split at eq
    · rename_i kvs hm
      split at eq
      · rename_i hl
        split at eq
        · rename_i out ho
          cases eq
          obtain ⟨v, hv, rv⟩ := re.2 j _ hr
          cases rv with
          | @dic _ d ei =>
            obtain ⟨cc, ob, e1, hd, rc⟩ := rs.there ei
            rw [hm] at e1
            cases e1
            obtain ⟨xs, rfl, rk⟩ := rc
            have gj : ∀ y : V, ((L2.wipe g [i]).set i (some y))[j]? = some (some (.ref d)) := fun y => by
              rw [List.getElem?_set_ne (Ne.symm hij)]
              show (g.set i none)[j]? = _
              rw [List.getElem?_set_ne (Ne.symm hij)]
              exact hv
            refine ⟨d, .dK xs, hd, trivial, fun od => ⟨.ref d, hv, d, od, rfl, .inl ⟨xs, upd_same, fun Dd hn => ?_⟩⟩⟩
            have nd : Dd ≠ d := fun q => by rw [q, upd_same] at hn; cases hn
            have hn0 : H Dd = none := by rw [upd_ne nd] at hn; exact hn
            refine ⟨fun ix m H' => m = xs.length - ix ∧ ix ≤ xs.length ∧ H' = upd (upd H d (.frz od (.dK xs))) Dd (.dK (copyKV xs (xs.take ix) [])), ⟨xs.length, by simp, Nat.zero_le _, rfl⟩, ?_⟩
            rintro ix m H' ⟨rfl, hi, rfl⟩
            have frz : upd (upd H d (.frz od (.dK xs))) Dd (.dK (copyKV xs (xs.take ix) [])) d = some (.frz od (.dK xs)) := by rw [upd_ne (Ne.symm nd), upd_same]
            by_cases hlt : ix < xs.length
            · refine .inr ⟨⟨frz, hlt⟩, fun H2 => H2 = upd (upd H d (.frz od (.dK xs))) Dd (.dK (copyKV xs (xs.take (ix + 1)) [])), fun H2 e => ⟨_, by omega, rfl, hlt, e⟩, fun y H2 yd => ?_⟩
              obtain ⟨rfl, kk, vv, e2, rfl⟩ := yd
              have gi : ((L2.wipe g [i]).set i (some (kV kk)))[i]? = some (some (kV kk)) := by
                refine List.getElem?_set_self ?_
                rw [wipe_length, ← re.1]
                exact hl.2
              refine ⟨(wipe_set List.mem_cons_self).trans wipe_wipe, ?_⟩
              unfold tYes
              dsimp only
              rw [if_pos rfl]
              obtain ⟨u, hu2⟩ := valV_some e2
              refine ⟨kV kk, gi, .ref d, gj _, kV kk, gi, d, u, rfl, .inl ⟨xs, kk, .inr ⟨od, frz⟩, rfl, hu2.symm⟩, _, kk, rfl, upd_same, ?_, ?_⟩
              · have z := copyKV_len (all := xs) (t := xs.take ix) (acc := [])
                have z2 := rkv_len rk
                rw [List.length_take] at z
                have z3 := big_lt hl.1
                simp at z
                omega
              · have e3 : xs.take (ix + 1) = xs.take ix ++ [(kk, vv)] := by
                  rw [List.take_add_one, e2]
                  rfl
                rw [e3, copyKV_snoc, hu2]
                funext b
                by_cases hb : b = Dd
                · subst hb; rw [upd_same, upd_same]; rfl
                · rw [upd_ne hb, upd_ne hb, upd_ne hb]
            · have e : ix = xs.length := by omega
              subst e
              refine .inl ⟨⟨frz, Nat.le_refl _⟩, frz, ?_⟩
              rw [List.take_length]
              have e2 : upd (upd (upd H d (.frz od (.dK xs))) Dd (.dK (copyKV xs xs []))) d (.dK xs) = upd H Dd (.dK (copyKV xs xs [])) := by
                funext b
                by_cases hb : b = d
                · subst hb; rw [upd_same, upd_ne (Ne.symm nd), hd]
                · rw [upd_ne hb]
                  by_cases hb2 : b = Dd
                  · subst hb2; rw [upd_same, upd_same]
                  · rw [upd_ne hb2, upd_ne hb2, upd_ne hb]
              rw [e2]
              have ex := Ext.alloc (K := c.K) (io := io) (o := .dK (copyKV xs xs [])) hn0
              exact k (io ++ [Dd]) _ ex (rs.alloc hn0 ⟨_, rfl, (copyK_ok rk rk .nil ho).mono ex⟩) _ (.dic (by rw [← rs.len, List.getElem?_append_right (Nat.le_refl _)]; simp))
        · cases eq
      · cases eq
    · cases eq
  · cases eq
theorem de_copy (hK : X.K = c.K.f) (hu : X.A.units + 1 < cLine) (hc : X.calm = true) (hN : X.N.Nodup) (ok : BlkOk X.N X.env.scope scope own) (hij : j ≠ i) (ht : PE X (.Name t p2) (tVar j))
    (hg : ∀ (s : Shared) (H : Hp) (C : Addr) (cl : List (Str × Addr)) (fp : List Addr), PG (X.blk s H scope (compEnvC scope cl C X.env) fp) (.Name x p1) (gName i))
    (hk : ∀ (s : Shared) (H : Hp) (C : Addr) (cl : List (Str × Addr)) (fp : List Addr), PE (X.blk s H scope (compEnvC scope cl C X.env) fp) (.Name x p3) (tVar i))
    (ht2 : ∀ (s : Shared) (H : Hp) (C : Addr) (cl : List (Str × Addr)) (fp : List Addr), PE (X.blk s H scope (compEnvC scope cl C X.env) fp) (.Name t p4) (tVar j))
    (hk2 : ∀ (s : Shared) (H : Hp) (C : Addr) (cl : List (Str × Addr)) (fp : List Addr), PE (X.blk s H scope (compEnvC scope cl C X.env) fp) (.Name x p5) (tVar i))
    (hs : ∀ z, foldedSetIterable (.Name t p2) X.env z = pure z := by intro _; rfl) (hsl : own.map (·.2) = [i] := by rfl) :
    PE X (.DictComp (.Name x p3) (.Subscript (.Name t p4) (.Name x p5) p6) [⟨.Name x p1, .Name t p2, [], 0⟩] scope pos) (sE c (copyDict i j)) :=
  PE.imp (pe_lock (pe_dc (own := own) hc hN (pi_keys ht) ok hg (fun s H C cl fp => pts_nil) hk (fun s H C cl fp => pe_dget hu (ht2 s H C cl fp) (hk2 s H C cl fp) (by intro _ _; rfl)) hs)) fun g H Q s => by
    rw [hsl]
    exact copy_read hij s
/-- name = {.. for ..} on one line, the name a local -/
theorem swd_true {kx vx : Expr} {gs : List Comprehension} {scope : Scope} {pos py : Pos} {y : Str} {l : Nat} {env : Env} (h1 : env.scope.kind = .function) (h2 : env.scope.names.lookup y = some .local) (h3 : (py.line == pos.line) = true)
    (h4 : (scope.names.any fun (n, k) => n == y && (k == .local || k == .cell)) = false) : swapsWith (.DictComp kx vx gs scope pos) (some (.Name y py)) l env = pure true := by
  have e1 : env.kindOf y = some .local := h2
  have e2 : env.blockKind = .function := by unfold Env.blockKind; rw [h1]; rfl
  unfold swapsWith
  simp only [e2, e1, h4, Expr.pos, h3]
  rfl
theorem ps_setDc {y : Str} {py spos : Pos} {kx vx tg iter : Expr} {ifs : List Expr} {n : Nat} {wi : TI} {g : TG} {tt : TT} {tk tv : TE} (hc : X.calm = true) (hN : X.N.Nodup) (hy : X.N[n]? = some y) (hl : X.env.scope.names.lookup y = some .local)
    (hw : swapsWith (.DictComp kx vx [⟨tg, iter, ifs, 0⟩] scope pos) (some (.Name y py)) spos.line X.env = pure true) (hi : PI X tg iter wi) (ok : BlkOk X.N X.env.scope scope own)
    (hg : ∀ (s : Shared) (H : Hp) (C : Addr) (cl : List (Str × Addr)) (fp : List Addr), PG (X.blk s H scope (compEnvC scope cl C X.env) fp) tg g) (ht : ∀ (s : Shared) (H : Hp) (C : Addr) (cl : List (Str × Addr)) (fp : List Addr), PTs (X.blk s H scope (compEnvC scope cl C X.env) fp) ifs tt)
    (hk : ∀ (s : Shared) (H : Hp) (C : Addr) (cl : List (Str × Addr)) (fp : List Addr), PE (X.blk s H scope (compEnvC scope cl C X.env) fp) kx tk) (he : ∀ (s : Shared) (H : Hp) (C : Addr) (cl : List (Str × Addr)) (fp : List Addr), PE (X.blk s H scope (compEnvC scope cl C X.env) fp) vx tv)
    (hs : ∀ x, foldedSetIterable iter X.env x = pure x := by intro _; rfl) : PS X (.Assign [.Name y py] (.DictComp kx vx [⟨tg, iter, ifs, 0⟩] scope pos) spos) (tAsg (tDc wi g tt tk tv (own.map (·.2))) (gName n)) := by
  refine ⟨fun pins s r H Ds I run => ?_⟩
  rw [exec_Assign_Name_used _ _ _ _ hw]
  refine wpAny_bind (wpAny_standAt (wpAny_bind ?_))
  have run : tDc wi g tt tk tv (own.map (·.2)) r H (fun x H1 => gName n x r H1 Ds.nx) := run
  refine wpAny_bind (thn (dc_core (use := some (assign (.Name y py) X.env)) (Qf := fun _ s1 => SP X pins Ds .next s1) (pos' := firstIterPos [⟨tg, iter, ifs, 0⟩] pos) hc hN I hi ok hg ht hk he hs run fun L C s1 m H1 I1 q ns f => ?_) fun _ s1 z => wpAny_pure (wpAny_pure z))
  show wpAny _ _ (assign (.Name y py) X.env (.ref L)) _ _ _
  refine wpAny_assign_Name (store_ok2 (v := V.ref L) I1 hN hy (.inl hl) rfl (fun s2 I2 ⟨a, sb, ha⟩ => ?_) (.inr hl))
  obtain ⟨f0, f1, f2, f3, f4, f5⟩ := f
  have away : C ≠ a := ha.elim (fun z => by rw [z]; exact f1) fun z e => f4 y a z e.symm
  exact ⟨m, ns.sameBut sb away, fun h3 sb3 => ⟨_, H1, I2.turned (t' := s2.toks) (fun b o nb look => (sb3.2 b nb).trans look) f0 f1 f3 f4 f5, q⟩⟩
theorem ds_setCopy {y : Str} {py spos : Pos} {n : Nat} (hK : X.K = c.K.f) (hu : X.A.units + 1 < cLine) (hc : X.calm = true) (hN : X.N.Nodup) (hy : X.N[n]? = some y) (hl : X.env.scope.names.lookup y = some .local) (ok : BlkOk X.N X.env.scope scope own) (hij : j ≠ i)
    (hw : swapsWith (.DictComp (.Name x p3) (.Subscript (.Name t p4) (.Name x p5) p6) [⟨.Name x p1, .Name t p2, [], 0⟩] scope pos) (some (.Name y py)) spos.line X.env = pure true) (ht : PE X (.Name t p2) (tVar j))
    (hg : ∀ (s : Shared) (H : Hp) (C : Addr) (cl : List (Str × Addr)) (fp : List Addr), PG (X.blk s H scope (compEnvC scope cl C X.env) fp) (.Name x p1) (gName i))
    (hk : ∀ (s : Shared) (H : Hp) (C : Addr) (cl : List (Str × Addr)) (fp : List Addr), PE (X.blk s H scope (compEnvC scope cl C X.env) fp) (.Name x p3) (tVar i))
    (ht2 : ∀ (s : Shared) (H : Hp) (C : Addr) (cl : List (Str × Addr)) (fp : List Addr), PE (X.blk s H scope (compEnvC scope cl C X.env) fp) (.Name t p4) (tVar j))
    (hk2 : ∀ (s : Shared) (H : Hp) (C : Addr) (cl : List (Str × Addr)) (fp : List Addr), PE (X.blk s H scope (compEnvC scope cl C X.env) fp) (.Name x p5) (tVar i))
    (hs : ∀ z, foldedSetIterable (.Name t p2) X.env z = pure z := by intro _; rfl) (hsl : own.map (·.2) = [i] := by rfl) :
    PS X (.Assign [.Name y py] (.DictComp (.Name x p3) (.Subscript (.Name t p4) (.Name x p5) p6) [⟨.Name x p1, .Name t p2, [], 0⟩] scope pos) spos) (sS c (setS (copyDict i j) (nmT n))) :=
  PS.imp (ps_lock (ps_setDc (own := own) hc hN hy hl hw (pi_keys ht) ok hg (fun s H C cl fp => pts_nil) hk (fun s H C cl fp => pe_dget hu (ht2 s H C cl fp) (hk2 s H C cl fp) (by intro _ _; rfl)) hs)) fun Ds g H s => by
    rw [hsl]
    have q : sE c (copyDict i j) g H (fun x H1 => gName n x g H1 Ds.nx) := by
      refine sS.bind s fun d x r M1 io1 H1 re rs ra run => ?_
      obtain ⟨fl, r', M', eq, z⟩ := run
      cases eq
      exact z io1 H1 Ext.refl rs _ (re.set ra)
    exact copy_read hij q
end
end PyD

-- PyD17
set_option maxRecDepth 100000
set_option maxHeartbeats 4000000
noncomputable section
namespace PyD
open PySem PySem.Spec PyProof.Rows L2
/-- where a def of the program stands -/
structure DefAt (K : PySem.W.Frag) (mg : Str → Option Value) (x : Str) (st : Stmt) (ps : List Str) where
  a : Addr
  u : FuncData
  F : Fun K x x st a u
  m : mg x = some (.ref a)
  b : Binds K u ps []
/-- where a class of exceptions stands -/
structure ClsAt (K : PySem.W.Frag) (mg : Str → Option Value) (y : Str) where
  a : Addr
  m : mg y = some (.ref a)
  x : PySem.W.excIn K a [.type "ValueError", .type "Exception", .type "BaseException", .type "object"] "ValueError.__new__" = true
  k : PySem.W.keepIn K (.ref a) = true
  s : PySem.W.subIn K (.ref a) (.type "BaseException") = some true
  t : PySem.W.typeIn K (.ref a) = some (.type "type")
end PyD

-- PyH1
set_option maxRecDepth 100000
set_option maxHeartbeats 4000000
/-! iterators that end while an exception is handled -/
noncomputable section
namespace PyH
open PySem PySem.Spec PyProof.Rows HotX
section
variable {pr : Program} {w : World} {A : Around} {E : Value → Shared → Prop} {s : Shared} {x1 it l : Addr} {i : Nat} {its : Array Value}
/-- what was there is there -/
abbrev More (h h' : Heap) : Prop := ∀ b o, h.get? b = some o → h'.get? b = some o
theorem HotAt.more {h h' : Heap} (a : HotAt A x1 h) (k : ∀ o, h.get? x1 = some o → h'.get? x1 = some o) : HotAt A x1 h' := ⟨a.1, by
  obtain ⟨o, vs, e, r⟩ := a.2
  exact ⟨o, vs, k o e, r⟩⟩
theorem stop_hot {α : Type} {Q : α → Shared → Prop} (hot : HotAt A x1 s.heap)
    (fin : ∀ h' e, More s.heap h' → (∃ o, h'.get? e = some o ∧ o.cls = .type "StopIteration") → E (.ref e) { s with heap := h' }) : wpAny (model pr w) A (newExc (.type "StopIteration") [] >>= (raiseNew : Value → Sem α)) Q E s := by
  refine wpAny_bind ?_
  simp only [newExc, newTuple]
  refine wpAny_bind (wpAny_newObj_type ?_ (by size_fits))
  refine wpAny_bind (m := firstArgMember _ _) (wpAny_of_eq (a := Value.none) (by first | rfl | (simp only [firstArgMember]; rfl)) (wpAny_newObj_type ?_ (by size_fits)))
  have hot2 := HotAt.more (h' := s.heap.push { cls := .type "tuple", data := .seq ([] : List Value).toArray }) hot fun o e => Heap.get?_push_of_some _ e
  refine raiseNew_hot (HotAt.more hot2 fun o e => Heap.get?_push_of_some _ e) ?_ (Heap.get?_push_size _ rfl) rfl (by first | (simp; done) | (simp; omega) | (simp only [Array.size_append]; simp; omega)) ?_
  · obtain ⟨_, o, vs, e, _⟩ := hot2
    exact Nat.ne_of_lt (Heap.lt_size e)
  · refine fin _ _ (fun b o e => ?_) ⟨_, Heap.get?_update_self _ (Heap.get?_push_size _ rfl) rfl, rfl⟩
    have e2 := Heap.get?_push_of_some { cls := .type "tuple", data := .seq ([] : List Value).toArray } e
    rw [Heap.get?_update_other _ _ (Nat.ne_of_gt (Heap.lt_size e2))]
    exact Heap.get?_push_of_some _ e2
/-- the body of next of a list's iterator that is at its end -/
theorem list_stop {Q : Fin → Shared → Prop} (hot : HotAt A x1 s.heap) (nx : x1 ≠ it) (hit : s.heap.IsListIter it l i) (hl : s.heap.IsList l its) (no : its[i]? = none)
    (fin : ∀ h' e, Heap.ExtBut it s.heap h' → (∃ o, h'.get? e = some o ∧ o.cls = .type "StopIteration") → E (.ref e) { s with heap := h' }) : wpAny (model pr w) A (Builtin.«list_iterator.__next__» ⟨[.ref it], []⟩) Q E s := by
  obtain ⟨o, ho, hc, hd⟩ := id hit
  obtain ⟨ol, hol, _, nl, hdl⟩ := hl
  show wpAny _ _ (field (.ref it) 0 >>= _) _ _ s
  refine wpAny_bind (wpAny_field ho hd (x := .ref l) rfl ?_)
  show wpAny _ _ (if (Value.ref l == Value.none) = true then _ else _) _ _ s
  rw [if_neg (fun z : (Value.ref l == Value.none) = true => Bool.false_ne_true z)]
  show wpAny _ _ (field (.ref it) 1 >>= _) _ _ s
  refine wpAny_bind (wpAny_field ho hd (x := .int i 0) rfl ?_)
  show wpAny _ _ (seqItems? (.ref l) >>= _) _ _ s
  refine wpAny_bind (wpAny_seqItems hol hdl ?_)
  simp only [Int.toNat_natCast, no]
  refine wpAny_bind (wpAny_rule (wpAny_bind (wpAny_setField ho hd (by simp) ?_)))
  refine stop_hot (HotAt.more hot fun o e => (Heap.SameBut.update ..).extBut _ _ nx e) fun h' e k st => fin h' e (fun b o nb look => k _ _ ((Heap.SameBut.update ..).extBut _ _ nb look)) st
theorem nextOf_list_hot {Q : Value → Shared → Prop} (hot : HotAt A x1 s.heap) (nx : x1 ≠ it) (hit : s.heap.IsListIter it l i) (hl : s.heap.IsList l its) (no : its[i]? = none)
    (fin : ∀ h' e, Heap.ExtBut it s.heap h' → (∃ o, h'.get? e = some o ∧ o.cls = .type "StopIteration") → E (.ref e) { s with heap := h' }) : wpAny (model pr w) A (Builtin.SmallTypes.nextOf (.ref it)) Q E s := by
  unfold Builtin.SmallTypes.nextOf
  exact wpAny_bind (wpAny_callSpecial?_slot (name := Str.ofString "__next__") hit.typeIs slot_listiter_next (wpAny_call_entry slot_listiter_next hit.typeIs entry_listiter_next (list_stop (by exact ⟨hot.1, hot.2⟩) nx hit hl no fin) (args_listiter_next _)))
theorem pyNext_list_hot {Q : Option Value → Shared → Prop} (hot : HotAt A x1 s.heap) (nx : x1 ≠ it) (hit : s.heap.IsListIter it l i) (hl : s.heap.IsList l its) (no : its[i]? = none)
    (fin : ∀ h', Heap.ExtBut it s.heap h' → Q none { s with heap := h' }) : wpAny (model pr w) A (pyNext (.ref it)) Q E s := by
  unfold pyNext
  refine wpAny_bind (wpAny_attempt (wpAny_callSpecial?_slot (name := Str.ofString "__next__") hit.typeIs slot_listiter_next (wpAny_call_entry slot_listiter_next hit.typeIs entry_listiter_next (list_stop (by exact ⟨hot.1, hot.2⟩) nx hit hl no fun h' e k st => ?_) (args_listiter_next _))))
  obtain ⟨o, ho, hc⟩ := st
  exact wpAny_bind (wpAny_isInstance (T := "StopIteration") (b := true) ⟨o, ho, hc⟩ isSubtype_stop (wpAny_pure (fin _ k)))
/-- a tuple's iterator that is at its end -/
theorem pyNext_tuple_hot {Q : Option Value → Shared → Prop} (hot : HotAt A x1 s.heap) (nx : x1 ≠ it) (hit : s.heap.IsTupleIter it l i) (hl : s.heap.IsTuple l its) (no : its[i]? = none)
    (fin : ∀ h', Heap.ExtBut it s.heap h' → Q none { s with heap := h' }) : wpAny (model pr w) A (pyNext (.ref it)) Q E s := by
  obtain ⟨o, ho, hc, hd⟩ := id hit
  obtain ⟨ol, hol, _, nl, hdl⟩ := hl
  unfold pyNext
  refine wpAny_bind (wpAny_attempt (wpAny_callSpecial?_slot (name := Str.ofString "__next__") hit.typeIs F.slot_tuple_iterator_next (wpAny_call_entry F.slot_tuple_iterator_next hit.typeIs F.entry_tuple_iterator_next ?_ (F.args_tuple_iterator_next_1 _))))
  show wpAny _ _ (field (.ref it) 0 >>= _) _ _ s
  refine wpAny_bind (wpAny_field ho hd (x := .ref l) rfl ?_)
  show wpAny _ _ (if (Value.ref l == Value.none) = true then _ else _) _ _ s
  rw [if_neg (fun z : (Value.ref l == Value.none) = true => Bool.false_ne_true z)]
  show wpAny _ _ (field (.ref it) 1 >>= _) _ _ s
  refine wpAny_bind (wpAny_field ho hd (x := .int i 0) rfl ?_)
  show wpAny _ _ (seqItems? (.ref l) >>= _) _ _ s
  refine wpAny_bind (wpAny_seqItems hol hdl ?_)
  simp only [Int.toNat_natCast, no]
  refine wpAny_bind (wpAny_rule (wpAny_bind (wpAny_setField ho hd (by simp) ?_)))
  refine stop_hot (x1 := x1) (HotAt.more (h := s.heap) ⟨hot.1, hot.2⟩ fun o e => (Heap.SameBut.update ..).extBut _ _ nx e) fun h' e k st => ?_
  obtain ⟨o2, ho2, hc2⟩ := st
  exact wpAny_bind (wpAny_isInstance (T := "StopIteration") (b := true) ⟨o2, ho2, hc2⟩ isSubtype_stop (wpAny_pure (fin _ fun b o nb look => k _ _ ((Heap.SameBut.update ..).extBut _ _ nb look))))
end
end PyH

-- PyH2
set_option maxRecDepth 100000
set_option maxHeartbeats 4000000
noncomputable section
namespace PyH
open PySem PySem.Spec PyProof.Rows HotX L2
section
variable {pr : Program} {w : World} {A : Around} {E : Value → Shared → Prop} {s : Shared} {x1 t : Addr} {its : Array Value}
theorem unpackItems_hot {Q : List Value → Shared → Prop} (hot : HotAt A x1 s.heap) (ht : s.heap.IsTuple t its) (fin : ∀ h', Heap.ExtBut s.heap.objs.size s.heap h' → Q its.toList { s with heap := h' }) :
    wpAny (model pr w) A (unpackItems (.ref t) its.size none) Q E s := by
  have tl : t ≠ s.heap.objs.size := by obtain ⟨o, look, _⟩ := ht; exact Nat.ne_of_lt (Heap.lt_size look)
  have xl : x1 ≠ s.heap.objs.size := by obtain ⟨_, o, vs, look, _⟩ := hot; exact Nat.ne_of_lt (Heap.lt_size look)
  unfold unpackItems
  refine wpAny_bind ?_
  unfold notIterableAtAll
  refine wpAny_bind (wpAny_specialOf ht.typeIs F.slot_tuple_iter.lookup (wpAny_pure ?_))
  simp only [Bool.false_eq_true, if_false]
  refine wpAny_bind (wpAny_holding (wpAny_pyIter_tuple ht (wpAny_bind (wpAny_holding (wpAny_draw_tuple tl its.size 0 _ _ ⟨_, Heap.get?_push_size _ rfl, rfl, rfl⟩ (ht.push _) (by omega) fun h1 i1 s1 => ?_)))))
  have all : List.take its.size (List.drop 0 its.toList) = its.toList := by rw [List.drop_zero]; exact List.take_of_length_le (by simp)
  rw [all, if_neg (by simp)]
  refine wpAny_bind (wpAny_holding (pyNext_tuple_hot (x1 := x1) ?_ xl i1 ((ht.push _).extBut s1.extBut tl) (by simp) fun h2 k2 => ?_))
  · exact HotAt.more (h := s.heap) ⟨hot.1, hot.2⟩ fun o look => s1.extBut _ _ xl (Heap.get?_push_of_some _ look)
  · simp only [Option.isSome_none, Bool.false_eq_true, if_false]
    exact wpAny_pure (fin h2 fun b o nb look => k2 b o nb (s1.extBut b o nb (Heap.get?_push_of_some _ look)))
end
section
variable {X : Cx} {pos : Pos}
/-- a, b, .. = a tuple of that length, while an exception is handled -/
theorem pg_tupH {es : List Expr} {k : Nat} {t : TGs} {n : Nat} (hot : ∀ (pins : List (Addr × Obj)) (s : Shared) (g : L2.St) (H : Hp), Inv X pins g H s → ∃ x1, HotAt X.A x1 s.heap) (h : PGs X es t)
    (hn : (assignEach es X.env).length = n := by rfl) (hst : (assignEach es X.env).findIdx? (·.1) = none := by rfl) : PG X (.Tuple es k pos) (gTup X.K n t) := by
  refine ⟨fun pins s g H v u Q I r hw => ?_⟩
  obtain ⟨a, xs, rfl, hq, hl, hw⟩ := hw
  obtain rfl : u = Value.ref a := r
  obtain ⟨its, rv, ht, hz⟩ := I.tuple hq
  obtain ⟨x1, hx⟩ := hot pins s g H I
  have len : (assignEach es X.env).length = its.toArray.size := by simp [hn, ← hl, rv.length]
  rw [arm_assign_Tuple]
  refine wpAny_bind (wpAny_standAt ?_)
  unfold unpack
  rw [len, hst]
  refine wpAny_bind (wpAny_holding (unpackItems_hot hx ht fun h' kp => ?_))
  have I1 : Inv X pins g H { s with heap := h' } := I.kept (t' := s.toks) fun b o e => kp b o (Nat.ne_of_lt (Heap.lt_size e)) e
  exact h.run pins _ g H xs _ Q I1 (by simpa using rv) hw
end
end PyH

-- PyH3
set_option maxRecDepth 100000
set_option maxHeartbeats 4000000
noncomputable section
namespace PyH
open PySem PySem.Spec PyProof.Rows HotX L2
section
variable {pr : Program} {w : World} {A : Around} {E : Value → Shared → Prop} {s : Shared} {x1 z TI TO i1 i2 l1 l2 : Addr} {k1 k2 : Nat} {xs ys : Array Value} {a b : Value}
/-- what zip's own objects change -/
abbrev But4 (z TO i1 i2 : Addr) (h h' : Heap) : Prop := ∀ c o, c ≠ z → c ≠ TO → c ≠ i1 → c ≠ i2 → h.get? c = some o → h'.get? c = some o
theorem zip_stop {Q : Fin → Shared → Prop} (hot : HotAt A x1 s.heap) (nz : x1 ≠ z) (nT : x1 ≠ TO) (n1 : x1 ≠ i1) (n2 : x1 ≠ i2) (D : ZipApart z TI TO i1 i2 l1 l2) (hz : IsZip s.heap z TI TO .none) (hTI : IsPair s.heap TI (.ref i1) (.ref i2)) (hTO : IsPair s.heap TO a b)
    (h1 : s.heap.IsListIter i1 l1 k1) (h2 : s.heap.IsListIter i2 l2 k2) (g1 : s.heap.IsList l1 xs) (g2 : s.heap.IsList l2 ys) (stop : xs[k1]? = none ∨ ys[k2]? = none)
    (fin : ∀ h' e, But4 z TO i1 i2 s.heap h' → (∃ o, h'.get? e = some o ∧ o.cls = .type "StopIteration") → E (.ref e) { s with heap := h' }) : wpAny (model pr w) A (Builtin.«zip.__next__» ⟨[.ref z], []⟩) Q E s := by
  show wpAny _ _ (field (.ref z) 2 >>= _) _ _ _
  refine wpAny_bind (wpAny_field hz rfl (x := .bool false) rfl ?_)
  show wpAny _ _ (field (.ref z) 3 >>= _) _ _ _
  refine wpAny_bind (wpAny_field hz rfl (x := .ref TI) rfl (wpAny_bind (wpAny_seqItems hTI rfl ?_)))
  show wpAny _ _ (Builtin.SmallTypes.ownedTupleIsFree (.ref z) >>= _) _ _ _
  refine wpAny_bind ?_
  unfold Builtin.SmallTypes.ownedTupleIsFree
  refine wpAny_bind (wpAny_field hz rfl (x := .none) rfl (wpAny_pure ?_))
  simp only [if_true]
  refine wpAny_bind (wpAny_rule (wpAny_bind (wpAny_field hz rfl (x := .ref TO) rfl (wpAny_bind (wpAny_setField_rec hz (by simp) fun ha za sa => ?_)))))
  replace za : IsZip ha z TI TO .ellipsis := za
  refine wpAny_bind ?_
  simp only [List.zipIdx_cons, List.zipIdx_nil, List.forIn_cons, List.forIn_nil]
  refine wpAny_bind (wpAny_bind (wpAny_onRaise ?_))
  show wpAny _ _ (Builtin.SmallTypes.nextOf (.ref i1) >>= _) _ _ _
  have hota : HotAt A x1 ha := HotAt.more hot fun o e => sa.extBut _ _ nz e
  cases hx : xs[k1]? with
  | none =>
    refine wpAny_bind (nextOf_list_hot (x1 := x1) ⟨hota.1, hota.2⟩ n1 (h1.extBut sa.extBut D.i1z) (g1.extBut sa.extBut D.l1z) hx fun hb e kb st => ?_)
    obtain ⟨oe, look, ce⟩ := st
    have zb : IsZip hb z TI TO .ellipsis := kb _ _ D.i1z.symm za
    have ez : e ≠ z := fun q => by subst q; rw [zb] at look; cases look; simp at ce
    exact wpAny_setField_rec zb (by simp) fun hc _ sc => fin hc e (fun c o c1 _ c3 _ q => sc.extBut _ _ c1 (kb _ _ c3 (sa.extBut _ _ c1 q))) ⟨oe, sc.extBut _ _ ez look, ce⟩
  | some x =>
    have hy : ys[k2]? = none := stop.resolve_left fun q => by rw [hx] at q; cases q
    refine wpAny_bind (wpAny_nextOf_list_item (h1.extBut sa.extBut D.i1z) (g1.extBut sa.extBut D.l1z) hx fun hb ib sb => wpAny_pure ?_)
    have pb : IsPair hb TO a b := sb.extBut _ _ D.TOi1 (sa.extBut _ _ D.TOz hTO)
    refine wpAny_bind (wpAny_seqItems pb rfl (wpAny_bind (wpAny_updateSeq_pair pb fun hc pc sc => ?_)))
    refine wpAny_bind (wpAny_letGo (wpAny_pure (wpAny_bind (wpAny_bind (wpAny_onRaise ?_)))))
    show wpAny _ _ (Builtin.SmallTypes.nextOf (.ref i2) >>= _) _ _ _
    have hotc : HotAt A x1 hc := HotAt.more hota fun o e => sc.extBut _ _ nT (sb.extBut _ _ n1 e)
    refine wpAny_bind (nextOf_list_hot (x1 := x1) ⟨hotc.1, hotc.2⟩ n2 (((h2.extBut sa.extBut D.i2z).extBut sb.extBut D.i12.symm).extBut sc.extBut D.TOi2.symm) (((g2.extBut sa.extBut D.l2z).extBut sb.extBut D.l2i1).extBut sc.extBut D.l2TO) hy fun hd e kd st => ?_)
    obtain ⟨oe, look, ce⟩ := st
    have zd : IsZip hd z TI TO .ellipsis := kd _ _ D.i2z.symm (sc.extBut _ _ D.TOz.symm (sb.extBut _ _ D.i1z.symm za))
    have ez : e ≠ z := fun q => by subst q; rw [zd] at look; cases look; simp at ce
    exact wpAny_setField_rec zd (by simp) fun he _ se => fin he e (fun c o c1 c2 c3 c4 q => se.extBut _ _ c1 (kd _ _ c4 (sc.extBut _ _ c2 (sb.extBut _ _ c3 (sa.extBut _ _ c1 q))))) ⟨oe, se.extBut _ _ ez look, ce⟩
theorem pyNext_zip_hot {Q : Option Value → Shared → Prop} (hot : HotAt A x1 s.heap) (nz : x1 ≠ z) (nT : x1 ≠ TO) (n1 : x1 ≠ i1) (n2 : x1 ≠ i2) (D : ZipApart z TI TO i1 i2 l1 l2) (hz : IsZip s.heap z TI TO .none) (hTI : IsPair s.heap TI (.ref i1) (.ref i2)) (hTO : IsPair s.heap TO a b)
    (h1 : s.heap.IsListIter i1 l1 k1) (h2 : s.heap.IsListIter i2 l2 k2) (g1 : s.heap.IsList l1 xs) (g2 : s.heap.IsList l2 ys) (stop : xs[k1]? = none ∨ ys[k2]? = none)
    (fin : ∀ h', But4 z TO i1 i2 s.heap h' → Q none { s with heap := h' }) : wpAny (model pr w) A (pyNext (.ref z)) Q E s := by
  have ty : s.TypeIs (.ref z) "zip" := ⟨_, hz, rfl⟩
  unfold pyNext
  refine wpAny_bind (wpAny_attempt (wpAny_callSpecial?_slot (name := Str.ofString "__next__") ty F.slot_zip_next (wpAny_call_entry F.slot_zip_next ty F.entry_zip_next (zip_stop (x1 := x1) ⟨hot.1, hot.2⟩ nz nT n1 n2 D hz hTI hTO h1 h2 g1 g2 stop fun h' e k st => ?_) (F.args_zip_next_1 _))))
  obtain ⟨o, look, ce⟩ := st
  exact wpAny_bind (wpAny_isInstance (T := "StopIteration") (b := true) ⟨o, look, ce⟩ isSubtype_stop (wpAny_pure (fin _ k)))
end
end PyH

-- PyH4
set_option maxRecDepth 100000
set_option maxHeartbeats 4000000
noncomputable section
namespace PyH
open PySem PySem.Spec PyProof.Rows HotX L2 L2H
/-- a walk's turns, in the contexts of one kind, where the heap is ready -/
structure TurnR (P : Program) (w : World) (K : PySem.W.Frag) (A : Around) (cm : Bool) (Rd : Heap → Prop) (tg : Expr) (J : It) (fp : List Addr) (it : Addr) (tn : Nat → Heap → Prop) : Prop where
  obj : ∀ i h, tn i h → ∀ b ∈ fp, ∃ o, h.get? b = some o ∧ ∀ v, o.data ≠ .cell v
  keep : ∀ i h h', tn i h → (∀ b ∈ fp, ∀ o, h.get? b = some o → h'.get? b = some o) → tn i h'
  item : ∀ (X : Cx), X.prog = P → X.w = w → X.K = K → X.A = A → X.calm = cm → ∀ (i : Nat) (pins : List (Addr × Obj)) (s : Shared) (g : L2.St) (H : Hp) (E : Value → Shared → Prop), Rd s.heap → Inv X pins g H s → (∀ b ∈ fp, FpOk X pins H b) → tn i s.heap → J.go i H →
    wpAny (model P w) A (pyNext (.ref it)) (fun r s1 => ∃ u, r = some u ∧ wpAny (model P w) A (letOwnedTupleGo tg (.ref it) u) (fun _ s2 => ∃ x H', Inv X pins g H' s2 ∧ RelV x u ∧ J.yld i H x H' ∧ tn (i + 1) s2.heap ∧ ∀ b ∈ fp, H' b = none) E s1) E s
  done : ∀ (X : Cx), X.prog = P → X.w = w → X.K = K → X.A = A → X.calm = cm → ∀ (i : Nat) (pins : List (Addr × Obj)) (s : Shared) (g : L2.St) (H : Hp) (E : Value → Shared → Prop), Rd s.heap → Inv X pins g H s → (∀ b ∈ fp, FpOk X pins H b) → tn i s.heap → J.stop i H →
    wpAny (model P w) A (pyNext (.ref it)) (fun r s1 => r = none ∧ Inv X pins g H s1) E s
  self : ∀ (i : Nat) (s : Shared) (Q : Value → Shared → Prop) (E : Value → Shared → Prop), tn i s.heap → Q (.ref it) s → wpAny (model P w) A (pyIter (.ref it)) Q E s
theorem TurnR.calm {P : Program} {w : World} {K : PySem.W.Frag} {A : Around} {tg : Expr} {J : It} {fp : List Addr} {it : Addr} {tn : Nat → Heap → Prop} (T : Turn P w K tg J fp it tn) : TurnR P w K A true (fun _ => True) tg J fp it tn where
  obj := T.obj
  keep := T.keep
  item := fun X h1 h2 h3 h4 h5 i pins s g H E _ I f st go => by subst h4; exact T.item X h1 h2 h3 h5 i pins s g H E I f st go
  done := fun X h1 h2 h3 h4 h5 i pins s g H E _ I f st go => by subst h4; exact T.done X h1 h2 h3 h5 i pins s g H E I f st go
  self := fun i s Q E => T.self A i s Q E
/-- what a comprehension walks -/
structure PIR (X : Cx) (Rd : Heap → Prop) (tg iter : Expr) (wi : TI) : Prop where
  run : ∀ (pins : List (Addr × Obj)) (s : Shared) (g : L2.St) (H : Hp) (R : It → Hp → Prop), Inv X pins g H s → wi g H R → wpAny (model X.prog X.w) X.A (eval iter X.env) (fun v s1 => wpAny (model X.prog X.w) X.A (pyIter v) (fun itv s2 =>
    ∃ (it : Addr) (fp : List Addr) (tn : Nat → Heap → Prop) (J : It) (H' : Hp), itv = .ref it ∧ Inv X pins g H' s2 ∧ TurnR X.prog X.w X.K X.A X.calm Rd tg J fp it tn ∧ tn 0 s2.heap ∧ (∀ b ∈ fp, FpOk X pins H' b) ∧ R J H') X.xe s1) X.xe s
theorem PIR.calm {X : Cx} {tg iter : Expr} {wi : TI} (hc : X.calm = true) (h : PI X tg iter wi) : PIR X (fun _ => True) tg iter wi := ⟨fun pins s g H R I q => by
  refine thn (h.run pins s g H R I q) fun v s1 h1 => thn h1 fun itv s2 ⟨it, fp, tn, J, H2, e, I2, T, st, f, r⟩ => ⟨it, fp, tn, J, H2, e, I2, ?_, st, f, r⟩
  rw [hc]
  exact TurnR.calm T⟩
/-- the heap stays ready within the comprehension's own frame -/
def Stays (X : Cx) (Rd : Heap → Prop) : Prop := ∀ (pins : List (Addr × Obj)) (s s' : Shared) (g : L2.St) (H H' : Hp) (fp : List Addr), Inv X pins g H s → (∀ b ∈ fp, FpOk X pins H b) → Un (frs X.stack) fp H H' s.heap s'.heap → Rd s'.heap
theorem stays_true {X : Cx} : Stays X fun _ => True := fun _ _ _ _ _ _ _ _ _ _ => trivial
theorem stays_hot {X : Cx} {p : Addr × Obj} (hp : p ∈ X.pn) (hot : Hot1 X.A p) (ns : p.1 ∉ frs X.stack) : Stays X fun h => ∃ x1, x1 = p.1 ∧ HotAt X.A x1 h := fun pins s s' g H H' fp I f un => by
  obtain ⟨hh, vs, e1, c1⟩ := hot
  obtain ⟨look, nH, _⟩ := I.pin p (List.mem_append_left _ hp)
  exact ⟨p.1, rfl, hh, p.2, vs, un.keep _ _ look nH ns fun z => (f _ z).2.2.2.2.2 p (List.mem_append_left _ hp) rfl, e1, c1⟩
/-- zip of two lists, while the exception at x1 is handled -/
theorem turn_zipR {P : Program} {w : World} {K : PySem.W.Frag} {A : Around} {elts : List Expr} {kk : Nat} {tpos : Pos} {a b z TI TO i1 i2 y1 : Addr} (D : ZipApart z TI TO i1 i2 a b) (ny : ∀ c ∈ [z, TI, TO, i1, i2], y1 ≠ c) :
    TurnR P w K A false (fun h => ∃ x1, x1 = y1 ∧ HotAt A x1 h) (.Tuple elts kk tpos) (Itz K a b) [z, TI, TO, i1, i2] z (fun i h => IsZip h z TI TO .none ∧ IsPair h TI (.ref i1) (.ref i2) ∧ (∃ x y, IsPair h TO x y) ∧ h.IsListIter i1 a i ∧ h.IsListIter i2 b i) where
  obj := fun i h st c hc => by
    obtain ⟨hz, hTI, ⟨x, y, hTO⟩, ⟨o1, e1, _, d1⟩, ⟨o2, e2, _, d2⟩⟩ := st
    have cases5 : c = z ∨ c = TI ∨ c = TO ∨ c = i1 ∨ c = i2 := by simpa using hc
    rcases cases5 with rfl | rfl | rfl | rfl | rfl
    · exact ⟨_, hz, fun v q => nomatch q⟩
    · exact ⟨_, hTI, fun v q => nomatch q⟩
    · exact ⟨_, hTO, fun v q => nomatch q⟩
    · exact ⟨o1, e1, fun v q => by rw [d1] at q; cases q⟩
    · exact ⟨o2, e2, fun v q => by rw [d2] at q; cases q⟩
  keep := fun i h h' st k => by
    obtain ⟨hz, hTI, ⟨x, y, hTO⟩, h1, h2⟩ := st
    exact ⟨k z (by simp) _ hz, k TI (by simp) _ hTI, ⟨x, y, k TO (by simp) _ hTO⟩, h1.at fun o => k i1 (by simp) o, h2.at fun o => k i2 (by simp) o⟩
  item := by
    intro X e1 e2 e3 e4 _ i pins s g H E _ I f st go
    subst e1 e2 e3 e4
    obtain ⟨hz, hTI, ⟨x0, y0, hTO⟩, h1, h2⟩ := st
    obtain ⟨xs, ys, x, y, qx, qy, hx, hy⟩ := go
    obtain ⟨its, rv, p, _⟩ := I.list qx
    obtain ⟨its2, rv2, p2, _⟩ := I.list qy
    obtain ⟨u, hu, ru⟩ := rv.get hx
    obtain ⟨u2, hu2, ru2⟩ := rv2.get hy
    have zl : z < s.heap.objs.size := Heap.lt_size hz
    refine wpAny_pyNext_zip_item D hz hTI hTO h1 h2 p.isList p2.isList (x := u) (y := u2) (by simpa using hu) (by simpa using hu2) fun ha za TOa h1a h2a hT _ k => ⟨_, rfl, wpAny_letOwnedTupleGo_zip (s := { s with heap := ha }) za fun hb zb sb => ?_⟩
    have TT : hb.get? s.heap.objs.size = some { cls := .type "tuple", data := .seq #[u, u2] } := (sb.2 _ (Nat.ne_of_gt zl)).trans hT
    have ok : ObjOk X.prog X.w (upd H s.heap.objs.size (.tup [x, y])) hb s.heap.objs.size (.tup [x, y]) := ⟨by show 2 ≤ sizeLine; decide, [u, u2], .cons ru (.cons ru2 .nil), ⟨_, TT, rfl, _, rfl⟩⟩
    have all : ∀ c o, c ∉ [z, TI, TO, i1, i2] → s.heap.get? c = some o → hb.get? c = some o := fun c o nb q => by
      have m : ∀ d ∈ [z, TI, TO, i1, i2], c ≠ d := fun d hd e => nb (e ▸ hd)
      exact (sb.2 c (m z (by simp))).trans (k c o (m z (by simp)) (m TO (by simp)) (m i1 (by simp)) (m i2 (by simp)) q)
    have I1 : Inv X pins g (upd H s.heap.objs.size (.tup [x, y])) { s with heap := hb } := I.turnedNew (t' := s.toks) (ch := [z, TI, TO, i1, i2]) all f (Nat.le_refl _) ok
    have old : ∀ c ∈ [z, TI, TO, i1, i2], c < s.heap.objs.size := fun c hc => by
      have cases5 : c = z ∨ c = TI ∨ c = TO ∨ c = i1 ∨ c = i2 := by simpa using hc
      rcases cases5 with rfl | rfl | rfl | rfl | rfl
      · exact zl
      · exact Heap.lt_size hTI
      · exact Heap.lt_size hTO
      · obtain ⟨_, q, _⟩ := h1; exact Heap.lt_size q
      · obtain ⟨_, q, _⟩ := h2; exact Heap.lt_size q
    refine ⟨.ref s.heap.objs.size, _, I1, rfl, ⟨_, x, y, rfl, I.hok.fresh (Nat.le_refl _), rfl, fun l hl => by rw [I.list_inj hl qx]; exact hx, fun l hl => by rw [I.list_inj hl qy]; exact hy⟩, ⟨zb, ?_, ⟨u, u2, (sb.2 _ D.TOz).trans TOa⟩, h1a.at fun o q => (sb.2 _ D.i1z).trans q, h2a.at fun o q => (sb.2 _ D.i2z).trans q⟩, fun c hc => by rw [upd_ne (Nat.ne_of_lt (old c hc))]; exact (f c hc).1⟩
    exact (sb.2 _ D.TIz).trans (k _ _ D.TIz D.TITO D.TIi1 D.TIi2 hTI)
  done := by
    intro X e1 e2 e3 e4 _ i pins s g H E rd I f st stop
    subst e1 e2 e3 e4
    obtain ⟨_, rfl, hot⟩ := rd
    obtain ⟨hz, hTI, ⟨x0, y0, hTO⟩, h1, h2⟩ := st
    obtain ⟨xs, ys, qx, qy, fin⟩ := stop
    obtain ⟨its, rv, p, _⟩ := I.list qx
    obtain ⟨its2, rv2, p2, _⟩ := I.list qy
    have l1 := rv.length
    have l2 := rv2.length
    refine pyNext_zip_hot hot (ny z (by simp)) (ny TO (by simp)) (ny i1 (by simp)) (ny i2 (by simp)) D hz hTI hTO h1 h2 p.isList p2.isList (fin.imp (fun q => by simp; omega) fun q => by simp; omega) fun h' k => ⟨rfl, ?_⟩
    refine I.turnedL (t' := s.toks) (ch := [z, TI, TO, i1, i2]) (fun c o nb q => ?_) f
    have m : ∀ d ∈ [z, TI, TO, i1, i2], c ≠ d := fun d hd e => nb (e ▸ hd)
    exact k c o (m z (by simp)) (m TO (by simp)) (m i1 (by simp)) (m i2 (by simp)) q
  self := fun i s Q E st h => wpAny_pyIter_zip st.1 h
theorem pi_zipR {X : Cx} {p0 : Addr × Obj} {e e2 : Expr} {ta : TA} {p pos tpos : Pos} {elts : List Expr} {kk : Nat} (hp : p0 ∈ X.pn) (hc : X.calm = false) (hg : Gl X "zip") (hm : X.mg "zip" = none) (ha : PA X [e, e2] ta)
    (hs : starEach [e, e2] X.env = (false, eval e X.env) :: starEach [e2] X.env := by rfl) (hpl : (backTo pos (starEach [e2] X.env)).any (·.1) = false := by rfl) :
    PIR X (fun h => ∃ x1, x1 = p0.1 ∧ HotAt X.A x1 h) (.Tuple elts kk tpos) (.Call (.Name "zip" p) [e, e2] [] pos) (iZip X.K ta) := by
  refine ⟨fun pins s g H R I h => Call_ (ld_blt I hg hm boot_zip (callWith_type1 (thn (ha.run pos pins s g H _ I h) fun us s1 ⟨vs, H1, I1, r1, q1⟩ => ?_) hs hpl))⟩
  obtain ⟨a, b, xs, ys, ex, qx, qy, q⟩ := q1
  subst ex
  cases r1 with
  | cons r rr =>
    cases rr with
    | cons r' rr =>
      cases rr
      cases r
      cases r'
      obtain ⟨its, rv, p1, _⟩ := I1.list qx
      obtain ⟨its2, rv2, p2, _⟩ := I1.list qy
      refine call_zip_2 p1.isList p2.isList fun h' hz hTI hTO h1 h2 hsz hk => wpAny_pyIter_zip hz ?_
      have new : ∀ c ∈ [s1.heap.objs.size + 4, s1.heap.objs.size + 2, s1.heap.objs.size + 3, s1.heap.objs.size, s1.heap.objs.size + 1], s1.heap.objs.size ≤ c := fun c hc => by
        have cases5 : c = s1.heap.objs.size + 4 ∨ c = s1.heap.objs.size + 2 ∨ c = s1.heap.objs.size + 3 ∨ c = s1.heap.objs.size ∨ c = s1.heap.objs.size + 1 := by simpa using hc
        omega
      have I2 : Inv X pins g H1 { s1 with heap := h' } := I1.kept (t' := s1.toks) hk
      have old : p0.1 < s1.heap.objs.size := Heap.lt_size (I1.pin p0 (List.mem_append_left _ hp)).1
      have T := turn_zipR (P := X.prog) (w := X.w) (K := X.K) (A := X.A) (elts := elts) (kk := kk) (tpos := tpos) (PySem.W.ktu_apart s1.heap.objs.size a b p1.lt p2.lt) fun c hc => Nat.ne_of_lt (Nat.lt_of_lt_of_le old (new c hc))
      rw [← hc] at T
      exact ⟨_, _, _, _, H1, rfl, I2, T, ⟨hz, hTI, ⟨_, _, hTO⟩, h1, h2⟩, fun c hcm => I1.fpOk (new c hcm) (I1.hok.fresh (new c hcm)), q⟩
end PyH

-- PyH5
set_option maxRecDepth 100000
set_option maxHeartbeats 4000000
noncomputable section
namespace PyH
open PySem PySem.Spec PyProof.Rows HotX L2 L2H
section
variable {X : Cx} {Rd : Heap → Prop} {elt tg iter : Expr} {ifs : List Expr} {scope : Scope} {own : List (Str × Nat)} {pos : Pos} {wi : TI} {tgt : TG} {tt : TT} {te : TE}
/-- [e for t in .. if c], in any context, what is known of the maker's frame at hand within -/
theorem pe_lcR (hN : X.N.Nodup) (stays : Stays X Rd) (hi : PIR X Rd tg iter wi) (ok : BlkOk X.N X.env.scope scope own)
    (hg : ∀ (pins : List (Addr × Obj)) (g : L2.St) (s : Shared) (H : Hp) (C : Addr) (cl : List (Str × Addr)) (fp : List Addr), Inv X pins g H s → (∀ b ∈ fp, FpOk X pins H b) → PG (X.blk s H scope (compEnvC scope cl C X.env) fp) tg tgt)
    (ht : ∀ (pins : List (Addr × Obj)) (g : L2.St) (s : Shared) (H : Hp) (C : Addr) (cl : List (Str × Addr)) (fp : List Addr), Inv X pins g H s → (∀ b ∈ fp, FpOk X pins H b) → PTs (X.blk s H scope (compEnvC scope cl C X.env) fp) ifs tt)
    (he : ∀ (pins : List (Addr × Obj)) (g : L2.St) (s : Shared) (H : Hp) (C : Addr) (cl : List (Str × Addr)) (fp : List Addr), Inv X pins g H s → (∀ b ∈ fp, FpOk X pins H b) →
      PE (X.blk s H scope (compEnvC scope cl C X.env) fp) elt (fun r H Q => L2.wipe r (own.map (·.2)) = L2.wipe g (own.map (·.2)) ∧ te r H Q)) (hs : ∀ x, foldedSetIterable iter X.env x = pure x := by intro _; rfl) :
    PE X (.ListComp elt [⟨tg, iter, ifs, 0⟩] scope pos) (tLc wi tgt tt te (own.map (·.2))) := by
  refine ⟨fun pins s g H Q I run => ?_⟩
  have fr : ∀ y ∈ scope.names, y.2 = .free → ∃ c, X.env.cells.lookup y.1 = some c := fun y hy e => (ok.free y hy e).elim (fun k => I.ok.has _ (.inl k)) fun k => I.ok.has _ (.inr k)
  rw [arm_eval_ListComp]
  refine wpAny_comprehension_free (use := none) rfl hs (closure_ok fr) ok.kind (fun y hy e => by rw [ok.uniq y hy, e]) (thn (hi.run pins s g H _ I run) fun _ s1 h1 => thn h1 fun _ s2 h2 => ?_)
  obtain ⟨it, fp, tn, J, Ha, rfl, Ia, T, sta, fa, q⟩ := h2
  refine wpAny_newObj_type (newEnv_comp ?_) (by show 0 ≤ sizeLine; decide)
  obtain ⟨W, ⟨m0, w0⟩, turn⟩ := q s2.heap.objs.size (Ia.hok.fresh (Nat.le_refl _))
  generalize eL : s2.heap.objs.size = L at w0 turn ⊢
  -- the list, empty
  generalize eb : ({ s2 with heap := s2.heap.push { cls := .type "list", data := .seq ([] : List Value).toArray } } : Shared) = sb
  have hb : sb.heap = s2.heap.push { cls := .type "list", data := .seq ([] : List Value).toArray } := by rw [← eb]
  have Ib : Inv X pins g (upd Ha L (.lst [])) sb := by
    rw [← eb]
    exact Ia.laid (t' := s2.toks) (fun b o e => Heap.get?_push_of_some _ e) (Nat.le_of_eq eL) ⟨Nat.zero_le _, [], 0, .nil, by rw [← eL]; exact Heap.get?_push_size _ rfl⟩
  have lt2 : ∀ b ∈ fp, b < s2.heap.objs.size := fun b m => by obtain ⟨o, e, _⟩ := T.obj _ _ sta b m; exact Heap.lt_size e
  have fb : ∀ b ∈ fp, FpOk X pins (upd Ha L (.lst [])) b ∧ b < sb.heap.objs.size := fun b m =>
    ⟨⟨by rw [upd_ne (by rw [← eL]; exact Nat.ne_of_lt (lt2 b m))]; exact (fa b m).1, (fa b m).2⟩, by rw [hb, Heap.size_push]; exact Nat.lt_succ_of_lt (lt2 b m)⟩
  have fb1 : ∀ b ∈ fp, FpOk X pins (upd Ha L (.lst [])) b := fun b m => (fb b m).1
  have stb : tn 0 sb.heap := T.keep _ _ _ sta fun b _ o e => by rw [hb]; exact Heap.get?_push_of_some _ e
  have Ic := block_start Ib ok hN fb
  have pg := hg pins g sb (upd Ha L (.lst [])) sb.heap.objs.size (cellsFrom (sb.heap.objs.size + 1) scope.names (cloFrom X.env.cells scope.names [])) fp Ib fb1
  have pt := ht pins g sb (upd Ha L (.lst [])) sb.heap.objs.size (cellsFrom (sb.heap.objs.size + 1) scope.names (cloFrom X.env.cells scope.names [])) fp Ib fb1
  have pe := he pins g sb (upd Ha L (.lst [])) sb.heap.objs.size (cellsFrom (sb.heap.objs.size + 1) scope.names (cloFrom X.env.cells scope.names [])) fp Ib fb1
  show codeAny _ _ (.compStart (.ListComp elt [⟨tg, iter, ifs, 0⟩] scope pos) 0 (.ref it) (.ref L) (compEnvC scope (cellsFrom (sb.heap.objs.size + 1) scope.names (cloFrom X.env.cells scope.names [])) sb.heap.objs.size X.env))
    (compPost (model X.prog X.w) X.A X.xe none (EP X pins g Q) (.ref L) sb.heap.objs.size) { sb with heap := pushCells (sb.heap.push { cls := .type "dict", data := .dict #[] }) scope.names }
  generalize ec : compEnvC scope (cellsFrom (sb.heap.objs.size + 1) scope.names (cloFrom X.env.cells scope.names [])) sb.heap.objs.size X.env = ce at Ic pg pt pe ⊢
  have locC : ce.locals = sb.heap.objs.size := by subst ec; rfl
  generalize eH : upd Ha L (.lst []) = Hb at Ib Ic pg pt pe w0 fb fb1
  generalize ed : ({ sb with heap := pushCells (sb.heap.push { cls := .type "dict", data := .dict #[] }) scope.names } : Shared) = sc at Ic ⊢
  have stc : tn 0 sc.heap := T.keep _ _ _ stb fun b _ o e => by rw [← ed]; exact pushCells_keeps _ _ _ _ (Heap.get?_push_of_some _ e)
  have rd : ∀ {ps : List (Addr × Obj)} {r : L2.St} {H' : Hp} {s' : Shared}, Inv (X.blk sb Hb scope ce fp) ps r H' s' → Rd s'.heap := fun {ps r H' s'} I' => stays pins sb s' g Hb H' fp Ib fb1 I'.base
  have own' : ∀ {r : L2.St} {H' : Hp} {s' : Shared}, Inv (X.blk sb Hb scope ce fp) [] r H' s' → (∀ b ∈ fp, H' b = none) → ∀ b ∈ fp, FpOk (X.blk sb Hb scope ce fp) [] H' b := fun {r H' s'} I' no b m =>
    ⟨no b m, (I'.ok.exf b m).1, I'.ok.exfs b m, .inl m, fun x c e => (I'.ok.exf b m).2 x c e, fun p hp => absurd (show p ∈ ([] : List (Addr × Obj)) ++ [] from hp) (by simp)⟩
  have loop : codeAny (model X.prog X.w) X.A (.compLoop (.ListComp elt [⟨tg, iter, ifs, 0⟩] scope pos) 0 (.ref it) (.ref L) ce) (compPost (model X.prog X.w) X.A X.xe none (EP X pins g Q) (.ref L) sb.heap.objs.size) sc := by
    refine compLoop_any (fun n s' => ∃ i H', Inv (X.blk sb Hb scope ce fp) [] (L2.wipe g (own.map (·.2))) H' s' ∧ tn i s'.heap ∧ (∀ b ∈ fp, H' b = none) ∧ W i n H') ?_ m0 ⟨0, Hb, Ic, stc, fun b m => (fb1 b m).1, w0⟩
    rintro n s5 ⟨i, H5, I5, st5, n5, w5⟩
    rcases turn i n H5 w5 with ⟨stop, qq⟩ | ⟨go, Nx, hNx, step⟩
    · refine thnF (T.done (X.blk sb Hb scope ce fp) rfl rfl rfl rfl rfl i [] s5 _ H5 (fun _ _ => False) (rd I5) I5 (own' I5 n5) st5 stop) fun _ s6 ⟨e, I6⟩ => ?_
      subst e
      have I7 : Inv X pins g H5 s6 := Ib.call' (ch := fp) I6.os I6.base I6.hok I6.bare fun b m => ⟨(fb1 b m).2.2.2.1, (fb1 b m).2.1, (fb1 b m).2.2.2.2.1, (fb1 b m).2.2.2.2.2⟩
      have nC : H5 sb.heap.objs.size = none := by have z : H5 ce.locals = none := I6.free; rw [locC] at z; exact z
      obtain ⟨m, ns, _⟩ := I6.loc
      have ns : s6.heap.Ns ce.locals m := ns
      rw [locC] at ns
      obtain ⟨f0, f1, f2, f3, f4, f5⟩ := Ib.fpOk (Nat.le_refl _) nC
      exact ⟨m, ns, fun h3 sb3 => ⟨.ref L, H5, I7.turned (t' := s6.toks) (fun b o nb e => (sb3.2 b nb).trans e) f0 f1 f3 f4 f5, rfl, qq⟩⟩
    · refine thnF (T.item (X.blk sb Hb scope ce fp) rfl rfl rfl rfl rfl i [] s5 _ H5 (fun _ _ => False) (rd I5) I5 (own' I5 n5) st5 go) fun _ s6 ⟨u, e, h6⟩ => ?_
      subst e
      refine thnF h6 fun _ s7 ⟨x, H7, I7, r7, y7, st7, n7⟩ => ?_
      have I7' := I7.pinned (own' I7 n7) (T.obj _ _ st7)
      refine thnF (pg.run _ s7 _ H7 x u _ I7' r7 (step x H7 y7)) fun _ s8 ⟨g8, H8, I8, w8, q8⟩ => thnF (pt.run _ s8 g8 H8 _ I8 q8) fun b s9 ⟨H9, I9, q9⟩ => ?_
      have fin : ∀ {s' : Shared} {H' : Hp}, Inv (X.blk sb Hb scope ce fp) ([] ++ pinsAt fp s7.heap) g8 H' s' → Nx H' → ∃ m, m < n ∧ ∃ i H', Inv (X.blk sb Hb scope ce fp) [] (L2.wipe g (own.map (·.2))) H' s' ∧ tn i s'.heap ∧ (∀ b ∈ fp, H' b = none) ∧ W i m H' := fun {s' H'} I' nx => by
        obtain ⟨m', lm, wn⟩ := hNx H' nx
        have at7 : ∀ b ∈ fp, ∀ o, s7.heap.get? b = some o → s'.heap.get? b = some o ∧ H' b = none := fun b m o e => by
          have z := I'.pin (b, o) (List.mem_append_right _ (List.mem_append_right _ (mem_pinsAt m e)))
          exact ⟨z.1, z.2.1⟩
        refine ⟨m', lm, i + 1, H', (I'.unpinned (pins := [])).weak (by rw [← w8, wipe_length]) (fun j v e => by rw [← w8] at e; exact (wipe_some e).1), T.keep _ _ _ st7 fun b m o e => (at7 b m o e).1, fun b m => ?_, wn⟩
        obtain ⟨o, e, _⟩ := T.obj _ _ st7 b m
        exact (at7 b m o e).2
      cases b with
      | false =>
        simp only [Bool.false_eq_true, if_false] at q9 ⊢
        exact fin I9 q9
      | true =>
        simp only [if_true] at q9 ⊢
        have w8' : L2.wipe g8 (own.map (·.2)) = L2.wipe g (own.map (·.2)) := w8
        refine thnF (pe.run _ s9 g8 H9 _ I9 ⟨w8', q9⟩) fun z s10 ⟨v, H10, I10, r10, acc, hD, hz, nx⟩ => ?_
        exact app_ok (X := X.blk sb Hb scope ce fp) I10 hD hz r10 fun s11 I11 => fin I11 nx
  exact codeAny_compStart_list loop (T.self 0 _ _ _ stc loop)
end
end PyH

-- PyL1
set_option maxRecDepth 100000
set_option maxHeartbeats 4000000
noncomputable section
namespace PyL
open PySem PySem.Spec PyProof.Rows L2 PyD
/-! ### an exception that stands in the context's pins -/
section
variable {X : Cx} {c : Cfg} {p : Addr × Obj} {C0 : Addr} {z : Option (Addr × Str)} {cls : Str}
/-- what is known of it -/
structure ExAt (X : Cx) (c : Cfg) (p : Addr × Obj) (C0 : Addr) (z : Option (Addr × Str)) (cls : Str) : Prop where
  only : ∀ cl a y, c.K.exn cl a y → cl = cls ∧ a = p.1 ∧ y = z
  pin : p ∈ X.pn
  cl : ExcC X.K C0
  zc : Zc (.ref C0) (z.map (·.1)) p.2
  fl : ∃ vs, p.2.data = .fields vs
theorem ExAt.inst {pins : List (Addr × Obj)} {g : L2.St} {H : Hp} {s : Shared} {io : List Addr} {v : V} (h : ExAt X c p C0 z cls) (I : Inv X pins g H s) {cl : Str} {ds : List D} (r : R c.K H io (.exn cl ds) v) :
    v = .ref p.1 ∧ ∃ od, PySem.W.InstAt s.heap p.1 p.2 C0 od ∧ ∀ d, ds = [d] → ∃ (f : Str) (o : Obj) (u : V) (w : Value), (∃ dx, z = some (dx, f)) ∧ od = some o ∧ PySem.W.lookIn f o = some (some w) ∧ RelV u w ∧ R c.K H io d u := by
  obtain ⟨look, _⟩ := I.pin p (List.mem_append_left _ h.pin)
  obtain ⟨vs, hd⟩ := h.fl
  obtain ⟨z1, z2⟩ := h.zc
  have nc : PySem.W.notCls p.2 = true := by unfold PySem.W.notCls; rw [hd]
  cases r with
  | exn0 e =>
    obtain ⟨_, rfl, rfl⟩ := h.only _ _ _ e
    exact ⟨rfl, none, ⟨look, z1, nc, by rw [z2]; exact trivial⟩, fun d e => by cases e⟩
  | @exn1 _ f _ dx d u e hx rd =>
    obtain ⟨_, ea, ez⟩ := h.only _ _ _ e
    subst ea
    obtain ⟨mA, hns, hr⟩ := (show ObjOk X.prog X.w H s.heap dx (.xd [(f, u)]) from I.hok _ _ hx)
    obtain ⟨od, ho, hl⟩ := lookIn_ns hns
    obtain ⟨w, hw, rw'⟩ := RelO.some_of (v := u) (o := mA f) (by have q := hr f; simpa using q)
    refine ⟨rfl, some od, ⟨look, z1, nc, by rw [z2, ← ez]; exact ho⟩, fun d' e' => ?_⟩
    cases e'
    exact ⟨f, od, u, w, ⟨dx, ez.symm⟩, rfl, by rw [hl, hw], rw', rd⟩
/-- isinstance(e, C) -/
def isExD (b : Bool) (d : D) (M : Sto) : Option (D × Sto) :=
  match d with
  | .exn _ _ => some (.bl b, M)
  | _ => none
theorem de_isex {CA : Addr} {b : Bool} {e : Expr} {f : Den D} {x : Str} {p1 p2 pos : Pos} (hK : X.K = c.K.f) (h : ExAt X c p C0 z cls) (hg : Gl X "isinstance") (hm : X.mg "isinstance" = none) (hgx : Gl X x) (hmx : X.mg x = some (.ref CA)) (hk : PySem.W.kitOne X.K (.ref C0) (.ref CA) = some b)
    (he : PE X e (sE c f)) (hd : (x == ("__debug__" : Str)) = false := by decide) (hst : starEach [e, .Name x p2] X.env = (false, eval e X.env) :: starEach [.Name x p2] X.env := by rfl) (hst2 : starEach [.Name x p2] X.env = (false, eval (.Name x p2) X.env) :: starEach [] X.env := by rfl)
    (hpl : (backTo pos (starEach [.Name x p2] X.env)).any (·.1) = false := by rfl) : PE X (.Call (.Name "isinstance" p1) [e, .Name x p2] [] pos) (sE c (op1 (isExD b) f)) := by
  have cl : (PySem.W.clsIn X.K C0).isSome = true := by
    obtain ⟨cd, q, _⟩ := PySem.W.any_some h.cl.hd
    rw [q]
    rfl
  refine PE.imp (pe_callB (r := fun xs H Q => ∃ (M : Sto) (io : List Addr) (cl : Str) (ds : List D) (v : V), xs = [v, .ref CA] ∧ R c.K H io (.exn cl ds) v ∧ Q (.bl b) H) ?_ hg hm boot_isinstance (pa_cons he (pa_cons (pe_glob (v := .ref CA) hgx hmx rfl hd) pa_nil hst2) hst) (by decide) (by decide) hst hpl) fun g H Q s => ?_
  · intro pins s g H xs us Q I r q
    obtain ⟨M, io, cl', ds, v, rfl, rd, q⟩ := q
    obtain ⟨rfl, od, J, _⟩ := h.inst I rd
    cases r with
    | cons r1 r2 =>
      cases r2 with
      | cons r2 r3 =>
        cases r3
        cases r1
        cases r2
        exact PySem.W.kia_one (PySem.W.kitx_exc (od := od) cl h.cl.hg h.cl.hk h.cl.hs h.cl.ha h.cl.hn h.cl.ht h.cl.hm) I.kIn J hk (fun z => nomatch z) fun tk => ⟨.bl b, H, I.kept (t' := tk) fun _ _ z => z, rfl, q⟩
  · refine sG.bind s fun d x r M1 io1 H1 re rs ra run => ?_
    obtain ⟨y, M3, eq, k⟩ := run.lift
    unfold isExD at eq
    split at eq
    · cases eq
      exact ⟨M1, io1, _, _, x, rfl, ra, k.ok Ext.refl rs (.bl _)⟩
    · cases eq
theorem de_isexT {T0 : String} {b : Bool} {e : Expr} {f : Den D} {x : Str} {p1 p2 pos : Pos} (hK : X.K = c.K.f) (h : ExAt X c p C0 z cls) (hg : Gl X "isinstance") (hm : X.mg "isinstance" = none) (hgx : Gl X x) (hmx : X.mg x = none) (hbx : bootBuiltins x = some (.type T0)) (hk : PySem.W.kitOne X.K (.ref C0) (.type T0) = some b)
    (he : PE X e (sE c f)) (hn0 : x ≠ "__name__" := by decide) (hd : (x == ("__debug__" : Str)) = false := by decide) (hst : starEach [e, .Name x p2] X.env = (false, eval e X.env) :: starEach [.Name x p2] X.env := by rfl) (hst2 : starEach [.Name x p2] X.env = (false, eval (.Name x p2) X.env) :: starEach [] X.env := by rfl)
    (hpl : (backTo pos (starEach [.Name x p2] X.env)).any (·.1) = false := by rfl) : PE X (.Call (.Name "isinstance" p1) [e, .Name x p2] [] pos) (sE c (op1 (isExD b) f)) := by
  have cl : (PySem.W.clsIn X.K C0).isSome = true := by
    obtain ⟨cd, q, _⟩ := PySem.W.any_some h.cl.hd
    rw [q]
    rfl
  refine PE.imp (pe_callB (r := fun xs H Q => ∃ (M : Sto) (io : List Addr) (cl : Str) (ds : List D) (v : V), xs = [v, .ty T0] ∧ R c.K H io (.exn cl ds) v ∧ Q (.bl b) H) ?_ hg hm boot_isinstance (pa_cons he (pa_cons (pe_bltn (v := .ty T0) hgx hmx hbx rfl hn0 hd) pa_nil hst2) hst) (by decide) (by decide) hst hpl) fun g H Q s => ?_
  · intro pins s g H xs us Q I r q
    obtain ⟨M, io, cl', ds, v, rfl, rd, q⟩ := q
    obtain ⟨rfl, od, J, _⟩ := h.inst I rd
    cases r with
    | cons r1 r2 =>
      cases r2 with
      | cons r2 r3 =>
        cases r3
        cases r1
        cases r2
        exact PySem.W.kia_one (PySem.W.kitx_exc (od := od) cl h.cl.hg h.cl.hk h.cl.hs h.cl.ha h.cl.hn h.cl.ht h.cl.hm) I.kIn J hk (fun z => nomatch z) fun tk => ⟨.bl b, H, I.kept (t' := tk) fun _ _ z => z, rfl, q⟩
  · refine sG.bind s fun d x r M1 io1 H1 re rs ra run => ?_
    obtain ⟨y, M3, eq, k⟩ := run.lift
    unfold isExD at eq
    split at eq
    · cases eq
      exact ⟨M1, io1, _, _, x, rfl, ra, k.ok Ext.refl rs (.bl _)⟩
    · cases eq
/-- e.f -/
def fldD (d : D) (M : Sto) : Option (D × Sto) :=
  match d with
  | .exn _ [v] => some (v, M)
  | _ => none
theorem pe_fldX {e : Expr} {te : TE} {pos : Pos} {n : Str} (h : ExAt X c p C0 z cls) (T : XfC X.K C0) (hno : PySem.W.findIn X.K (.ref C0) n = some none) (hn : ∀ dx f, z = some (dx, f) → f = n) (he : PE X e te) (hb : attributeBase e n X.env (eval e X.env) = eval e X.env := by rfl) :
    PE X (.Attribute e n pos) (fun g H Q => te g H fun x H1 => ∃ (io : List Addr) (cl : Str) (d : D), R c.K H1 io (.exn cl [d]) x ∧ ∀ v, R c.K H1 io d v → Q v H1) := by
  refine ⟨fun pins s g H Q I q => attr_of hb (thn (he.run pins s g H _ I q) fun u s1 hh => ?_)⟩
  obtain ⟨x, H1, I1, rx, io, cl, d, rd, q⟩ := hh
  obtain ⟨rfl, od, J, more⟩ := h.inst I1 rd
  obtain rfl : u = Value.ref p.1 := rx
  obtain ⟨f, o, v, w, ⟨dx, ez⟩, eo, look, rw', rv⟩ := more d rfl
  subst eo
  have ef := hn _ _ ez
  subst ef
  exact HandSPX.exc_get I1.kIn J T.ga T.gg T.exC (PySem.W.findObj_own T.hdC hno rfl look) (handed_of rw') ⟨v, H1, I1.tok _, rw', q v rv⟩
theorem de_fldX {e : Expr} {f : Den D} {pos : Pos} {n : Str} (h : ExAt X c p C0 z cls) (T : XfC X.K C0) (hno : PySem.W.findIn X.K (.ref C0) n = some none) (hn : ∀ dx f, z = some (dx, f) → f = n) (he : PE X e (sE c f)) (hb : attributeBase e n X.env (eval e X.env) = eval e X.env := by rfl) :
    PE X (.Attribute e n pos) (sE c (op1 fldD f)) := PE.imp (pe_fldX h T hno hn he hb) fun g H Q s => by
  refine sG.bind s fun d x r M1 io1 H1 re rs ra run => ?_
  obtain ⟨y, M3, eq, k⟩ := run.lift
  unfold fldD at eq
  split at eq
  · cases eq
    exact ⟨io1, _, _, ra, fun v rv => k.ok Ext.refl rs rv⟩
  · cases eq
end
end PyL

-- PyL2
set_option maxRecDepth 100000
set_option maxHeartbeats 4000000
noncomputable section
namespace PyL
open PySem PySem.Spec PyProof.Rows L2 PyD PyH HotX L2H
section
variable {X : Cx} {c : Cfg} {p0 : Addr × Obj}
abbrev RdX (X : Cx) (p0 : Addr × Obj) : Heap → Prop := fun h => ∃ x1, x1 = p0.1 ∧ HotAt X.A x1 h
theorem stays_pin (hp : p0 ∈ X.pn) (hot : Hot1 X.A p0) : Stays X (RdX X p0) := fun pins s s' g H H' fp I f un => by
  obtain ⟨look, nH, nl, nf, _⟩ := I.pin p0 (List.mem_append_left _ hp)
  exact stays_hot hp hot (fun z => (List.mem_cons.mp (I.stkSub _ z)).elim nl nf) pins s s' g H H' fp I f un
theorem PIR.imp {Rd : Heap → Prop} {a b : Expr} {t t' : TI} (h : PIR X Rd a b t) (i : ∀ g H Q, t' g H Q → t g H Q) : PIR X Rd a b t' := ⟨fun pins s g H Q I q => h.run pins s g H Q I (i g H Q q)⟩
/-- zip of two lists -/
def zipSrcL (f : Den (List D)) : Den Src := bindD f fun ds _ M => match ds with
  | [a, b] => if isLs a && isLs b && (itemsD a M).isSome && (itemsD b M).isSome then some (.ok (.zip a b), M) else none
  | _ => none
theorem dp_zipR {elts : List Expr} {kk : Nat} {tpos p pos : Pos} {e e2 : Expr} {hs : Den (List D)} (hp : p0 ∈ X.pn) (hc : X.calm = false) (hK : X.K = c.K.f) (hg : Gl X "zip") (hm : X.mg "zip" = none) (ha : PA X [e, e2] (sA c hs))
    (hst : starEach [e, e2] X.env = (false, eval e X.env) :: starEach [e2] X.env := by rfl) (hpl : (backTo pos (starEach [e2] X.env)).any (·.1) = false := by rfl) :
    PIR X (RdX X p0) (.Tuple elts kk tpos) (.Call (.Name "zip" p) [e, e2] [] pos) (wS c (zipSrcL hs)) := PIR.imp (pi_zipR hp hc hg hm ha hst hpl) fun g H Q s => by
  obtain ⟨r, M, io, re, rs, sx, M', eq, k⟩ := s
  obtain ⟨ds, M1, ef, ek⟩ := bind_ok eq
  rw [hK]
  split at ek
  · rename_i a b
    split at ek
    · rename_i hl
      cases ek
      refine ⟨r, M, io, re, rs, .ok _, _, ef, fun io1 H1 e1 rs1 vs rv => ?_⟩
      obtain ⟨x, y, rfl, rx, ry⟩ := rv.two
      rw [Bool.and_eq_true, Bool.and_eq_true, Bool.and_eq_true] at hl
      obtain ⟨⟨⟨ta, tb⟩, h1⟩, h2⟩ := hl
      obtain ⟨j, p, rfl, rfl, ep⟩ := ls_of ta rx
      obtain ⟨l, q, rfl, rfl, eq⟩ := ls_of tb ry
      obtain ⟨xs, hx⟩ := itemsD_L rs1 ep h1
      obtain ⟨ys, hy⟩ := itemsD_L rs1 eq h2
      exact ⟨p, q, xs, ys, rfl, hx, hy, k io1 H1 e1 rs1 _ (jok_zipL ep eq)⟩
    · cases ek
  · cases ek
/-- [e for t in src if c] while an exception is handled, the target a tuple of names -/
theorem de_lcR {Rd : Heap → Prop} {src : Den Src} {ct : CT} {ift : Den Bool} {eltD : Den D} {n : Nat} {elt tg iter : Expr} {ifs : List Expr} {scope : Scope} {own : List (Str × Nat)} {sl : List Nat} {pos : Pos} (hK : X.K = c.K.f) (hN : X.N.Nodup) (stays : Stays X Rd) (hi : PIR X Rd tg iter (wS c src)) (ok : BlkOk X.N X.env.scope scope own) (hv : ∀ i ∈ ct.slots, i ∈ sl)
    (hg : ∀ (pins : List (Addr × Obj)) (g : L2.St) (s : Shared) (H : Hp) (C : Addr) (cl : List (Str × Addr)) (fp : List Addr), Inv X pins g H s → (∀ b ∈ fp, FpOk X pins H b) → PG (X.blk s H scope (compEnvC scope cl C X.env) fp) tg (gC X.K ct))
    (ht : ∀ (pins : List (Addr × Obj)) (g : L2.St) (s : Shared) (H : Hp) (C : Addr) (cl : List (Str × Addr)) (fp : List Addr), Inv X pins g H s → (∀ b ∈ fp, FpOk X pins H b) → PTs (X.blk s H scope (compEnvC scope cl C X.env) fp) ifs (sT c ift))
    (he : ∀ (pins : List (Addr × Obj)) (g : L2.St) (s : Shared) (H : Hp) (C : Addr) (cl : List (Str × Addr)) (fp : List Addr), Inv X pins g H s → (∀ b ∈ fp, FpOk X pins H b) →
      PE (X.blk s H scope (compEnvC scope cl C X.env) fp) elt (fun r H Q => L2.wipe r sl = L2.wipe g sl ∧ sE c eltD r H Q)) (hs : ∀ x, foldedSetIterable iter X.env x = pure x := by intro _; rfl) (hsl : own.map (·.2) = sl := by rfl) :
    PE X (.ListComp elt [⟨tg, iter, ifs, 0⟩] scope pos) (sE c (compE src sl ct ift eltD n)) := by
  subst hsl
  refine PE.imp (pe_lcR hN stays hi ok hg ht he hs) fun g H Q s => ?_
  rw [hK]
  exact compE_lc hv s
/-- the target of two names, within -/
theorem pg_two {scope : Scope} {C : Addr} {cl : List (Str × Addr)} {fp : List Addr} {pins : List (Addr × Obj)} {g : L2.St} {s : Shared} {H : Hp} {es : List Expr} {kk n : Nat} {pos : Pos} {t : TGs} (hp : p0 ∈ X.pn) (hot : Hot1 X.A p0) (I : Inv X pins g H s) (f : ∀ b ∈ fp, FpOk X pins H b)
    (h : PGs (X.blk s H scope (compEnvC scope cl C X.env) fp) es t) (hn : (assignEach es (X.blk s H scope (compEnvC scope cl C X.env) fp).env).length = n := by rfl) (hst : (assignEach es (X.blk s H scope (compEnvC scope cl C X.env) fp).env).findIdx? (·.1) = none := by rfl) :
    PG (X.blk s H scope (compEnvC scope cl C X.env) fp) (.Tuple es kk pos) (gTup X.K n t) :=
  pg_tupH (X := X.blk s H scope (compEnvC scope cl C X.env) fp) (fun ps s' g' H' I' => by
    obtain ⟨x1, _, hx⟩ := stays_pin hp hot pins s s' g H H' fp I f I'.base
    exact ⟨x1, hx⟩) h hn hst
/-! ### texts cut and put together -/
def splitE (f h : Den D) : Den D := bindD f fun a => match a with
  | .str x => bindD h fun b _ M => match b with
    | .str y => if (y.length == 0) = false ∧ x.length ≤ 90000 then some (.ok (.lst M.length), (sApp M (.lst ((Txt.split x y).map D.str)))) else none
    | _ => none
  | _ => fun _ _ => none
theorem rl_strs {K : KT} {H : Hp} {io : List Addr} : ∀ ys : List Str, RL K H io (ys.map D.str) (ys.map V.str)
  | [] => .nil
  | y :: r => .cons (.str y) (rl_strs r)
theorem de_split {o e : Expr} {f h : Den D} {apos pos : Pos} (ho : PE X o (sE c f)) (he : PE X e (sE c h)) (hs : starEach [e] X.env = [(false, eval e X.env)] := by rfl) (hbase : attributeBase o "split" X.env (eval o X.env) = eval o X.env := by rfl) (hline : (apos.endLine == pos.line) = true := by rfl) :
    PE X (.Call (.Attribute o "split" apos) [e] [] pos) (sE c (splitE f h)) := PE.imp (pe_split ho he hs hbase hline) fun g H Q s => by
  refine sG.bind s fun d x r M1 io1 H1 re rs ra run => ?_
  cases d with
  | str x =>
    cases ra
    refine ⟨⟨x, rfl⟩, r, M1, io1, re, rs, run.bind fun d2 y M2 io2 H2 e2 rs2 rb run2 => ?_⟩
    obtain ⟨z, M3, eq, k⟩ := run2
    split at eq
    · split at eq
      · rename_i hl
        cases eq; cases rb
        refine ⟨x, _, rfl, rfl, hl.1, Nat.le_trans (Nat.add_le_add_right hl.2 2) (by decide), fun q n => ?_⟩
        exact k (io2 ++ [q]) _ (Ext.alloc n) (rs2.alloc n ⟨_, rfl, (rl_strs _).mono (Ext.alloc n)⟩) _ (.lst (by rw [← rs2.len, List.getElem?_append_right (Nat.le_refl _)]; simp))
      · cases eq
    · cases eq
  | _ => obtain ⟨x, M', eq, k⟩ := run; cases eq
def joinE (f h : Den D) : Den D := bindD f fun a => match a with
  | .str x => bindD h fun b _ M => match lstOf b M with
    | some ds => match strsD ds with
      | some ys => if (ys.map (·.length)).sum + ys.length * x.length ≤ 16777216 then some (.ok (.str (Txt.join x ys)), M) else none
      | none => none
    | none => none
  | _ => fun _ _ => none
theorem de_join {o e : Expr} {f h : Den D} {apos pos : Pos} (hK : X.K = c.K.f) (ho : PE X o (sE c f)) (he : PE X e (sE c h)) (hs : starEach [e] X.env = [(false, eval e X.env)] := by rfl) (hbase : attributeBase o "join" X.env (eval o X.env) = eval o X.env := by rfl) (hline : (apos.endLine == pos.line) = true := by rfl) :
    PE X (.Call (.Attribute o "join" apos) [e] [] pos) (sE c (joinE f h)) := PE.imp (pe_join ho he hs hbase hline) fun g H Q s => by
  refine sG.bind s fun d x r M1 io1 H1 re rs ra run => ?_
  cases d with
  | str x =>
    cases ra
    refine ⟨⟨x, rfl⟩, r, M1, io1, re, rs, run.bind fun d2 y M2 io2 H2 e2 rs2 rb run2 => ?_⟩
    obtain ⟨z, M3, eq, k⟩ := run2
    dsimp only at eq
    split at eq
    · rename_i ds e1
      split at eq
      · rename_i ys e2
        split at eq
        · rename_i hl
          cases eq
          obtain ⟨q, vs, rfl, hq, rl⟩ := lstOf_ok e1 rs2 rb
          have z := strs_of e2 rl
          subst z
          exact ⟨x, q, ys, rfl, rfl, .inl (SqL.of hq), hl, k.ok Ext.refl rs2 (.str _)⟩
        · cases eq
      · cases eq
    · cases eq
  | _ => obtain ⟨x, M', eq, k⟩ := run; cases eq
end
end PyL

-- PyL3
set_option maxRecDepth 100000
set_option maxHeartbeats 4000000
noncomputable section
namespace PyL
open PySem PySem.Spec PyProof.Rows L2 PyD PyH HotX L2H
/-- a def of one parameter, called where the exception p is handled: what stands within is told of p -/
theorem pe_hot1 {X : Cx} {p : Addr × Obj} {x a : Str} {st : Stmt} {f : Addr} {fd : FuncData} {N : List Str} {k : Nat} {e : Expr} {te : TE} {t : TS} {q pos : Pos} (hp : p ∈ X.pn) (hot : Hot1 X.A p) (F : Fun X.K x x st f fd) (S : FnScope N [a] (defScope st)) (hr : RoomH (k + 1) X.A)
    (hb : Binds X.K fd [a] []) (hg : Gl X x) (hm : X.mg x = some (.ref f)) (he : PE X e te)
    (hbody : ∀ (cdv : Value) (s : Shared) (H : Hp), RoomH k (X.A.deeper (envOfC x (defScope st) s.heap.objs.size f cdv)) → PSs (cxH C8.CX0 X.prog X.w X.K X.mg X.base N x (defScope st) f cdv X.A X.stack s H C8.E0 p) (defBody st) t)
    (hd : (x == ("__debug__" : Str)) = false := by decide) (hst : starEach [e] X.env = (false, eval e X.env) :: starEach [] X.env := by rfl) (hpl : (backTo pos (starEach [] X.env)).any (·.1) = false := by rfl) :
    PE X (.Call (.Name x q) [e] [] pos) (fun g H Q => te g H fun v H1 => t { nx := fun _ H' => Q .non H', rt := Q } (L2.start N [v]) H1) := by
  have pa : PA X [e] (tCons te tNil) := pa_cons he pa_nil hst
  refine ⟨fun pins s g H Q I run => wpAny_Call_Name_kw (ld_glob I hg hm ?_ hd)⟩
  refine PySem.W.callWith_K (h₀ := X.base) I.ok.mod.kin F.kp (thn (pa.run pos pins s g H (fun vs H1 => match vs with
    | [v] => t { nx := fun _ H' => Q .non H', rt := Q } (L2.start N [v]) H1
    | _ => False) I run) fun us s1 ⟨vs, H1, I1, r1, q⟩ => ⟨I1.kIn, ?_⟩) hst hpl
  obtain ⟨v, u, rfl, r, q7⟩ : ∃ v u, us = [u] ∧ RelV v u ∧ t { nx := fun _ H' => Q .non H', rt := Q } (L2.start N [v]) H1 := by
    cases r1 with
    | nil => exact q.elim
    | cons r rr =>
      cases rr with
      | nil => exact ⟨_, _, rfl, r, q⟩
      | cons _ _ => exact q.elim
  obtain ⟨oc, od, kV, doc, pm, an, cdv, ct, osl, efd, lk, hcd⟩ := F.ex
  have b := hb s1 [u] I1.kIn rfl
  rw [List.append_nil] at b
  have P1 := I1.pin p (List.mem_append_left _ hp)
  have ok : PinOk X.stack H1 s1 p := ⟨P1.1, P1.2.1, fun z => (List.mem_cons.mp (I1.stkSub p.1 z)).elim P1.2.2.1 P1.2.2.2.1, P1.2.2.2.2⟩
  have e0 := I1.env0
  have KX : X.K.In s1.heap := I1.kIn
  have rc : codeAny (model X.prog X.w) X.A (.call (.ref f) ⟨[u], []⟩) (CR C8.CX0 X.stack X.prog X.w H1 s1 Q C8.E0) s1 := by
    rw [efd] at b lk
    refine codeAny_call_function hr.depth (KX _ _ lk) rfl S.co S.gen rfl (PySem.W.codeRec_of KX hcd) (b _ _ _ _ (wpAny_newFunctionEnv_cells S.kind (fun ⟨n, y⟩ hy => ?_) fun env eq s2 xx => ?_))
    · exact (S.par n (List.of_mem_zip hy).1).imp id fun z => ⟨z, PySem.W.cellsFrom_some _ _ _ (.inl z)⟩
    · subst eq
      refine ⟨(e0.mod.nolimit.keeps fun b o e => (e0.bs b o e).1).keeps xx.toInCall.keep, codeAny_func ?_⟩
      have I2 : Inv (cxH C8.CX0 X.prog X.w X.K X.mg X.base N x (defScope st) f cdv X.A X.stack s1 H1 C8.E0 p) [] (L2.start N [v]) H1 s2 := inv_startH S ok e0 rfl (.cons r .nil) xx
      refine wpAny_mono ((hbody cdv s1 H1 (hr.deeper _)).run [] s2 (L2.start N [v]) H1 _ I2 q7) (fun fl s3 z => ?_) fun _ _ z => z
      cases fl with
      | ret w => obtain ⟨y, g', H', J, rv, q⟩ := z; exact ⟨y, H', J.os, J.bare, J.base, J.hok, rv, q⟩
      | next => obtain ⟨g', H', J, q⟩ := z; exact ⟨.non, H', J.os, J.bare, J.base, J.hok, rfl, q⟩
      | brk => obtain ⟨_, _, _, z⟩ := z; exact False.elim z
      | cont => obtain ⟨_, _, _, z⟩ := z; exact False.elim z
  refine wpAny_call (codeAny_mono rc fun r s2 z => ?_)
  cases r with
  | error e => exact (show False from z).elim
  | ok fl =>
    cases fl with
    | ret u => exact I1.after z
    | next => exact False.elim z
    | brk => exact False.elim z
    | cont => exact False.elim z
end PyL

-- PyL4
set_option maxRecDepth 100000
set_option maxHeartbeats 4000000
noncomputable section
namespace PyL
open PySem PySem.Spec PyProof.Rows L2 PyD PyH HotX L2H
/-! ### the same data, other exceptions at hand -/
mutual
def noEx : D → Bool
  | .exn _ _ => false
  | .tup ds => noExs ds
  | .ktup ds => noExs ds
  | _ => true
def noExs : List D → Bool
  | [] => true
  | d :: ds => noEx d && noExs ds
end
def noExKV {κ : Type} (kvs : List (κ × D)) : Bool := kvs.all fun p => noEx p.2
def noExC : Cell → Bool
  | .lst ds => noExs ds
  | .dk kvs => noExKV kvs
  | .dt kvs => noExKV kvs
  | .ob _ kvs => noExKV kvs
  | .dead => true
def noExM (M : Sto) : Bool := M.all noExC
section
variable {F : PySem.W.Frag} {T : List (Addr × Str)} {lam : Nat → Addr → HO → Addr → HO → Prop} {x x' : Str → Addr → Option (Addr × Str) → Prop} {H : Hp} {io : List Addr}
mutual
theorem R.conv : ∀ {d : D} {v : V}, noEx d = true → R ⟨F, T, lam, x⟩ H io d v → R ⟨F, T, lam, x'⟩ H io d v
  | _, _, _, .non => .non
  | _, _, _, .bl b => .bl b
  | _, _, _, .int i => .int i
  | _, _, _, .str z => .str z
  | _, _, _, .ty n => .ty n
  | _, _, h, .tup e r => .tup e (RL.conv (by simpa only [noEx] using h) r)
  | _, _, h, .ktup e r => .ktup e (RL.conv (by simpa only [noEx] using h) r)
  | _, _, _, .lst e => .lst e
  | _, _, _, .dic e => .dic e
  | _, _, _, .fn l e q e2 q2 => .fn l e q e2 q2
  | _, _, h, .exn0 _ => by simp only [noEx] at h; cases h
  | _, _, h, .exn1 _ _ _ => by simp only [noEx] at h; cases h
theorem RL.conv : ∀ {ds : List D} {vs : List V}, noExs ds = true → RL ⟨F, T, lam, x⟩ H io ds vs → RL ⟨F, T, lam, x'⟩ H io ds vs
  | _, _, _, .nil => .nil
  | _, _, h, .cons r t => by
    simp only [noExs, Bool.and_eq_true] at h
    exact .cons (R.conv h.1 r) (RL.conv h.2 t)
end
theorem RKV.conv {κ : Type} : ∀ {a : List (κ × D)} {b : List (κ × V)}, noExKV a = true → RKV ⟨F, T, lam, x⟩ H io a b → RKV ⟨F, T, lam, x'⟩ H io a b
  | [], _, _, h => by cases h; exact .nil
  | p :: r, _, e, h => by
    cases h with
    | cons h1 h2 =>
      unfold noExKV at e
      rw [List.all_cons, Bool.and_eq_true] at e
      exact .cons ⟨h1.1, R.conv e.1 h1.2⟩ (RKV.conv e.2 h2)
theorem RC.conv {c : Cell} {o : HO} (e : noExC c = true) (h : RC ⟨F, T, lam, x⟩ H io c o) : RC ⟨F, T, lam, x'⟩ H io c o := by
  cases c with
  | lst ds => obtain ⟨xs, q, r⟩ := h; exact ⟨xs, q, RL.conv e r⟩
  | dk ds => obtain ⟨xs, q, r⟩ := h; exact ⟨xs, q, RKV.conv e r⟩
  | dt ds => obtain ⟨xs, q, r⟩ := h; exact ⟨xs, q, RKV.conv e r⟩
  | ob cl fs => obtain ⟨dx, xs, q, r⟩ := h; exact ⟨dx, xs, q, RKV.conv e r⟩
  | dead => exact h
theorem RS.conv {M : Sto} (e : noExM M = true) (h : RS ⟨F, T, lam, x⟩ H io M) : RS ⟨F, T, lam, x'⟩ H io M := ⟨h.len, h.nd, h.tab, fun i c ei => by
  obtain ⟨a, o, e1, e2, rc⟩ := h.cell i c ei
  exact ⟨a, o, e1, e2, RC.conv (List.all_eq_true.mp e c (sGet_mem ei)) rc⟩⟩
/-- where there is no exception at all -/
abbrev none3 : Str → Addr → Option (Addr × Str) → Prop := fun _ _ _ => False
mutual
theorem R.up : ∀ {d : D} {v : V}, R ⟨F, T, lam, none3⟩ H io d v → R ⟨F, T, lam, x'⟩ H io d v
  | _, _, .non => .non
  | _, _, .bl b => .bl b
  | _, _, .int i => .int i
  | _, _, .str z => .str z
  | _, _, .ty n => .ty n
  | _, _, .tup e r => .tup e (RL.up r)
  | _, _, .ktup e r => .ktup e (RL.up r)
  | _, _, .lst e => .lst e
  | _, _, .dic e => .dic e
  | _, _, .fn l e q e2 q2 => .fn l e q e2 q2
  | _, _, .exn0 h => h.elim
  | _, _, .exn1 h _ _ => h.elim
theorem RL.up : ∀ {ds : List D} {vs : List V}, RL ⟨F, T, lam, none3⟩ H io ds vs → RL ⟨F, T, lam, x'⟩ H io ds vs
  | _, _, .nil => .nil
  | _, _, .cons r t => .cons (R.up r) (RL.up t)
end
theorem RKV.up {κ : Type} : ∀ {a : List (κ × D)} {b : List (κ × V)}, RKV ⟨F, T, lam, none3⟩ H io a b → RKV ⟨F, T, lam, x'⟩ H io a b
  | [], _, h => by cases h; exact .nil
  | p :: r, _, h => by
    cases h with
    | cons h1 h2 => exact .cons ⟨h1.1, R.up h1.2⟩ (RKV.up h2)
theorem RC.up {c : Cell} {o : HO} (h : RC ⟨F, T, lam, none3⟩ H io c o) : RC ⟨F, T, lam, x'⟩ H io c o := by
  cases c with
  | lst ds => obtain ⟨xs, q, r⟩ := h; exact ⟨xs, q, RL.up r⟩
  | dk ds => obtain ⟨xs, q, r⟩ := h; exact ⟨xs, q, RKV.up r⟩
  | dt ds => obtain ⟨xs, q, r⟩ := h; exact ⟨xs, q, RKV.up r⟩
  | ob cl fs => obtain ⟨dx, xs, q, r⟩ := h; exact ⟨dx, xs, q, RKV.up r⟩
  | dead => exact h
theorem RS.up {M : Sto} (h : RS ⟨F, T, lam, none3⟩ H io M) : RS ⟨F, T, lam, x'⟩ H io M := ⟨h.len, h.nd, h.tab, fun i c ei => by
  obtain ⟨a, o, e1, e2, rc⟩ := h.cell i c ei
  exact ⟨a, o, e1, e2, RC.up rc⟩⟩
end
theorem Ext.k {K K' : KT} {io io' : List Addr} {H H' : Hp} (e : Ext K io H io' H') : Ext K' io H io' H' := ⟨e.u, e.i⟩
/-! ### what is asked of a class of exceptions -/
structure ClsF (K : PySem.W.Frag) (mg : Str → Option Value) (NE : Addr) (tab : List (Str × Value)) (sub : Str → Str → Bool) (fld : Str) (cls : Str) : Prop where
  ex : ∃ C0, mg cls = some (.ref C0) ∧ PySem.W.exmOne K (.ref C0) (.ref NE) = some true ∧ ExcC K C0 ∧ XfC K C0 ∧ PySem.W.findIn K (.ref C0) fld = some none ∧ ∀ p ∈ tab, PySem.W.kitOne K (.ref C0) p.2 = some (sub cls p.1)
/-- the word for what the call of a lambda raises -/
def errE (known : List Str) (name : Str → FDen) (f : Den D) : Den D := fun r M => match f r M with
  | some (.ok _, M1) => some (.ok (.str ""), M1)
  | some (.ex x, M1) => if hasS known x.cls then (match name x.cls [.exn x.cls x.arg.toList] M1 with
      | some (.ok (.str z), M2) => if noExM M2 then some (.ok (.str z), M2) else none
      | _ => none) else none
  | none => none
/-- a statement's reading, the number of slots known -/
theorem PSs.len {X : Cx} {st : List Stmt} {t : TS} (h : PSs X st t) : PSs X st (fun Ds g H => g.length = X.N.length → t Ds g H) := ⟨fun pins s g H Ds I q => h.run pins s g H Ds I (q I.len)⟩
end PyL

-- PyL5
set_option maxRecDepth 100000
set_option maxHeartbeats 4000000
noncomputable section
namespace PyL
open PySem PySem.Spec PyProof.Rows L2 PyD PyH HotX L2H
/-- a lambda: what is written of it -/
structure LamS where
  params : Arguments
  body : Expr
  scope : Scope
/-- the function object at f -/
def FnO (f : Addr) (q : Str) (l : LamS) (clos : List (Str × Addr)) (b : Addr) (pm ctv : Value) : HO := .ext fun h => h.get? f = some (PySem.W.kla_obj "<lambda>" q l.params l.body l.scope clos pm b ctv)
theorem fnO_ok {P : Program} {w : World} {H : Hp} {h : Heap} {f : Addr} {q : Str} {l : LamS} {clos : List (Str × Addr)} {b : Addr} {pm ctv : Value} (e : h.get? f = some (PySem.W.kla_obj "<lambda>" q l.params l.body l.scope clos pm b ctv)) : ObjOk P w H h f (FnO f q l clos b pm ctv) :=
  ⟨e, ⟨_, e⟩, fun h1 h2 y st => st _ y⟩
section
variable {X : Cx} {l : LamS} {c P : Addr} {pos : Pos} {T : List (Addr × Str)}
abbrev lq (X : Cx) : Str := X.env.qual ++ "<lambda>"
/-- a lambda as a value -/
theorem pe_lam (TB : LamX.TabB X.base X.mg c P) (hcode : X.env.code = .ref c) (hm : (P, lq X) ∈ T) (hu : ∀ p ∈ T, p.1 = P → p.2 = lq X) (hdef : defaultsOf l.params X.env = ([], [])) (hfree : X.Ok → ∀ y ∈ l.scope.names, y.2 = .free → ∃ c, X.env.cells.lookup y.1 = some c) :
    PE X (.Lambda l.params l.body l.scope pos) (fun g H Q => LamX.Tabs T H ∧ ∀ (f b : Addr) (pm ctv : Value) (H1 : Hp), (∀ a o, H a = some o → (∀ ps, o ≠ .tbl ps) → H1 a = some o) → LamX.Tabs T H1 → H1 b = some (LamX.CodeO b (lq X)) → H1 f = none →
      Q (.ref f) (upd H1 f (FnO f (lq X) l (cloFrom X.env.cells l.scope.names []) b pm ctv))) := by
  refine ⟨fun pins s g H Q I run => ?_⟩
  obtain ⟨hT, run⟩ := run
  obtain ⟨ps, tabP, tri, known⟩ := hT _ hm
  refine PySem.W.kla_eval hdef ?_
  have bP : s.heap.BuiltinsAt X.mg P := TB.bm.keeps I.bk
  have look : s.heap.get? P = some { cls := .none, data := .fields ps } := I.hok P _ tabP
  have put : ∀ {H1 : Hp} {h' : Heap} {tk tk' : Nat} {b : Addr} {pm ctv : Value}, Inv X pins g H1 { s with heap := h', toks := tk } → LamX.ExtN H H1 → LamX.Tabs T H1 → H1 b = some (LamX.CodeO b (lq X)) →
      EP X pins g Q (.ref h'.objs.size) { s with heap := h'.push (PySem.W.kla_obj "<lambda>" (lq X) l.params l.body l.scope (cloFrom X.env.cells l.scope.names []) pm b ctv), toks := tk' } := fun {H1 h' tk tk' b pm ctv} I1 e1 t1 co =>
    ⟨.ref h'.objs.size, _, I1.laid (t' := tk') (fun b o e => Heap.get?_push_of_some _ e) (Nat.le_refl _) (fnO_ok (Heap.get?_push_size _ rfl)), rfl, run h'.objs.size b pm ctv H1 (fun a o e n => e1 a o e n) t1 co (I1.hok.fresh (Nat.le_refl _))⟩
  cases hc : codeAmong pos ps.toList with
  | none =>
    refine PySem.W.kla_makeFunction (mg := X.mg) (c := c) (P := P) (ps := ps) (closure_ok (hfree I.ok)) I.ok.glob (I.mod.glob.keeps I.bk) hcode (TB.code.keeps I.bk) look tri hc TB.gP bP fun c' ctv h' tk kept new lt rc tab => ?_
    obtain ⟨c2, oc, vs, t, ec, hoc, hd, hv⟩ := rc
    cases ec
    have nC : H c' = none := I.hok.fresh new
    have I1 := LamX.inv_table (t' := tk) (more := #[rawInt pos.line, rawInt pos.col, .ref c']) (h' := h') (q := lq X) I tabP (fun b o nb e => kept b o nb e) tab new ⟨oc, vs, t, hoc, hd, hv⟩
    have e1 : LamX.ExtN H (upd (upd H P (.tbl (ps ++ #[rawInt pos.line, rawInt pos.col, .ref c']))) c' (LamX.CodeO c' (lq X))) := fun b o e n => by
      rw [upd_ne (ne_of_none e nC), upd_ne (fun z => n ps (Option.some.inj (e.symm.trans (by rw [z]; exact tabP))))]
      exact e
    refine put I1 e1 (fun p hp => ?_) upd_same
    by_cases hb : p.1 = P
    · rw [hu p hp hb, hb]
      refine ⟨_, by rw [upd_ne (ne_of_none tabP nC), upd_same], by rw [Array.toList_append]; exact PySem.TriplesOk_snoc _ _ _ _ tri, fun p' cv hcv => ?_⟩
      rw [Array.toList_append] at hcv
      rcases LamX.among_app _ tri hcv with z | z
      · obtain ⟨c0, z1, z2⟩ := known p' cv z
        exact ⟨c0, z1, e1 _ _ z2 LamX.codeO_ne⟩
      · exact ⟨c', z, upd_same⟩
    · obtain ⟨ps', a1, a2, a3⟩ := hT p hp
      refine ⟨ps', by rw [upd_ne (ne_of_none a1 nC), upd_ne hb]; exact a1, a2, fun p' cv hcv => ?_⟩
      obtain ⟨c0, z1, z2⟩ := a3 p' cv hcv
      exact ⟨c0, z1, e1 _ _ z2 LamX.codeO_ne⟩
  | some cv =>
    obtain ⟨c', rfl, co⟩ := known pos cv hc
    refine PySem.W.kla_makeFunctionHit (mg := X.mg) (c := c) (P := P) (ps := ps) (closure_ok (hfree I.ok)) I.ok.glob (I.mod.glob.keeps I.bk) hcode (TB.code.keeps I.bk) look tri hc bP fun ctv h' tk kept sz => ?_
    exact put (tk := tk) (I.kept fun b o e => kept b o e) (LamX.ExtN.refl H) hT co
/-- the lambda numbered n of this frame -/
def lamD (n : Nat) : Den D := fun _ M => some (.ok (.fn n), M)
theorem de_lam {cf : Cfg} {n : Nat} (TB : LamX.TabB X.base X.mg c P) (hcode : X.env.code = .ref c) (hm : (P, lq X) ∈ cf.K.T) (hu : ∀ p ∈ cf.K.T, p.1 = P → p.2 = lq X) (hdef : defaultsOf l.params X.env = ([], [])) (hfree : X.Ok → ∀ y ∈ l.scope.names, y.2 = .free → ∃ c, X.env.cells.lookup y.1 = some c)
    (hl : ∀ (f b : Addr) (pm ctv : Value), cf.K.lam n f (FnO f (lq X) l (cloFrom X.env.cells l.scope.names []) b pm ctv) b (LamX.CodeO b (lq X))) : PE X (.Lambda l.params l.body l.scope pos) (sE cf (lamD n)) := PE.imp (pe_lam TB hcode hm hu hdef hfree) fun g H Q s => by
  obtain ⟨r, M, io, re, rs, x, M', eq, k⟩ := s
  cases eq
  refine ⟨rs.tab, fun f b pm ctv H1 e1 t1 co no => ?_⟩
  have stb : ∀ o, Stb o → ∀ ps, o ≠ .tbl ps := fun o so ps z => by subst z; exact so
  have ex : Ext cf.K io H io H1 := ⟨fun a o e so => e1 a o e (stb o so), fun _ _ h => h⟩
  have rs1 : RS cf.K H1 io M := ⟨rs.len, rs.nd, t1, fun i c ei => by
    obtain ⟨a, o, z1, z2, rc⟩ := rs.cell i c ei
    exact ⟨a, o, z1, e1 a o z2 rc.notTup.2, rc.mono ex⟩⟩
  have nb : b ≠ f := fun z => by rw [z, no] at co; cases co
  exact k io _ (ex.trans (Ext.tupNew no)) (rs1.tupNew no) _ (.fn (hl f b pm ctv) upd_same trivial (by rw [upd_ne nb]; exact co) trivial)
end
end PyL

-- PyL6
set_option maxRecDepth 100000
set_option maxHeartbeats 4000000
noncomputable section
namespace PyL
open PySem PySem.Spec PyProof.Rows L2 PyD PyH HotX L2H
/-- the cells that a lambda holds, and what stands in them -/
structure Cells (N : List Str) (l : LamS) (clos : List (Str × Addr)) (g : L2.St) (H : Hp) (h : Heap) : Prop where
  inj : ∀ x y c, clos.lookup x = some c → clos.lookup y = some c → x = y
  has : ∀ y, l.scope.names.lookup y = some .free → ∃ c, clos.lookup y = some c
  cell : ∀ y c, clos.lookup y = some c → H c = none ∧ ∃ v, h.IsCell c v
  val : ∀ (i : Nat) (y : Str) (v : V) (c : Addr), N[i]? = some y → g[i]? = some (some v) → clos.lookup y = some c → ∃ u, RelV v u ∧ h.IsCell c (some u)
theorem Cells.un {N : List Str} {l : LamS} {clos : List (Str × Addr)} {g : L2.St} {fs ex : List Addr} {H H1 : Hp} {h h1 : Heap} (a : Cells N l clos g H h) (u : Un fs ex H H1 h h1) (nx : ∀ y c, clos.lookup y = some c → c ∉ ex) : Cells N l clos g H1 h1 := by
  have mv : ∀ {y c v}, clos.lookup y = some c → h.IsCell c v → h1.IsCell c v := fun {y c v} e ⟨o, ho, hd⟩ => by
    obtain ⟨sl, q⟩ := u.any ho (a.cell y c e).1 (nx y c e)
    exact ⟨_, q, hd⟩
  exact ⟨a.inj, a.has, fun y c e => by
    obtain ⟨n, v, o, ho, hd⟩ := a.cell y c e
    exact ⟨u.free c o ho n (nx y c e), v, mv e ⟨o, ho, hd⟩⟩, fun i y v c e1 e2 e3 => by
    obtain ⟨w, r, q⟩ := a.val i y v c e1 e2 e3
    exact ⟨w, r, mv e3 q⟩⟩
/-- in the maker's own frame -/
theorem Cells.of {X : Cx} {l : LamS} {pins : List (Addr × Obj)} {g : L2.St} {H : Hp} {s : Shared} (I : Inv X pins g H s) (L : LamX.LamS X.env.scope l.scope) : Cells X.N l (cloFrom X.env.cells l.scope.names []) g H s.heap := by
  have hf := L.has I.ok
  have cm : ∀ {y c}, (cloFrom X.env.cells l.scope.names []).lookup y = some c → X.env.cells.lookup y = some c ∧ (y, NameKind.free) ∈ l.scope.names := fun {y c} e => by
    rcases cloFrom_mem (PySem.mem_of_lookup e) with hm | ⟨h1, h2⟩
    · cases hm
    · obtain ⟨c1, hc⟩ := hf _ h1 rfl
      have hc : X.env.cells.lookup y = some c1 := hc
      have e2 : c = c1 := by rw [h2, hc]; rfl
      exact ⟨by rw [e2]; exact hc, h1⟩
  refine ⟨fun x y c e1 e2 => I.ok.inj x y c (cm e1).1 (cm e2).1, fun y hy => mem_lookup (cloFrom_has (cells := X.env.cells) (acc := []) (PySem.mem_of_lookup hy)), fun y c e => ⟨I.freeC y c (cm e).1, I.cell y c (cm e).1⟩, fun i y v c e1 e2 e3 => ?_⟩
  obtain ⟨m, hn, hl⟩ := I.loc
  obtain ⟨u, r, q⟩ := hl i y v e1 e2 ((L.free _ (cm e3).2 rfl).elim (fun k => .inr (.inl k)) fun k => .inr (.inr k))
  refine ⟨u, r, ?_⟩
  rcases q with ⟨k, _⟩ | ⟨_, c3, e', z⟩
  · have k : X.env.scope.names.lookup y = some .local := k
    rcases L.free _ (cm e3).2 rfl with k2 | k2 <;> rw [show X.env.scope.names.lookup y = _ from k2] at k <;> cases k
  · rw [(cm e3).1] at e'
    cases e'
    exact z
abbrev lEnv (q : Str) (l : LamS) (clos : List (Str × Addr)) (L f b : Addr) : Env := PySem.W.envX q l.scope L f (.ref b) clos
/-- within the lambda -/
def lCx (P : Program) (w : World) (K : PySem.W.Frag) (mg : Str → Option Value) (base : Heap) (N : List Str) (q : Str) (l : LamS) (clos : List (Str × Addr)) (f b : Addr) (A : Around) (outer : List Env) (s : Shared) (H : Hp) (E : XK) : Cx where
  prog := P
  w := w
  K := K
  mg := mg
  base := base
  A := A.deeper (lEnv q l clos s.heap.objs.size f b)
  N := N
  s_0 := s
  H_0 := H
  env := lEnv q l clos s.heap.objs.size f b
  outer := outer
  stack := lEnv q l clos s.heap.objs.size f b :: outer
  ex := []
  fn := fun _ => false
  calm := true
  pn := []
  xe := fun e s' => wpAny (model P w) (A.deeper (lEnv q l clos s.heap.objs.size f b)) (leaving (lEnv q l clos s.heap.objs.size f b) e) (fun _ s'' => L2N.CX P w outer H s E e s'') (fun e' s'' => L2N.CX P w outer H s E e' s'') s'
/-- a lambda without parameters: captured names and globals alone -/
structure LOk (l : LamS) : Prop where
  kind : l.scope.kind = .function
  co : l.scope.isCoroutine = false
  gen : l.scope.isGenerator = false
  own : ∀ y ∈ l.scope.names, y.2 ≠ .local ∧ y.2 ≠ .cell
theorem lam_startN {P : Program} {w : World} {K : PySem.W.Frag} {mg : Str → Option Value} {base : Heap} {N : List Str} {q : Str} {l : LamS} {clos : List (Str × Addr)} {f b : Addr} {A : Around} {outer : List Env} {s : Shared} {H : Hp} {E : XK} {g : L2.St} {h₁ : Heap} {tk : Nat} (L : LOk l) (C : Cells N l clos g H s.heap) (len : g.length = N.length)
    (e0 : Env0 P w K mg base A outer s H) (hd : A.handled = none) (hns : h₁.Ns s.heap.objs.size fun y => ([] : List (Str × Value)).reverse.lookup y) (kp : ∀ b o, s.heap.get? b = some o → h₁.get? b = some o) : Inv (lCx P w K mg base N q l clos f b A outer s H E) [] g H { s with heap := h₁, toks := tk } := by
  have noA : ∀ c : Addr, c ∉ (lCx P w K mg base N q l clos f b A outer s H E).ex := fun c z => absurd (show c ∈ ([] : List Addr) from z) (by simp)
  have up : ∀ {c : Addr} {v : Option Value}, s.heap.IsCell c v → h₁.IsCell c v := fun {c v} ⟨o, ho, hv⟩ => ⟨o, kp _ _ ho, hv⟩
  have ok : (lCx P w K mg base N q l clos f b A outer s H E).Ok := {
    mod := e0.mod
    kind := L.kind
    glob := rfl
    blt := rfl
    above := Nat.le_refl _
    inj := fun x y c e1 e2 => C.inj x y c e1 e2
    has := fun y hy => by
      have hy : l.scope.names.lookup y = some .cell ∨ l.scope.names.lookup y = some .free := hy
      rcases hy with hy | hy
      · exact absurd rfl (L.own _ (PySem.mem_of_lookup hy)).2
      · exact C.has y hy
    cab := fun y c z => by
      have z : false = true := z
      cases z
    hd := fun _ => hd
    frames := Around.frames_deeper e0.frames
    stk := .inr ⟨rfl, rfl⟩
    exf := fun c z => absurd z (noA c)
    bs := e0.bs
    bsz := e0.bsz
    noex := fun c _ _ => noA c
    exfs := fun c z => absurd z (noA c)
    funs := e0.funs
    frf := e0.frf }
  exact {
    ok := ok
    os := rfl
    bare := e0.bare
    base := Un.kept kp
    loc := ⟨_, hns, fun i y v e1 e2 e3 => by
      have e3 : Vis l.scope y := e3
      rcases e3 with k | k | k
      · exact absurd rfl (L.own _ (PySem.mem_of_lookup k)).1
      · exact absurd rfl (L.own _ (PySem.mem_of_lookup k)).2
      · obtain ⟨c, hc⟩ := C.has y k
        obtain ⟨u, r, z⟩ := C.val i y v c e1 e2 hc
        exact ⟨u, r, .inr ⟨.inr k, c, hc, up z⟩⟩⟩
    cell := fun y c e => by
      obtain ⟨_, v, z⟩ := C.cell y c e
      exact ⟨v, up z⟩
    free := e0.hok.fresh (Nat.le_refl _)
    freeC := fun y c e => (C.cell y c e).1
    pin := fun p hp => absurd (show p ∈ ([] : List (Addr × Obj)) ++ [] from hp) (by simp)
    hok := e0.hok.kept kp
    len := len }
end PyL

-- PyL7
set_option maxRecDepth 100000
set_option maxHeartbeats 4000000
noncomputable section
namespace PyL
open PySem PySem.Spec PyProof.Rows L2 PyD PyH HotX L2H
/-- a(): a holds a lambda -/
theorem pe_actN {Y : Cx} {W : WX} {E : XK} {N : List Str} {q a : Str} {l : LamS} {clos : List (Str × Addr)} {g : L2.St} {f b : Addr} {pm ctv : Value} {k i : Nat} {tb : TE} {p1 p2 : Pos} (L : LOk l) (C : Cells N l clos g Y.H_0 Y.s_0.heap) (len : g.length = N.length) (hex : Y.ex = [])
    (hbind : ∀ pm cv ctv : Value, bindArgs (PySem.W.kla_fn "<lambda>" q l.params l.body l.scope clos pm cv ctv) ⟨[], []⟩ = pure []) (tk : L2N.Takes Y W) (hW : ∀ cls d σ' H', E cls d H' → W cls d σ' H') (hr : Room (k + 1) Y.A)
    (hbody : ∀ (s : Shared) (H : Hp), Room k (Y.A.deeper (lEnv q l clos s.heap.objs.size f b)) → PE (lCx Y.prog Y.w Y.K Y.mg Y.base N q l clos f b Y.A Y.stack s H E) l.body tb)
    (hN : Y.N[i]? = some a) (hv : Vis Y.env.scope a) (hd : (a == ("__debug__" : Str)) = false := by decide) (hcd : (a == ("__classdict__" : Str)) = false := by decide) :
    PE Y (.Call (.Name a p1) [] [] p2) (fun r H Q => r[i]? = some (some (.ref f)) ∧ H f = some (FnO f q l clos b pm ctv) ∧ H b = some (LamX.CodeO b q) ∧ tb g H Q) := by
  refine ⟨fun pins s r H Q I h => ?_⟩
  obtain ⟨hs, hf, hc, ht⟩ := h
  refine wpAny_Call_Name_kw (thn ((pe_var (pos := p1) (i := i) hN hv hd hcd).run pins s r H (fun v H1 => v = .ref f ∧ H1 = H) I ⟨.ref f, hs, rfl, rfl⟩) fun u s1 ⟨v, H1, I1, r1, ev, eH⟩ => ?_)
  subst ev
  rw [eH] at I1
  obtain rfl : u = Value.ref f := r1
  have of1 : s1.heap.get? f = some (PySem.W.kla_obj "<lambda>" q l.params l.body l.scope clos pm b ctv) := (I1.hok f _ hf).1
  have un : Un Y.fs [] Y.H_0 H Y.s_0.heap s1.heap := by have z := I1.base; rw [hex] at z; exact z
  obtain ⟨⟨oc, vs, t, hoc, hdc, hvc⟩, _, _⟩ := I1.hok b _ hc
  refine PySem.W.callWith_F0 ⟨_, _, _, _, of1⟩ ?_
  have rc : codeAny (model Y.prog Y.w) Y.A (.call (.ref f) ⟨[], []⟩) (CR (L2N.CX Y.prog Y.w) Y.stack Y.prog Y.w H s1 Q E) s1 := by
    refine PySem.W.kla_callFunE hr.depth of1 rfl L.co L.gen rfl ⟨b, oc, vs, t, rfl, hoc, hdc, hvc⟩ ?_
    rw [hbind]
    refine wpAny_pure (wpAny_newFunctionEnv (fun y hy => (L.own y hy).2) (fun y hy => absurd hy (by simp)) (fun h₁ hns hsb => ⟨I1.nolimit.fresh _ hsb, ?_⟩) L.kind)
    show codeAny _ _ (.expr l.body (lEnv q l clos s1.heap.objs.size f b)) _ _
    have kp : ∀ c o, s1.heap.get? c = some o → h₁.get? c = some o := fun c o e => hsb.extBut c o (Nat.ne_of_lt (Heap.lt_size e)) (Heap.get?_push_of_some _ e)
    have J : Inv (lCx Y.prog Y.w Y.K Y.mg Y.base N q l clos f b Y.A Y.stack s1 H E) [] g H { s1 with heap := h₁, toks := s1.toks + ([] : List (Str × Value)).length } :=
      lam_startN L (C.un un fun _ _ _ z => absurd z (by simp)) len I1.env0 hr.hd hns kp
    refine PySem.W.kla_codeExpr (wpAny_mono ((hbody s1 H (hr.deeper _)).run [] _ _ H Q J ht) (fun v s2 z => ?_) fun _ _ z => z)
    obtain ⟨w, H2, J2, rv, z⟩ := z
    exact ⟨w, H2, J2.os, J2.bare, J2.base, J2.hok, rv, z⟩
  refine wpAny_call (codeAny_mono rc fun r s2 z => ?_)
  cases r with
  | error e => exact L2N.passes_call (E := E) tk hW pins r H s1 e s2 I1 z
  | ok fl =>
    cases fl with
    | ret u => exact I1.after z
    | next => exact False.elim z
    | brk => exact False.elim z
    | cont => exact False.elim z
end PyL

-- PyL8
set_option maxRecDepth 100000
set_option maxHeartbeats 4000000
noncomputable section
namespace PyL
open PySem PySem.Spec PyProof.Rows L2 PyD PyH HotX L2H
/-- the setting where the exception p is handled; where there is none -/
def cHx (K : PySem.W.Frag) (tb : List (Addr × Str)) (lam : Nat → Addr → HO → Addr → HO → Prop) (mg : Str → Option Value) (fl : Flds) (p : Addr × Obj) (z : Option (Addr × Str)) (cls : Str) : Cfg := ⟨⟨K, tb, lam, fun cl a y => cl = cls ∧ a = p.1 ∧ y = z⟩, mg, fl, C8.E0⟩
def k0x (K : PySem.W.Frag) (tb : List (Addr × Str)) (lam : Nat → Addr → HO → Addr → HO → Prop) : KT := ⟨K, tb, lam, none3⟩
structure NameOk (P : Program) (w : World) (K : PySem.W.Frag) (mg : Str → Option Value) (base : Heap) (tb : List (Addr × Str)) (lam : Nat → Addr → HO → Addr → HO → Prop) (fl : Flds) (fld : Str) (tab : List (Str × Value)) (sub : Str → Str → Bool) (nm : Str) (st : Stmt) (aN : Addr) (uN : FuncData) (Nn : List Str) (pa : Str) (dN : Str → SDen) (k : Nat) : Prop where
  F : Fun K nm nm st aN uN
  S : FnScope Nn [pa] (defScope st)
  m : mg nm = some (.ref aN)
  b : Binds K uN [pa] []
  body : ∀ {cdv : Value} {A : Around} {outer : List Env} {s : Shared} {H : Hp} {p : Addr × Obj} {C0 : Addr} {z : Option (Addr × Str)} {cls : Str}, Hot1 A p → ExcC K C0 → Zc (.ref C0) (z.map (·.1)) p.2 → (∃ vs, p.2.data = .fields vs) → XfC K C0 → PySem.W.findIn K (.ref C0) fld = some none →
    (∀ q ∈ tab, PySem.W.kitOne K (.ref C0) q.2 = some (sub cls q.1)) → (∀ dx f, z = some (dx, f) → f = fld) → RoomH k (A.deeper (envOfC nm (defScope st) s.heap.objs.size aN cdv)) →
    PSs (cxH C8.CX0 P w K mg base Nn nm (defScope st) aN cdv A outer s H C8.E0 p) (defBody st) (sS (cHx K tb lam mg fl p z cls) (dN cls))
section
variable {P : Program} {w : World} {K : PySem.W.Frag} {mg : Str → Option Value} {base : Heap} {tb : List (Addr × Str)} {lam : Nat → Addr → HO → Addr → HO → Prop} {fl : Flds} {fld : Str} {tab : List (Str × Value)} {sub : Str → Str → Bool} {nm : Str} {st : Stmt} {aN : Addr} {uN : FuncData} {Nn : List Str} {pa : Str} {dN : Str → SDen} {k : Nat} {NE : Addr}
/-- what is wished of an exception that the lambda lets out -/
def Eerr (K : PySem.W.Frag) (mg : Str → Option Value) (tb : List (Addr × Str)) (lam : Nat → Addr → HO → Addr → HO → Prop) (fl : Flds) (fld : Str) (tab : List (Str × Value)) (sub : Str → Str → Bool) (n : Nat) (dN : Str → SDen) (NE : Addr) (Q : VK) : XK := fun cls d H =>
  ∃ (M M' : Sto) (io : List Addr) (ex : Ex) (w : Str), RX mg (k0x K tb lam) fl H io ex cls d ∧ RS (k0x K tb lam) H io M ∧ ClsF K mg NE tab sub fld ex.cls ∧ bodyF n (dN ex.cls) [.exn ex.cls ex.arg.toList] M = some (.ok (.str w), M') ∧ noExM M' = true ∧
    ∀ io' H', Ext (k0x K tb lam) io H io' H' → RS (k0x K tb lam) H' io' M' → Q (.str w) H'
/-- the suite: return name(e) -/
theorem suite_ok {Y : Cx} {a : Addr} {oe : Obj} {cls : Value} {d : Option Addr} {pn : List (Addr × Obj)} {x e : Str} {q2 q3 q4 q5 : Pos} (hP : Y.prog = P) (hw : Y.w = w) (hK : Y.K = K) (hmg : Y.mg = mg) (hb : Y.base = base) (NK : NameOk P w K mg base tb lam fl fld tab sub nm st aN uN Nn pa dN k) (hfl : ∀ y f, fl y = some f → f = fld)
    (hr : RoomH (k + 1) (Y.A.mark (some (.ref a)))) (hY : Y.N = [x, e]) (he : Vis Y.env.scope e) (hg : Gl Y nm) (hz : L2N.Zn cls d oe) (hf : ∃ vs, oe.data = .fields vs)
    (hd : (nm == ("__debug__" : Str)) = false := by decide) (hd2 : (e == ("__debug__" : Str)) = false := by decide) (hcd : (e == ("__classdict__" : Str)) = false := by decide)
    (hst : starEach [.Name e q3] Y.env = (false, eval (.Name e q3) Y.env) :: starEach [] Y.env := by rfl) (hpl : (backTo q4 (starEach [] Y.env)).any (·.1) = false := by rfl) :
    PSs (Y.suite a ((a, oe) :: pn)) [.Return (some (.Call (.Name nm q2) [.Name e q3] [] q4)) q5] (fun Ds g H => g.length = 2 → g[1]? = some (some (.ref a)) ∧ Eerr K mg tb lam fl fld tab sub Nn.length dN NE Ds.rt cls d H) := by
  subst hP hw hK hmg hb
  refine ⟨fun pins s g H Ds I h => ?_⟩
  have len : g.length = 2 := by
    have z := I.len
    have z2 : (Y.suite a ((a, oe) :: pn)).N = Y.N := rfl
    rw [z2, hY] at z
    exact z
  obtain ⟨at2, M, M', io, ex, w', rx, rs, ⟨C0, hC, _, cl, xf, hno, kit⟩, eq, nox, fin⟩ := h len
  obtain ⟨hcls, harg⟩ := rx
  rw [hC] at hcls
  cases hcls
  -- the class's field
  obtain ⟨z, hzd, zf, rarg⟩ : ∃ z : Option (Addr × Str), d = z.map (·.1) ∧ (∀ dx f, z = some (dx, f) → f = fld) ∧ R ⟨Y.K, tb, lam, fun cl a' y => cl = ex.cls ∧ a' = a ∧ y = z⟩ H io (.exn ex.cls ex.arg.toList) (.ref a) := by
    cases ea : ex.arg with
    | none =>
      rw [ea] at harg
      exact ⟨none, harg, (fun _ _ z => by cases z), .exn0 ⟨rfl, rfl, rfl⟩⟩
    | some dd =>
      rw [ea] at harg
      obtain ⟨f, a', v, hf1, hd1, hx1, rv⟩ := harg
      exact ⟨some (a', f), hd1, (fun dx f' e => by cases e; exact hfl _ _ hf1), .exn1 ⟨rfl, rfl, rfl⟩ hx1 (R.up rv)⟩
  subst hzd
  obtain ⟨vs, hvs⟩ := hf
  have hot : Hot1 (Y.suite a ((a, oe) :: pn)).A (a, oe) := ⟨rfl, vs, hvs, hz.2.2 vs hvs⟩
  have pe := pe_hot1 (X := Y.suite a ((a, oe) :: pn)) (p := (a, oe)) (x := nm) (a := pa) (q := q2) (pos := q4) (List.mem_cons_self) hot NK.F NK.S hr NK.b hg NK.m (pe_var (X := Y.suite a ((a, oe) :: pn)) (i := 1) (x := e) (pos := q3) (by show Y.N[1]? = _; rw [hY]; rfl) he hd2 hcd)
    (fun cdv s H hr' => NK.body (z := z) (cls := ex.cls) hot cl hz.zc ⟨vs, hvs⟩ xf hno kit zf hr') hd hst hpl
  refine (pss_one (ps_ret pe)).run pins s g H Ds I ?_
  -- the reading
  refine ⟨.ref a, at2, [some (.exn ex.cls ex.arg.toList)] ++ List.replicate (Nn.length - 1) none, M, io, ?_, ?_, ?_⟩
  · exact re_start (N := Nn) (ds := [.exn ex.cls ex.arg.toList]) (vs := [.ref a]) (.cons rarg .nil)
  · exact RS.up rs
  · unfold bodyF at eq
    cases eb : dN ex.cls ([D.exn ex.cls ex.arg.toList].map some ++ List.replicate (Nn.length - [D.exn ex.cls ex.arg.toList].length) none) M with
    | none => rw [eb] at eq; cases eq
    | some p =>
      obtain ⟨fl', r', MM⟩ := p
      rw [eb] at eq
      cases fl' with
      | rt d0 =>
        cases eq
        refine ⟨.rt (.str w'), r', _, eb, fun io1 H1 e1 rs1 v rv => ?_⟩
        cases rv
        exact fin io1 H1 (Ext.k e1) (RS.conv nox rs1)
      | nx => cases eq
      | ex _ => cases eq
      | bk => cases eq
      | ct => cases eq
end
end PyL

-- PyL9
set_option maxRecDepth 100000
set_option maxHeartbeats 4000000
noncomputable section
namespace PyL
open PySem PySem.Spec PyProof.Rows L2 PyD PyH HotX L2H
theorem takes0N {X : Cx} : L2N.Takes X (fun _ _ _ _ => False) := fun _ _ x => by
  obtain ⟨_, _, _, _, _, _, _, _, _, _, _, _, _, _, _, _, z⟩ := x
  exact z.elim
section
variable {P : Program} {w : World} {K : PySem.W.Frag} {mg : Str → Option Value} {base : Heap} {tb : List (Addr × Str)} {lam : Nat → Addr → HO → Addr → HO → Prop} {fl : Flds} {fld : Str} {tab : List (Str × Value)} {sub : Str → Str → Bool} {nm : Str} {st : Stmt} {aN : Addr} {uN : FuncData} {Nn : List Str} {pa : Str} {dN : Str → SDen} {k : Nat} {NE : Addr}
theorem Eerr.mono {n : Nat} {Q Q' : VK} {cls : Value} {d : Option Addr} {H : Hp} (h : Eerr K mg tb lam fl fld tab sub n dN NE Q cls d H) (i : ∀ v H', Q v H' → Q' v H') : Eerr K mg tb lam fl fld tab sub n dN NE Q' cls d H := by
  obtain ⟨M, M', io, ex, w, h1, h2, h3, h4, h5, h6⟩ := h
  exact ⟨M, M', io, ex, w, h1, h2, h3, h4, h5, fun io' H' e r => i _ _ (h6 io' H' e r)⟩
/-- try: call() / except X as e: return name(e); return '' -/
theorem err_body {Y : Cx} {N : List Str} {q x0 x2 NEn : Str} {l : LamS} {clos : List (Str × Addr)} {gM : L2.St} {f b : Addr} {pm ctv : Value} {kl j : Nat} {tbody : XK → TE} {a4 a5 a6 a7 a9 a10 a11 a12 a13 a14 a15 a16 : Pos} (hP : Y.prog = P) (hw : Y.w = w) (hK : Y.K = K) (hmg : Y.mg = mg) (hb : Y.base = base)
    (NK : NameOk P w K mg base tb lam fl fld tab sub nm st aN uN Nn pa dN k) (hfl : ∀ y f, fl y = some f → f = fld) (hY : Y.N = [x0, x2]) (ndY : Y.N.Nodup) (hs : Y.stack = Y.env :: Y.outer) (hfr : Y.env.frame = some Y.env.locals) (hex : Y.ex = []) (hr : Room (kl + 1) Y.A) (hk : k + 1 ≤ kl + 1)
    (v0 : Y.env.scope.names.lookup x0 = some .local) (v2 : Y.env.scope.names.lookup x2 = some .local) (hg : Gl Y nm) (hNE : Names Y NEn (.ref NE))
    (L : LOk l) (C : Cells N l clos gM Y.H_0 Y.s_0.heap) (len : gM.length = N.length) (hbind : ∀ pm cv ctv : Value, bindArgs (PySem.W.kla_fn "<lambda>" q l.params l.body l.scope clos pm cv ctv) ⟨[], []⟩ = pure [])
    (hbody : ∀ (E : XK) (s : Shared) (H : Hp), Room kl (Y.A.deeper (lEnv q l clos s.heap.objs.size f b)) → PE (lCx P w K mg base N q l clos f b Y.A Y.stack s H E) l.body (tbody E))
    (hmo : ∀ E g H Q Q', tbody E g H Q → (∀ v H', Q v H' → Q' v H') → tbody E g H Q') (hd : (nm == ("__debug__" : Str)) = false) (d0 : (x0 == ("__debug__" : Str)) = false) (c0 : (x0 == ("__classdict__" : Str)) = false) (d2 : (x2 == ("__debug__" : Str)) = false) (c2 : (x2 == ("__classdict__" : Str)) = false)
    (s4 : swapsWith (.Call (.Name x0 a4) [] [] a5) none a6.line Y.env = pure false := by rfl)
    (s8 : starEach [.Name x2 a10] Y.env = (false, eval (.Name x2 a10) Y.env) :: starEach [] Y.env := by rfl) (s9 : (backTo a11 (starEach [] Y.env)).any (·.1) = false := by rfl) :
    PSs Y [.Try [.Expr (.Call (.Name x0 a4) [] [] a5) a6] [.ExceptHandler (some (.Name NEn a7)) (some x2) [.Return (some (.Call (.Name nm a9) [.Name x2 a10] [] a11)) a12] a13] [] [] a14, .Return (some (.Constant (.str "") j a15)) a16]
      (fun Ds g H => g.length = 2 → g[0]? = some (some (.ref f)) ∧ H f = some (FnO f q l clos b pm ctv) ∧ H b = some (LamX.CodeO b q) ∧ tbody (Eerr K mg tb lam fl fld tab sub Nn.length dN NE Ds.rt) gM H (fun _ H' => Ds.rt (.str "") H')) := by
  have i0 : Y.N[0]? = some x0 := by rw [hY]; rfl
  have i1 : Y.N[1]? = some x2 := by rw [hY]; rfl
  have try_ := L2N.ps_try_as (X := Y) (c := .ref NE) (i := 1) (n := x2) (x := NEn) (np := a7) (pos := a14) (pos' := a13) (Wout := fun _ _ _ _ => False) (suite := []) (b₀ := .Return (some (.Call (.Name nm a9) [.Name x2 a10] [] a11)) a12) (body := [.Expr (.Call (.Name x0 a4) [] [] a5) a6])
    (tb := fun W Ds g H => g[0]? = some (some (.ref f)) ∧ H f = some (FnO f q l clos b pm ctv) ∧ H b = some (LamX.CodeO b q) ∧ ∃ E : XK, (∀ cls d g' H', E cls d H' → W cls d g' H') ∧ tbody E gM H fun _ H' => Ds.nx g H')
    (ts := fun a cls d Ds g H => g.length = 2 → g[1]? = some (some (.ref a)) ∧ Eerr K mg tb lam fl fld tab sub Nn.length dN NE Ds.rt cls d H)
    hs hfr ndY i1 v2 hNE takes0N (fun W pn xe tk _ => ?_) (fun a oe cls d pn hz hf => ?_)
  · refine ⟨fun pins s g H Ds I h => (pss_cons try_ (pss_one (ps_ret pe_str))).run pins s g H Ds I ?_⟩
    have lg : g.length = 2 := by
      have z := I.len
      rw [hY] at z
      exact z
    obtain ⟨h0, h1, h2, run⟩ := h lg
    refine ⟨h0, h1, h2, Eerr K mg tb lam fl fld tab sub Nn.length dN NE Ds.rt, fun cls d g' H' e => ?_, hmo _ _ _ _ _ run fun v H' q => q⟩
    have e' := e
    obtain ⟨M, M', io, ex, w', ⟨hc, _⟩, _, ⟨C0, hC, one, _⟩, _⟩ := e'
    rw [hC] at hc
    cases hc
    refine ⟨true, by rw [hK]; exact one, fun _ a na lx => ⟨?_, ?_⟩, fun z => by cases z⟩
    · rw [List.length_set] at lx
      exact List.getElem?_set_self (by rw [lx]; decide)
    · exact e
  · refine ⟨fun pins s g H Ds I h => ?_⟩
    obtain ⟨h0, h1, h2, E, hW, run⟩ := h
    have act := pe_actN (Y := Y.tr pn xe) (W := W) (E := E) (g := gM) (f := f) (b := b) (pm := pm) (ctv := ctv) (i := 0) (p1 := a4) (p2 := a5) (tb := tbody E) L C len hex hbind tk hW hr (fun s H hr' => by subst hP hw hK hmg hb; exact hbody E s H hr') i0 (.inl v0) d0 c0
    exact (pss_one (ps_expr (pos := a6) act s4)).run pins s g H Ds I ⟨h0, h1, h2, run⟩
  · have rH : RoomH (k + 1) (Y.A.mark (some (.ref a))) := RoomH.mono (k := kl + 1) ⟨hr.dp, hr.un⟩ hk
    exact suite_ok hP hw hK hmg hb NK hfl rH hY (.inl v2) hg hz hf hd d2 c2 s8 s9
end
end PyL

-- PyL10
set_option maxRecDepth 100000
set_option maxHeartbeats 4000000
noncomputable section
namespace PyL
open PySem PySem.Spec PyProof.Rows L2 PyD PyH HotX L2H
theorem sE.mono {c : Cfg} {f : Den D} {g : L2.St} {H : Hp} {Q Q' : VK} (s : sE c f g H Q) (i : ∀ v H', Q v H' → Q' v H') : sE c f g H Q' := by
  obtain ⟨r, M, io, re, rs, x, M', e, k⟩ := s
  refine ⟨r, M, io, re, rs, x, M', e, fun io' H' ex rs' => ?_⟩
  have z := k io' H' ex rs'
  cases x with
  | ok a => exact fun b rb => i _ _ (z b rb)
  | ex x => exact z
/-- the lambdas of a frame -/
structure LSpec where
  l : LamS
  clos : List (Str × Addr)
/-- the word for what the call of the lambda that fe gives raises; the frame's own slots vs are not the maker's -/
def errC (known : List Str) (n1 : Nat) (dN : Str → SDen) (vs : List Nat) (bd : Nat → Option (Den D)) (fe : Den D) : Den D := bindD fe fun d r M => match d with
  | .fn n => match bd n with
    | some f => errE known (fun cls => bodyF n1 (dN cls)) f (wipeD r vs) M
    | none => none
  | _ => none
/-- the def that calls what it gets, and tells what that raises -/
structure ErrOk (K : PySem.W.Frag) (mg : Str → Option Value) (nm NEn : Str) (NE : Addr) (xE : Str) (stE : Stmt) (gE : Addr) (uE : FuncData) (x0 x2 : Str) : Prop where
  F : Fun K xE xE stE gE uE
  S : FnScope [x0, x2] [x0] (defScope stE)
  m : mg xE = some (.ref gE)
  b : Binds K uE [x0] []
  body : ∃ (j : Nat) (a4 a5 a6 a7 a9 a10 a11 a12 a13 a14 a15 a16 : Pos), defBody stE = [.Try [.Expr (.Call (.Name x0 a4) [] [] a5) a6] [.ExceptHandler (some (.Name NEn a7)) (some x2) [.Return (some (.Call (.Name nm a9) [.Name x2 a10] [] a11)) a12] a13] [] [] a14, .Return (some (.Constant (.str "") j a15)) a16]
  v0 : (defScope stE).names.lookup x0 = some .local
  v2 : (defScope stE).names.lookup x2 = some .local
  gn : (defScope stE).names.lookup nm = some .globalImplicit
  ge : (defScope stE).names.lookup NEn = some .globalImplicit
  me : mg NEn = some (.ref NE)
  de : (NEn == ("__debug__" : Str)) = false
  dn : (nm == ("__debug__" : Str)) = false
  d0 : (x0 == ("__debug__" : Str)) = false
  c0 : (x0 == ("__classdict__" : Str)) = false
  d2 : (x2 == ("__debug__" : Str)) = false
  c2 : (x2 == ("__classdict__" : Str)) = false
section
variable {P : Program} {w : World} {K : PySem.W.Frag} {mg : Str → Option Value} {base : Heap} {tb : List (Addr × Str)} {lam : Nat → Addr → HO → Addr → HO → Prop} {fl : Flds} {fld : Str} {tab : List (Str × Value)} {sub : Str → Str → Bool} {nm : Str} {st : Stmt} {aN : Addr} {uN : FuncData} {Nn : List Str} {pa : Str} {dN : Str → SDen} {k : Nat} {NE : Addr}
theorem de_err {X : Cx} {N : List Str} {E0 : XK} {q xE NEn x0 x2 : Str} {stE : Stmt} {gE : Addr} {uE : FuncData} {kl : Nat} {known : List Str} {vs : List Nat} {ls : Nat → LSpec} {bd : Nat → Option (Den D)} {fe : Den D} {e : Expr} {p pos : Pos} {G : L2.St → Prop} (hP : X.prog = P) (hw : X.w = w) (hK : X.K = K) (hmg : X.mg = mg) (hb : X.base = base)
    (NK : NameOk P w K mg base tb lam fl fld tab sub nm st aN uN Nn pa dN k) (hfl : ∀ y f, fl y = some f → f = fld) (EK : ErrOk K mg nm NEn NE xE stE gE uE x0 x2) (nd3 : [x0, x2].Nodup) (hcls : ∀ cls, hasS known cls = true → ClsF K mg NE tab sub fld cls)
    (hlam : ∀ n f o b u, lam n f o b u → (bd n).isSome = true → ∃ pm ctv, o = FnO f q (ls n).l (ls n).clos b pm ctv ∧ u = LamX.CodeO b q) (hL : ∀ n, (bd n).isSome = true → LOk (ls n).l)
    (hbind : ∀ (n : Nat), (bd n).isSome = true → ∀ (pm cv ctv : Value), bindArgs (PySem.W.kla_fn "<lambda>" q (ls n).l.params (ls n).l.body (ls n).l.scope (ls n).clos pm cv ctv) ⟨[], []⟩ = pure [])
    (mk : ∀ ps r H s, Inv X ps r H s → G r → ∃ gM, L2.wipe r vs = L2.wipe gM vs ∧ gM.length = N.length ∧ ∀ n, (bd n).isSome = true → Cells N (ls n).l (ls n).clos gM H s.heap)
    (hbody : ∀ (n : Nat) (f : Den D), bd n = some f → ∀ (A : Around) (outer : List Env) (s : Shared) (H : Hp) (E : XK) (f0 b0 : Addr), Room kl (A.deeper (lEnv q (ls n).l (ls n).clos s.heap.objs.size f0 b0)) → PE (lCx P w K mg base N q (ls n).l (ls n).clos f0 b0 A outer s H E) (ls n).l.body (sE ⟨k0x K tb lam, mg, fl, E⟩ f))
    (hr : Room (kl + 2) X.A) (hk : k + 1 ≤ kl + 1) (hg : Gl X xE) (he : PE X e (sE ⟨k0x K tb lam, mg, fl, E0⟩ fe)) (hd : (xE == ("__debug__" : Str)) = false := by decide) (hst : starEach [e] X.env = (false, eval e X.env) :: starEach [] X.env := by rfl) (hpl : (backTo pos (starEach [] X.env)).any (·.1) = false := by rfl) :
    PE X (.Call (.Name xE p) [e] [] pos) (fun r H Q => G r ∧ sE ⟨k0x K tb lam, mg, fl, E0⟩ (errC known Nn.length dN vs bd fe) r H Q) := by
  have pa : PA X [e] (tCons (sE ⟨k0x K tb lam, mg, fl, E0⟩ fe) tNil) := pa_cons he pa_nil hst
  refine ⟨fun pins s g H Q I run => ?_⟩
  obtain ⟨hG, run⟩ := run
  subst hP hw hK hmg hb
  refine wpAny_Call_Name_kw (ld_glob I hg EK.m ?_ hd)
  -- the argument
  have arg : sE ⟨k0x X.K tb lam, X.mg, fl, E0⟩ fe g H (fun v H1 => ∃ (r : DEnv) (M1 : Sto) (io1 : List Addr) (d : D), RE (k0x X.K tb lam) H1 io1 r g ∧ RS (k0x X.K tb lam) H1 io1 M1 ∧ R (k0x X.K tb lam) H1 io1 d v ∧
      PyD.Run ⟨k0x X.K tb lam, X.mg, fl, E0⟩ (rD ⟨k0x X.K tb lam, X.mg, fl, E0⟩) (fun r M => match d with
        | .fn n => match bd n with
          | some f => errE known (fun cls => bodyF Nn.length (dN cls)) f (wipeD r vs) M
          | none => none
        | _ => none) r M1 io1 g H1 Q) := sG.bind run fun d v r M1 io1 H1 re rs rd run1 => ⟨r, M1, io1, d, re, rs, rd, run1⟩
  refine PySem.W.callWith_K (h₀ := X.base) I.ok.mod.kin EK.F.kp (thn (pa.run pos pins s g H (fun us H1 => match us with
    | [v] => ∃ (r : DEnv) (M1 : Sto) (io1 : List Addr) (d : D), RE (k0x X.K tb lam) H1 io1 r g ∧ RS (k0x X.K tb lam) H1 io1 M1 ∧ R (k0x X.K tb lam) H1 io1 d v ∧
      PyD.Run ⟨k0x X.K tb lam, X.mg, fl, E0⟩ (rD ⟨k0x X.K tb lam, X.mg, fl, E0⟩) (fun r M => match d with
        | .fn n => match bd n with
          | some f => errE known (fun cls => bodyF Nn.length (dN cls)) f (wipeD r vs) M
          | none => none
        | _ => none) r M1 io1 g H1 Q
    | _ => False) I arg) fun us s1 ⟨ws, H1, I1, r1, q1⟩ => ⟨I1.kIn, ?_⟩) hst hpl
  obtain ⟨v, u, rfl, rv, r, M1, io1, d, re, rs, rd, x, M', eq, aft⟩ : ∃ v u, us = [u] ∧ RelV v u ∧ ∃ (r : DEnv) (M1 : Sto) (io1 : List Addr) (d : D), RE (k0x X.K tb lam) H1 io1 r g ∧ RS (k0x X.K tb lam) H1 io1 M1 ∧ R (k0x X.K tb lam) H1 io1 d v ∧
      PyD.Run ⟨k0x X.K tb lam, X.mg, fl, E0⟩ (rD ⟨k0x X.K tb lam, X.mg, fl, E0⟩) (fun r M => match d with
        | .fn n => match bd n with
          | some f => errE known (fun cls => bodyF Nn.length (dN cls)) f (wipeD r vs) M
          | none => none
        | _ => none) r M1 io1 g H1 Q := by
    cases r1 with
    | nil => exact q1.elim
    | cons r rr =>
      cases rr with
      | nil => exact ⟨_, _, rfl, r, q1⟩
      | cons _ _ => exact q1.elim
  dsimp only at eq
  cases d with
  | fn n =>
    dsimp only at eq
    cases eb : bd n with
    | none => rw [eb] at eq; cases eq
    | some f =>
      rw [eb] at eq
      dsimp only at eq
      have hs : (bd n).isSome = true := by rw [eb]; rfl
      cases rd with
      | @fn _ a b o uo hl hf qf hb2 qb =>
        obtain ⟨pm, ctv, rfl, rfl⟩ := hlam _ _ _ _ _ hl hs
        obtain rfl : u = Value.ref a := rv
        obtain ⟨gM, hw, len, cells⟩ := mk pins g H1 s1 I1 hG
        have re' : RE (k0x X.K tb lam) H1 io1 (wipeD r vs) gM := by
          have z := re.wipe vs
          rw [hw] at z
          exact ⟨by rw [z.1, wipe_length], fun i d e => by
            obtain ⟨v, e1, e2⟩ := z.2 i d e
            exact ⟨v, (wipe_some e1).1, e2⟩⟩
        -- what is wished of the lambda's body
        have want : sE ⟨k0x X.K tb lam, X.mg, fl, Eerr X.K X.mg tb lam fl fld tab sub Nn.length dN NE Q⟩ f gM H1 (fun _ H' => Q (.str "") H') := by
          unfold errE at eq
          cases ef : f (wipeD r vs) M1 with
          | none => rw [ef] at eq; cases eq
          | some pr =>
            obtain ⟨y, M2⟩ := pr
            rw [ef] at eq
            refine ⟨wipeD r vs, M1, io1, re', rs, y, M2, ef, fun io' H' ex rs' => ?_⟩
            cases y with
            | ok d0 =>
              cases eq
              exact fun _ _ => aft io' H' ex rs' _ (.str _)
            | ex x0 =>
              dsimp only at eq
              split at eq
              · rename_i hk2
                split at eq
                · rename_i z M3 en
                  split at eq
                  · rename_i nx
                    cases eq
                    exact fun cv dx rx => ⟨M2, _, io', x0, z, rx, rs', hcls _ hk2, en, nx, fun io'' H'' e2 rs'' => aft io'' H'' (ex.trans e2) rs'' _ (.str _)⟩
                  · cases eq
                · cases eq
              · cases eq
        obtain ⟨oc, od, kV, doc, pmE, anE, cdv, ct, osl, efd, lk, hcd⟩ := EK.F.ex
        obtain ⟨j, a4, a5, a6, a7, a9, a10, a11, a12, a13, a14, a15, a16, hbE⟩ := EK.body
        have bnd := EK.b s1 [.ref a] I1.kIn rfl
        rw [List.append_nil] at bnd
        have rc : codeAny (model X.prog X.w) X.A (.call (.ref gE) ⟨[.ref a], []⟩) (CR C8.CX0 X.stack X.prog X.w H1 s1 Q C8.E0) s1 := by
          rw [efd] at bnd lk
          refine LamX.run_ofS (N := [x0, x2]) (ps := [x0]) (us := [.ref a]) (vs := [.ref a]) lk hcd EK.S hr I1.env0 bnd (.cons rfl .nil) rfl fun hr' => ?_
          rw [hbE]
          refine ⟨_, (err_body (Y := (cxOf C8.CX0 X.prog X.w X.K X.mg X.base [x0, x2] xE (defScope stE) gE cdv X.A X.stack s1 H1 C8.E0).nox) (l := (ls n).l) (clos := (ls n).clos) (gM := gM) (f := a) (b := b) (pm := pm) (ctv := ctv) (kl := kl) (tbody := fun E => sE ⟨k0x X.K tb lam, X.mg, fl, E⟩ f) rfl rfl rfl rfl rfl NK hfl rfl nd3 rfl rfl rfl hr' hk
            EK.v0 EK.v2 EK.gn ⟨EK.ge, EK.de, .inl EK.me⟩ (hL n hs) (cells n hs) len (hbind n hs) (fun E s H hr2 => hbody n f eb _ _ s H E a b hr2) (fun E g H Q Q' s i => sE.mono s i) EK.dn EK.d0 EK.c0 EK.d2 EK.c2).nox, ?_⟩
          exact fun _ => ⟨rfl, hf, hb2, want⟩
        refine wpAny_call (codeAny_mono rc fun r s2 z => ?_)
        cases r with
        | error e => exact (show False from z).elim
        | ok fl =>
          cases fl with
          | ret u => exact I1.after z
          | next => exact False.elim z
          | brk => exact False.elim z
          | cont => exact False.elim z
  | _ => cases eq
end
end PyL

-- PyL11
set_option maxRecDepth 100000
set_option maxHeartbeats 4000000
noncomputable section
namespace PyL
open PySem PySem.Spec PyProof.Rows L2 PyD PyH HotX L2H
/-! ### data without lambdas and exceptions -/
mutual
def pureD : D → Bool
  | .exn _ _ => false
  | .fn _ => false
  | .tup ds => pureDs ds
  | .ktup ds => pureDs ds
  | _ => true
def pureDs : List D → Bool
  | [] => true
  | d :: ds => pureD d && pureDs ds
end
def pureKV {κ : Type} (kvs : List (κ × D)) : Bool := kvs.all fun p => pureD p.2
def pureC : Cell → Bool
  | .lst ds => pureDs ds
  | .dk kvs => pureKV kvs
  | .dt kvs => pureKV kvs
  | .ob _ kvs => pureKV kvs
  | .dead => true
def pureM (M : Sto) : Bool := M.all pureC
def sweepC (c : Cell) : Cell := if pureC c then c else .dead
def sweepM (M : Sto) : Sto := M.map sweepC
section
variable {F : PySem.W.Frag} {T : List (Addr × Str)} {lam lam' : Nat → Addr → HO → Addr → HO → Prop} {x x' : Str → Addr → Option (Addr × Str) → Prop} {H : Hp} {io : List Addr}
mutual
theorem R.cv : ∀ {d : D} {v : V}, pureD d = true → R ⟨F, T, lam, x⟩ H io d v → R ⟨F, T, lam', x'⟩ H io d v
  | _, _, _, .non => .non
  | _, _, _, .bl b => .bl b
  | _, _, _, .int i => .int i
  | _, _, _, .str z => .str z
  | _, _, _, .ty n => .ty n
  | _, _, h, .tup e r => .tup e (RL.cv (by simpa only [pureD] using h) r)
  | _, _, h, .ktup e r => .ktup e (RL.cv (by simpa only [pureD] using h) r)
  | _, _, _, .lst e => .lst e
  | _, _, _, .dic e => .dic e
  | _, _, h, .fn _ _ _ _ _ => by simp only [pureD] at h; cases h
  | _, _, h, .exn0 _ => by simp only [pureD] at h; cases h
  | _, _, h, .exn1 _ _ _ => by simp only [pureD] at h; cases h
theorem RL.cv : ∀ {ds : List D} {vs : List V}, pureDs ds = true → RL ⟨F, T, lam, x⟩ H io ds vs → RL ⟨F, T, lam', x'⟩ H io ds vs
  | _, _, _, .nil => .nil
  | _, _, h, .cons r t => by
    simp only [pureDs, Bool.and_eq_true] at h
    exact .cons (R.cv h.1 r) (RL.cv h.2 t)
end
theorem RKV.cv {κ : Type} : ∀ {a : List (κ × D)} {b : List (κ × V)}, pureKV a = true → RKV ⟨F, T, lam, x⟩ H io a b → RKV ⟨F, T, lam', x'⟩ H io a b
  | [], _, _, h => by cases h; exact .nil
  | p :: r, _, e, h => by
    cases h with
    | cons h1 h2 =>
      unfold pureKV at e
      rw [List.all_cons, Bool.and_eq_true] at e
      exact .cons ⟨h1.1, R.cv e.1 h1.2⟩ (RKV.cv e.2 h2)
theorem RC.cv {c : Cell} {o : HO} (e : pureC c = true) (h : RC ⟨F, T, lam, x⟩ H io c o) : RC ⟨F, T, lam', x'⟩ H io c o := by
  cases c with
  | lst ds => obtain ⟨xs, q, r⟩ := h; exact ⟨xs, q, RL.cv e r⟩
  | dk ds => obtain ⟨xs, q, r⟩ := h; exact ⟨xs, q, RKV.cv e r⟩
  | dt ds => obtain ⟨xs, q, r⟩ := h; exact ⟨xs, q, RKV.cv e r⟩
  | ob cl fs => obtain ⟨dx, xs, q, r⟩ := h; exact ⟨dx, xs, q, RKV.cv e r⟩
  | dead => exact h
theorem RS.cv {M : Sto} (e : pureM M = true) (h : RS ⟨F, T, lam, x⟩ H io M) : RS ⟨F, T, lam', x'⟩ H io M := ⟨h.len, h.nd, h.tab, fun i c ei => by
  obtain ⟨a, o, e1, e2, rc⟩ := h.cell i c ei
  exact ⟨a, o, e1, e2, RC.cv (List.all_eq_true.mp e c (sGet_mem ei)) rc⟩⟩
theorem RS.sweep {M : Sto} (h : RS ⟨F, T, lam, x⟩ H io M) : RS ⟨F, T, lam', x'⟩ H io (sweepM M) := ⟨by rw [h.len, sweepM, List.length_map], h.nd, h.tab, fun i c ei => by
  unfold sweepM at ei
  rw [sGet_eq, List.getElem?_map, ← sGet_eq] at ei
  cases em : (sGet M i) with
  | none => rw [em] at ei; cases ei
  | some c0 =>
    rw [em] at ei
    cases ei
    obtain ⟨a, o, e1, e2, rc⟩ := h.cell i c0 em
    refine ⟨a, o, e1, e2, ?_⟩
    unfold sweepC
    split
    · rename_i hp
      exact RC.cv hp rc
    · exact rc.notTup⟩
end
/-- a def that makes lambdas: none comes in, none goes out -/
def bodyL (n : Nat) (b : SDen) : FDen := fun ds M => if pureDs ds && pureM M then (match bodyF n b ds M with
  | some (.ok d, M') => if pureD d then some (.ok d, sweepM M') else none
  | _ => none) else none
section
variable {P : Program} {w : World} {K : PySem.W.Frag} {mg : Str → Option Value} {base : Heap} {tb : List (Addr × Str)} {fl : Flds}
theorem fn_okL {lam : Nat → Addr → HO → Addr → HO → Prop} {W : XK} {x qual : Str} {st : Stmt} {f : Addr} {fd : FuncData} {N ps : List Str} {k n : Nat} {b : SDen} (F : Fun K x qual st f fd) (S : FnScope N ps (defScope st)) (hn : N.length = n)
    (hb : ∀ (cdv : Value) (A : Around) (outer : List Env) (s : Shared) (H : Hp) (E : XK), Room k (A.deeper (envOfC qual (defScope st) s.heap.objs.size f cdv)) → fd.code = cdv →
      ∃ lam' : Nat → Addr → HO → Addr → HO → Prop, PSs (cxOf (L2N.CX P w) P w K mg base N qual (defScope st) f cdv A outer s H E) (defBody st) (sS ⟨k0x K tb lam', mg, fl, E⟩ b)) :
    FnOk P w K mg base (L2N.CX P w) (k + 1) f fd ps (spF ⟨k0x K tb lam, mg, fl, W⟩ ps.length (bodyL n b)) := by
  subst hn
  obtain ⟨oc, od, kV, doc, pm, an, cdv, ct, osl, rfl, lk, hcd⟩ := F.ex
  refine fn_of lk hcd S (fun vs H Q E h => ?_) (fun A outer s H vs Q E hr h => ?_)
  · obtain ⟨M, io, ds, x, M', _, rl, _, hl, _⟩ := h
    rw [← rl.length]
    exact hl
  · obtain ⟨M, io, ds, x, M', e, rl, rs, hl, kk⟩ := h
    obtain ⟨lam', hP⟩ := hb cdv A outer s H E hr rfl
    refine ⟨_, hP, ?_⟩
    unfold bodyL at e
    split at e
    · rename_i hp
      rw [Bool.and_eq_true] at hp
      split at e
      · rename_i d M1 e1
        split at e
        · rename_i hd
          cases e
          unfold bodyF at e1
          cases eb : b (ds.map some ++ List.replicate (N.length - ds.length) none) M with
          | none => rw [eb] at e1; cases e1
          | some p =>
            obtain ⟨fl', r', M2⟩ := p
            rw [eb] at e1
            refine ⟨_, M, io, re_start (N := N) (RL.cv hp.1 rl), RS.cv hp.2 rs, fl', r', M2, eb, fun io1 H1 ex rs1 => ?_⟩
            cases fl' with
            | rt d0 => cases e1; exact fun v rv => kk io1 H1 (Ext.k ex) (RS.sweep rs1) v (R.cv hd rv)
            | nx => cases e1; exact fun g' re => kk io1 H1 (Ext.k ex) (RS.sweep rs1) _ .non
            | ex x => cases e1
            | bk => cases e1
            | ct => cases e1
        · cases e
      · cases e
    · cases e
end
end PyL

-- PyL12
set_option maxRecDepth 100000
set_option maxHeartbeats 4000000
noncomputable section
namespace PyL
open PySem PySem.Spec PyProof.Rows L2 PyD PyH HotX L2H
/-- the lambdas of an expression, as they are written -/
def lamsE : Nat → Expr → List LamS
  | 0, _ => []
  | _ + 1, .Lambda a b s _ => [⟨a, b, s⟩]
  | n + 1, .List es _ => es.flatMap (lamsE n)
  | n + 1, .Tuple es _ _ => es.flatMap (lamsE n)
  | n + 1, .BoolOp _ es _ => es.flatMap (lamsE n)
  | n + 1, .BinOp a _ b _ => lamsE n a ++ lamsE n b
  | n + 1, .UnaryOp _ a _ => lamsE n a
  | n + 1, .Compare a _ es _ => lamsE n a ++ es.flatMap (lamsE n)
  | n + 1, .Call f es _ _ => lamsE n f ++ es.flatMap (lamsE n)
  | n + 1, .Attribute a _ _ => lamsE n a
  | n + 1, .Subscript a b _ => lamsE n a ++ lamsE n b
  | _, _ => []
def lamsT : Nat → Stmt → List LamS
  | 0, _ => []
  | _ + 1, .Assign _ e _ => lamsE 20 e
  | _ + 1, .Expr e _ => lamsE 20 e
  | _ + 1, .Return (some e) _ => lamsE 20 e
  | n + 1, .If e b _ _ => lamsE 20 e ++ b.flatMap (lamsT n)
  | n + 1, .For _ e b _ _ => lamsE 20 e ++ b.flatMap (lamsT n)
  | _, _ => []
def lamsS (n : Nat) (st : Stmt) : List LamS := lamsT n st
def noLam : LamS := ⟨⟨[], [], none, [], [], none, []⟩, .Constant .none 0 ⟨0, 0, 0, 0⟩, ⟨.function, [], false, false, []⟩⟩
def lamsOf (st : Stmt) (n : Nat) : LamS := ((defBody st).flatMap (lamsS 20)).getD n noLam
/-- a closed term by its head, worked out when it is read -/
def theVal {A : Type} {a : A} (y : A) (_ : a = y) : A := y
/-- where the table of a maker's code is -/
structure LamAt (base : Heap) (mg : Str → Option Value) (tb : List (Addr × Str)) (cd : Value) (q : Str) : Prop where
  ex : ∃ c P : Addr, cd = .ref c ∧ LamX.TabB base mg c P ∧ (P, q ++ "<lambda>") ∈ tb ∧ ∀ p ∈ tb, p.1 = P → p.2 = q ++ "<lambda>"
/-- the lambdas that a frame makes -/
def lamOf (q : Str) (ls : Nat → LSpec) : Nat → Addr → HO → Addr → HO → Prop := fun n f o b u => ∃ pm ctv, o = FnO f q (ls n).l (ls n).clos b pm ctv ∧ u = LamX.CodeO b q
section
variable {P : Program} {w : World} {K : PySem.W.Frag} {mg : Str → Option Value} {base : Heap} {tb : List (Addr × Str)} {lam : Nat → Addr → HO → Addr → HO → Prop} {fl : Flds} {fld : Str} {tab : List (Str × Value)} {sub : Str → Str → Bool} {nm : Str} {st : Stmt} {aN : Addr} {uN : FuncData} {Nn : List Str} {pa : Str} {dN : Str → SDen} {k : Nat} {NE : Addr}
theorem de_lamN {X : Cx} {E0 : XK} {a : Arguments} {b : Expr} {sc : Scope} {pos : Pos} {n : Nat} {ls : Nat → LSpec} {q : Str} (hq : X.env.qual = q) (hb : X.base = base) (hmg : X.mg = mg) (LA : LamAt base mg tb X.env.code q) (L : LamX.LamS X.env.scope sc) (hdef : defaultsOf a X.env = ([], []))
    (hl : ls n = ⟨⟨a, b, sc⟩, cloFrom X.env.cells sc.names []⟩) : PE X (.Lambda a b sc pos) (sE ⟨k0x K tb (lamOf (q ++ "<lambda>") ls), mg, fl, E0⟩ (lamD n)) := by
  subst hq hb hmg
  obtain ⟨c, P, hc, TB, hm, hu⟩ := LA.ex
  exact de_lam (l := ⟨a, b, sc⟩) TB hc hm hu hdef (fun ok => L.has ok) fun f b0 pm ctv => ⟨pm, ctv, by rw [hl], rfl⟩
/-- what stands fixed for the telling of errors -/
structure ErrAll (P : Program) (w : World) (K : PySem.W.Frag) (mg : Str → Option Value) (base : Heap) (tb : List (Addr × Str)) (fl : Flds) (fld : Str) (tab : List (Str × Value)) (sub : Str → Str → Bool) (nm : Str) (st : Stmt) (aN : Addr) (uN : FuncData) (Nn : List Str) (pa : Str) (dN : Str → SDen) (k : Nat) (NE : Addr) (NEn xE : Str) (stE : Stmt) (gE : Addr) (uE : FuncData) (x0 x2 : Str) (known : List Str) : Prop where
  NK : ∀ lam : Nat → Addr → HO → Addr → HO → Prop, NameOk P w K mg base tb lam fl fld tab sub nm st aN uN Nn pa dN k
  fl1 : ∀ y f, fl y = some f → f = fld
  EK : ErrOk K mg nm NEn NE xE stE gE uE x0 x2
  nd : [x0, x2].Nodup
  cls : ∀ cls, hasS known cls = true → ClsF K mg NE tab sub fld cls
variable {NEn xE x0 x2 : Str} {stE : Stmt} {gE : Addr} {uE : FuncData} {known : List Str}
/-- tell(lambda), where the maker's frame stands -/
theorem de_errD {X : Cx} {E0 : XK} {q : Str} {kl : Nat} {LS : Nat → LamS} {bd : Nat → Option (Den D)} {fe : Den D} {e : Expr} {p pos : Pos} (hP : X.prog = P) (hw : X.w = w) (hK : X.K = K) (hmg : X.mg = mg) (hb : X.base = base) (EA : ErrAll P w K mg base tb fl fld tab sub nm st aN uN Nn pa dN k NE NEn xE stE gE uE x0 x2 known)
    (hLS : ∀ n, (bd n).isSome = true → LOk (LS n) ∧ LamX.LamS X.env.scope (LS n).scope ∧ ∀ (q : Str) (clos : List (Str × Addr)) (pm cv ctv : Value), bindArgs (PySem.W.kla_fn "<lambda>" q (LS n).params (LS n).body (LS n).scope clos pm cv ctv) ⟨[], []⟩ = pure [])
    (hbody : ∀ (n : Nat) (f : Den D), bd n = some f → ∀ (A : Around) (outer : List Env) (s : Shared) (H : Hp) (E : XK) (f0 b0 : Addr), Room kl (A.deeper (lEnv q (LS n) (cloFrom X.env.cells (LS n).scope.names []) s.heap.objs.size f0 b0)) →
      PE (lCx P w K mg base X.N q (LS n) (cloFrom X.env.cells (LS n).scope.names []) f0 b0 A outer s H E) (LS n).body (sE ⟨k0x K tb (lamOf q fun n => ⟨LS n, cloFrom X.env.cells (LS n).scope.names []⟩), mg, fl, E⟩ f))
    (hr : Room (kl + 2) X.A) (hk : k + 1 ≤ kl + 1) (hg : Gl X xE) (he : PE X e (sE ⟨k0x K tb (lamOf q fun n => ⟨LS n, cloFrom X.env.cells (LS n).scope.names []⟩), mg, fl, E0⟩ fe)) (hd : (xE == ("__debug__" : Str)) = false := by decide)
    (hst : starEach [e] X.env = (false, eval e X.env) :: starEach [] X.env := by rfl) (hpl : (backTo pos (starEach [] X.env)).any (·.1) = false := by rfl) :
    PE X (.Call (.Name xE p) [e] [] pos) (sE ⟨k0x K tb (lamOf q fun n => ⟨LS n, cloFrom X.env.cells (LS n).scope.names []⟩), mg, fl, E0⟩ (errC known Nn.length dN [] bd fe)) :=
  PE.imp (de_err (N := X.N) (vs := []) (G := fun _ => True) (ls := fun n => ⟨LS n, cloFrom X.env.cells (LS n).scope.names []⟩) hP hw hK hmg hb (EA.NK _) EA.fl1 EA.EK EA.nd EA.cls (fun n f o b u h _ => h) (fun n h => (hLS n h).1) (fun n h pm cv ctv => (hLS n h).2.2 _ _ _ _ _) (fun ps r H s I _ => ⟨r, rfl, I.len, fun n h => Cells.of I (hLS n h).2.1⟩) hbody hr hk hg he hd hst hpl) fun g H Q s => ⟨trivial, s⟩
/-- tell(x), within a comprehension of the maker's frame -/
theorem de_errB {X : Cx} {E0 : XK} {q : Str} {kl : Nat} {LS : Nat → LamS} {bd : Nat → Option (Den D)} {fe : Den D} {e : Expr} {p pos : Pos} {scope : Scope} {sl : List Nat} {pins0 : List (Addr × Obj)} {g0 : L2.St} {s0 : Shared} {H0 : Hp} {C0 : Addr} {cl0 : List (Str × Addr)} {fp : List Addr} (I0 : Inv X pins0 g0 H0 s0) (F0 : ∀ b ∈ fp, FpOk X pins0 H0 b)
    (hP : X.prog = P) (hw : X.w = w) (hK : X.K = K) (hmg : X.mg = mg) (hb : X.base = base) (EA : ErrAll P w K mg base tb fl fld tab sub nm st aN uN Nn pa dN k NE NEn xE stE gE uE x0 x2 known)
    (hLS : ∀ n, (bd n).isSome = true → LOk (LS n) ∧ LamX.LamS X.env.scope (LS n).scope ∧ ∀ (q : Str) (clos : List (Str × Addr)) (pm cv ctv : Value), bindArgs (PySem.W.kla_fn "<lambda>" q (LS n).params (LS n).body (LS n).scope clos pm cv ctv) ⟨[], []⟩ = pure [])
    (hbody : ∀ (n : Nat) (f : Den D), bd n = some f → ∀ (A : Around) (outer : List Env) (s : Shared) (H : Hp) (E : XK) (f0 b0 : Addr), Room kl (A.deeper (lEnv q (LS n) (cloFrom X.env.cells (LS n).scope.names []) s.heap.objs.size f0 b0)) →
      PE (lCx P w K mg base X.N q (LS n) (cloFrom X.env.cells (LS n).scope.names []) f0 b0 A outer s H E) (LS n).body (sE ⟨k0x K tb (lamOf q fun n => ⟨LS n, cloFrom X.env.cells (LS n).scope.names []⟩), mg, fl, E⟩ f))
    (hr : Room (kl + 2) X.A) (hk : k + 1 ≤ kl + 1) (hg : Gl (X.blk s0 H0 scope (compEnvC scope cl0 C0 X.env) fp) xE) (he : PE (X.blk s0 H0 scope (compEnvC scope cl0 C0 X.env) fp) e (sE ⟨k0x K tb (lamOf q fun n => ⟨LS n, cloFrom X.env.cells (LS n).scope.names []⟩), mg, fl, E0⟩ fe)) (hd : (xE == ("__debug__" : Str)) = false := by decide)
    (hst : starEach [e] (X.blk s0 H0 scope (compEnvC scope cl0 C0 X.env) fp).env = (false, eval e (X.blk s0 H0 scope (compEnvC scope cl0 C0 X.env) fp).env) :: starEach [] (X.blk s0 H0 scope (compEnvC scope cl0 C0 X.env) fp).env := by rfl) (hpl : (backTo pos (starEach [] (X.blk s0 H0 scope (compEnvC scope cl0 C0 X.env) fp).env)).any (·.1) = false := by rfl) :
    PE (X.blk s0 H0 scope (compEnvC scope cl0 C0 X.env) fp) (.Call (.Name xE p) [e] [] pos) (fun r H Q => L2.wipe r sl = L2.wipe g0 sl ∧ sE ⟨k0x K tb (lamOf q fun n => ⟨LS n, cloFrom X.env.cells (LS n).scope.names []⟩), mg, fl, E0⟩ (errC known Nn.length dN sl bd fe) r H Q) :=
  de_err (X := X.blk s0 H0 scope (compEnvC scope cl0 C0 X.env) fp) (N := X.N) (vs := sl) (G := fun r => L2.wipe r sl = L2.wipe g0 sl) (ls := fun n => ⟨LS n, cloFrom X.env.cells (LS n).scope.names []⟩) hP hw hK hmg hb (EA.NK _) EA.fl1 EA.EK EA.nd EA.cls (fun n f o b u h _ => h) (fun n h => (hLS n h).1) (fun n h pm cv ctv => (hLS n h).2.2 _ _ _ _ _)
    (fun ps r H s I hG => ⟨g0, hG, I0.len, fun n h => (Cells.of I0 (hLS n h).2.1).un I.base fun y c hc z => by
      have hm : X.env.cells.lookup y = some c := by
        rcases cloFrom_mem (PySem.mem_of_lookup hc) with hm | ⟨h1, h2⟩
        · cases hm
        · obtain ⟨c1, hc1⟩ := (hLS n h).2.1.has I0.ok _ h1 rfl
          have hc1 : X.env.cells.lookup y = some c1 := hc1
          rw [h2, hc1]
          rfl
      exact (F0 c z).2.2.2.2.1 y c hm rfl⟩) hbody hr hk hg he hd hst hpl
end
end PyL

-- PyM4
set_option maxRecDepth 100000
set_option maxHeartbeats 4000000
noncomputable section
namespace PyM
open PySem PySem.Spec PyProof.Rows L2 PyD
/-! ### what is built on the way is forgotten: the store cut to its first k cells -/
mutual
def okR (k : Nat) : D → Bool
  | .lst i => decide (i < k)
  | .dic i => decide (i < k)
  | .tup ds => okRL k ds
  | .ktup ds => okRL k ds
  | .exn _ ds => okRL k ds
  | _ => true
def okRL (k : Nat) : List D → Bool
  | [] => true
  | d :: ds => okR k d && okRL k ds
end
def okCell (k : Nat) : Cell → Bool
  | .lst ds => okRL k ds
  | .dk kvs => kvs.all fun p => okR k p.2
  | .dt kvs => kvs.all fun p => okR k p.2
  | .ob _ kvs => kvs.all fun p => okR k p.2
  | .dead => true
def okEnv (k : Nat) (r : DEnv) : Bool := r.all fun x => match x with
  | some d => okR k d
  | none => true
section
variable {K : KT} {H : Hp} {io : List Addr} {k : Nat}
mutual
theorem R.cut : ∀ {d : D} {v : V}, okR k d = true → R K H io d v → R K H (io.take k) d v
  | .non, _, _, h => by cases h; exact .non
  | .bl _, _, _, h => by cases h; exact .bl _
  | .int _, _, _, h => by cases h; exact .int _
  | .str _, _, _, h => by cases h; exact .str _
  | .ty _, _, _, h => by cases h; exact .ty _
  | .tup ds, _, e, h => by
    unfold okR at e
    cases h with
    | tup h1 h2 => exact .tup h1 (RL.cut e h2)
  | .ktup ds, _, e, h => by
    unfold okR at e
    cases h with
    | ktup h1 h2 => exact .ktup h1 (RL.cut e h2)
  | .lst i, _, e, h => by
    unfold okR at e
    cases h with
    | lst h1 => exact .lst (by rw [List.getElem?_take_of_lt (of_decide_eq_true e)]; exact h1)
  | .dic i, _, e, h => by
    unfold okR at e
    cases h with
    | dic h1 => exact .dic (by rw [List.getElem?_take_of_lt (of_decide_eq_true e)]; exact h1)
  | .fn n, _, _, h => by
    cases h with
    | fn h1 h2 h3 h4 h5 => exact .fn h1 h2 h3 h4 h5
  | .exn c ds, _, e, h => by
    unfold okR at e
    cases h with
    | exn0 h1 => exact .exn0 h1
    | exn1 h1 h2 h3 =>
      unfold okRL at e
      rw [Bool.and_eq_true] at e
      exact .exn1 h1 h2 (R.cut e.1 h3)
theorem RL.cut : ∀ {ds : List D} {vs : List V}, okRL k ds = true → RL K H io ds vs → RL K H (io.take k) ds vs
  | [], _, _, h => by cases h; exact .nil
  | d :: ds, _, e, h => by
    unfold okRL at e
    rw [Bool.and_eq_true] at e
    cases h with
    | cons h1 h2 => exact .cons (R.cut e.1 h1) (RL.cut e.2 h2)
end
theorem RKV.cut {κ : Type} : ∀ {a : List (κ × D)} {b : List (κ × V)}, (a.all fun p => okR k p.2) = true → RKV K H io a b → RKV K H (io.take k) a b
  | [], _, _, h => by cases h; exact .nil
  | p :: r, _, e, h => by
    rw [List.all_cons, Bool.and_eq_true] at e
    cases h with
    | cons h1 h2 => exact .cons ⟨h1.1, R.cut e.1 h1.2⟩ (RKV.cut e.2 h2)
theorem RC.cut {c : Cell} {o : HO} (e : okCell k c = true) (h : RC K H io c o) : RC K H (io.take k) c o := by
  cases c with
  | lst ds => obtain ⟨xs, q, r⟩ := h; exact ⟨xs, q, RL.cut e r⟩
  | dk kvs => obtain ⟨xs, q, r⟩ := h; exact ⟨xs, q, RKV.cut e r⟩
  | dt kvs => obtain ⟨xs, q, r⟩ := h; exact ⟨xs, q, RKV.cut e r⟩
  | ob cl fs => obtain ⟨dx, xs, q, r⟩ := h; exact ⟨dx, xs, q, RKV.cut e r⟩
  | dead => exact h
theorem RS.cut {M : Sto} (e : ((M.take k).all (okCell k)) = true) (h : RS K H io M) : RS K H (io.take k) (M.take k) := by
  refine ⟨by rw [List.length_take, List.length_take, h.len], h.nd.sublist (List.take_sublist _ _), h.tab, fun i c ei => ?_⟩
  rw [sGet_eq] at ei
  have hm : c ∈ M.take k := List.mem_of_getElem? ei
  have hi : i < k := by
    have := (List.getElem?_eq_some_iff.mp ei).1
    rw [List.length_take] at this
    omega
  rw [List.getElem?_take_of_lt hi, ← sGet_eq] at ei
  obtain ⟨a, o, e1, e2, rc⟩ := h.cell i c ei
  exact ⟨a, o, by rw [List.getElem?_take_of_lt hi]; exact e1, e2, RC.cut (List.all_eq_true.mp e c hm) rc⟩
theorem RE.cut {r : DEnv} {g : L2.St} (e : okEnv k r = true) (h : RE K H io r g) : RE K H (io.take k) r g := ⟨h.1, fun i d q => by
  obtain ⟨v, a, b⟩ := h.2 i d q
  refine ⟨v, a, R.cut ?_ b⟩
  have z := List.all_eq_true.mp e _ (List.mem_of_getElem? q)
  exact z⟩
end
/-- a statement, what it leaves beyond the cells that were there forgotten -/
def trimS (b : SDen) : SDen := fun r M => match b r M with
  | some (.nx, r', M') => if okEnv M.length r' && (M'.take M.length).all (okCell M.length) then some (.nx, r', M'.take M.length) else none
  | some (.rt d, r', M') => if okR M.length d && (M'.take M.length).all (okCell M.length) then some (.rt d, r', M'.take M.length) else none
  | _ => none
theorem ds_trim {X : Cx} {c : Cfg} {st : Stmt} {b : SDen} (h : PS X st (sS c b)) : PS X st (sS c (trimS b)) := PS.imp h fun Ds g H s => by
  obtain ⟨r, M, io, re, rs, fl, r', M2, eq, z⟩ := s
  have ioL : ∀ {io' : List Addr} {H' : Hp}, Ext c.K io H io' H' → Ext c.K io H (io'.take M.length) H' := fun {io' H'} e => ⟨e.u, fun j a hj => by
    rw [List.getElem?_take_of_lt (by rw [← rs.len]; exact (List.getElem?_eq_some_iff.mp hj).1)]
    exact e.i j a hj⟩
  unfold trimS at eq
  split at eq
  · rename_i r1 M1 eb
    split at eq
    · rename_i ho
      rw [Bool.and_eq_true] at ho
      cases eq
      exact ⟨r, M, io, re, rs, _, _, _, eb, fun io' H' ex rs' g' re' => z _ _ (ioL ex) (RS.cut ho.2 rs') g' (RE.cut ho.1 re')⟩
    · cases eq
  · rename_i d r1 M1 eb
    split at eq
    · rename_i ho
      rw [Bool.and_eq_true] at ho
      cases eq
      exact ⟨r, M, io, re, rs, _, _, _, eb, fun io' H' ex rs' v rv => z _ _ (ioL ex) (RS.cut ho.2 rs') v (R.cut ho.1 rv)⟩
    · cases eq
  · cases eq
end PyM

-- PyM6
set_option maxRecDepth 100000
set_option maxHeartbeats 4000000
noncomputable section
namespace PyM
open PySem PySem.Spec PyProof.Rows L2 PyD
/-! ### an expression's value; what was built on the way forgotten where nothing names it -/
/-- the first n cells, each naming none but the first k -/
def keepM (k : Nat) : Nat → Sto → Option Sto
  | 0, _ => some []
  | _ + 1, [] => none
  | n + 1, c :: M => match okCell k c with
    | true => match keepM k n M with
      | some M2 => some (c :: M2)
      | none => none
    | false => none
theorem keepM_ok {k : Nat} : ∀ {n : Nat} {M M2 : Sto}, keepM k n M = some M2 → M2 = M.take n ∧ (M.take n).all (okCell k) = true
  | 0, _, _, e => by
    cases e
    simp
  | n + 1, [], _, e => by cases e
  | n + 1, c :: M, _, e => by
    unfold keepM at e
    split at e
    · rename_i hc
      split at e
      · rename_i M3 h3
        cases e
        obtain ⟨h4, h5⟩ := keepM_ok h3
        rw [List.take_succ_cons, List.all_cons, hc, h5, h4]
        exact ⟨rfl, rfl⟩
      · cases e
    · cases e
def trimE (f : Den D) : Den D := fun r M => match f r M with
  | some (.ok d, M1) => match Nat.ble M1.length M.length with
    | true => some (.ok d, M1)
    | false => match okR M.length d with
      | true => match keepM M.length M.length M1 with
        | some M2 => some (.ok d, M2)
        | none => some (.ok d, M1)
      | false => some (.ok d, M1)
  | x => x
theorem sE_trim {c : Cfg} {f : Den D} {g : L2.St} {H : Hp} {Q : VK} (s : sE c (trimE f) g H Q) : sE c f g H Q := by
  obtain ⟨r, M, io, re, rs, x, M2, eq, z⟩ := s
  unfold trimE at eq
  cases ef : f r M with
  | none =>
    rw [ef] at eq
    cases eq
  | some p =>
    obtain ⟨y, M1⟩ := p
    rw [ef] at eq
    cases y with
    | ex e =>
      cases eq
      exact ⟨r, M, io, re, rs, _, _, ef, z⟩
    | ok d =>
      dsimp only at eq
      split at eq
      · cases eq
        exact ⟨r, M, io, re, rs, _, _, ef, z⟩
      split at eq
      · rename_i ho
        split at eq
        · rename_i M3 hk
          cases eq
          obtain ⟨rfl, ha⟩ := keepM_ok hk
          refine ⟨r, M, io, re, rs, _, _, ef, fun io1 H1 ex rs1 v rv => z (io1.take M.length) H1 ⟨ex.u, fun j a hj => ?_⟩ (RS.cut ha rs1) v (R.cut ho rv)⟩
          rw [List.getElem?_take_of_lt (by rw [← rs.len]; exact (List.getElem?_eq_some_iff.mp hj).1)]
          exact ex.i j a hj
        · cases eq
          exact ⟨r, M, io, re, rs, _, _, ef, z⟩
      · cases eq
        exact ⟨r, M, io, re, rs, _, _, ef, z⟩
theorem de_trim {X : Cx} {c : Cfg} {e : Expr} {f : Den D} (h : PE X e (sE c f)) : PE X e (sE c (trimE f)) := PE.imp h fun _ _ _ s => sE_trim s
theorem de_trimB {X : Cx} {c : Cfg} {e : Expr} {f : Den D} {A : L2.St → Prop} (h : PE X e (fun r H Q => A r ∧ sE c f r H Q)) : PE X e (fun r H Q => A r ∧ sE c (trimE f) r H Q) := PE.imp h fun _ _ _ s => ⟨s.1, sE_trim s.2⟩
end PyM

-- PyM7
set_option maxRecDepth 100000
set_option maxHeartbeats 4000000
noncomputable section
namespace PyM
open PySem PySem.Spec PyProof.Rows L2 PyD
/-! ### a loop's turn: what it leaves in the store is forgotten, and the names that lead there -/
def cleanEnv (k : Nat) (r : DEnv) : DEnv := r.map fun x => match x with
  | some d => (match okR k d with
    | true => some d
    | false => none)
  | none => none
theorem RE.clean {K : KT} {H : Hp} {io : List Addr} {k : Nat} {r : DEnv} {g : L2.St} (h : RE K H io r g) : RE K H (io.take k) (cleanEnv k r) g := ⟨by rw [cleanEnv, List.length_map, h.1], fun i d q => by
  unfold cleanEnv at q
  rw [List.getElem?_map] at q
  cases e : r[i]? with
  | none => rw [e] at q; cases q
  | some x =>
    rw [e] at q
    have q := Option.some.inj q
    cases x with
    | none => cases q
    | some d' =>
      dsimp only at q
      split at q
      · rename_i ho
        cases q
        obtain ⟨v, a, b⟩ := h.2 i _ e
        exact ⟨v, a, R.cut ho b⟩
      · cases q⟩
def trimW (b : SDen) : SDen := fun r M => match b r M with
  | some (.nx, r', M') => (match Nat.ble M'.length M.length with
    | true => some (.nx, r', M')
    | false => match keepM M.length M.length M' with
      | some M2 => some (.nx, cleanEnv M.length r', M2)
      | none => some (.nx, r', M'))
  | x => x
theorem sS_trimW {c : Cfg} {b : SDen} {Ds : Ends} {g : L2.St} {H : Hp} (s : sS c (trimW b) Ds g H) : sS c b Ds g H := by
  obtain ⟨r, M, io, re, rs, fl, r', M2, eq, z⟩ := s
  refine ⟨r, M, io, re, rs, ?_⟩
  unfold trimW at eq
  split at eq
  · rename_i r1 M1 eb
    split at eq
    · cases eq
      exact ⟨_, _, _, eb, z⟩
    · split at eq
      · rename_i M3 hk
        cases eq
        obtain ⟨rfl, ha⟩ := keepM_ok hk
        refine ⟨_, _, _, eb, fun io1 H1 ex rs1 g' re' => z (io1.take M.length) H1 ⟨ex.u, fun j a hj => ?_⟩ (RS.cut ha rs1) g' (RE.clean re')⟩
        rw [List.getElem?_take_of_lt (by rw [← rs.len]; exact (List.getElem?_eq_some_iff.mp hj).1)]
        exact ex.i j a hj
      · cases eq
        exact ⟨_, _, _, eb, z⟩
  · exact ⟨_, _, _, eq, z⟩
theorem dss_trimW {X : Cx} {c : Cfg} {st : List Stmt} {b : SDen} (h : PSs X st (sS c b)) : PSs X st (sS c (trimW b)) := PSs.imp h fun _ _ _ s => sS_trimW s
def trimIf (q : Bool) (f : Den D) : Den D := match q with
  | true => trimE f
  | false => f
theorem de_trimIf {X : Cx} {c : Cfg} {e : Expr} {f : Den D} {q : Bool} (h : PE X e (sE c f)) : PE X e (sE c (trimIf q f)) := by
  cases q with
  | true => exact de_trim h
  | false => exact h
end PyM

-- PyO1
set_option maxRecDepth 100000
set_option maxHeartbeats 4000000
noncomputable section
namespace PyM
open PySem PySem.Spec PyProof.Rows L2 PyD
/-! ### objects of an own class: a cell of fields -/
def fldPut (f : Str) (v : D) : List (Str × D) → List (Str × D)
  | [] => [(f, v)]
  | (g, x) :: r => match sbeq g f with
    | true => (g, v) :: r
    | false => (g, x) :: fldPut f v r
def fldGet (f : Str) : List (Str × D) → Option D
  | [] => none
  | (g, x) :: r => match sbeq f g with
    | true => some x
    | false => fldGet f r
section
variable {K : KT} {H : Hp} {io : List Addr} {f : Str} {d : D} {v : V}
theorem fld_get : ∀ {fs : List (Str × D)} {vs : List (Str × V)}, RKV K H io fs vs → fldGet f fs = some d → ∃ v, vs.lookup f = some v ∧ R K H io d v
  | [], _, _, e => by cases e
  | (g, x) :: r, _, h, e => by
    cases h with
    | @cons _ b _ _ h1 h2 =>
      obtain ⟨g', y⟩ := b
      obtain ⟨e1, r1⟩ := h1
      have e1 : g = g' := e1
      subst e1
      unfold fldGet at e
      cases q : sbeq f g with
      | true =>
        rw [q] at e
        cases e
        have z : f = g := sbeq_iff.mp q
        subst z
        exact ⟨y, by simp only [List.lookup, beq_self_eq_true], r1⟩
      | false =>
        rw [q] at e
        obtain ⟨v, hv, rv⟩ := fld_get h2 e
        have z : f ≠ g := fun z => by rw [sbeq_iff.mpr z] at q; cases q
        exact ⟨v, by simp only [List.lookup, beq_eq_false_iff_ne.mpr z]; exact hv, rv⟩
theorem fld_none : ∀ {fs : List (Str × D)} {vs : List (Str × V)}, RKV K H io fs vs → fldGet f fs = none → vs.lookup f = none
  | [], _, h, _ => by cases h; rfl
  | (g, x) :: r, _, h, e => by
    cases h with
    | @cons _ b _ _ h1 h2 =>
      obtain ⟨g', y⟩ := b
      have e1 : g = g' := h1.1
      subst e1
      unfold fldGet at e
      cases q : sbeq f g with
      | true => rw [q] at e; cases e
      | false =>
        rw [q] at e
        have z : f ≠ g := fun z => by rw [sbeq_iff.mpr z] at q; cases q
        simp only [List.lookup, beq_eq_false_iff_ne.mpr z]
        exact fld_none h2 e
theorem fld_put (rv : R K H io d v) : ∀ {fs : List (Str × D)} {vs : List (Str × V)}, RKV K H io fs vs → RKV K H io (fldPut f d fs) (putF f v vs)
  | [], _, h => by cases h; exact .cons ⟨rfl, rv⟩ .nil
  | (g, x) :: r, _, h => by
    cases h with
    | @cons _ b _ _ h1 h2 =>
      obtain ⟨g', y⟩ := b
      obtain ⟨e1, r1⟩ := h1
      have e1 : g = g' := e1
      subst e1
      unfold fldPut putF
      cases q : sbeq g f with
      | true =>
        have z : g = f := sbeq_iff.mp q
        rw [if_pos z]
        exact .cons ⟨rfl, rv⟩ h2
      | false =>
        have z : g ≠ f := fun z => by rw [sbeq_iff.mpr z] at q; cases q
        rw [if_neg z]
        exact .cons ⟨rfl, r1⟩ (fld_put rv h2)
end
/-- the object of the class cl that a datum names -/
def obOf (cl : Str) (o : D) (M : Sto) : Option (Nat × List (Str × D)) := match o with
  | .lst i => (match (sGet M i) with
    | some (.ob c' fs) => (match sbeq c' cl with
      | true => some (i, fs)
      | false => none)
    | _ => none)
  | _ => none
theorem ob_at {c : Cfg} {H : Hp} {io : List Addr} {M : Sto} {cl : Str} {o : D} {x : V} {i : Nat} {fs : List (Str × D)} (rs : RS c.K H io M) (r : R c.K H io o x) (e : obOf cl o M = some (i, fs)) :
    o = .lst i ∧ (sGet M i) = some (.ob cl fs) ∧ ∃ (a dx : Addr) (vs : List (Str × V)), x = .ref a ∧ io[i]? = some a ∧ H a = some (.ins (He.ga c.K.f cl) dx vs) ∧ RKV c.K H io fs vs := by
  unfold obOf at e
  split at e
  · split at e
    · rename_i c' fs' em
      split at e
      · rename_i hc
        cases e
        have z := sbeq_iff.mp hc
        subst z
        cases r with
        | lst hi =>
          obtain ⟨a, u, e1, ho, rc⟩ := rs.cell _ _ em
          rw [hi] at e1
          cases e1
          obtain ⟨dx, vs, rfl, rk⟩ := rc
          exact ⟨rfl, em, _, dx, vs, rfl, hi, ho, rk⟩
      · cases e
    · cases e
  · cases e
def fldO (cl f : Str) (o : D) (M : Sto) : Option (D × Sto) := match obOf cl o M with
  | some (_, fs) => (match fldGet f fs with
    | some d => some (d, M)
    | none => none)
  | none => none
/-- self.f = e -/
def fldS (cl f : Str) (o v : Den D) : SDen := bindS v fun y => bindS o fun x r M => match obOf cl x M with
  | some (i, fs) => if fs.length < 900 then some (.nx, r, M.set i (.ob cl (fldPut f y fs))) else none
  | none => none
section
variable {X : Cx} {c : Cfg} {d dv : Den D} {hs : Den (List D)} {a e o : Expr} {es : List Expr} {pos pos' p apos : Pos} {cl f m x : Str}
theorem de_fldO (hK : X.K = c.K.f) (C : Cls X.K (He.ga X.K cl)) (N : NoAttr X.K (He.ga X.K cl) f) (ha : PE X a (sE c d)) (hb : attributeBase a f X.env (eval a X.env) = eval a X.env := by rfl) : PE X (.Attribute a f pos) (sE c (op1 (fldO cl f) d)) := PE.imp (pe_fld ha hb) fun g H Q s => by
  refine sG.bind s fun y x r M1 io1 H1 re rs ra run => ?_
  obtain ⟨w, M3, e, k⟩ := run.lift
  unfold fldO at e
  split at e
  · rename_i i fs eo
    split at e
    · rename_i dd eg
      cases e
      obtain ⟨_, _, a1, dx, vs, rfl, hi, ho, rk⟩ := ob_at rs ra eo
      obtain ⟨v, hv, rv⟩ := fld_get rk eg
      rw [← hK] at ho
      exact ⟨a1, _, dx, vs, v, rfl, ho, C, N, hv, k io1 H1 Ext.refl rs v rv⟩
    · cases e
  · cases e
theorem nt_ins {C dx : Addr} {vs : List (Str × V)} : notTup (.ins C dx vs) := ⟨id, fun _ z => nomatch z⟩
theorem ds_fldO (hK : X.K = c.K.f) (C : Cls X.K (He.ga X.K cl)) (N : NoAttr X.K (He.ga X.K cl) f) (ha : PE X o (sE c d)) (hv : PE X e (sE c dv)) (hs : swapsWith e (some (.Attribute o f pos')) pos.line X.env = pure false := by rfl) :
    PS X (.Assign [.Attribute o f pos'] e pos) (sS c (fldS cl f d dv)) := PS.imp (ps_fld ha hv hs) fun Ds g H s => by
  refine sS.bind s fun y vy r M1 io1 H1 re rs ry run => ?_
  refine ⟨r, M1, io1, re, rs, run.bind fun x vx M2 io2 H2 e2 rs2 rx run2 => ?_⟩
  obtain ⟨fl, r', M', eq, z⟩ := run2
  dsimp only at eq
  split at eq
  · rename_i i fs eo
    split at eq
    · rename_i hl
      cases eq
      obtain ⟨_, _, a1, dx, vs, rfl, hi, ho, rk⟩ := ob_at rs2 rx eo
      have ex : Ext c.K io2 H2 io2 (upd H2 a1 (.ins (He.ga c.K.f cl) dx (putF f vy vs))) := Ext.write ho nt_ins
      have rs3 := rs2.write hi ho nt_ins (c := .ob cl (fldPut f y fs)) ⟨dx, _, rfl, fld_put ((ry.mono e2).mono ex) (RKV.mono ex rk)⟩
      have hl2 : vs.length < 1000 := by
        have q : fs.length = vs.length := Paired.length rk
        omega
      rw [← hK] at ho ex rs3
      exact ⟨a1, _, dx, vs, rfl, ho, C, N, hl2, z io2 _ ex rs3 g ((re.mono e2).mono ex)⟩
    · cases eq
  · cases eq
/-! methods -/
def mcallE (cl m : Str) (n : Nat) (fd : FDen) (o : Den D) (as : Den (List D)) : Den D := bindD o fun x r M => match obOf cl x M with
  | some (_, fs) => (match fldGet m fs with
    | none => (bindD as fun ds _ M => if ds.length + 1 = n then fd (x :: ds) M else none) r M
    | some _ => none)
  | none => none
def mcall0 (cl m : Str) (fd : FDen) (o : Den D) : Den D := bindD o fun x _ M => match obOf cl x M with
  | some (_, fs) => (match fldGet m fs with
    | none => fd [x] M
    | some _ => none)
  | none => none
theorem de_mcall {pl : Sem Bool} {fa : Addr} {fdt : FuncData} {ps : List Str} {k n : Nat} {fd : FDen} (tk : L2N.Takes X (fun cls d _ H => c.W cls d H)) (hK : X.K = c.K.f) (C : Cls X.K (He.ga X.K cl)) (hm : Meth X.K (He.ga X.K cl) m fa)
    (F : FnOk X.prog X.w X.K X.mg X.base (L2N.CX X.prog X.w) k fa fdt ps (spF c n fd)) (hr : Room k X.A) (hb : Binds X.K fdt ps []) (ho : PE X o (sE c d)) (ha : PA X (e :: es) (sA c hs))
    (hst : starEach (e :: es) X.env = (false, eval e X.env) :: starEach es X.env := by rfl) (hpl : (backTo pos (starEach es X.env)).any (·.1) = false := by rfl)
    (ht : eval (.Call (.Attribute o m apos) (e :: es) [] pos) X.env = (do
      let ov ← eval o X.env
      standAt apos.atName
      let (f, first) ← holding [ov] (getMethod ov m pl)
      callWith pos f first (backTo pos (starEach (e :: es) X.env)) (backToKw pos (keywordEach [] X.env))) := by rfl) :
    PE X (.Call (.Attribute o m apos) (e :: es) [] pos) (sE c (mcallE cl m n fd d hs)) := PE.imp (pe_meth (E := c.W) (pl := pl) ho C hm F hr hb .nil (L2N.passes_call tk fun _ _ _ _ h => h) ha hst hpl ht) fun g H Q s => by
  refine sG.bind s fun x vx r M1 io1 H1 re rs rx run => ?_
  obtain ⟨y, M', eq, z⟩ := run
  dsimp only at eq
  split at eq
  · rename_i i fs eo
    split at eq
    · rename_i en
      obtain ⟨_, _, a1, dx, vs, rfl, hi, ho, rk⟩ := ob_at rs rx eo
      rw [← hK] at ho
      refine ⟨a1, dx, vs, rfl, ho, fld_none rk en, r, M1, io1, re, rs, ?_⟩
      have run2 : Run c (rD c) (bindD hs fun ds _ M => if ds.length + 1 = n then fd (x :: ds) M else none) r M1 io1 g H1 Q := ⟨y, M', eq, z⟩
      refine run2.bind fun ds ws M2 io2 H2 e2 rs2 rd run3 => ?_
      rw [List.append_nil]
      obtain ⟨y3, M3, eq3, z3⟩ := run3
      dsimp only at eq3
      split at eq3
      · rename_i hl
        exact ⟨M2, io2, x :: ds, y3, M3, eq3, .cons (rx.mono e2) rd, rs2, hl, z3⟩
      · cases eq3
    · cases eq
  · cases eq
theorem de_mcall0 {pl : Sem Bool} {fa : Addr} {fdt : FuncData} {ps : List Str} {k : Nat} {fd : FDen} (tk : L2N.Takes X (fun cls d _ H => c.W cls d H)) (hK : X.K = c.K.f) (C : Cls X.K (He.ga X.K cl)) (hm : Meth X.K (He.ga X.K cl) m fa)
    (F : FnOk X.prog X.w X.K X.mg X.base (L2N.CX X.prog X.w) k fa fdt ps (spF c 1 fd)) (hr : Room k X.A) (hb : Binds X.K fdt ps []) (ho : PE X o (sE c d))
    (ht : eval (.Call (.Attribute o m apos) [] [] pos) X.env = (do
      let ov ← eval o X.env
      standAt apos.atName
      let (f, first) ← holding [ov] (getMethod ov m pl)
      callWith pos f first (backTo pos (starEach [] X.env)) (backToKw pos (keywordEach [] X.env))) := by rfl) :
    PE X (.Call (.Attribute o m apos) [] [] pos) (sE c (mcall0 cl m fd d)) := PE.imp (pe_meth0 (E := c.W) (pl := pl) ho C hm F hr hb .nil (L2N.passes_call tk fun _ _ _ _ h => h) ht) fun g H Q s => by
  refine sG.bind s fun x vx r M1 io1 H1 re rs rx run => ?_
  obtain ⟨y, M', eq, z⟩ := run
  dsimp only at eq
  split at eq
  · rename_i i fs eo
    split at eq
    · rename_i en
      obtain ⟨_, _, a1, dx, vs, rfl, hi, ho, rk⟩ := ob_at rs rx eo
      rw [← hK] at ho
      exact ⟨a1, dx, vs, rfl, ho, fld_none rk en, M1, io1, [x], y, M', eq, .cons rx .nil, rs, rfl, z⟩
    · cases eq
  · cases eq
/-! C(..) -/
def makeE (cl : Str) (n : Nat) (fd : FDen) (as : Den (List D)) : Den D := bindD as fun ds _ M => if ds.length + 1 = n then (match fd (.lst M.length :: ds) ((sApp M (.ob cl []))) with
  | some (.ok .non, M') => some (.ok (.lst M.length), M')
  | some (.ex x, M') => some (.ex x, M')
  | _ => none) else none
theorem de_make {fa : Addr} {fdt : FuncData} {ps : List Str} {k n : Nat} {fd : FDen} (tk : L2N.Takes X (fun cls d _ H => c.W cls d H)) (hK : X.K = c.K.f) (Mk1 : Mk X.K (He.ga X.K cl) fa)
    (F : FnOk X.prog X.w X.K X.mg X.base (L2N.CX X.prog X.w) k fa fdt ps (spF c n fd)) (hr : Room (k + 1) X.A) (hg : Gl X x) (hm : X.mg x = some (.ref (He.ga X.K cl))) (hb : Binds X.K fdt ps [])
    (ha : PA X (e :: es) (sA c hs)) (hdb : (x == ("__debug__" : Str)) = false := by decide) (he : starEach (e :: es) X.env = (false, eval e X.env) :: starEach es X.env := by rfl) (hpl : (backTo pos (starEach es X.env)).any (·.1) = false := by rfl) :
    PE X (.Call (.Name x p) (e :: es) [] pos) (sE c (makeE cl n fd hs)) := PE.imp (pe_make (E := c.W) Mk1 F hr hg hm hb .nil (L2N.passes_call tk fun _ _ _ _ h => h) ha hdb he hpl) fun g H Q s => by
  refine sG.bind s fun ds vs r M1 io1 H1 re rs rd run => ?_
  intro y dx hy hd ne
  rw [List.append_nil]
  obtain ⟨w, M', eq, z⟩ := run
  dsimp only at eq
  split at eq
  · rename_i hl
    have ny : upd H1 dx (.own y) y = none := by rw [upd_ne (Ne.symm ne)]; exact hy
    have x1 : Ext c.K io1 H1 io1 (upd H1 dx (.own y)) := Ext.tupNew hd
    have rs1 : RS c.K (upd H1 dx (.own y)) io1 M1 := rs.tupNew hd
    have x2 : Ext c.K io1 (upd H1 dx (.own y)) (io1 ++ [y]) (upd (upd H1 dx (.own y)) y (.ins (He.ga c.K.f cl) dx [])) := Ext.alloc ny
    have rs2 := rs1.alloc (c := .ob cl []) (o := .ins (He.ga c.K.f cl) dx []) ny ⟨dx, [], rfl, .nil⟩
    have hio : (io1 ++ [y])[M1.length]? = some y := by
      rw [← rs.len, List.getElem?_append_right (Nat.le_refl _)]
      simp
    have rl : RL c.K (upd (upd H1 dx (.own y)) y (.ins (He.ga c.K.f cl) dx [])) (io1 ++ [y]) (.lst M1.length :: ds) (.ref y :: vs) := .cons (.lst hio) (rd.mono (x1.trans x2))
    rw [← hK] at rl rs2 x2
    split at eq
    · rename_i M2 ef
      cases eq
      refine ⟨_, _, _, .ok .non, _, ef, rl, rs2, hl, fun io' H' ex rs' v rv => ?_⟩
      cases rv
      exact ⟨rfl, z io' H' ((x1.trans x2).trans ex) rs' (.ref y) (.lst (ex.i _ _ hio))⟩
    · rename_i xx M2 ef
      cases eq
      exact ⟨_, _, _, .ex xx, _, ef, rl, rs2, hl, fun io' H' ex rs' cv dx' rx => z io' H' ((x1.trans x2).trans ex) rs' cv dx' rx⟩
    · cases eq
  · cases eq
end
end PyM

-- PyR1
set_option maxRecDepth 100000
set_option maxHeartbeats 4000000
noncomputable section
namespace PyM
open PySem PySem.Spec PyProof.Rows L2 PyD
/-! ### defs that call themselves: room counted call by call -/
structure RoomR (n : Nat) (A : Around) : Prop where
  hd : A.handled = none
  dp : A.depth + n + 100 < recursionLimit
  un : A.units + 5 * n + 800 < cLine
theorem RoomR.plain {n : Nat} {A : Around} (r : RoomR n A) : Room 20 A := ⟨r.hd, by have := r.dp; omega, by have := r.un; omega⟩
theorem RoomR.of {k n : Nat} {A : Around} (r : Room k A) (h1 : n + 95 ≤ 3 * k) (h2 : 5 * n + 600 ≤ 16 * k) : RoomR n A := ⟨r.hd, by have := r.dp; omega, by have := r.un; omega⟩
theorem RoomR.step {n : Nat} {A : Around} (r : RoomR (n + 1) A) (env : Env) : RoomR n (A.deeper env) :=
  ⟨r.hd, by have := r.dp; show A.depth + 1 + n + 100 < _; omega, by have := r.un; show A.units + 3 + 5 * n + 800 < _; omega⟩
theorem RoomR.depth {n : Nat} {A : Around} (r : RoomR n A) : A.depth < recursionLimit := by have := r.dp; omega
structure FnOkR (P : Program) (w : World) (K : PySem.W.Frag) (mg : Str → Option Value) (base : Heap) (CX : CXT) (n : Nat) (f : Addr) (fd : FuncData) (ps : List Str) (sp : Sp) : Prop where
  len : ∀ vs H Q E, sp vs H Q E → vs.length = ps.length
  run : ∀ (B : Around) (stack : List Env) (s : Shared) (H : Hp) (ar : Args) (us : List Value) (vs : List V) (Q : VK) (E : XK), RoomR n B → Env0 P w K mg base B stack s H → BindsTo s fd ar (ps.zip us) → Vals vs us → sp vs H Q E →
    codeAny (model P w) B (.call (.ref f) ar) (CR CX stack P w H s Q E) s
theorem FnOkR.flat {P : Program} {w : World} {K : PySem.W.Frag} {mg : Str → Option Value} {base : Heap} {CX : CXT} {n k : Nat} {f : Addr} {fd : FuncData} {ps : List Str} {sp : Sp} (F : FnOkR P w K mg base CX n f fd ps sp) (h1 : n + 95 ≤ 3 * k) (h2 : 5 * n + 600 ≤ 16 * k) :
    FnOk P w K mg base CX k f fd ps sp := ⟨F.len, fun B st s H ar us vs Q E r => F.run B st s H ar us vs Q E (RoomR.of r h1 h2)⟩
section
variable {P : Program} {w : World} {K : PySem.W.Frag} {mg : Str → Option Value} {base : Heap} {CX : CXT}
theorem fn_stepR {n : Nat} {f : Addr} {name qual : Str} {params : Arguments} {body : List Stmt} {scope : Scope} {dV kV doc pm cdv ct oc : Value} {an od : Option Addr}
    {osl : Array (Option Value)} {N ps : List Str} {sp : Sp} (at_ : K.lookup f = some ⟨oc, od, .func (PySem.W.fnOf name qual params body scope dV kV doc pm an cdv ct), osl⟩) (code : PySem.W.codeIn K cdv qual = true) (S : FnScope N ps scope)
    (len : ∀ vs H Q E, sp vs H Q E → vs.length = ps.length)
    (inner : ∀ (B : Around) (stack : List Env) (s : Shared) (H : Hp) (vs : List V) (Q : VK) (E : XK), RoomR n (B.deeper (envOfC qual scope s.heap.objs.size f cdv)) → sp vs H Q E →
      ∃ t, PSs (cxOf CX P w K mg base N qual scope f cdv B stack s H E) body t ∧ t { nx := fun _ H' => Q .non H', rt := Q } (start N vs) H) :
    FnOkR P w K mg base CX (n + 1) f (PySem.W.fnOf name qual params body scope dV kV doc pm an cdv ct) ps sp := by
  constructor
  · exact len
  intro B stack s H ar us vs Q E room e0 bind rel want
  have lens := len _ _ _ _ want
  have inK : K.In s.heap := e0.mod.kin.keeps fun b o q => (e0.bs b o q).1
  have noLim : s.heap.NoLimit := e0.mod.nolimit.keeps fun b o q => (e0.bs b o q).1
  have kinds : ∀ y ∈ ps.zip us, scope.names.lookup y.1 = some .local ∨ (scope.names.lookup y.1 = some .cell ∧ ((cellsFrom (s.heap.objs.size + 1) scope.names []).lookup y.1).isSome = true) := by
    rintro ⟨y, u⟩ hy
    cases S.par y (List.of_mem_zip hy).1 with
    | inl q => exact .inl q
    | inr q => exact .inr ⟨q, PySem.W.cellsFrom_some _ _ _ (.inl q)⟩
  refine codeAny_call_function room.depth (inK _ _ at_) rfl S.co S.gen rfl (PySem.W.codeRec_of inK code) (bind _ _ _ _ (wpAny_newFunctionEnv_cells S.kind kinds fun env he s1 x => ?_))
  subst he
  refine ⟨noLim.keeps x.toInCall.keep, codeAny_func ?_⟩
  obtain ⟨t, ht, got⟩ := inner B stack s H vs Q E (room.step _) want
  have I0 := inv_start (CX := CX) (E := E) (vs := vs) S room.hd e0 lens rel x
  refine wpAny_mono (ht.run [] s1 (start N vs) H _ I0 got) (fun fl s' done => ?_) fun e s' done => done
  cases fl with
  | ret u =>
    obtain ⟨v, g', H', J, rv, q⟩ := done
    exact ⟨v, H', J.os, J.bare, J.base, J.hok, rv, q⟩
  | next =>
    obtain ⟨g', H', J, q⟩ := done
    exact ⟨V.non, H', J.os, J.bare, J.base, J.hok, rfl, q⟩
  | brk => exact done.elim fun _ z => z.elim fun _ z => z.2.elim
  | cont => exact done.elim fun _ z => z.elim fun _ z => z.2.elim
theorem fn_okR {c : Cfg} {x qual : Str} {st : Stmt} {f : Addr} {fd : FuncData} {N ps : List Str} {k n : Nat} {b : SDen} (hK : c.K.f = K) (F : Fun K x qual st f fd) (S : FnScope N ps (defScope st)) (hn : N.length = n)
    (hb : ∀ (cdv : Value) (A : Around) (outer : List Env) (s : Shared) (H : Hp) (E : XK), RoomR k (A.deeper (envOfC qual (defScope st) s.heap.objs.size f cdv)) →
      PSs (cxOf (L2N.CX P w) P w K mg base N qual (defScope st) f cdv A outer s H E) (defBody st) (sS (c.to E) b)) : FnOkR P w K mg base (L2N.CX P w) (k + 1) f fd ps (spF c ps.length (bodyF n b)) := by
  subst hn
  obtain ⟨oc, od, kV, doc, pm, an, cdv, ct, osl, rfl, at_, code⟩ := F.ex
  refine fn_stepR at_ code S ?_ ?_
  · rintro vs H Q E ⟨M, io, ds, x, M', _, rl, _, hl, _⟩
    rw [← rl.length]
    exact hl
  · rintro A outer s H vs Q E room ⟨M, io, ds, x, M', e, rl, rs, hl, k⟩
    refine ⟨_, hb cdv A outer s H E room, ?_⟩
    unfold bodyF at e
    split at e
    · rename_i d r1 M1 eb
      cases e
      exact ⟨_, M, io, re_start (N := N) rl, rs, _, _, _, eb, fun io1 H1 e1 rs1 v rv => k io1 H1 e1 rs1 v rv⟩
    · rename_i r1 M1 eb
      cases e
      exact ⟨_, M, io, re_start (N := N) rl, rs, _, _, _, eb, fun io1 H1 e1 rs1 g' re => k io1 H1 e1 rs1 _ .non⟩
    · rename_i y r1 M1 eb
      cases e
      exact ⟨_, M, io, re_start (N := N) rl, rs, _, _, _, eb, fun io1 H1 e1 rs1 cv dx rx => k io1 H1 e1 rs1 cv dx rx⟩
    · cases e
/-- nothing is promised -/
theorem fn_noneR {c : Cfg} {f : Addr} {fd : FuncData} {ps : List Str} {n k : Nat} : FnOkR P w K mg base CX n f fd ps (spF c k fun _ _ => none) := by
  constructor
  · rintro vs H Q E ⟨_, _, _, _, _, e, _⟩
    cases e
  · rintro B stack s H ar us vs Q E _ _ _ _ ⟨_, _, _, _, _, e, _⟩
    cases e
end
section
variable {X : Cx} {c : Cfg} {hs : Den (List D)} {e : Expr} {es : List Expr} {pos p : Pos} {fa : Addr} {fdt : FuncData} {ps : List Str} {k n : Nat} {fd : FDen} {x : Str}
theorem pe_callR {CX : CXT} {sp : Sp} {E : XK} {t : TA} (F : FnOkR X.prog X.w X.K X.mg X.base CX k fa fdt ps sp) (room : RoomR k X.A) (hg : Gl X x) (hm : X.mg x = some (.ref fa)) (kept : PySem.W.keepIn X.K (.ref fa) = true) (bind : Binds X.K fdt ps []) (pass : Passes CX X E)
    (ha : PA X (e :: es) t) (hdb : (x == ("__debug__" : Str)) = false) (he : starEach (e :: es) X.env = (false, eval e X.env) :: starEach es X.env) (hpl : (backTo pos (starEach es X.env)).any (·.1) = false) :
    PE X (.Call (.Name x p) (e :: es) [] pos) (tCall sp [] E t) := by
  constructor
  intro pins s g H Q I h
  refine wpAny_Call_Name_kw (ld_glob I hg hm (PySem.W.callWith_K (h₀ := X.base) I.ok.mod.kin kept (thn (ha.run pos pins s g H _ I h) fun us s1 z => ?_) he hpl) hdb)
  obtain ⟨vs, H1, I1, rel, want⟩ := z
  refine ⟨I1.kIn, ?_⟩
  rw [List.append_nil] at want
  have lens : us.length = ps.length := by rw [← rel.length]; exact F.len _ _ _ _ want
  have bd : BindsTo s1 fdt ⟨us, []⟩ (ps.zip us) := by
    have q := bind s1 us I1.kIn (by rw [List.append_nil]; exact lens)
    rw [List.append_nil] at q
    exact q
  refine wpAny_call (codeAny_mono (F.run X.A X.stack s1 H1 ⟨us, []⟩ us vs Q E room I1.env0 bd rel want) fun r s' fin => ?_)
  cases r with
  | error y => exact pass pins g H1 s1 y s' I1 fin
  | ok fl =>
    cases fl with
    | ret u => exact I1.after fin
    | next => exact fin.elim
    | brk => exact fin.elim
    | cont => exact fin.elim
theorem de_callR (tk : L2N.Takes X (fun cls d _ H => c.W cls d H)) (F : FnOkR X.prog X.w X.K X.mg X.base (L2N.CX X.prog X.w) k fa fdt ps (spF c n fd)) (room : RoomR k X.A) (hg : Gl X x) (hm : X.mg x = some (.ref fa)) (hk : PySem.W.keepIn X.K (.ref fa) = true) (hb : Binds X.K fdt ps [])
    (ha : PA X (e :: es) (sA c hs)) (hdb : (x == ("__debug__" : Str)) = false := by decide) (he : starEach (e :: es) X.env = (false, eval e X.env) :: starEach es X.env := by rfl) (hpl : (backTo pos (starEach es X.env)).any (·.1) = false := by rfl) :
    PE X (.Call (.Name x p) (e :: es) [] pos) (sE c (callE n fd hs)) := PE.imp (pe_callR (E := c.W) F room hg hm hk hb (L2N.passes_call tk fun _ _ _ _ h => h) ha hdb he hpl) fun g H Q s => by
  refine sG.bind s fun ds vs r M1 io1 H1 re rs ra run => ?_
  rw [List.append_nil]
  obtain ⟨y, M', eq, z⟩ := run
  dsimp only at eq
  split at eq
  · rename_i hl
    exact ⟨M1, io1, ds, y, M', eq, ra, rs, hl, z⟩
  · cases eq
/-- f() -/
def call0E (fd : FDen) : Den D := fun _ M => fd [] M
theorem de_call0 (tk : L2N.Takes X (fun cls d _ H => c.W cls d H)) (F : FnOk X.prog X.w X.K X.mg X.base (L2N.CX X.prog X.w) k fa fdt ps (spF c 0 fd)) (hr : Room k X.A) (hg : Gl X x) (hm : X.mg x = some (.ref fa)) (hk : PySem.W.keepIn X.K (.ref fa) = true) (hb : Binds X.K fdt ps [])
    (hdb : (x == ("__debug__" : Str)) = false := by decide) : PE X (.Call (.Name x p) [] [] pos) (sE c (call0E fd)) := PE.imp (pe_call0 (E := c.W) F hr hg hm hk hb .nil (L2N.passes_call tk fun _ _ _ _ h => h) hdb) fun g H Q s => by
  obtain ⟨r, M, io, re, rs, y, M', eq, z⟩ := s
  exact ⟨M, io, [], y, M', eq, .nil, rs, rfl, z⟩
/-- a letter made small -/
def lowTab : List (Str × Str) := [("A", "a"), ("B", "b"), ("C", "c"), ("D", "d"), ("E", "e"), ("F", "f"), ("G", "g"), ("H", "h"), ("I", "i"), ("J", "j"), ("K", "k"), ("L", "l"), ("M", "m"), ("N", "n"), ("O", "o"), ("P", "p"), ("Q", "q"), ("R", "r"), ("S", "s"), ("T", "t"), ("U", "u"), ("V", "v"), ("W", "w"), ("X", "x"), ("Y", "y"), ("Z", "z")]
def lowD (a : D) (M : Sto) : Option (D × Sto) := match a with
  | .str x => (match lowTab.find? fun p => sbeq p.1 x with
    | some p => some (.str p.2, M)
    | none => none)
  | _ => none
theorem low_ok : ∀ p ∈ lowTab, Txt.lower p.1 = p.2 ∧ p.1.length ≤ 5592405 := by decide +kernel
theorem de_lower {o : Expr} {d : Den D} {apos : Pos} (ho : PE X o (sE c d)) (hbase : attributeBase o "lower" X.env (eval o X.env) = eval o X.env := by rfl) (hline : (apos.endLine == pos.line) = true := by rfl) :
    PE X (.Call (.Attribute o "lower" apos) [] [] pos) (sE c (op1 lowD d)) := PE.imp (pe_lower ho hbase hline) fun g H Q s => by
  refine sG.bind s fun a x r M1 io1 H1 re rs ra run => ?_
  obtain ⟨w, M3, e, k⟩ := run.lift
  unfold lowD at e
  split at e
  · split at e
    · rename_i p hp
      cases e
      cases ra
      have h1 := List.mem_of_find?_eq_some hp
      have h0 := List.find?_some (p := fun p : Str × Str => sbeq p.1 _) hp
      have h2 := sbeq_iff.mp h0
      subst h2
      obtain ⟨h3, h4⟩ := low_ok p h1
      exact ⟨⟨_, rfl⟩, _, rfl, rfl, h4, by rw [h3]; exact k io1 H1 Ext.refl rs _ (.str _)⟩
    · cases e
  · cases e
end
/-! where methods stand -/
structure MethAt (K : PySem.W.Frag) (cl m q : Str) (st : Stmt) (ps : List Str) where
  a : Addr
  u : FuncData
  F : Fun K m q st a u
  m : Meth K (He.ga K cl) m a
  b : Binds K u ps []
structure AliAt (K : PySem.W.Frag) (mg : Str → Option Value) (x y : Str) (st : Stmt) (ps : List Str) where
  a : Addr
  u : FuncData
  F : Fun K y y st a u
  m : mg x = some (.ref a)
  b : Binds K u ps []
structure ObAt (K : PySem.W.Frag) (mg : Str → Option Value) (cl : Str) : Prop where
  m : mg cl = some (.ref (He.ga K cl))
  c : Cls K (He.ga K cl)
end PyM

-- PyZ1
set_option maxRecDepth 100000
set_option maxHeartbeats 4000000
noncomputable section
namespace PyZ
open PySem PySem.Spec PyProof.Rows
/-! ### list(zip(a, b)): every pair is held -/
section
variable {prog : Program} {w : World} {A : Around} {E : Value → Shared → Prop} {s : Shared} {zp ti tO j1 j2 S : Addr} {fa fb : List Addr} {na nb i : Nat} {Pa Pb : Nat → Value → Prop} {Sa Sb : Nat → Heap → Prop}
theorem held_item {T : Addr} {f : Bool} {oT : Obj} {Q : Value → Shared → Prop} (Sp : ZipSep2 zp ti tO j1 j2 fa fb) (Da : Draws prog w A j1 fa na Pa Sa) (Db : Draws prog w A j2 fb nb Pb Sb)
    (zh : IsZipHeld s.heap zp ti tO T f) (th : s.heap.get? T = some oT) (tih : IsTupOf2 s.heap ti (.ref j1) (.ref j2)) (sa : Sa i s.heap) (sb : Sb i s.heap) (la : i < na) (lb : i < nb)
    (fin : ∀ xa xb h' tk, Pa i xa → Pb i xb → IsZipHeld h' zp ti tO T true → Sa (i + 1) h' → Sb (i + 1) h' → IsTupOf2 h' s.heap.objs.size xa xb → h'.objs.size = s.heap.objs.size + 1 →
      (∀ c o, c ≠ zp → c ≠ j1 → c ≠ j2 → s.heap.get? c = some o → h'.get? c = some o) → Q (.ref s.heap.objs.size) { s with heap := h', toks := tk }) :
    wpAny (model prog w) A (Builtin.«zip.__next__» ⟨[.ref zp], []⟩) (fun r s' => ∃ v, r = .done (.ret v) ∧ Q v s') E s := by
  obtain ⟨hp, g, d, t0, os⟩ := s
  show wpAny _ _ (field (.ref zp) 2 >>= _) _ _ _
  refine wpAny_bind (wpAny_field zh rfl (x := .bool false) rfl ?_)
  show wpAny _ _ (field (.ref zp) 3 >>= _) _ _ _
  refine wpAny_bind (wpAny_field zh rfl (x := .ref ti) rfl (wpAny_bind (wpAny_seqItems tih rfl ?_)))
  show wpAny _ _ (Builtin.SmallTypes.ownedTupleIsFree (.ref zp) >>= _) _ _ _
  refine wpAny_bind (wpAny_tupleHeld_zip zh th fun p0 zh0 b0 => ?_)
  replace b0 : Heap.SameBut zp hp p0 := b0
  simp only [if_false, Bool.false_eq_true]
  refine wpAny_bind ?_
  rw [← Array.forIn_toList]
  simp only [List.forIn_nil, List.forIn_cons]
  refine wpAny_bind <| wpAny_bind <| wpAny_holding ?_
  show wpAny _ _ (Builtin.SmallTypes.nextOf (.ref j1) >>= _) _ _ ⟨p0, g, d, t0, os⟩
  refine wpAny_bind (Da.item i _ _ _ la (Da.over sa b0 Sp.zf1) fun xa p1 t1 ha na1 b1 => wpAny_pure (wpAny_pure ?_))
  replace b1 : Heap.SameBut j1 p0 p1 := b1
  refine wpAny_bind <| wpAny_bind <| wpAny_holding ?_
  show wpAny _ _ (Builtin.SmallTypes.nextOf (.ref j2) >>= _) _ _ ⟨p1, g, d, t1, os⟩
  refine wpAny_bind (Db.item i _ _ _ lb (Db.over (Db.over sb b0 Sp.zf2) b1 Sp.sep1_2) fun xb p2 t2 hb nb2 b2 => wpAny_pure (wpAny_pure (wpAny_pure ?_)))
  replace b2 : Heap.SameBut j2 p1 p2 := b2
  show wpAny _ _ (newTuple [xa, xb] >>= _) _ _ ⟨p2, g, d, t2, os⟩
  refine wpAny_bind (wpAny_newTuple (wpAny_pure ⟨_, rfl, ?_⟩))
  show Q (.ref p2.objs.size) ⟨p2.push { cls := .type "tuple", data := .seq #[xa, xb] }, g, d, t2, os⟩
  have same : p2.objs.size = hp.objs.size := by rw [b2.1, b1.1, b0.1]
  have zh2 : IsZipHeld p2 zp ti tO T true := b2.extBut _ _ Sp.zi2 (b1.extBut _ _ Sp.zi1 zh0)
  have keep : ∀ c o, c ≠ zp → c ≠ j1 → c ≠ j2 → hp.get? c = some o → p2.get? c = some o := fun c o c1 c2 c3 e => b2.extBut _ _ c3 (b1.extBut _ _ c2 (b0.extBut _ _ c1 e))
  have up : ∀ c o, p2.get? c = some o → (p2.push { cls := .type "tuple", data := .seq #[xa, xb] }).get? c = some o := fun c o e => Heap.get?_push_of_some _ e
  have tup : IsTupOf2 (p2.push { cls := .type "tuple", data := .seq #[xa, xb] }) p2.objs.size xa xb := Heap.get?_push_size _ rfl
  have grown : (p2.push { cls := .type "tuple", data := .seq #[xa, xb] }).objs.size = p2.objs.size + 1 := Heap.size_push ..
  rw [same] at tup grown ⊢
  exact fin xa xb _ t2 ha hb (up _ _ zh2) (Da.frame _ _ _ (Da.over na1 b2 Sp.sep2_1) fun b _ o e => up b o e) (Db.frame _ _ _ nb2 fun b _ o e => up b o e) tup grown fun c o c1 c2 c3 e => up c o (keep c o c1 c2 c3 e)
theorem held_end {T : Addr} {f : Bool} {oT : Obj} {Q : Fin → Shared → Prop} (Sp : ZipSep2 zp ti tO j1 j2 fa fb) (Da : Draws prog w A j1 fa na Pa Sa) (Db : Draws prog w A j2 fb nb Pb Sb)
    (zh : IsZipHeld s.heap zp ti tO T f) (th : s.heap.get? T = some oT) (tih : IsTupOf2 s.heap ti (.ref j1) (.ref j2)) (sa : Sa i s.heap) (sb : Sb i s.heap) (la : i ≤ na) (lb : i ≤ nb) (last : i = na ∨ i = nb)
    (fin : ∀ h' tk e, (∀ c o, c ≠ zp → c ≠ j1 → c ≠ j2 → s.heap.get? c = some o → h'.get? c = some o) → (∃ o, h'.get? e = some o ∧ o.cls = .type "StopIteration") → E (.ref e) { s with heap := h', toks := tk }) :
    wpAny (model prog w) A (Builtin.«zip.__next__» ⟨[.ref zp], []⟩) Q E s := by
  obtain ⟨hp, g, d, t0, os⟩ := s
  show wpAny _ _ (field (.ref zp) 2 >>= _) _ _ _
  refine wpAny_bind (wpAny_field zh rfl (x := .bool false) rfl ?_)
  show wpAny _ _ (field (.ref zp) 3 >>= _) _ _ _
  refine wpAny_bind (wpAny_field zh rfl (x := .ref ti) rfl (wpAny_bind (wpAny_seqItems tih rfl ?_)))
  show wpAny _ _ (Builtin.SmallTypes.ownedTupleIsFree (.ref zp) >>= _) _ _ _
  refine wpAny_bind (wpAny_tupleHeld_zip zh th fun p0 zh0 b0 => ?_)
  replace b0 : Heap.SameBut zp hp p0 := b0
  simp only [if_false, Bool.false_eq_true]
  refine wpAny_bind ?_
  rw [← Array.forIn_toList]
  simp only [List.forIn_nil, List.forIn_cons]
  refine wpAny_bind <| wpAny_bind <| wpAny_holding ?_
  show wpAny _ _ (Builtin.SmallTypes.nextOf (.ref j1) >>= _) _ _ ⟨p0, g, d, t0, os⟩
  rcases Nat.lt_or_ge i na with ia | ia
  · refine wpAny_bind (Da.item i _ _ _ ia (Da.over sa b0 Sp.zf1) fun xa p1 t1 ha na1 b1 => wpAny_pure (wpAny_pure ?_))
    replace b1 : Heap.SameBut j1 p0 p1 := b1
    refine wpAny_bind <| wpAny_bind <| wpAny_holding ?_
    show wpAny _ _ (Builtin.SmallTypes.nextOf (.ref j2) >>= _) _ _ ⟨p1, g, d, t1, os⟩
    have ib : i = nb := by omega
    refine wpAny_bind (Db.done ⟨p1, g, d, t1, os⟩ _ _ (by rw [← ib]; exact Db.over (Db.over sb b0 Sp.zf2) b1 Sp.sep1_2) fun p2 e b2 stop => ?_)
    exact fin p2 t1 e (fun c o c1 c2 c3 q => b2 _ _ c3 (b1.extBut _ _ c2 (b0.extBut _ _ c1 q))) stop
  · have ib : i = na := by omega
    refine wpAny_bind (Da.done ⟨p0, g, d, t0, os⟩ _ _ (by rw [← ib]; exact Da.over sa b0 Sp.zf1) fun p1 e b1 stop => ?_)
    exact fin p1 t0 e (fun c o c1 c2 _ q => b1 _ _ c2 (b0.extBut _ _ c1 q)) stop
/-- a zip before its turn i: nothing given out yet, or a pair that is held -/
def ZAt (zp ti tO j1 j2 S : Addr) (Sa Sb : Nat → Heap → Prop) (i : Nat) (h : Heap) : Prop := IsTupOf2 h ti (.ref j1) (.ref j2) ∧ Sa i h ∧ Sb i h ∧
  ((IsZip h zp ti tO .none ∧ ∃ a b, IsTupOf2 h tO a b) ∨ ∃ T f oT, IsZipHeld h zp ti tO T f ∧ h.get? T = some oT ∧ T ≠ zp ∧ T ≠ j1 ∧ T ≠ j2 ∧ T ≠ S)
theorem zat_item {Q : Option Value → Shared → Prop} (Sp : ZipSep2 zp ti tO j1 j2 fa fb) (Da : Draws prog w A.in1 j1 fa na Pa Sa) (Db : Draws prog w A.in1 j2 fb nb Pb Sb) (st : ZAt zp ti tO j1 j2 S Sa Sb i s.heap) (la : i < na) (lb : i < nb) (below : S < s.heap.objs.size)
    (fin : ∀ xa xb h' tk, Pa i xa → Pb i xb → ZAt zp ti tO j1 j2 S Sa Sb (i + 1) h' → IsTupOf2 h' s.heap.objs.size xa xb → h'.objs.size = s.heap.objs.size + 1 →
      (∀ c o, c ≠ zp → c ≠ tO → c ≠ j1 → c ≠ j2 → s.heap.get? c = some o → h'.get? c = some o) → Q (some (.ref s.heap.objs.size)) { s with heap := h', toks := tk }) :
    wpAny (model prog w) A (pyNext (.ref zp)) Q E s := by
  obtain ⟨tih, sa, sb, alt⟩ := st
  have new : ∀ {c : Addr} {o : Obj}, s.heap.get? c = some o → s.heap.objs.size ≠ c := fun e => Nat.ne_of_gt (Heap.lt_size e)
  have n1 : s.heap.objs.size ≠ j1 := let ⟨_, e⟩ := Da.live _ _ sa; new e
  have n2 : s.heap.objs.size ≠ j2 := let ⟨_, e⟩ := Db.live _ _ sb; new e
  rcases alt with ⟨zh, a, b, toh⟩ | ⟨T, f, oT, zh, th, r1, r2, r3, r4⟩
  · refine wpAny_pyNext_zipD2_item Sp Da Db zh tih toh sa sb la lb fun xa xb h' tk pa pb zz _ na1 nb1 tup sz keep => ?_
    exact fin xa xb h' tk pa pb ⟨keep _ _ Sp.TIz Sp.TITO Sp.TIi1 Sp.TIi2 tih, na1, nb1, .inr ⟨s.heap.objs.size, false, _, zz, tup, new zh, n1, n2, Nat.ne_of_gt below⟩⟩ tup sz keep
  · have ty : s.TypeIs (.ref zp) "zip" := ⟨_, zh, rfl⟩
    unfold pyNext
    refine wpAny_bind (wpAny_attempt (wpAny_callSpecial?_slot (name := Str.ofString "__next__") ty F.slot_zip_next (wpAny_call_entry F.slot_zip_next ty F.entry_zip_next
      (held_item Sp Da Db zh th tih sa sb la lb fun xa xb h' tk pa pb zz na1 nb1 tup sz keep => wpAny_pure ?_) (F.args_zip_next_1 _))))
    exact fin xa xb h' tk pa pb ⟨keep _ _ Sp.TIz Sp.TIi1 Sp.TIi2 tih, na1, nb1, .inr ⟨T, true, oT, zz, keep _ _ r1 r2 r3 th, r1, r2, r3, r4⟩⟩ tup sz fun c o c1 _ c3 c4 e => keep c o c1 c3 c4 e
theorem zat_end {Q : Option Value → Shared → Prop} (Sp : ZipSep2 zp ti tO j1 j2 fa fb) (Da : Draws prog w A.in1 j1 fa na Pa Sa) (Db : Draws prog w A.in1 j2 fb nb Pb Sb) (st : ZAt zp ti tO j1 j2 S Sa Sb i s.heap) (la : i ≤ na) (lb : i ≤ nb) (last : i = na ∨ i = nb)
    (fin : ∀ h' tk, (∀ c o, c ≠ zp → c ≠ tO → c ≠ j1 → c ≠ j2 → s.heap.get? c = some o → h'.get? c = some o) → Q none { s with heap := h', toks := tk }) :
    wpAny (model prog w) A (pyNext (.ref zp)) Q E s := by
  obtain ⟨tih, sa, sb, alt⟩ := st
  rcases alt with ⟨zh, a, b, toh⟩ | ⟨T, f, oT, zh, th, r1, r2, r3, r4⟩
  · exact wpAny_pyNext_zipD2_end Sp Da Db zh tih toh sa sb la lb last fin
  · have ty : s.TypeIs (.ref zp) "zip" := ⟨_, zh, rfl⟩
    unfold pyNext
    refine wpAny_bind (wpAny_attempt (wpAny_callSpecial?_slot (name := Str.ofString "__next__") ty F.slot_zip_next (wpAny_call_entry F.slot_zip_next ty F.entry_zip_next
      (held_end Sp Da Db zh th tih sa sb la lb last fun h' tk e keep stop => ?_) (F.args_zip_next_1 _))))
    obtain ⟨o, ho, hc⟩ := stop
    exact wpAny_bind (wpAny_isInstance (T := "StopIteration") (b := true) ⟨o, ho, hc⟩ isSubtype_stop (wpAny_pure (fin _ _ fun c o c1 _ c3 c4 e => keep c o c1 c3 c4 e)))
/-- the pairs that stand in the list -/
structure TupG (S : Addr) (Pa Pb : Nat → Value → Prop) (h : Heap) (as : List Addr) : Prop where
  rise : as.Pairwise (· < ·)
  above : ∀ a ∈ as, S < a
  at_ : ∀ (j : Nat) (a : Addr), as[j]? = some a → ∃ xa xb, Pa j xa ∧ Pb j xb ∧ IsTupOf2 h a xa xb
structure Low (zp ti tO j1 j2 S : Addr) (fa fb : List Addr) : Prop where
  z : zp < S
  t : ti < S
  o : tO < S
  a : j1 < S
  b : j2 < S
  fa : S ∉ fa
  fb : S ∉ fb
theorem ZAt.keep {h h' : Heap} (st : ZAt zp ti tO j1 j2 S Sa Sb i h) (L : Low zp ti tO j1 j2 S fa fb) (Da : Draws prog w A j1 fa na Pa Sa) (Db : Draws prog w A j2 fb nb Pb Sb) (k : ∀ b o, b ≠ S → h.get? b = some o → h'.get? b = some o) : ZAt zp ti tO j1 j2 S Sa Sb i h' := by
  obtain ⟨tih, sa, sb, alt⟩ := st
  refine ⟨k _ _ (Nat.ne_of_lt L.t) tih, Da.frame _ _ _ sa fun b hb o e => k b o (fun z => L.fa (z ▸ hb)) e, Db.frame _ _ _ sb fun b hb o e => k b o (fun z => L.fb (z ▸ hb)) e, ?_⟩
  rcases alt with ⟨zh, a, b, toh⟩ | ⟨T, f, oT, zh, th, r1, r2, r3, r4⟩
  · exact .inl ⟨k _ _ (Nat.ne_of_lt L.z) zh, a, b, k _ _ (Nat.ne_of_lt L.o) toh⟩
  · exact .inr ⟨T, f, oT, k _ _ (Nat.ne_of_lt L.z) zh, k _ _ r4 th, r1, r2, r3, r4⟩
theorem zl_loop {R : Result → Shared → Prop} (Sp : ZipSep2 zp ti tO j1 j2 fa fb) (L : Low zp ti tO j1 j2 S fa fb) (Da : Draws prog w A.in1.in1 j1 fa na Pa Sa) (Db : Draws prog w A.in1.in1 j2 fb nb Pb Sb) (few : min na nb ≤ sizeLine) (res : Value) {h0 : Heap}
    (fin : ∀ h' tk acc c as, (∀ b o, b ≠ S → b ≠ zp → b ≠ tO → b ≠ j1 → b ≠ j2 → h0.get? b = some o → h'.get? b = some o) → h'.get? S = some { cls := .type "list", dict := none, data := .seq acc c, slots := #[] } → as.length = min na nb → TupG S Pa Pb h' as →
      acc.toList = as.map Value.ref → R (.ok (.ret res)) { s with heap := h', toks := tk }) :
    ∀ (k i : Nat) (h : Heap) (tk c : Nat) (acc : Array Value) (as : List Addr), min na nb - i = k → i ≤ min na nb → ZAt zp ti tO j1 j2 S Sa Sb i h → (∀ b o, b ≠ S → b ≠ zp → b ≠ tO → b ≠ j1 → b ≠ j2 → h0.get? b = some o → h.get? b = some o) →
      h.get? S = some { cls := .type "list", dict := none, data := .seq acc c, slots := #[] } → acc.toList = as.map Value.ref → as.length = i → TupG S Pa Pb h as →
      codeAny (model prog w) A (.builtin "list.extend.loop" ⟨[.ref S, .ref zp, res], []⟩) R { s with heap := h, toks := tk } := by
  have off : ∀ {x : Addr}, S < x → x ≠ zp ∧ x ≠ tO ∧ x ≠ j1 ∧ x ≠ j2 := fun {x} q => ⟨Nat.ne_of_gt (Nat.lt_trans L.z q), Nat.ne_of_gt (Nat.lt_trans L.o q), Nat.ne_of_gt (Nat.lt_trans L.a q), Nat.ne_of_gt (Nat.lt_trans L.b q)⟩
  intro k
  induction k with
  | zero =>
    intro i h tk c acc as hk hi st kept hS hacc hal G
    refine codeAny_builtin PySem.F.entry_extend_loop ?_
    rw [Around.under_plainId PySem.F.plain_extend_loop _]
    show wpAny _ A.in1 (pyNext (.ref zp) >>= _) _ _ _
    refine wpAny_bind (zat_end (s := { s with heap := h, toks := tk }) (A := A.in1) Sp Da Db st (by omega) (by omega) (by omega) fun h' tk' keep => ?_)
    refine wpAny_pure (fin h' tk' acc c as (fun b o d1 d2 d3 d4 d5 e => keep b o d2 d3 d4 d5 (kept b o d1 d2 d3 d4 d5 e)) (keep S _ (Nat.ne_of_gt L.z) (Nat.ne_of_gt L.o) (Nat.ne_of_gt L.a) (Nat.ne_of_gt L.b) hS) (by omega) ⟨G.rise, G.above, fun j a hj => ?_⟩ hacc)
    obtain ⟨xa, xb, e1, e2, e3⟩ := G.at_ j a hj
    obtain ⟨o1, o2, o3, o4⟩ := off (G.above a (List.mem_of_getElem? hj))
    exact ⟨xa, xb, e1, e2, keep a _ o1 o2 o3 o4 e3⟩
  | succ k ih =>
    intro i h tk c acc as hk hi st kept hS hacc hal G
    have many : acc.size = i := by rw [← Array.length_toList, hacc, List.length_map, hal]
    have below : S < h.objs.size := Heap.lt_size hS
    refine codeAny_builtin PySem.F.entry_extend_loop ?_
    rw [Around.under_plainId PySem.F.plain_extend_loop _]
    show wpAny _ A.in1 (pyNext (.ref zp) >>= _) _ _ _
    refine wpAny_bind (zat_item (s := { s with heap := h, toks := tk }) (A := A.in1) (S := S) Sp Da Db st (by omega) (by omega) below fun xa xb h' tk' pa pb st' tup sz keep => ?_)
    dsimp only at tup sz keep ⊢
    have hS' := keep S _ (Nat.ne_of_gt L.z) (Nat.ne_of_gt L.o) (Nat.ne_of_gt L.a) (Nat.ne_of_gt L.b) hS
    have up : ∀ b o, b ≠ S → h'.get? b = some o → (h'.update S (Obj.mapSeq (·.push (Value.ref h.objs.size)))).get? b = some o := fun b o d e => (Heap.get?_update_other _ _ (Ne.symm d)).trans e
    show wpAny _ A.in1 (updateSeq S (·.push (Value.ref h.objs.size)) >>= _) _ _ _
    refine wpAny_bind ?_
    refine wpAny_updateSeq hS' rfl (wpAny_pure ⟨plainId_quiet PySem.F.plain_extend_loop _, ih (i + 1) _ tk' _ (acc.push (Value.ref h.objs.size)) (as ++ [h.objs.size]) (by omega) (by omega) (st'.keep L Da Db up)
      (fun b o d1 d2 d3 d4 d5 e => up b o d1 (keep b o d2 d3 d4 d5 (kept b o d1 d2 d3 d4 d5 e))) (Heap.get?_update_self _ hS' rfl) (by rw [Array.toList_push, hacc, List.map_append]; rfl) (by rw [List.length_append, hal]; rfl) ⟨?_, ?_, ?_⟩⟩) (by rw [many]; omega) (by show (acc.push (Value.ref h.objs.size)).size ≤ sizeLine + 1; rw [Array.size_push, many]; omega)
    · refine List.pairwise_append.mpr ⟨G.rise, List.pairwise_singleton _ _, fun a ha b hb => ?_⟩
      obtain rfl := List.mem_singleton.mp hb
      obtain ⟨j, hj⟩ := List.mem_iff_getElem?.mp ha
      obtain ⟨_, _, _, _, e⟩ := G.at_ j a hj
      exact Heap.lt_size e
    · intro a ha
      rcases List.mem_append.mp ha with ha | ha
      · exact G.above a ha
      · obtain rfl := List.mem_singleton.mp ha
        exact below
    · intro j b hj
      by_cases h1 : j < as.length
      · rw [List.getElem?_append_left h1] at hj
        obtain ⟨ya, yb, e1, e2, e3⟩ := G.at_ j b hj
        have hb := G.above b (List.mem_of_getElem? hj)
        obtain ⟨o1, o2, o3, o4⟩ := off hb
        exact ⟨ya, yb, e1, e2, up b _ (Nat.ne_of_gt hb) (keep b _ o1 o2 o3 o4 e3)⟩
      · rw [List.getElem?_append_right (Nat.not_lt.mp h1)] at hj
        have j0 : j - as.length = 0 := by
          have q := (List.getElem?_eq_some_iff.mp hj).1
          simp only [List.length_singleton] at q
          omega
        rw [j0] at hj
        obtain rfl : h.objs.size = b := by simpa using hj
        have ji : j = i := by omega
        subst ji
        exact ⟨xa, xb, pa, pb, up _ _ (Nat.ne_of_gt below) tup⟩
theorem zip_no_len : typeLookup (.type "zip") "__len__" = pure none := am_miss_of_fast (by decide +kernel)
theorem zip_no_hint : typeLookup (.type "zip") "__length_hint__" = pure none := am_miss_of_fast (by decide +kernel)
theorem zl_extend {R : Result → Shared → Prop} (Sp : ZipSep2 zp ti tO j1 j2 fa fb) (L : Low zp ti tO j1 j2 S fa fb) (Da : Draws prog w A.in1.in1 j1 fa na Pa Sa) (Db : Draws prog w A.in1.in1 j2 fb nb Pb Sb) (few : min na nb ≤ sizeLine) (res : Value) (c0 : Nat)
    (zh : IsZip s.heap zp ti tO .none) (st : ZAt zp ti tO j1 j2 S Sa Sb 0 s.heap) (hS : s.heap.get? S = some { cls := .type "list", data := .seq #[] c0 })
    (fin : ∀ h' tk acc c as, (∀ b o, b ≠ S → b ≠ zp → b ≠ tO → b ≠ j1 → b ≠ j2 → s.heap.get? b = some o → h'.get? b = some o) → h'.get? S = some { cls := .type "list", dict := none, data := .seq acc c, slots := #[] } → as.length = min na nb → TupG S Pa Pb h' as →
      acc.toList = as.map Value.ref → R (.ok (.ret res)) { s with heap := h', toks := tk }) :
    wpAny (model prog w) A.in1 (Builtin.List.listExtendWith (.ref S) (.ref zp) res)
      (fun r s' => match r with | .done f => R (.ok f) s' | .again c' => c'.quiet = true ∧ codeAny (model prog w) A c' R s') (fun e s' => R (.error e) s') s := by
  have ty : s.TypeIs (.ref zp) "zip" := ⟨_, zh, rfl⟩
  have q1 : Builtin.List.listSameRef (.ref S) (.ref zp) = false := by simp [Builtin.List.listSameRef, Nat.ne_of_gt L.z]
  have q2 : (Value.type "zip" == Value.type "list") = false := by decide
  have q3 : (Value.type "zip" == Value.type "tuple") = false := by decide
  unfold Builtin.List.listExtendWith
  refine wpAny_bind (wpAny_typeOf (T := "zip") ty ?_)
  simp only [q1, q2, q3, Bool.or_false, if_false, Bool.false_eq_true]
  refine wpAny_bind (wpAny_pyIter_zip zh (wpAny_bind (wpAny_holding ?_)))
  unfold Builtin.List.listLengthHint
  refine wpAny_bind (wpAny_specialOf ty zip_no_len ?_)
  show wpAny _ A.in1 (specialOf (Value.ref zp) (Str.ofString "__length_hint__") >>= _) _ _ _
  refine wpAny_bind (wpAny_specialOf ty zip_no_hint (wpAny_pure ?_))
  show wpAny _ A.in1 (rule "list.extend.makes-room" >>= fun _ => Builtin.List.listTouch (.ref S) >>= fun _ =>
    again (.builtin "list.extend.loop" ⟨[.ref S, .ref zp, res], []⟩)) _ _ _
  refine wpAny_bind (wpAny_rule (wpAny_bind ?_))
  show wpAny _ A.in1 (updateSeq S (·.push .none) >>= fun _ => updateSeq S (·.pop)) _ _ _
  refine wpAny_bind (wpAny_updateSeq hS rfl ?_)
  have hS2 := Heap.get?_update_self (Obj.mapSeq (·.push Value.none)) hS rfl
  refine wpAny_updateSeq (hz := by seq_fits) hS2 rfl ?_
  have hS3 := Heap.get?_update_self (Obj.mapSeq (·.pop)) hS2 rfl
  have oth : ∀ b o, b ≠ S → s.heap.get? b = some o → ((s.heap.update S (Obj.mapSeq (·.push Value.none))).update S (Obj.mapSeq (·.pop))).get? b = some o :=
    fun b o d e => (Heap.get?_update_other _ _ (Ne.symm d)).trans ((Heap.get?_update_other _ _ (Ne.symm d)).trans e)
  exact wpAny_pure ⟨plainId_quiet PySem.F.plain_extend_loop _, zl_loop (s := s) (h0 := s.heap) Sp L Da Db few res fin _ 0 _ s.toks _ #[] [] rfl (Nat.zero_le _) (st.keep L Da Db oth) (fun b o d _ _ _ _ e => oth b o d e) hS3 rfl rfl ⟨List.Pairwise.nil, (fun _ z => nomatch z), fun j a z => by simp at z⟩⟩
end
end PyZ

-- PyZ2
set_option maxRecDepth 100000
set_option maxHeartbeats 4000000
noncomputable section
namespace PyZ
open PySem PySem.Spec PyProof.Rows
section
variable {prog : Program} {w : World} {A : Around} {E : Value → Shared → Prop} {s : Shared} {zp ti tO j1 j2 S : Addr} {fa fb : List Addr} {na nb i : Nat} {Pa Pb : Nat → Value → Prop} {Sa Sb : Nat → Heap → Prop}
theorem zl_init {R : Result → Shared → Prop} (Sp : ZipSep2 zp ti tO j1 j2 fa fb) (L : Low zp ti tO j1 j2 S fa fb) (Da : Draws prog w A.in1.in1 j1 fa na Pa Sa) (Db : Draws prog w A.in1.in1 j2 fb nb Pb Sb) (few : min na nb ≤ sizeLine)
    (zh : IsZip s.heap zp ti tO .none) (st : ZAt zp ti tO j1 j2 S Sa Sb 0 s.heap) (hS : s.heap.get? S = some { cls := .type "list", data := .seq #[] })
    (fin : ∀ h' tk acc c as, (∀ b o, b ≠ S → b ≠ zp → b ≠ tO → b ≠ j1 → b ≠ j2 → s.heap.get? b = some o → h'.get? b = some o) → h'.get? S = some { cls := .type "list", dict := none, data := .seq acc c, slots := #[] } → as.length = min na nb → TupG S Pa Pb h' as →
      acc.toList = as.map Value.ref → R (.ok (.ret .none)) { s with heap := h', toks := tk }) :
    wpAny (model prog w) A.in1 (Builtin.«list.__init__» ⟨[.ref S, .ref zp], []⟩)
      (fun r s' => match r with | .done f => R (.ok f) s' | .again c' => c'.quiet = true ∧ codeAny (model prog w) A c' R s') (fun e s' => R (.error e) s') s := by
  show wpAny _ _ (do let old ← Builtin.List.listItems (.ref S); Builtin.List.listUpdate (.ref S) (fun _ => #[]); letGo old.toList.reverse; Builtin.List.listExtendWith (.ref S) (.ref zp) .none) _ _ s
  refine wpAny_bind ?_
  unfold Builtin.List.listItems
  refine wpAny_bind (wpAny_seqItems hS rfl (wpAny_pure ?_))
  show wpAny _ _ (updateSeq S (fun _ => #[]) >>= fun _ => letGo (#[] : Array Value).toList.reverse >>= fun _ => Builtin.List.listExtendWith (.ref S) (.ref zp) .none) _ _ s
  refine wpAny_bind (wpAny_updateSeq hS rfl (wpAny_bind (wpAny_letGo ?_)))
  have oth : ∀ b o, b ≠ S → s.heap.get? b = some o → (s.heap.update S (Obj.mapSeq (fun _ => (#[] : Array Value)))).get? b = some o := fun b o d e => (Heap.get?_update_other _ _ (Ne.symm d)).trans e
  exact zl_extend (s := { s with heap := s.heap.update S (Obj.mapSeq (fun _ => (#[] : Array Value))) }) Sp L Da Db few .none _ (oth _ _ (Nat.ne_of_lt L.z) zh) (st.keep L Da Db oth) (Heap.get?_update_self _ hS rfl)
    fun h' tk acc c as kept a1 a2 a3 a4 => fin h' tk acc c as (fun b o d1 d2 d3 d4 d5 e => kept b o d1 d2 d3 d4 d5 (oth b o d1 e)) a1 a2 a3 a4
theorem zl_call {Q : Value → Shared → Prop} (Sp : ZipSep2 zp ti tO j1 j2 fa fb) (L : Low zp ti tO j1 j2 s.heap.objs.size fa fb) (Da : Draws prog w A.in1.in1.in1 j1 fa na Pa Sa) (Db : Draws prog w A.in1.in1.in1 j2 fb nb Pb Sb) (few : min na nb ≤ sizeLine)
    (zh : IsZip s.heap zp ti tO .none) (st : ZAt zp ti tO j1 j2 s.heap.objs.size Sa Sb 0 s.heap)
    (fin : ∀ h' tk acc c as, (∀ b o, b ≠ zp → b ≠ tO → b ≠ j1 → b ≠ j2 → s.heap.get? b = some o → h'.get? b = some o) → h'.get? s.heap.objs.size = some { cls := .type "list", dict := none, data := .seq acc c, slots := #[] } → as.length = min na nb → TupG s.heap.objs.size Pa Pb h' as →
      acc.toList = as.map Value.ref → Q (.ref s.heap.objs.size) { s with heap := h', toks := tk }) :
    wpAny (model prog w) A (call (.type "list") [.ref zp]) Q E s := by
  refine callType_codes (Q₁ := fun ob s1 => ob = .ref s.heap.objs.size ∧ s1 = { s with heap := s.heap.push { cls := .type "list", data := .seq #[] } }) PySem.F.called_list (PySem.F.typeCall_list_1 _) PySem.F.entry_list_init (code_list_new _ ⟨rfl, rfl⟩) fun ob s1 q => ?_
  obtain ⟨rfl, rfl⟩ := q
  have hS : (s.heap.push { cls := .type "list", data := .seq #[] }).get? s.heap.objs.size = some { cls := .type "list", data := .seq #[] } := Heap.get?_push_size _ rfl
  refine ⟨⟨_, hS, rfl⟩, PySem.F.args_list_init_2 _ _, zl_init (A := A.in1) Sp L Da Db few (Heap.get?_push_of_some _ zh) (st.keep L Da Db fun b o _ e => Heap.get?_push_of_some _ e) hS fun h' tk acc c as kept a1 a2 a3 a4 => ?_⟩
  exact ⟨rfl, fin h' tk acc c as (fun b o d2 d3 d4 d5 e => kept b o (Nat.ne_of_lt (Heap.lt_size e)) d2 d3 d4 d5 (Heap.get?_push_of_some _ e)) a1 a2 a3 a4⟩
end
end PyZ
namespace PyZ
open PySem PySem.Spec PyProof.Rows L2
/-- pairs tracked at their addresses -/
def putP : Hp → List Addr → List (V × V) → Hp
  | H, a :: as, q :: qs => putP (upd H a (.tup [q.1, q.2])) as qs
  | H, _, _ => H
theorem putP_off {b : Addr} : ∀ (as : List Addr) (qs : List (V × V)) (H : Hp), b ∉ as → putP H as qs b = H b
  | [], _, _, _ => rfl
  | _ :: _, [], _, _ => rfl
  | a :: as, q :: qs, H, h => by
    unfold putP
    rw [putP_off as qs _ (fun z => h (List.mem_cons_of_mem _ z)), upd_ne (fun z => h (by rw [z]; exact List.mem_cons_self))]
theorem putP_at : ∀ (as : List Addr) (qs : List (V × V)) (H : Hp), as.length = qs.length → as.Nodup → Paired (fun (t : Addr) (q : V × V) => putP H as qs t = some (.tup [q.1, q.2])) as qs
  | [], [], _, _, _ => .nil
  | [], _ :: _, _, h, _ => by cases h
  | _ :: _, [], _, h, _ => by cases h
  | a :: as, q :: qs, H, h, hn => by
    obtain ⟨n1, n2⟩ := List.nodup_cons.mp hn
    refine .cons ?_ (putP_at as qs (upd H a (.tup [q.1, q.2])) (Nat.succ.inj h) n2)
    unfold putP
    rw [putP_off as qs _ n1, upd_same]
def tListZip (K : PySem.W.Frag) (ta : TA) : TE := fun g H Q => ta g H fun vs H1 => ∃ a b xs ys, vs = [.ref a, .ref b] ∧ SqT K H1 a xs ∧ SqL K H1 b ys ∧
  ∀ (H' : Hp) (p : Addr) (ts : List Addr), (∀ b o, H1 b = some o → H' b = some o) → H1 p = none → H' p = some (.lst (ts.map V.ref)) → Paired (fun (t : Addr) (q : V × V) => H' t = some (.tup [q.1, q.2])) ts (xs.zip ys) → Q (.ref p) H'
section
variable {X : Cx} {e e2 : Expr} {ta : TA} {p p2 pz pos : Pos}
theorem pairs_laid {pins : List (Addr × Obj)} {g : L2.St} {H : Hp} {s : Shared} {h' : Heap} {tk : Nat} {xs ys : List V} {ia ib : List Value} {acc : Array Value} {c : Nat} {as : List Addr} {S : Addr} (I : Inv X pins g H s) (va : Vals xs ia) (vb : Vals ys ib) (few : (xs.zip ys).length ≤ sizeLine)
    (hk : ∀ b o, s.heap.get? b = some o → h'.get? b = some o) (lo : s.heap.objs.size ≤ S) (hS : h'.get? S = some { cls := .type "list", dict := none, data := .seq acc c, slots := #[] }) (hl : as.length = (xs.zip ys).length)
    (G : TupG S (fun j v => ia.toArray[j]? = some v) (fun j v => ib.toArray[j]? = some v) h' as) (hacc : acc.toList = as.map Value.ref) :
    ∃ H' : Hp, (∀ b o, H b = some o → H' b = some o) ∧ H S = none ∧ H' S = some (.lst (as.map V.ref)) ∧ Paired (fun (t : Addr) (q : V × V) => H' t = some (.tup [q.1, q.2])) as (xs.zip ys) ∧ Inv X pins g H' { s with heap := h', toks := tk } := by
  have notS : S ∉ as := fun z => Nat.lt_irrefl _ (G.above _ z)
  have nd : as.Nodup := List.Pairwise.imp (fun {a b} (q : a < b) => Nat.ne_of_lt q) G.rise
  have fresh : ∀ t ∈ as, H t = none := fun t ht => I.hok.fresh (Nat.le_trans lo (Nat.le_of_lt (G.above t ht)))
  have freshS : H S = none := I.hok.fresh lo
  have pairs := putP_at as (xs.zip ys) (upd H S (.lst (as.map V.ref))) hl nd
  have off : ∀ b, b ∉ as → b ≠ S → putP (upd H S (.lst (as.map V.ref))) as (xs.zip ys) b = H b := fun b d1 d2 => by rw [putP_off as _ _ d1, upd_ne d2]
  have old : ∀ b o, s.heap.get? b = some o → b ∉ as ∧ b ≠ S := fun b o e => ⟨fun z => absurd (Heap.lt_size e) (Nat.not_lt.mpr (Nat.le_trans lo (Nat.le_of_lt (G.above b z)))), Nat.ne_of_lt (Nat.lt_of_lt_of_le (Heap.lt_size e) lo)⟩
  have kp : ∀ b u, H b = some u → (putP (upd H S (.lst (as.map V.ref))) as (xs.zip ys)) b = some u := fun b u e => by
    rw [off b (fun z => by rw [fresh b z] at e; cases e) (fun z => by rw [z, freshS] at e; cases e), e]
  have atS : putP (upd H S (.lst (as.map V.ref))) as (xs.zip ys) S = some (.lst (as.map V.ref)) := by rw [putP_off as _ _ notS, upd_same]
  refine ⟨putP (upd H S (.lst (as.map V.ref))) as (xs.zip ys), kp, freshS, atS, pairs, ?_⟩
  refine I.call' (ch := []) rfl ⟨fun b o q _ _ _ => hk b o q, fun b o q _ _ _ => ⟨o.slots, hk b o q⟩, fun b o q n _ => ?_, fun b o q _ => ⟨o, hk b o q⟩, fun b zs q => kp b _ q, fun b o u q => kp b _ q, fun b ps q => ⟨#[], by rw [kp b _ q]; simp⟩⟩ (fun b u q => ?_) I.bare fun b z => by simp at z
  · obtain ⟨d1, d2⟩ := old b o q
    rw [off b d1 d2]
    exact n
  · by_cases hb : b ∈ as
    · obtain ⟨j, pr, e1, e2, e3⟩ := LiI.paired_ix pairs hb
      rw [e3] at q
      cases q
      obtain ⟨xa, xb, f1, f2, f3⟩ := G.at_ j b e1
      obtain ⟨g1, g2⟩ := List.getElem?_zip_eq_some.mp e2
      obtain ⟨wa, h1, r1⟩ := LiI.paired_get va g1
      obtain ⟨wb, h2, r2⟩ := LiI.paired_get vb g2
      rw [List.getElem?_toArray] at f1 f2
      rw [h1] at f1
      rw [h2] at f2
      cases f1
      cases f2
      exact ⟨by show 2 ≤ sizeLine; decide, [xa, xb], .cons r1 (.cons r2 .nil), ⟨_, f3, rfl, _, rfl⟩⟩
    · by_cases hb2 : b = S
      · rw [hb2, atS] at q
        cases q
        subst hb2
        refine ⟨by rw [List.length_map, hl]; exact few, acc.toList, c, by rw [hacc]; exact LiI.vals_refs as, ?_⟩
        rw [Array.toArray_toList]
        exact hS
      · rw [off b hb hb2] at q
        exact (I.hok b u q).stay (fun d v _ y => hk d v y) (fun d y => kp d _ y) fun d zs y => kp d _ y
/-- list(zip(t, l)) of a tuple and a list -/
theorem pe_listZip (hc : X.calm = true) (hg : Gl X "list") (hm : X.mg "list" = none) (hv : bootBuiltins "list" = some (.type "list")) (hg2 : Gl X "zip") (hm2 : X.mg "zip" = none) (ha : PA X [e, e2] ta)
    (hs2 : starEach [e, e2] X.env = (false, eval e X.env) :: starEach [e2] X.env := by rfl) (hpl2 : (backTo pz (starEach [e2] X.env)).any (·.1) = false := by rfl)
    (hs : starEach [.Call (.Name "zip" p2) [e, e2] [] pz] X.env = (false, eval (.Call (.Name "zip" p2) [e, e2] [] pz) X.env) :: starEach [] X.env := by rfl) :
    PE X (.Call (.Name "list" p) [.Call (.Name "zip" p2) [e, e2] [] pz] [] pos) (tListZip X.K ta) := by
  refine ⟨fun pins s g H Q I hq => ?_⟩
  refine wpAny_Call_Name_kw (ld_blt I hg hm hv ?_)
  refine PyProof.Rows.callWith_type1 ?_ hs rfl
  rw [hs]
  show wpAny _ _ (spliced ((false, eval (.Call (.Name "zip" p2) [e, e2] [] pz) X.env) :: backTo pos (starEach [] X.env))) _ _ s
  refine Calls.spliced_cons ?_
  refine Call_ (ld_blt I hg2 hm2 PyProof.Rows.boot_zip (PyProof.Rows.callWith_type1 (thn (ha.run pz pins s g H _ I hq) fun us s1 ⟨vs, H1, I1, r1, a, b, xs, ys, ex, hx, hy, q⟩ => ?_) hs2 hpl2))
  subst ex
  cases r1 with
  | cons ra rr =>
    cases rr with
    | cons rb rr =>
      cases rr
      cases ra
      cases rb
      obtain ⟨ia, va, pa, za⟩ := I1.tuple hx
      obtain ⟨ib, vb, pb, zb⟩ := I1.list hy
      obtain ⟨oa, hoa, _⟩ := id pa
      have la : a < s1.heap.objs.size := Heap.lt_size hoa
      have lb : b < s1.heap.objs.size := pb.lt
      refine zip_begins2 (begins_tuple a ia.toArray) (begins_list b ib.toArray) pa pb.isList fun h1 zh tih toh h1a h1b sz kp => Calls.spliced_nil ?_
      have apart : ∀ {c : Addr} (k : Nat), c < s1.heap.objs.size → ¬ s1.heap.objs.size + k = c := fun {c} k q z => Nat.lt_irrefl _ (Nat.lt_of_le_of_lt (Nat.le_add_right _ k) (z ▸ q))
      have na : a ≠ s1.heap.objs.size := Nat.ne_of_lt la
      have nb : b ≠ s1.heap.objs.size + 1 := Nat.ne_of_lt (Nat.lt_succ_of_lt lb)
      have hh : X.A.handled = none := I1.ok.hd hc
      have Sp : ZipSep2 (s1.heap.objs.size + 4) (s1.heap.objs.size + 2) (s1.heap.objs.size + 3) s1.heap.objs.size (s1.heap.objs.size + 1) [s1.heap.objs.size, a] [s1.heap.objs.size + 1, b] := by
        constructor <;> simp <;> first | exact apart _ la | exact apart _ lb | exact apart 0 lb
      have st : ZAt (s1.heap.objs.size + 4) (s1.heap.objs.size + 2) (s1.heap.objs.size + 3) s1.heap.objs.size (s1.heap.objs.size + 1) h1.objs.size (fun i h => h.IsTupleIter s1.heap.objs.size a i ∧ h.IsTuple a ia.toArray) (fun i h => h.IsListIter (s1.heap.objs.size + 1) b i ∧ h.IsList b ib.toArray) 0 h1 :=
        ⟨tih, ⟨⟨_, h1a, rfl, rfl⟩, Heap.IsTuple.at pa fun o e => kp _ o e⟩, ⟨⟨_, h1b, rfl, rfl⟩, pb.isList.at fun o e => kp _ o e⟩, .inl ⟨zh, _, _, toh⟩⟩
      have L : Low (s1.heap.objs.size + 4) (s1.heap.objs.size + 2) (s1.heap.objs.size + 3) s1.heap.objs.size (s1.heap.objs.size + 1) h1.objs.size [s1.heap.objs.size, a] [s1.heap.objs.size + 1, b] := by
        constructor <;> simp [sz] <;> first | exact apart _ la | exact apart _ lb | omega
      have lz : (xs.zip ys).length = min ia.toArray.size ib.toArray.size := by
        rw [List.length_zip, List.size_toArray, List.size_toArray, va.length, vb.length]
      have few : min ia.toArray.size ib.toArray.size ≤ sizeLine := by
        rw [List.size_toArray, ← va.length]
        exact Nat.le_trans (Nat.min_le_left _ _) za
      refine zl_call (s := { s1 with heap := h1 }) Sp L (Draws.tuple (A := X.A.in1.in1.in1) hh _ _ na _) (Draws.list (A := X.A.in1.in1.in1) hh _ _ nb _) few zh st fun h' tk acc c as kept hS hl G hacc => ?_
      have hk : ∀ b o, s1.heap.get? b = some o → h'.get? b = some o := fun d o e => by
        have dl := Heap.lt_size e
        exact kept d o (fun z => apart 4 dl z.symm) (fun z => apart 3 dl z.symm) (fun z => apart 0 dl z.symm) (fun z => apart 1 dl z.symm) (kp d o e)
      obtain ⟨H', k1, k2, k3, k4, J⟩ := pairs_laid (tk := tk) (c := c) I1 va vb (by rw [lz]; exact few) hk (by show s1.heap.objs.size ≤ h1.objs.size; rw [sz]; exact Nat.le_add_right _ _) hS (by rw [lz]; exact hl) G hacc
      exact ⟨.ref _, H', J, rfl, q H' _ as k1 k2 k3 k4⟩
end
end PyZ

-- PyO2
set_option maxRecDepth 100000
set_option maxHeartbeats 4000000
noncomputable section
namespace PyM
open PySem PySem.Spec PyProof.Rows L2 PyD
/-! ### list(zip(t, l)) -/
theorem rl_pairs {K : KT} {H : Hp} {io : List Addr} : ∀ {as bs : List D} {xs ys : List V} {ts : List Addr}, RL K H io as xs → RL K H io bs ys → Paired (fun (t : Addr) (q : V × V) => H t = some (.tup [q.1, q.2])) ts (xs.zip ys) → RL K H io ((as.zip bs).map fun p => D.tup [p.1, p.2]) (ts.map V.ref)
  | _, _, _, _, _, .nil, _, p => by cases p; exact .nil
  | _, _, _, _, _, .cons _ _, .nil, p => by cases p; exact .nil
  | _, _, _, _, _, .cons r1 t1, .cons r2 t2, p => by
    cases p with
    | cons h1 h2 => exact .cons (.tup h1 (.cons r1 (.cons r2 .nil))) (rl_pairs t1 t2 h2)
def tupOf (d : D) : Option (List D) := match d with
  | .tup ds => some ds
  | .ktup ds => some ds
  | _ => none
theorem tupOf_ok {K : KT} {H : Hp} {io : List Addr} {d : D} {x : V} {ds : List D} (e : tupOf d = some ds) (r : R K H io d x) : ∃ a xs, x = .ref a ∧ SqT K.f H a xs ∧ RL K H io ds xs := by
  unfold tupOf at e
  split at e
  · cases e
    cases r with
    | tup h1 rl => exact ⟨_, _, rfl, SqT.of h1, rl⟩
  · cases e
    cases r with
    | ktup h1 rl => exact ⟨_, _, rfl, h1.sq, rl⟩
  · cases e
def lzipD (ds : List D) (M : Sto) : Option (D × Sto) := match ds with
  | [a, .lst j] => (match tupOf a, (sGet M j) with
    | some as, some (.lst bs) => some (.lst M.length, (sApp M (.lst ((as.zip bs).map fun p => .tup [p.1, p.2]))))
    | _, _ => none)
  | _ => none
theorem rs_more {K : KT} {H H' : Hp} {io : List Addr} {M : Sto} {p : Addr} {o : HO} {c : Cell} (rs : RS K H io M) (k : ∀ b u, H b = some u → H' b = some u) (n : H p = none) (e : H' p = some o) (rc : RC K H' (io ++ [p]) c o) : Ext K io H (io ++ [p]) H' ∧ RS K H' (io ++ [p]) ((sApp M (c))) := by
  have ex : Ext K io H (io ++ [p]) H' := ⟨fun a u h _ => k a u h, fun j a h => by rw [List.getElem?_append_left (List.getElem?_eq_some_iff.mp h).1]; exact h⟩
  rw [sApp_eq]
  refine ⟨ex, by simp [rs.len], ?_, rs.tab.ext fun b u h => k b u h, fun i c' ei => ?_⟩
  · rw [List.nodup_append]
    refine ⟨rs.nd, by simp, fun a ha b hb => ?_⟩
    obtain rfl : b = p := by simpa using hb
    rintro rfl
    obtain ⟨i, hi, e1⟩ := List.getElem_of_mem ha
    obtain ⟨c0, o0, _, e2, _⟩ := rs.there (i := i) (a := a) (by rw [List.getElem?_eq_getElem hi, e1])
    rw [n] at e2
    cases e2
  · rw [sGet_eq] at ei
    by_cases hi : i < M.length
    · rw [List.getElem?_append_left hi, ← sGet_eq] at ei
      obtain ⟨a, u, e1, e2, r⟩ := rs.cell i c' ei
      exact ⟨a, u, ex.i i a e1, k a u e2, r.mono ex⟩
    · have hi2 : i = M.length := by
        have := (List.getElem?_eq_some_iff.mp ei).1
        simp at this
        omega
      subst hi2
      rw [List.getElem?_append_right (Nat.le_refl _)] at ei
      simp at ei
      subst ei
      exact ⟨p, o, by rw [← rs.len, List.getElem?_append_right (Nat.le_refl _)]; simp, e, rc⟩
section
variable {X : Cx} {c : Cfg} {f h k : Den D} {hs : Den (List D)} {e e2 a b o i v : Expr} {pos p p2 pz apos : Pos}
theorem de_listZip (hK : X.K = c.K.f) (hc : X.calm = true) (hg : Gl X "list") (hm : X.mg "list" = none) (hv : bootBuiltins "list" = some (.type "list")) (hg2 : Gl X "zip") (hm2 : X.mg "zip" = none) (ha : PA X [e, e2] (sA c hs))
    (hs2 : starEach [e, e2] X.env = (false, eval e X.env) :: starEach [e2] X.env := by rfl) (hpl2 : (backTo pz (starEach [e2] X.env)).any (·.1) = false := by rfl)
    (hs1 : starEach [.Call (.Name "zip" p2) [e, e2] [] pz] X.env = (false, eval (.Call (.Name "zip" p2) [e, e2] [] pz) X.env) :: starEach [] X.env := by rfl) :
    PE X (.Call (.Name "list" p) [.Call (.Name "zip" p2) [e, e2] [] pz] [] pos) (sE c (opS lzipD hs)) := PE.imp (PyZ.pe_listZip hc hg hm hv hg2 hm2 ha hs2 hpl2 hs1) fun g H Q s => by
  refine sG.bind s fun ds vs r M1 io1 H1 re rs ra run => ?_
  obtain ⟨d, M3, eq, z⟩ := run.lift
  unfold lzipD at eq
  split at eq
  · split at eq
    · rename_i as bs ea em
      cases eq
      obtain ⟨x, y, rfl, rx, ry⟩ := ra.two
      obtain ⟨a1, xs, rfl, h1, r1⟩ := tupOf_ok ea rx
      obtain ⟨a2, ys, rfl, i2, h2, r2⟩ := lst_at ry rs em
      rw [hK]
      refine ⟨a1, a2, xs, ys, rfl, h1, SqL.of h2, fun H' p ts kp np hp pairs => ?_⟩
      have ex0 : Ext c.K io1 H1 io1 H' := ⟨fun b u q _ => kp b u q, fun _ _ q => q⟩
      obtain ⟨ex, rs'⟩ := rs_more (c := .lst ((as.zip bs).map fun p => .tup [p.1, p.2])) rs kp np hp ⟨_, rfl, rl_pairs (r1.mono ⟨fun b u q _ => kp b u q, fun j q w => by rw [List.getElem?_append_left (List.getElem?_eq_some_iff.mp w).1]; exact w⟩) (r2.mono ⟨fun b u q _ => kp b u q, fun j q w => by rw [List.getElem?_append_left (List.getElem?_eq_some_iff.mp w).1]; exact w⟩) pairs⟩
      exact z (io1 ++ [p]) H' ex rs' (.ref p) (.lst (by rw [← rs.len, List.getElem?_append_right (Nat.le_refl _)]; simp))
    · cases eq
  · cases eq
/-! ### enumerate -/
theorem jok_enum {H : Hp} {io : List Addr} {j : Nat} {a : Addr} (ei : io[j]? = some a) : JOk c io H (Ite c.K.f a) (nextI (.enum (.lst j))) where
  stop := fun i M io' H' e rs h => by
    obtain ⟨ds, e1, e2⟩ := map_some h
    unfold itemsD at e1
    dsimp only at e1
    split at e1
    · rename_i em
      cases e1
      obtain ⟨xs, h1, h2⟩ := rs.lst (e.i _ _ ei) em
      refine ⟨xs, SqL.of h1, ?_⟩
      rw [← h2.length]
      rw [Option.map_eq_none_iff] at e2
      exact List.getElem?_eq_none_iff.mp e2
    · cases e1
  go := fun i M io' H' d e rs h => by
    obtain ⟨ds, e1, e2⟩ := map_some h
    unfold itemsD at e1
    dsimp only at e1
    split at e1
    · rename_i em
      cases e1
      obtain ⟨xs, h1, h2⟩ := rs.lst (e.i _ _ ei) em
      obtain ⟨dx, e3, e4⟩ := map_some e2
      cases e4
      obtain ⟨v, hv, rv⟩ := h2.get e3
      refine ⟨⟨xs, v, SqL.of h1, hv⟩, fun x H'' y => ?_⟩
      obtain ⟨T, x', rfl, hT, rfl, f1⟩ := y
      have s1 := f1 xs (SqL.of h1)
      rw [hv] at s1
      cases s1
      exact ⟨Ext.tupNew hT, rs.tupNew hT, .tup upd_same (.cons (.int _) (.cons (rv.mono (Ext.tupNew hT)) .nil))⟩
    · cases e1
def enumSrc (f : Den (List D)) : Den Src := bindD f fun ds _ M => match ds with
  | [.lst j] => (match (sGet M j) with
    | some (.lst _) => some (.ok (.enum (.lst j)), M)
    | _ => none)
  | _ => none
theorem dp_enum {elts : List Expr} {kk : Nat} {tpos : Pos} (hK : X.K = c.K.f) (hg : Gl X "enumerate") (hm : X.mg "enumerate" = none) (ha : PA X [e] (sA c hs)) (hst : starEach [e] X.env = [(false, eval e X.env)] := by rfl) :
    PI X (.Tuple elts kk tpos) (.Call (.Name "enumerate" p) [e] [] pos) (wS c (enumSrc hs)) := PI.imp (pi_enum hg hm ha hst) fun g H Q s => by
  obtain ⟨r, M, io, re, rs, sx, M', eq, z⟩ := s
  obtain ⟨ds, M1, ef, ek⟩ := bind_ok eq
  rw [hK]
  split at ek
  · split at ek
    · rename_i em
      cases ek
      refine ⟨r, M, io, re, rs, .ok _, _, ef, fun io1 H1 e1 rs1 vs rv => ?_⟩
      obtain ⟨x, rfl, rx⟩ := rv.one
      obtain ⟨a1, xs, rfl, i1, h1, r1⟩ := lst_at rx rs1 em
      exact ⟨a1, xs, rfl, SqL.of h1, z io1 H1 e1 rs1 _ (jok_enum i1)⟩
    · cases ek
  · cases ek
/-! ### d.get(k, x), {k: v} -/
def getE (f h k : Den D) : Den D := bindD f fun a r M => match a with
  | .dic i => (match (sGet M i) with
    | some (.dk _) => (bindD h fun y => bindD k fun z _ M => match dicGet i y M with
      | some o => some (.ok (o.getD z), M)
      | none => none) r M
    | _ => none)
  | _ => none
theorem de_get2 (hK : X.K = c.K.f) (hu : X.A.units + 1 < cLine) (ho : PE X o (sE c f)) (he : PE X e (sE c h)) (hf : PE X e2 (sE c k)) (m : M2 X o "get" apos e e2 pos) : PE X (.Call (.Attribute o "get" apos) [e, e2] [] pos) (sE c (getE f h k)) := PE.imp (pe_dget2 hu ho he hf m) fun g H Q s => by
  refine sG.bind s fun a x r M1 io1 H1 re rs ra run => ?_
  obtain ⟨w, M', eq, z⟩ := run
  dsimp only at eq
  split at eq
  · rename_i i
    split at eq
    · rename_i kvs em
      cases ra with
      | @dic _ p ei =>
        obtain ⟨p', ho', e1, h1, rc⟩ := rs.cell _ _ em
        rw [ei] at e1
        cases e1
        obtain ⟨xs, rfl, rk⟩ := rc
        refine ⟨p, rfl, .inl ⟨xs, Rd.of h1⟩, r, M1, io1, re, rs, ?_⟩
        have run2 : Run c (rD c) (bindD h fun y => bindD k fun z _ M => match dicGet i y M with
          | some o => some (.ok (o.getD z), M)
          | none => none) r M1 io1 g H1 Q := ⟨w, M', eq, z⟩
        refine run2.bind fun y vy Ma ioa Ha ea rsa ry run3 => ⟨r, Ma, ioa, re.mono ea, rsa, run3.bind fun zz vz Mb iob Hb eb rsb rz run4 => ?_⟩
        obtain ⟨w4, M4, eq4, z4⟩ := run4
        dsimp only at eq4
        split at eq4
        · rename_i od eo
          cases eq4
          obtain ⟨ov, gt, ro⟩ := dicGet_ok rsb (eb.i _ _ (ea.i _ _ ei)) (ry.mono eb) eo
          refine ⟨ov, gt, z4 iob Hb Ext.refl rsb _ ?_⟩
          cases od with
          | none => cases ov with
            | none => exact rz
            | some _ => exact ro.elim
          | some _ => cases ov with
            | none => exact ro.elim
            | some _ => exact ro
        · cases eq4
    · cases eq
  · cases eq
def disp1E (fk fv : Den D) : Den D := fun r M => (bindD fk fun kd => bindD fv fun vd _ M2 => match keyD kd, (sGet M2 (M.length)) with
  | some key, some (.dk []) => some (.ok (.dic M.length), M2.set M.length (.dk [(key, vd)]))
  | _, _ => none) r ((sApp M (.dk [])))
theorem de_disp1 (hK : X.K = c.K.f) (he : PE X e (sE c f)) (hv : PE X v (sE c h)) : PE X (.Dict [some e] [v] pos) (sE c (disp1E f h)) := PE.imp (pe_disp (pps_cons he hv pps_nil) rfl rfl (by simp) (by simp)) fun g H Q s => by
  obtain ⟨r, M, io, re, rs, w, M', eq, z⟩ := s
  intro p n
  have ex0 : Ext c.K io H (io ++ [p]) (upd H p (.dK [])) := Ext.alloc n
  have rs0 := rs.alloc (c := .dk []) (o := .dK []) n ⟨[], rfl, .nil⟩
  have hp : (io ++ [p])[M.length]? = some p := by rw [← rs.len, List.getElem?_append_right (Nat.le_refl _)]; simp
  have run : Run c (rD c) (bindD f fun kd => bindD h fun vd _ M2 => match keyD kd, (sGet M2 (M.length)) with
    | some key, some (.dk []) => some (.ok (.dic M.length), M2.set M.length (.dk [(key, vd)]))
    | _, _ => none) r ((sApp M (.dk []))) (io ++ [p]) g (upd H p (.dK [])) Q := ⟨w, M', eq, z.ext ex0⟩
  refine ⟨r, _, _, re.mono ex0, rs0, run.bind fun kd vk Ma ioa Ha ea rsa rk run2 => ⟨r, Ma, ioa, (re.mono ex0).mono ea, rsa, run2.bind fun vd vv Mb iob Hb eb rsb rv run3 => ?_⟩⟩
  obtain ⟨w3, M3, eq3, z3⟩ := run3
  dsimp only at eq3
  split at eq3
  · rename_i key ek em
    cases eq3
    obtain ⟨a, ob, e1, h1, rc⟩ := rsb.cell _ _ em
    have hpb := eb.i _ _ (ea.i _ _ hp)
    rw [hpb] at e1
    cases e1
    obtain ⟨xs, rfl, rkv⟩ := rc
    cases rkv
    have hk := key_of_D ek (rk.mono eb)
    refine ⟨h1, [(key, vv)], by rw [hk]; rfl, by simp, ?_⟩
    have ex := Ext.write (K := c.K) (io := iob) (o := .dK [(key, vv)]) h1 nt_dk
    have rs3 := rsb.write hpb h1 nt_dk (c := .dk [(key, vd)]) ⟨[(key, vv)], rfl, .cons ⟨rfl, rv.mono ex⟩ .nil⟩
    exact z3 iob _ ex rs3 (.ref p) (.dic hpb)
  · cases eq3
end
end PyM

-- PyK1
set_option maxRecDepth 100000
set_option maxHeartbeats 4000000
noncomputable section
namespace PyK
open PySem PySem.Spec PyProof.Rows L2 PyD
/-! ### zip of a tuple and a list; enumerate of a tuple -/
def ItM (K : PySem.W.Frag) (a b : Addr) : It where
  go i H := ∃ (xs ys : List V) (x y : V), SqT K H a xs ∧ SqL K H b ys ∧ xs[i]? = some x ∧ ys[i]? = some y
  yld i H v H' := ∃ T x y, v = .ref T ∧ H T = none ∧ H' = upd H T (.tup [x, y]) ∧ (∀ xs, SqT K H a xs → xs[i]? = some x) ∧ ∀ ys, SqL K H b ys → ys[i]? = some y
  stop i H := ∃ xs ys : List V, SqT K H a xs ∧ SqL K H b ys ∧ min xs.length ys.length = i
def ItE (K : PySem.W.Frag) (a : Addr) : It where
  go i H := ∃ (xs : List V) (x : V), SqT K H a xs ∧ xs[i]? = some x
  yld i H v H' := ∃ T x, v = .ref T ∧ H T = none ∧ H' = upd H T (.tup [.int (i : Nat), x]) ∧ ∀ xs, SqT K H a xs → xs[i]? = some x
  stop i H := ∃ xs : List V, SqT K H a xs ∧ xs.length = i
theorem pairObj {pr : Program} {w : World} {H : Hp} {h : Heap} {T : Addr} {x y : V} {u v : Value} (it : h.IsTuple T #[u, v]) (r1 : RelV x u) (r2 : RelV y v) : ObjOk pr w (upd H T (.tup [x, y])) h T (.tup [x, y]) := by
  obtain ⟨o, e1, e2, n, e3⟩ := it
  exact ⟨by show 2 ≤ sizeLine; decide, [u, v], .cons r1 (.cons r2 .nil), ⟨o, e1, e2, n, e3⟩⟩
theorem apartT {h : Heap} {a it : Addr} {i : Nat} {xs : Array Value} (p : h.IsTuple a xs) (t : h.IsTupleIter it a i) : a ≠ it := fun e => by
  obtain ⟨o, e1, e2, _⟩ := p
  obtain ⟨o', e3, e4, _⟩ := t
  rw [e, e3] at e1
  cases e1
  have zz := e2.symm.trans e4
  injection zz with zz
  exact absurd zz (by decide)
theorem apartL {h : Heap} {a it : Addr} {i : Nat} {xs : Array Value} (p : h.IsList a xs) (t : h.IsListIter it a i) : a ≠ it := fun e => by
  obtain ⟨o, e1, e2, _⟩ := p
  obtain ⟨o', e3, e4, _⟩ := t
  rw [e, e3] at e1
  cases e1
  have zz := e2.symm.trans e4
  injection zz with zz
  exact absurd zz (by decide)
theorem sub4 {z TI TO i1 i2 c : Addr} (h : c ∈ [z, TO, i1, i2]) : c ∈ [z, TI, TO, i1, i2] := by
  simp only [List.mem_cons, List.not_mem_nil, or_false] at h ⊢
  rcases h with h | h | h | h
  · exact .inl h
  · exact .inr (.inr (.inl h))
  · exact .inr (.inr (.inr (.inl h)))
  · exact .inr (.inr (.inr (.inr h)))
section
variable {P : Program} {w : World} {K : PySem.W.Frag} {elts : List Expr} {kk : Nat} {tpos : Pos}
theorem turn_M {a b z TI TO i1 i2 : Addr} (S : ZipSep2 z TI TO i1 i2 [i1, a] [i2, b]) :
    Turn P w K (.Tuple elts kk tpos) (ItM K a b) [z, TI, TO, i1, i2] z (fun i h => IsZip h z TI TO .none ∧ IsTupOf2 h TI (.ref i1) (.ref i2) ∧ (∃ x y, IsTupOf2 h TO x y) ∧ h.IsTupleIter i1 a i ∧ h.IsListIter i2 b i) where
  mem := List.mem_cons_self
  obj := fun i h ⟨hz, hI, ⟨x, y, hO⟩, ⟨o1, g1, _, d1⟩, ⟨o2, g2, _, d2⟩⟩ c hc => by
    rcases List.mem_cons.mp hc with q | hc
    · subst q; exact ⟨_, hz, fun v q => by cases q⟩
    rcases List.mem_cons.mp hc with q | hc
    · subst q; exact ⟨_, hI, fun v q => by cases q⟩
    rcases List.mem_cons.mp hc with q | hc
    · subst q; exact ⟨_, hO, fun v q => by cases q⟩
    rcases List.mem_cons.mp hc with q | hc
    · subst q; exact ⟨o1, g1, fun v q => by rw [d1] at q; cases q⟩
    rcases List.mem_cons.mp hc with q | hc
    · subst q; exact ⟨o2, g2, fun v q => by rw [d2] at q; cases q⟩
    cases hc
  keep := fun i h h' ⟨hz, hI, ⟨x, y, hO⟩, t1, t2⟩ k => ⟨k z (by simp) _ hz, k TI (by simp) _ hI, ⟨x, y, k TO (by simp) _ hO⟩, t1.at fun o e => k i1 (by simp) o e, t2.at fun o e => k i2 (by simp) o e⟩
  item := fun X hP hw hK hc i pins s g H E I hf st hg => by
    subst hP hw hK
    obtain ⟨hz, hI, hO, t1, t2⟩ := st
    obtain ⟨xs, ys, x, y, qx, qy, gx, gy⟩ := hg
    obtain ⟨us, rx, p1, _⟩ := I.tuple qx
    obtain ⟨vs, ry, p2, _⟩ := I.list qy
    have hd : X.A.in1.handled = none := I.ok.hd hc
    have G := GoesN.zip2 (elts := elts) (x1 := kk) (pos := tpos) S (Draws.tuple (prog := X.prog) (w := X.w) hd i1 a (apartT p1 t1) us.toArray) (Draws.list (prog := X.prog) (w := X.w) hd i2 b (apartL p2.isList t2) vs.toArray)
    have l1 : i < us.length := by rw [← rx.length]; exact (List.getElem?_eq_some_iff.mp gx).1
    have l2 : i < vs.length := by rw [← ry.length]; exact (List.getElem?_eq_some_iff.mp gy).1
    refine G.goes i s _ E (by simp only [List.size_toArray]; omega) ⟨hz, hI, hO, ⟨t1, p1⟩, ⟨t2, p2.isList⟩⟩ fun v h' tk ⟨T, u1, u2, ev, hT, g1, g2, tup⟩ ⟨hz', hI', hO', ⟨t1', _⟩, ⟨t2', _⟩⟩ kept htk => ?_
    subst ev
    obtain ⟨w1, f1, r1⟩ := rx.get gx
    obtain ⟨w2, f2, r2⟩ := ry.get gy
    have e1 : w1 = u1 := by
      have z : us[i]? = some u1 := by simpa using g1
      rw [z] at f1
      exact (Option.some.inj f1).symm
    have e2 : w2 = u2 := by
      have z : vs[i]? = some u2 := by simpa using g2
      rw [z] at f2
      exact (Option.some.inj f2).symm
    subst e1 e2
    have I1 : Inv X pins g (upd H T (.tup [x, y])) { s with heap := h', toks := tk } := I.turnedNew (ch := [z, TO, i1, i2]) kept (fun c hc => hf c (sub4 hc)) hT (pairObj tup r1 r2)
    refine ⟨.ref T, _, I1, rfl, ⟨T, x, y, rfl, I.hok.fresh hT, rfl, fun l hl => by rw [I.tuple_inj hl qx]; exact gx, fun l hl => by rw [I.list_inj hl qy]; exact gy⟩, ⟨hz', hI', hO', t1', t2'⟩, fun c hcm => ?_⟩
    have hlt : c < s.heap.objs.size := by
      rcases List.mem_cons.mp hcm with q | hc
      · subst q; exact Heap.lt_size hz
      rcases List.mem_cons.mp hc with q | hc
      · subst q; exact Heap.lt_size hI
      rcases List.mem_cons.mp hc with q | hc
      · subst q; obtain ⟨_, _, e⟩ := hO; exact Heap.lt_size e
      rcases List.mem_cons.mp hc with q | hc
      · subst q; obtain ⟨_, e, _⟩ := t1; exact Heap.lt_size e
      rcases List.mem_cons.mp hc with q | hc
      · subst q; obtain ⟨_, e, _⟩ := t2; exact Heap.lt_size e
      cases hc
    rw [upd_ne (Nat.ne_of_lt (Nat.lt_of_lt_of_le hlt hT))]
    exact (hf c hcm).1
  done := fun X hP hw hK hc i pins s g H E I hf st hg => by
    subst hP hw hK
    obtain ⟨hz, hI, hO, t1, t2⟩ := st
    obtain ⟨xs, ys, qx, qy, fin⟩ := hg
    obtain ⟨us, rx, p1, _⟩ := I.tuple qx
    obtain ⟨vs, ry, p2, _⟩ := I.list qy
    have hd : X.A.in1.handled = none := I.ok.hd hc
    have G := GoesN.zip2 (elts := elts) (x1 := kk) (pos := tpos) S (Draws.tuple (prog := X.prog) (w := X.w) hd i1 a (apartT p1 t1) us.toArray) (Draws.list (prog := X.prog) (w := X.w) hd i2 b (apartL p2.isList t2) vs.toArray)
    have hn : min us.toArray.size vs.toArray.size = i := by
      have l1 := rx.length
      have l2 := ry.length
      simp only [List.size_toArray]
      omega
    rw [hn] at G
    refine G.stops s _ E ⟨hz, hI, hO, ⟨t1, p1⟩, ⟨t2, p2.isList⟩⟩ fun h' tk kept htk => I.turnedL (ch := [z, TO, i1, i2]) kept fun c hc => hf c (sub4 hc)
  self := fun A i s Q E st h => wpAny_pyIter_zip st.1 h
theorem turn_E {a e it : Addr} (hne : e ≠ it) (hea : e ≠ a) :
    Turn P w K (.Tuple elts kk tpos) (ItE K a) [e, it] e (fun i h => (∃ old, IsEnum h e it (0 + (i : Int)) old) ∧ h.IsTupleIter it a i) where
  mem := List.mem_cons_self
  obj := fun i h ⟨⟨old, he⟩, ⟨o1, g1, _, d1⟩⟩ c hc => by
    rcases List.mem_cons.mp hc with q | hc
    · subst q; exact ⟨_, he, fun v q => by cases q⟩
    rcases List.mem_cons.mp hc with q | hc
    · subst q; exact ⟨o1, g1, fun v q => by rw [d1] at q; cases q⟩
    cases hc
  keep := fun i h h' ⟨⟨old, he⟩, t1⟩ k => ⟨⟨old, k e (by simp) _ he⟩, t1.at fun o q => k it (by simp) o q⟩
  item := fun X hP hw hK hc i pins s g H E I hf st hg => by
    subst hP hw hK
    obtain ⟨he, t1⟩ := st
    obtain ⟨xs, x, qx, gx⟩ := hg
    obtain ⟨us, rx, p1, _⟩ := I.tuple qx
    have hd : X.A.in1.handled = none := I.ok.hd hc
    have G := GoesN.enumFrom (elts := elts) (x1 := kk) (pos := tpos) 0 (Draws.tuple (prog := X.prog) (w := X.w) hd it a (apartT p1 t1) us.toArray) e hne (by simp [hne, hea]) (by simp)
    have l1 : i < us.length := by rw [← rx.length]; exact (List.getElem?_eq_some_iff.mp gx).1
    refine G.goes i s _ E (by simp only [List.size_toArray]; omega) ⟨he, ⟨t1, p1⟩⟩ fun v h' tk ⟨T, t, u1, ev, hT, g1, tup⟩ ⟨he', ⟨t1', _⟩⟩ kept htk => ?_
    subst ev
    obtain ⟨w1, f1, r1⟩ := rx.get gx
    have e1 : w1 = u1 := by
      have z : us[i]? = some u1 := by simpa using g1
      rw [z] at f1
      exact (Option.some.inj f1).symm
    subst e1
    have I1 : Inv X pins g (upd H T (.tup [.int (i : Nat), x])) { s with heap := h', toks := tk } := I.turnedNew (ch := [e, it]) kept hf hT (pairObj (x := .int (i : Nat)) tup ⟨t, by rw [Int.zero_add]⟩ r1)
    refine ⟨.ref T, _, I1, rfl, ⟨T, x, rfl, I.hok.fresh hT, rfl, fun l hl => by rw [I.tuple_inj hl qx]; exact gx⟩, ⟨he', t1'⟩, fun c hcm => ?_⟩
    have hlt : c < s.heap.objs.size := by
      rcases List.mem_cons.mp hcm with q | hc
      · subst q; obtain ⟨_, z⟩ := he; exact Heap.lt_size z
      rcases List.mem_cons.mp hc with q | hc
      · subst q; obtain ⟨_, z, _⟩ := t1; exact Heap.lt_size z
      cases hc
    rw [upd_ne (Nat.ne_of_lt (Nat.lt_of_lt_of_le hlt hT))]
    exact (hf c hcm).1
  done := fun X hP hw hK hc i pins s g H E I hf st hg => by
    subst hP hw hK
    obtain ⟨he, t1⟩ := st
    obtain ⟨xs, qx, fin⟩ := hg
    obtain ⟨us, rx, p1, _⟩ := I.tuple qx
    have hd : X.A.in1.handled = none := I.ok.hd hc
    have G := GoesN.enumFrom (elts := elts) (x1 := kk) (pos := tpos) 0 (Draws.tuple (prog := X.prog) (w := X.w) hd it a (apartT p1 t1) us.toArray) e hne (by simp [hne, hea]) (by simp)
    have hn : us.toArray.size = i := by
      have l1 := rx.length
      simp only [List.size_toArray]
      omega
    rw [hn] at G
    exact G.stops s _ E ⟨he, ⟨t1, p1⟩⟩ fun h' tk kept htk => I.turnedL (ch := [e, it]) kept hf
  self := fun A i s Q E st h => let ⟨⟨_, he⟩, _⟩ := st; wpAny_pyIter_enum he h
end
section
variable {X : Cx} {e e2 : Expr} {ta : TA} {p pos tpos : Pos} {elts : List Expr} {kk : Nat}
def iZipM (K : PySem.W.Frag) (ta : TA) : TI := fun g H R => ta g H fun vs H1 => ∃ a b xs ys, vs = [.ref a, .ref b] ∧ SqT K H1 a xs ∧ SqL K H1 b ys ∧ R (ItM K a b) H1
theorem pi_zipM (hg : Gl X "zip") (hm : X.mg "zip" = none) (ha : PA X [e, e2] ta)
    (hs : starEach [e, e2] X.env = (false, eval e X.env) :: starEach [e2] X.env := by rfl) (hpl : (backTo pos (starEach [e2] X.env)).any (·.1) = false := by rfl) :
    PI X (.Tuple elts kk tpos) (.Call (.Name "zip" p) [e, e2] [] pos) (iZipM X.K ta) := by
  refine ⟨fun pins s g H R I h => Call_ (ld_blt I hg hm PyProof.Rows.boot_zip (PyProof.Rows.callWith_type1 (thn (ha.run pos pins s g H _ I h) fun us s1 ⟨vs, H1, I1, r1, q1⟩ => ?_) hs hpl))⟩
  obtain ⟨a, b, xs, ys, ex, qx, qy, q⟩ := q1
  subst ex
  obtain ⟨u1, u2, rfl, r1, r2⟩ := vals2 r1
  cases (show u1 = Value.ref a from r1)
  cases (show u2 = Value.ref b from r2)
  obtain ⟨us, rx, p1, _⟩ := I1.tuple qx
  obtain ⟨vs, ry, p2, _⟩ := I1.list qy
  have la : a < s1.heap.objs.size := by obtain ⟨_, z, _⟩ := p1; exact Heap.lt_size z
  have lb : b < s1.heap.objs.size := p2.lt
  have up : ∀ c, c ∈ [s1.heap.objs.size + 4, s1.heap.objs.size + 2, s1.heap.objs.size + 3, s1.heap.objs.size, s1.heap.objs.size + 1] → s1.heap.objs.size ≤ c := fun c hc => by
    rcases List.mem_cons.mp hc with q | hc
    · subst q; exact Nat.le_add_right _ _
    rcases List.mem_cons.mp hc with q | hc
    · subst q; exact Nat.le_add_right _ _
    rcases List.mem_cons.mp hc with q | hc
    · subst q; exact Nat.le_add_right _ _
    rcases List.mem_cons.mp hc with q | hc
    · subst q; exact Nat.le_refl _
    rcases List.mem_cons.mp hc with q | hc
    · subst q; exact Nat.le_add_right _ _
    cases hc
  refine zip_begins2 (begins_tuple a us.toArray) (begins_list b vs.toArray) p1 p2.isList fun h' hz hI hO g1 g2 _ kept => wpAny_pyIter_zip hz ?_
  have I2 : Inv X pins g H1 { s1 with heap := h' } := I1.kept (t' := s1.toks) kept
  refine ⟨_, _, _, _, H1, rfl, I2, turn_M (zip_sep2 (N := s1.heap.objs.size) (fp1 := [a]) (fp2 := [b]) (fun c hc => by rw [List.mem_singleton.mp hc]; exact la) (fun c hc => by rw [List.mem_singleton.mp hc]; exact lb)), ⟨hz, hI, ⟨_, _, hO⟩, ⟨_, g1, rfl, rfl⟩, ⟨_, g2, rfl, rfl⟩⟩, fun c hc => I1.fpOk (up c hc) (I1.hok.fresh (up c hc)), q⟩
theorem enum_one {v : Value} {o : Obj} {G : Heap → Prop} (B : Begins v o G) :
    Meets (Builtin.«enumerate.__new__» ⟨[.type "enumerate", v], []⟩) (fun _ R s2 => G s2.heap ∧
      R (.ok (.ret (.ref (s2.heap.push o).objs.size))) { s2 with heap := (s2.heap.push o).push { cls := .type "enumerate", data := .fields #[.none, .bool false, .ref s2.heap.objs.size, rawInt 0, .none, .none] } }) := .of_wp fun prog w A R s2 hh => by
  obtain ⟨hp, gg, dd, tt, oo⟩ := s2
  obtain ⟨hg, hr⟩ := hh
  have isub := sub_enumerate
  have it0 : ∀ {A' : Around} {E : Value → Shared → Prop} {Q : Value → Shared → Prop}, Q (.ref hp.objs.size) ⟨hp.push o, gg, dd, tt, oo⟩ → wpAny (model prog w) A' (pyIter v) Q E ⟨hp, gg, dd, tt, oo⟩ := fun z => B.iter prog w _ _ ⟨hp, gg, dd, tt, oo⟩ _ hg z
  wp_walk using it0
  refine wpAny_stack_any fun _ => wpAny_pure (?_ : wpAny _ _ _ _ _ _)
  split
  · rename_i cl _ _ _ _ _
    cases (cl == Value.type "enumerate") <;> (wp_walk using it0; exact ⟨_, rfl, hr⟩)
  · wp_walk using it0
    exact ⟨_, rfl, hr⟩
theorem enum_new {prog : Program} {w : World} {A : Around} {E : Value → Shared → Prop} {s : Shared} {v : Value} {o : Obj} {G : Heap → Prop} {Q : Value → Shared → Prop} (B : Begins v o G) (hg : G s.heap)
    (fin : ∀ h', IsEnum h' (s.heap.objs.size + 1) s.heap.objs.size 0 .none → h'.get? s.heap.objs.size = some o → (∀ b ob, s.heap.get? b = some ob → h'.get? b = some ob) → Q (.ref (s.heap.objs.size + 1)) { s with heap := h' }) :
    wpAny (model prog w) A (call (.type "enumerate") [v]) Q E s := by
  refine callType_new F.called_enumerate (by decide) (F.typeCall_enumerate_1 _) (F.newCall_enumerate_1 _) (fun ob => F.args_object_init_2 ob _) F.entry_enumerate_new (enum_one B) ⟨hg, ?_⟩
  have sz : (s.heap.push o).objs.size = s.heap.objs.size + 1 := Heap.size_push ..
  have is : IsEnum ((s.heap.push o).push { cls := .type "enumerate", data := .fields #[.none, .bool false, .ref s.heap.objs.size, rawInt 0, .none, .none] }) (s.heap.objs.size + 1) s.heap.objs.size 0 .none := by
    have z := Heap.get?_push_size (s.heap.push o) (o := { cls := .type "enumerate", data := .fields #[.none, .bool false, .ref s.heap.objs.size, rawInt 0, .none, .none] }) rfl
    rw [sz] at z
    exact z
  have z := fin _ is (Heap.get?_push_of_some _ (Heap.get?_push_size _ B.free)) fun b ob x => Heap.get?_push_of_some _ (Heap.get?_push_of_some _ x)
  rw [← sz] at z is
  exact ⟨⟨_, is, rfl⟩, z⟩
def iEnumT (K : PySem.W.Frag) (ta : TA) : TI := fun g H R => ta g H fun vs H1 => ∃ a xs, vs = [.ref a] ∧ SqT K H1 a xs ∧ R (ItE K a) H1
theorem pi_enumT (hg : Gl X "enumerate") (hm : X.mg "enumerate" = none) (ha : PA X [e] ta) (hs : starEach [e] X.env = [(false, eval e X.env)] := by rfl) :
    PI X (.Tuple elts kk tpos) (.Call (.Name "enumerate" p) [e] [] pos) (iEnumT X.K ta) := by
  refine ⟨fun pins s g H R I h => Call_ (ld_blt I hg hm boot_enumerate (PyProof.Rows.callWith_type1 (thn (ha.run pos pins s g H _ I h) fun us s1 ⟨vs, H1, I1, r1, q1⟩ => ?_) hs rfl))⟩
  obtain ⟨a, xs, ex, qx, q⟩ := q1
  subst ex
  obtain ⟨u, rfl, r⟩ : ∃ u, us = [u] ∧ RelV (.ref a) u := by
    cases r1 with
    | cons r rr => cases rr; exact ⟨_, rfl, r⟩
  cases (show u = Value.ref a from r)
  obtain ⟨us, rx, p1, _⟩ := I1.tuple qx
  have la : a < s1.heap.objs.size := by obtain ⟨_, z, _⟩ := p1; exact Heap.lt_size z
  refine enum_new (begins_tuple a us.toArray) p1 fun h' he g1 kept => wpAny_pyIter_enum he ?_
  have I2 : Inv X pins g H1 { s1 with heap := h' } := I1.kept (t' := s1.toks) kept
  have up : ∀ c, c ∈ [s1.heap.objs.size + 1, s1.heap.objs.size] → s1.heap.objs.size ≤ c := fun c hc => by
    rcases List.mem_cons.mp hc with q | hc
    · subst q; exact Nat.le_add_right _ _
    rcases List.mem_cons.mp hc with q | hc
    · subst q; exact Nat.le_refl _
    cases hc
  exact ⟨_, _, _, _, H1, rfl, I2, turn_E (a := a) (Nat.succ_ne_self _) (Nat.ne_of_gt (Nat.lt_succ_of_lt la)), ⟨⟨.none, he⟩, ⟨_, g1, rfl, rfl⟩⟩, fun c hc => I1.fpOk (up c hc) (I1.hok.fresh (up c hc)), q⟩
end
end PyK

-- PyK2
set_option maxRecDepth 100000
set_option maxHeartbeats 4000000
noncomputable section
namespace PyK
open PySem PySem.Spec PyProof.Rows L2 PyD RZ
/-! ### isinstance of a value with a built-in type -/
def isiD (as : List D) (M : Sto) : Option (D × Sto) := match as with
  | [d, .ty T] => (match tyOfD [d] M with
    | some (.ty t, _) => (kitB t T).map fun b => (.bl b, M)
    | _ => none)
  | _ => none
theorem ty_of {K : KT} {H : Hp} {io : List Addr} {M : Sto} {d : D} {x : V} {t : String} {M' : Sto} (e : tyOfD [d] M = some (.ty t, M')) (ra : R K H io d x) (rs : RS K H io M) : TyX K.f H x (.type t) := by
  unfold tyOfD at e
  cases d with
  | non => cases e; cases ra; exact .base .non
  | bl b => cases e; cases ra; exact .base (.bl _)
  | int i => cases e; cases ra; exact .base (.int _)
  | str z => cases e; cases ra; exact .base (.str _)
  | ty n => cases e
  | tup ds =>
    cases e
    cases ra with
    | tup h1 rl => exact .base (.tup h1)
  | ktup ds =>
    cases e
    cases ra with
    | ktup h1 rl =>
      obtain ⟨o, its, n, e1, e2, _⟩ := h1
      exact .kTuple e1 e2
  | lst i =>
    dsimp only at e
    split at e
    · rename_i ds em
      cases e
      obtain ⟨a1, xs, rfl, i1, h1, r1⟩ := lst_at ra rs em
      exact .base (.lst h1)
    · cases e
  | dic i =>
    dsimp only at e
    split at e
    · rename_i ds em
      cases e
      cases ra with
      | dic ei =>
        obtain ⟨cc, ho, e1, e2, rc⟩ := rs.there ei
        rw [em] at e1
        cases e1
        obtain ⟨ys, q, rk⟩ := rc
        subst q
        exact .base (.dK e2)
    · cases e
  | fn n => cases e
  | exn c as => cases e
section
variable {X : Cx} {c : Cfg}
theorem cr_isi (hK : X.K = c.K.f) : CallR X (.builtin "isinstance") (sVs c isiD) := by
  intro pins s g H xs us Q I rv hh
  obtain ⟨M, io, as, d, M', e, ra, rs, k⟩ := hh
  rw [kt hK] at ra rs k
  unfold isiD at e
  split at e
  · rename_i d0 T
    split at e
    · rename_i t M2 et
      obtain ⟨b, e1, e2⟩ := map_some e
      cases e2
      cases ra with
      | cons r1 r2 =>
        cases r2 with
        | cons r2 r3 =>
          cases r3
          cases r2
          exact call_isi pins s g H _ us Q I rv ⟨_, _, _, _, b, rfl, .ty T, ty_of et r1 rs, kit_ty e1, k_now k rs (.bl b)⟩
    · cases e
  · cases e
/-! ### sorted, of ints -/
def insI (x : Int) : List Int → List Int
  | [] => [x]
  | y :: ys => if x ≤ y then x :: y :: ys else y :: insI x ys
def isort : List Int → List Int
  | [] => []
  | x :: xs => insI x (isort xs)
theorem insI_perm (x : Int) : ∀ l : List Int, (insI x l).Perm (x :: l)
  | [] => .refl _
  | y :: ys => by
    unfold insI
    split
    · exact .refl _
    · exact ((insI_perm x ys).cons y).trans (.swap x y ys)
theorem isort_perm : ∀ l : List Int, (isort l).Perm l
  | [] => .refl _
  | x :: xs => (insI_perm x _).trans ((isort_perm xs).cons x)
theorem insI_up (x : Int) : ∀ l : List Int, l.Pairwise (· ≤ ·) → (insI x l).Pairwise (· ≤ ·)
  | [], _ => List.pairwise_singleton _ _
  | y :: ys, h => by
    unfold insI
    rw [List.pairwise_cons] at h
    split
    · rename_i hx
      refine List.pairwise_cons.mpr ⟨fun z hz => ?_, List.pairwise_cons.mpr h⟩
      rcases List.mem_cons.mp hz with q | q
      · rw [q]; exact hx
      · exact Int.le_trans hx (h.1 z q)
    · rename_i hx
      refine List.pairwise_cons.mpr ⟨fun z hz => ?_, insI_up x ys h.2⟩
      rcases List.mem_cons.mp ((insI_perm x ys).mem_iff.mp hz) with q | q
      · rw [q]; omega
      · exact h.1 z q
theorem isort_up : ∀ l : List Int, (isort l).Pairwise (· ≤ ·)
  | [] => .nil
  | x :: xs => insI_up x _ (isort_up xs)
theorem up_uniq : ∀ {a b : List Int}, a.Perm b → a.Pairwise (· ≤ ·) → b.Pairwise (· ≤ ·) → a = b
  | [], b, p, _, _ => (List.Perm.nil_eq p)
  | x :: xs, [], p, _, _ => absurd p.length_eq (by simp)
  | x :: xs, y :: ys, p, h1, h2 => by
    rw [List.pairwise_cons] at h1 h2
    have e : x = y := by
      have a1 : x ∈ y :: ys := p.mem_iff.mp (List.mem_cons_self)
      have a2 : y ∈ x :: xs := p.mem_iff.mpr (List.mem_cons_self)
      rcases List.mem_cons.mp a1 with q | q
      · exact q
      rcases List.mem_cons.mp a2 with q2 | q2
      · exact q2.symm
      have := h1.1 y q2
      have := h2.1 x q
      omega
    subst e
    rw [up_uniq (List.Perm.cons_inv p) h1.2 h2.2]
theorem sort_is {ns' ns : List Int} (p : ns'.Perm ns) (u : ns'.Pairwise (· ≤ ·)) : ns' = isort ns := up_uniq (p.trans (isort_perm ns).symm) u (isort_up ns)
def intKeys : List (Key × D) → Option (List Int)
  | [] => some []
  | (.inl i, _) :: r => (intKeys r).map fun ns => i :: ns
  | _ => none
theorem intKeys_ok {K : KT} {H : Hp} {io : List Addr} : ∀ {a : List (Key × D)} {b : List (Key × V)} {ns : List Int}, intKeys a = some ns → RKV K H io a b → b.map (·.1) = ns.map Sum.inl
  | [], _, _, e, h => by cases e; cases h; rfl
  | (.inr x, d) :: r, _, _, e, h => by cases e
  | (.inl i, d) :: r, _, _, e, h => by
    unfold intKeys at e
    obtain ⟨ms, e1, e2⟩ := map_some e
    cases e2
    cases h with
    | cons h1 h2 => rw [List.map_cons, List.map_cons, intKeys_ok e1 h2, ← h1.1]
def sortID (as : List D) (M : Sto) : Option (D × Sto) := match as with
  | [.lst j] => (match (sGet M j) with
    | some (.lst ds) => (match intsD ds with
      | some ns => if ns.length < 64 then some (.lst M.length, sApp M (.lst ((isort ns).map D.int))) else none
      | none => none)
    | _ => none)
  | [.dic j] => (match (sGet M j) with
    | some (.dk kvs) => (match intKeys kvs with
      | some ns => if ns.length < 64 then some (.lst M.length, sApp M (.lst ((isort ns).map D.int))) else none
      | none => none)
    | _ => none)
  | _ => none
theorem rl_ints {K : KT} {H : Hp} {io : List Addr} : ∀ ns : List Int, RL K H io (ns.map D.int) (ns.map V.int)
  | [] => .nil
  | n :: ns => .cons (.int n) (rl_ints ns)
theorem cr_sortID (hK : X.K = c.K.f) (hc : X.calm = true) : CallR X (.builtin "sorted") (sVs c sortID) := by
  intro pins s g H xs us Q I rv hh
  obtain ⟨M, io, as, d, M', e, ra, rs, k⟩ := hh
  rw [kt hK] at ra rs k
  unfold sortID at e
  split at e
  · split at e
    · rename_i ds em
      split at e
      · rename_i ns en
        split at e
        · rename_i hl
          cases e
          obtain ⟨x, rfl, rx⟩ := ra.one
          obtain ⟨a1, xs, rfl, i1, h1, r1⟩ := lst_at rx rs em
          have z := ints_of en r1
          subst z
          exact cr_sorted pins s g H _ us Q I rv ⟨a1, ns, rfl, SqL.of h1, hl, fun ns' p hp hu n => by
            rw [sort_is hp hu]
            exact k_lst k rs (rl_ints _) n⟩
        · cases e
      · cases e
    · cases e
  · split at e
    · rename_i kvs em
      split at e
      · rename_i ns en
        split at e
        · rename_i hl
          cases e
          obtain ⟨x, rfl, rx⟩ := ra.one
          cases rx with
          | dic ei =>
            obtain ⟨cc, ho, e1, e2, rc⟩ := rs.there ei
            rw [em] at e1
            cases e1
            obtain ⟨ys, q, rk⟩ := rc
            subst q
            exact call_sortedDI hc pins s g H _ us Q I rv ⟨_, _, ns, rfl, .inl e2, intKeys_ok en rk, hl, fun zs p hp hu n => by
              rw [sort_is hp hu]
              exact k_lst k rs (rl_ints _) n⟩
        · cases e
      · cases e
    · cases e
  · cases e
/-! ### how often an int stands in a list -/
def countD (a : D) (ds : List D) (M : Sto) : Option (D × Sto) := match a, ds with
  | .lst i, [.int k] => (match (sGet M i) with
    | some (.lst xs) => (match intsD xs with
      | some ns => some (.int (ns.count k : Nat), M)
      | none => none)
    | _ => none)
  | _, _ => none
theorem mr_count (hK : X.K = c.K.f) : MtR X "list.count" (sVm c countD) := by
  intro pins s g H x xs v us Q I rx rv hh
  obtain ⟨M, io, a, ds, d, M', e, ra, rd, rs, k⟩ := hh
  rw [kt hK] at ra rd rs k
  unfold countD at e
  split at e
  · split at e
    · rename_i ys em
      split at e
      · rename_i ns en
        cases e
        obtain ⟨y, rfl, ry⟩ := rd.one
        cases ry
        obtain ⟨a1, zs, rfl, i1, h1, r1⟩ := lst_at ra rs em
        have z := ints_of en r1
        subst z
        exact mt_lcount pins s g H _ _ v us Q I rx rv ⟨a1, ns, _, rfl, rfl, SqL.of h1, k_now k rs (.int _)⟩
      · cases e
    · cases e
  · cases e
/-! ### x, y = a, b -/
def parS (i j : Nat) (hs : Den (List D)) : SDen := bindS hs fun ds r M => match ds with
  | [a, b] => some (.nx, (r.set i (some a)).set j (some b), M)
  | _ => none
theorem ds_par {i j : Nat} {x y : Str} {a b : Expr} {hs : Den (List D)} {px py pt pos : Pos} {kt k2 : Nat} {pt2 : Pos} (hc : X.calm = true) (hN : X.N.Nodup) (hi : X.N[i]? = some x) (hj : X.N[j]? = some y) (hij : i ≠ j)
    (hx : X.env.scope.names.lookup x = some .local) (hy : X.env.scope.names.lookup y = some .local) (ha : PA X [a, b] (sA c hs))
    (hw : swappedStores [.Tuple [.Name x px, .Name y py] kt pt] (.Tuple [a, b] k2 pt2) X.env = pure (some [x, y]) := by rfl)
    (h2 : swapsWithSole [.Tuple [.Name x px, .Name y py] kt pt] (.Tuple [a, b] k2 pt2) pos.line X.env = pure false := by rfl) :
    PS X (.Assign [.Tuple [.Name x px, .Name y py] kt pt] (.Tuple [a, b] k2 pt2) pos) (sS c (parS i j hs)) := PS.imp (ps_par hc hN hi hj hij hx hy ha hw h2) fun Ds g H s => by
  refine sS.bind s fun ds vs r M1 io1 H1 re rs ra run => ?_
  obtain ⟨fl, r', M', eq, z⟩ := run
  dsimp only at eq
  split at eq
  · cases eq
    cases ra with
    | cons r1 r2 =>
      cases r2 with
      | cons r2 r3 =>
        cases r3
        exact ⟨_, _, rfl, z io1 H1 Ext.refl rs _ ((re.set r1).set r2)⟩
  · cases eq
end
/-! ### walks: zip of a tuple and a list; enumerate of a tuple -/
def zipSrcM (f : Den (List D)) : Den Src := bindD f fun ds _ M => match ds with
  | [a, b] => if isTp a && isLs b && (itemsD a M).isSome && (itemsD b M).isSome then some (.ok (.zipM a b), M) else none
  | _ => none
def enumSrcT (f : Den (List D)) : Den Src := bindD f fun ds _ M => match ds with
  | [d] => if isTp d then some (.ok (.enumT d), M) else none
  | _ => none
theorem jok_zipM {c : Cfg} {io : List Addr} {H : Hp} {a : D} {j : Nat} {x : V} {p q : Addr} (ta : isTp a = true) (ra : R c.K H io a x) (ex : x = .ref p) (eq : io[j]? = some q) : JOk c io H (ItM c.K.f p q) (nextI (.zipM a (.lst j))) := by
  obtain ⟨p1, xs, ds, e1, i1, k1⟩ := tp_of ta ra
  subst ex
  cases e1
  refine ⟨fun i M io' H' e rs h => ?_, fun i M io' H' d e rs h => ?_⟩
  · obtain ⟨q1, r1⟩ := k1 io' H' e
    simp only [nextI, i1] at h
    cases em : itemsD (.lst j) M with
    | none => rw [em] at h; cases h
    | some es =>
      rw [em] at h
      have em2 : sGet M j = some (.lst es) := by
        unfold itemsD at em
        dsimp only at em
        split at em
        · rename_i z; cases em; exact z
        · cases em
      obtain ⟨ys, h2, r2⟩ := rs.lst (e.i _ _ eq) em2
      dsimp only at h
      split at h
      · cases h
      · split at h
        · rename_i hm
          exact ⟨xs, ys, q1, SqL.of h2, by rw [← r1.length, ← r2.length]; exact hm⟩
        · cases h
  · obtain ⟨q1, r1⟩ := k1 io' H' e
    simp only [nextI, i1] at h
    cases em : itemsD (.lst j) M with
    | none => rw [em] at h; cases h
    | some es =>
      rw [em] at h
      have em2 : sGet M j = some (.lst es) := by
        unfold itemsD at em
        dsimp only at em
        split at em
        · rename_i z; cases em; exact z
        · cases em
      obtain ⟨ys, h2, r2⟩ := rs.lst (e.i _ _ eq) em2
      dsimp only at h
      split at h
      · rename_i u w hu hw
        cases h
        obtain ⟨v1, g1, rv1⟩ := r1.get hu
        obtain ⟨v2, g2, rv2⟩ := r2.get hw
        refine ⟨⟨xs, ys, v1, v2, q1, SqL.of h2, g1, g2⟩, fun z H'' y => ?_⟩
        obtain ⟨T, x', y', rfl, hT, rfl, f1, f2⟩ := y
        have s1 := f1 xs q1
        have s2 := f2 ys (SqL.of h2)
        rw [g1] at s1
        rw [g2] at s2
        cases s1
        cases s2
        exact ⟨Ext.tupNew hT, rs.tupNew hT, .tup upd_same (.cons (rv1.mono (Ext.tupNew hT)) (.cons (rv2.mono (Ext.tupNew hT)) .nil))⟩
      · split at h
        · cases h
        · cases h
theorem jok_enumT {c : Cfg} {io : List Addr} {H : Hp} {a : D} {x : V} {p : Addr} (ta : isTp a = true) (ra : R c.K H io a x) (ex : x = .ref p) : JOk c io H (ItE c.K.f p) (nextI (.enumT a)) := by
  obtain ⟨p1, xs, ds, e1, i1, k1⟩ := tp_of ta ra
  subst ex
  cases e1
  refine ⟨fun i M io' H' e rs h => ?_, fun i M io' H' d e rs h => ?_⟩
  · obtain ⟨q1, r1⟩ := k1 io' H' e
    simp only [nextI, i1] at h
    split at h
    · cases h
    · split at h
      · rename_i hm
        exact ⟨xs, q1, by rw [← r1.length]; exact hm⟩
      · cases h
  · obtain ⟨q1, r1⟩ := k1 io' H' e
    simp only [nextI, i1] at h
    split at h
    · rename_i u hu
      cases h
      obtain ⟨v1, g1, rv1⟩ := r1.get hu
      refine ⟨⟨xs, v1, q1, g1⟩, fun z H'' y => ?_⟩
      obtain ⟨T, x', rfl, hT, rfl, f1⟩ := y
      have s1 := f1 xs q1
      rw [g1] at s1
      cases s1
      exact ⟨Ext.tupNew hT, rs.tupNew hT, .tup upd_same (.cons (.int _) (.cons (rv1.mono (Ext.tupNew hT)) .nil))⟩
    · split at h
      · cases h
      · cases h
section
variable {X : Cx} {c : Cfg} {hs : Den (List D)} {e e2 : Expr} {p pos tpos : Pos} {elts : List Expr} {kk : Nat}
theorem dp_zipM (hK : X.K = c.K.f) (hg : Gl X "zip") (hm : X.mg "zip" = none) (ha : PA X [e, e2] (sA c hs)) (hst : starEach [e, e2] X.env = (false, eval e X.env) :: starEach [e2] X.env := by rfl) (hpl : (backTo pos (starEach [e2] X.env)).any (·.1) = false := by rfl) :
    PI X (.Tuple elts kk tpos) (.Call (.Name "zip" p) [e, e2] [] pos) (wS c (zipSrcM hs)) := PI.imp (pi_zipM hg hm ha hst hpl) fun g H Q s => by
  obtain ⟨r, M, io, re, rs, sx, M', eq, z⟩ := s
  obtain ⟨ds, M1, ef, ek⟩ := bind_ok eq
  rw [hK]
  split at ek
  · rename_i a b
    split at ek
    · rename_i hh
      simp only [Bool.and_eq_true] at hh
      obtain ⟨⟨⟨ta, tb⟩, sa⟩, sb⟩ := hh
      cases ek
      refine ⟨r, M, io, re, rs, .ok _, _, ef, fun io1 H1 e1 rs1 vs rv => ?_⟩
      cases rv with
      | cons r1 r2 =>
        cases r2 with
        | cons r2 r3 =>
          cases r3
          obtain ⟨p1, xs, ds, ex, i1, k1⟩ := tp_of ta r1
          cases b <;> first | (cases tb; done) | skip
          rename_i j
          cases em : itemsD (.lst j) M' with
          | none => rw [em] at sb; cases sb
          | some es =>
            have em2 : sGet M' j = some (.lst es) := by
              unfold itemsD at em
              dsimp only at em
              split at em
              · rename_i z; cases em; exact z
              · cases em
            obtain ⟨a2, ys, rfl, i2, h2, q2⟩ := lst_at r2 rs1 em2
            subst ex
            exact ⟨p1, a2, xs, ys, rfl, (k1 io1 H1 Ext.refl).1, SqL.of h2, z io1 H1 e1 rs1 _ (jok_zipM ta r1 rfl i2)⟩
    · cases ek
  · cases ek
theorem dp_enumT (hK : X.K = c.K.f) (hg : Gl X "enumerate") (hm : X.mg "enumerate" = none) (ha : PA X [e] (sA c hs)) (hst : starEach [e] X.env = [(false, eval e X.env)] := by rfl) :
    PI X (.Tuple elts kk tpos) (.Call (.Name "enumerate" p) [e] [] pos) (wS c (enumSrcT hs)) := PI.imp (pi_enumT hg hm ha hst) fun g H Q s => by
  obtain ⟨r, M, io, re, rs, sx, M', eq, z⟩ := s
  obtain ⟨ds, M1, ef, ek⟩ := bind_ok eq
  rw [hK]
  split at ek
  · split at ek
    · rename_i ta
      cases ek
      refine ⟨r, M, io, re, rs, .ok _, _, ef, fun io1 H1 e1 rs1 vs rv => ?_⟩
      obtain ⟨x, rfl, rx⟩ := rv.one
      obtain ⟨p1, xs, ds, ex, i1, k1⟩ := tp_of ta rx
      subst ex
      exact ⟨p1, xs, rfl, (k1 io1 H1 Ext.refl).1, z io1 H1 e1 rs1 _ (jok_enumT ta rx rfl)⟩
    · cases ek
  · cases ek
end
end PyK

-- PyM3
set_option maxRecDepth 100000
set_option maxHeartbeats 4000000
noncomputable section
namespace PyM
open PySem PySem.Spec PyProof.Rows L2 PyD RZ
/-! ### {k: v for .. in ..}: a new dict -/
def dcompL (nxt : Nat → Sto → Option (Option D)) (ct : CT) (ifs : Den Bool) (kd vd : Den D) (id : Nat) : Nat → Nat → DEnv → Sto → Option Sto
  | 0, _, _, _ => none
  | n + 1, i, r, M => match nxt i M with
    | none => none
    | some none => some M
    | some (some d) => match setC ct d r with
      | none => none
      | some r1 => match ifs r1 M with
        | some (.ok true, M1) => match kd r1 M1 with
          | some (.ok k, M2) => match vd r1 M2 with
            | some (.ok e, M3) => match keyD k with
              | some kk => match (sGet M3 id) with
                | some (.dk acc) => if acc.length < 100000 then dcompL nxt ct ifs kd vd id n (i + 1) r (M3.set id (.dk (putKD acc kk e))) else none
                | _ => none
              | none => none
            | _ => none
          | _ => none
        | some (.ok false, M1) => dcompL nxt ct ifs kd vd id n (i + 1) r M1
        | _ => none
def dcompE (src : Den Src) (vs : List Nat) (ct : CT) (ifs : Den Bool) (kd vd : Den D) (n : Nat) : Den D := fun r M => match src r M with
  | some (.ok s, M1) => match dcompL (nextI s) ct ifs kd vd M1.length n 0 (wipeD r vs) ((sApp M1 (.dk []))) with
    | some M2 => some (.ok (.dic M1.length), M2)
    | none => none
  | _ => none
theorem dcompE_dc {c : Cfg} {src : Den Src} {vs : List Nat} {ct : CT} {ifs : Den Bool} {kd vd : Den D} {n : Nat} {g : L2.St} {H : Hp} {Q : VK} (hv : ∀ i ∈ ct.slots, i ∈ vs)
    (s : sE c (dcompE src vs ct ifs kd vd n) g H Q) : tDc (wS c src) (gC c.K.f ct) (sT c ifs) (sE c kd) (sE c vd) vs g H Q := by
  obtain ⟨r, M, io, re, rs, x, M', eq, z⟩ := s
  unfold dcompE at eq
  split at eq
  · rename_i sx M1 es
    split at eq
    · rename_i M2 el
      cases eq
      refine ⟨r, M, io, re, rs, sx, M1, es, fun io1 H1 e1 rs1 J hJ => fun Dd hn => ?_⟩
      have ex0 : Ext c.K io1 H1 (io1 ++ [Dd]) (upd H1 Dd (.dK [])) := Ext.alloc hn
      have rs0 : RS c.K (upd H1 Dd (.dK [])) (io1 ++ [Dd]) ((sApp M1 (.dk []))) := rs1.alloc hn ⟨[], rfl, .nil⟩
      have id0 : (io1 ++ [Dd])[M1.length]? = some Dd := by rw [← rs1.len, List.getElem?_append_right (Nat.le_refl _)]; simp
      have re0 := ((re.mono e1).mono ex0).wipe vs
      refine ⟨fun i m H => ∃ (M : Sto) (io : List Addr), Ext c.K (io1 ++ [Dd]) (upd H1 Dd (.dK [])) io H ∧ RS c.K H io M ∧ ∃ M2, dcompL (nextI sx) ct ifs kd vd M1.length m i (wipeD r vs) M = some M2 ∧
        (∀ io' H', Ext c.K io H io' H' → RS c.K H' io' M2 → Q (.ref Dd) H'), ⟨n, (sApp M1 (.dk [])), io1 ++ [Dd], Ext.refl, rs0, _, el, fun io' H' ex rs' => z io' H' ((e1.trans ex0).trans ex) rs' _ (.dic (ex.i _ _ id0))⟩, ?_⟩
      rintro i m H ⟨M, io, ex, rs, M2, el, k⟩
      have re1 := re0.mono ex
      cases m with
      | zero => cases el
      | succ m =>
        unfold dcompL at el
        split at el
        · cases el
        · rename_i en
          cases el
          exact .inl ⟨hJ.stop i _ io H (ex0.trans ex) rs en, k io H Ext.refl rs⟩
        · rename_i d en
          obtain ⟨go, yl⟩ := hJ.go i M io H d (ex0.trans ex) rs en
          refine .inr ⟨go, fun H => ∃ (M : Sto) (io : List Addr), Ext c.K (io1 ++ [Dd]) (upd H1 Dd (.dK [])) io H ∧ RS c.K H io M ∧ ∃ M2, dcompL (nextI sx) ct ifs kd vd M1.length m (i + 1) (wipeD r vs) M = some M2 ∧
            (∀ io' H', Ext c.K io H io' H' → RS c.K H' io' M2 → Q (.ref Dd) H'), fun H' h => ⟨m, Nat.lt_succ_self m, h⟩, fun x H' y => ?_⟩
          obtain ⟨ex2, rs2, rx⟩ := yl x H' y
          split at el
          · cases el
          · rename_i r1 et
            refine setC_ok (vs := vs) et rx (re1.mono ex2) hv fun g2 re2 wp => ⟨wp.trans wipe_wipe, ?_⟩
            split at el
            · rename_i M3 ei
              split at el
              · rename_i kx M4 ek
                split at el
                · rename_i e3 M5 ee
                  split at el
                  · rename_i kk ekk
                    split at el
                    · rename_i acc ea
                      split at el
                      · rename_i hl
                        refine ⟨r1, M, io, re2, rs2, .ok true, M3, ei, fun io3 H3 ex3 rs3 b hb => ?_⟩
                        cases hb
                        rw [if_pos rfl]
                        refine ⟨r1, M3, io3, re2.mono ex3, rs3, .ok kx, M4, ek, fun io4 H4 ex4 rs4 kv rk => ?_⟩
                        refine ⟨r1, M4, io4, (re2.mono ex3).mono ex4, rs4, .ok e3, M5, ee, fun io5 H5 ex5 rs5 v rv => ?_⟩
                        have idD : io5[M1.length]? = some Dd := ex5.i _ _ (ex4.i _ _ (ex3.i _ _ (ex2.i _ _ (ex.i _ _ id0))))
                        obtain ⟨a1, o1, i1, h1, rc⟩ := rs5.cell _ _ ea
                        rw [idD] at i1
                        cases i1
                        obtain ⟨xs, rfl, rkv⟩ := rc
                        refine ⟨xs, kk, key_of_D ekk (rk.mono ex5), h1, by rw [← rkv_len rkv]; exact big_lt hl, ?_⟩
                        have nt : notTup (.dK xs) := nt_dk
                        have ex6 := Ext.write (K := c.K) (io := io5) (o := .dK (putK xs kk v)) h1 nt
                        have rs6 := rs5.write (c := .dk (putKD acc kk e3)) idD h1 nt ⟨_, rfl, (RKV.put rkv kk rv).mono ex6⟩
                        exact ⟨_, io5, ((((ex.trans ex2).trans ex3).trans ex4).trans ex5).trans ex6, rs6, M2, el, fun io' H' e rs' => k io' H' (((((ex2.trans ex3).trans ex4).trans ex5).trans ex6).trans e) rs'⟩
                      · cases el
                    · cases el
                  · cases el
                · cases el
              · cases el
            · rename_i M3 ei
              refine ⟨r1, M, io, re2, rs2, .ok false, M3, ei, fun io3 H3 ex3 rs3 b hb => ?_⟩
              cases hb
              rw [if_neg Bool.false_ne_true]
              exact ⟨M3, io3, (ex.trans ex2).trans ex3, rs3, M2, el, fun io' H' e rs' => k io' H' ((ex2.trans ex3).trans e) rs'⟩
            · cases el
    · cases eq
  · cases eq
section
variable {X : Cx} {c : Cfg} {src : Den Src} {ct : CT} {ift : Den Bool} {kd vd : Den D} {n : Nat} {kx vx tg iter : Expr} {ifs : List Expr} {scope : Scope} {own : List (Str × Nat)} {sl : List Nat} {pos spos py : Pos}
theorem ds_setDcomp {i : Nat} {y : Str} (hK : X.K = c.K.f) (hc : X.calm = true) (hN : X.N.Nodup) (hy : X.N[i]? = some y) (hyl : X.env.scope.names.lookup y = some .local)
    (hsw : swapsWith (.DictComp kx vx [⟨tg, iter, ifs, 0⟩] scope pos) (some (.Name y py)) spos.line X.env = pure true) (hi : PI X tg iter (wS c src)) (ok : BlkOk X.N X.env.scope scope own) (hv : ∀ i ∈ ct.slots, i ∈ sl)
    (hg : ∀ (s : Shared) (H : Hp) (C : Addr) (cl : List (Str × Addr)) (fp : List Addr), PG (X.blk s H scope (compEnvC scope cl C X.env) fp) tg (gC X.K ct)) (ht : ∀ (s : Shared) (H : Hp) (C : Addr) (cl : List (Str × Addr)) (fp : List Addr), PTs (X.blk s H scope (compEnvC scope cl C X.env) fp) ifs (sT c ift))
    (hk : ∀ (s : Shared) (H : Hp) (C : Addr) (cl : List (Str × Addr)) (fp : List Addr), PE (X.blk s H scope (compEnvC scope cl C X.env) fp) kx (sE c kd)) (he : ∀ (s : Shared) (H : Hp) (C : Addr) (cl : List (Str × Addr)) (fp : List Addr), PE (X.blk s H scope (compEnvC scope cl C X.env) fp) vx (sE c vd))
    (hs : ∀ x, foldedSetIterable iter X.env x = pure x := by intro _; rfl) (hsl : own.map (·.2) = sl := by rfl) :
    PS X (.Assign [.Name y py] (.DictComp kx vx [⟨tg, iter, ifs, 0⟩] scope pos) spos) (sS c (setS (dcompE src sl ct ift kd vd n) (nmT i))) := PS.imp (ps_setDc (own := own) hc hN hy hyl hsw hi ok hg ht hk he hs) fun Ds g H s => by
  subst hsl
  have q : sE c (dcompE src (own.map (·.2)) ct ift kd vd n) g H (fun x H1 => gName i x g H1 Ds.nx) := by
    refine sS.bind s fun d x r M1 io1 H1 re rs ra run => ?_
    obtain ⟨fl, r', M', eq, z⟩ := run
    cases eq
    exact z io1 H1 Ext.refl rs _ (re.set ra)
  have q2 := dcompE_dc hv q
  rw [kt hK] at q2
  exact q2
end
/-! ### k in a written dict, of the texts that a table tells of -/
def inKD (tbl : List (Str × Bool)) (d : D) (M : Sto) : Option (D × Sto) := match d with
  | .str z => match tbl.find? fun p => sbeq p.1 z with
    | some p => some (.bl p.2, M)
    | none => none
  | _ => none
def KIn (K : PySem.W.Frag) (w : World) (mg : Str → Option Value) (x : Str) (tbl : List (Str × Bool)) : Prop :=
  ∃ (a : Addr) (es : Array DictEntry) (n : Nat), mg x = some (.ref a) ∧ KDict K w a es n ∧ ∀ p ∈ tbl, ∃ r, PySem.W.nsIn K a p.1 = some r ∧ r.isSome = p.2
section
variable {X : Cx} {c : Cfg} {f : Den D} {b : Expr} {pos p : Pos} {x : Str}
theorem inK_op {tbl : List (Str × Bool)} {a : Addr} {K : PySem.W.Frag} (all : ∀ p ∈ tbl, ∃ r, PySem.W.nsIn K a p.1 = some r ∧ r.isSome = p.2) {g : L2.St} {H : Hp} {Q : VK} (s : sE c (op1 (inKD tbl) f) g H Q) :
    tOp (fun x y H Q => ∃ (z : Str) (r : Option Value), x = .str z ∧ y = .ref a ∧ PySem.W.nsIn K a z = some r ∧ Q (.bl r.isSome) H) (sE c f) (tC (.ref a)) g H Q := by
  refine sG.bind s fun d y r M1 io1 H1 re rs ra run => ?_
  obtain ⟨z, M3, eq, k⟩ := run.lift
  unfold inKD at eq
  split at eq
  · rename_i w0
    split at eq
    · rename_i q hq
      cases eq; cases ra
      obtain ⟨rr, h1, h2⟩ := all _ (List.mem_of_find?_eq_some hq)
      have e0 := List.find?_some hq
      have e1 := sbeq_iff.mp e0
      rw [e1] at h1
      refine ⟨w0, rr, rfl, rfl, h1, ?_⟩
      rw [h2]
      exact k.ok Ext.refl rs (.bl _)
    · cases eq
  · cases eq
theorem de_inK {tbl : List (Str × Bool)} (hg : Gl X x) (h : KIn X.K X.w X.mg x tbl) (hb : PE X b (sE c f)) (hd : (x == ("__debug__" : Str)) = false := by decide) :
    PE X (.Compare b [.In] [.Name x p] pos) (sE c (op1 (inKD tbl) f)) := by
  obtain ⟨a, es, n, hm, D, all⟩ := h
  exact PE.imp (pe_cmpR (op_in_kd D) hb (pe_glob (v := .ref a) hg hm rfl hd) rfl) fun g H Q s => inK_op all s
theorem dt_inK {tbl : List (Str × Bool)} (hg : Gl X x) (h : KIn X.K X.w X.mg x tbl) (hb : PE X b (sE c f)) (hd : (x == ("__debug__" : Str)) = false := by decide) :
    PT X (.Compare b [.In] [.Name x p] pos) (sT c (btestD (op1 (inKD tbl) f))) := by
  obtain ⟨a, es, n, hm, D, all⟩ := h
  exact PT.imp (pt_cmpR (op_in_kd D) hb (pe_glob (v := .ref a) hg hm rfl hd) rfl) fun g H Q s => by
    obtain ⟨r, M, io, re, rs, run⟩ := s
    exact inK_op all (sT_b ⟨r, M, io, re, rs, run⟩)
end
end PyM

-- PyM1
set_option maxRecDepth 100000
set_option maxHeartbeats 4000000
noncomputable section
namespace PyM
open PySem PySem.Spec PyProof.Rows L2 PyD NdefX
/-! ### an exception's own __init__: super().__init__(e); self.f = x -/
abbrev mwO (a : Addr) : Obj := PySem.W.kxs_mw "ValueError.__init__" a
section
variable {X : Cx} {pins : List (Addr × Obj)} {σ : L2.St} {H : Hp} {s : Shared} {a C u : Addr} {Q : Value → Shared → Prop} {E : Value → Shared → Prop}
/-- the bound ValueError.__init__ -/
theorem omw_ok {us : List Value} (T : OexC X.K C) (I : Inv X pins σ H s) (e : H a = some (exo a C none)) (hu : s.heap.get? u = some (mwO a)) (hl : us.length ≤ sizeLine) (h : ∀ s', Inv X pins σ H s' → Q .none s') :
    wpAny (model X.prog X.w) X.A (call (.ref u) us) Q E s := by
  obtain ⟨nm, q, N, bs, bm, sn, sub, ab, col, dd, k0, k1, k2, k3, k5, hC, hbm⟩ := T.cls
  obtain ⟨t1, ho⟩ := exo_at I.hok e
  obtain ⟨hp, g, d, t, os⟩ := s
  refine wpAny_call (codeAny_of_tree ?_)
  show wpAny _ X.A.in1 (callAny (.ref u) ⟨us, []⟩) _ _ _
  simp only [callAny]
  refine wpAny_bind (wpAny_load hu ?_)
  simp only [mwO, PySem.W.kxs_mw, show (Value.type "method-wrapper" == Value.type "method" || Value.type "method-wrapper" == Value.type "builtin_function_or_method" || Value.type "method-wrapper" == Value.type "method-wrapper") = true by decide, if_true]
  refine PySem.W.KFB.if_so (by decide) ?_
  refine wpAny_bind (PySem.W.check_bound_init F.excBase_ValueError.toExcCallFacts (I.kIn _ _ hC) ho rfl ?_)
  refine wpAny_bind (wpAny_pure (wpAny_pure ?_))
  have fin : ∀ h' t2, (∀ b o, b ≠ a → hp.get? b = some o → h'.get? b = some o) → h'.get? a = some (PySem.HandSPX.excO C t2) → Q .none ⟨h', g, d, t, os⟩ := fun h' t2 k hx => by
    have J := I.write (t' := t) (x := a) (e := a) (o := exo a C none) (by rw [e]; exact True.intro) (.inl rfl) k ⟨_, hx⟩ (exo_ok hx)
    have eu : upd H a (exo a C none) = H := by
      funext b
      by_cases hb : b = a
      · rw [hb, upd_same, e]
      · rw [upd_ne hb]
    rw [eu] at J
    exact h _ J
  refine ⟨PySem.plainId_quiet F.excBase_ValueError.init.plain _, codeAny_builtin F.excBase_ValueError.initEntry ?_⟩
  exact PySem.W.exc_init_tree (e := a) (t0 := t1) (cls := .ref C) (dv := none) (c2 := .none) (c3 := .none) (b4 := .bool false) ho hl fun h' k e' t' => fin h' _ k e'
end
theorem boot_super : bootBuiltins "super" = some (.type "super") := by kernel_rfl
/-- where the class stands whose __init__ says super().__init__(e); self.f = x -/
structure InitAt (P : Program) (K : PySem.W.Frag) (mg : Str → Option Value) (C : Addr) (x : Str) (e : Expr) where
  T : OexC K C
  fI : Addr
  cc : Addr
  F : NF
  fd : FuncData
  lk : ∃ (dV kV doc pm ct oc : Value) (an od : Option Addr) (osl : Array (Option Value)), fd = PySem.W.ksFn F.name F.qual F.params F.body F.scope dV kV doc pm an (.ref F.c) ct cc ∧ K.lookup fI = some ⟨oc, od, .func fd, osl⟩
  cl : F.cl = [(("__class__" : Str), cc)]
  hcd : PySem.W.codeIn K (.ref F.c) F.qual = true
  cell : ∃ (cv : Value) (cld : Option Addr) (csl : Array (Option Value)), K.lookup cc = some ⟨cv, cld, .cell (some (.ref C)), csl⟩
  code : ∃ (ccl : Value) (cdd : Option Addr) (ccs : Array (Option Value)) (vs : Array Value) (file : Str) (tf : Tok), K.lookup F.c = some ⟨ccl, cdd, .fields vs, ccs⟩ ∧ vs[2]? = some (.str file tf) ∧ ((P.main.file : Str) == file) = true
  top : (P.main.scope.names.lookup ("super" : Str)).isSome = false
  sup : mg "super" = none
  S : NScope ["self", x, "__class__"] ["self", x] ["__class__"] F.scope
  ks : F.scope.names.lookup ("super" : Str) = some NameKind.globalImplicit
  ar : ∃ ar : Arg, (F.params.posonlyargs ++ F.params.args).head? = some ar ∧ ar.arg = "self"
  along : PySem.W.ks_superIn K C C "__init__" = some (some (.builtin "ValueError.__init__"))
  stat : PySem.W.nsIn K PySem.cStatics "thirdparty.any" = some none
  isVE : PySem.W.subIn K (.ref C) (.type "ValueError") = some true
  mroC : PySem.W.mroIn K C (.ref C) = some true
  no : PySem.W.findIn K (.ref C) x = some none
  init : PySem.W.findIn K (.ref C) "__init__" = some (some (.ref fI))
  fty : PySem.W.typeIn K (.ref fI) = some (.type "function")
  binds : Binds K fd ["self", x] []
  body : ∃ p0 p1 p2 p3 p4 p5 p6 p7 p8, F.body = [.Expr (.Call (.Attribute (.Call (.Name "super" p0) [] [] p1) "__init__" p2) [e] [] p3) p4, .Assign [.Attribute (.Name "self" p5) x p6] (.Name x p7) p8] ∧
    ∀ env : Env, ∃ pl : Sem Bool, eval (.Call (.Attribute (.Call (.Name "super" p0) [] [] p1) "__init__" p2) [e] [] p3) env = (do
      let ov ← attributeBase (.Call (.Name "super" p0) [] [] p1) "__init__" env (eval (.Call (.Name "super" p0) [] [] p1) env)
      standAt p2.atName
      let (f, first) ← holding [ov] (getMethod ov "__init__" pl)
      callWith p3 f first (backTo p3 (starEach [e] env)) [])
section
variable {P : Program} {w : World} {K : PySem.W.Frag} {mg : Str → Option Value} {base : Heap} {C : Addr} {x : Str} {e : Expr}
def spInit (C : Addr) (x : Str) (ok : V → Prop) : Sp := fun vs H Q _ => ∃ a v, vs = [.ref a, v] ∧ ok v ∧ H a = some (exo a C none) ∧ ∀ d, H d = none → d ≠ a → Q .non (upd (upd H d (exd d [(x, v)])) a (exo a C (some d)))
theorem init_ok {CX : CXT} {ok : V → Prop} {u0 : Str} {ji : Nat} {q0 q1 q2 jp : Pos} (M : InitAt P K mg C x (.JoinedStr [.Constant (.str u0) ji q0, .FormattedValue (.Name x q1) (-1) none q2] jp)) (hx : ("self" == x) = false) (k : Nat)
    (he : ∀ (A : Around) (outer : List Env) (s : Shared) (H : Hp) (E : XK), Room k (A.deeper (envF M.F M.fI s.heap.objs.size)) →
      ∃ t, PA (ncx CX P w K mg base ["self", x, "__class__"] M.F M.fI A outer s H E) [.JoinedStr [.Constant (.str u0) ji q0, .FormattedValue (.Name x q1) (-1) none q2] jp] t ∧ ∀ a v (ws : List (Option V)) H' (Q : List V → Hp → Prop), ok v → (∀ y, Q [y] H') → t (startF ["self", x, "__class__"] [.ref a, v] ws) H' Q)
    (hdx : (x == ("__debug__" : Str)) = false) (hcx : (x == ("__classdict__" : Str)) = false) :
    FnOk P w K mg base CX (k + 1) M.fI M.fd ["self", x] (spInit C x ok) := by
  refine ⟨fun vs H Q E h => by obtain ⟨a, v, rfl, _⟩ := h; rfl, fun A outer s H args us vs Q E hr e0 hb r hsp => ?_⟩
  obtain ⟨dV, kV, doc, pm, ct, oc, an, od, osl, hfd, lk⟩ := M.lk
  obtain ⟨cv, cld, csl, lcc⟩ := M.cell
  obtain ⟨a, v, rfl, okv, ha, hq⟩ := hsp
  have S := M.S
  have KX : K.In s.heap := e0.mod.kin.keeps fun b o e => (e0.bs b o e).1
  have lim : s.heap.NoLimit := e0.mod.nolimit.keeps fun b o e => (e0.bs b o e).1
  have ccN : H M.cc = none := (e0.bs _ _ (e0.mod.kin _ _ lcc)).2
  have CA : CellsAt M.F.cl ["__class__"] [some (.ref C)] s.heap H := by
    rw [M.cl]
    refine ⟨rfl, fun y c e => ?_, fun y z c e1 e2 => ?_, fun i y e => ?_⟩
    · simp only [List.lookup] at e
      split at e
      · cases e
        exact ⟨ccN, _, _, KX _ _ lcc, rfl⟩
      · cases e
    · simp only [List.lookup] at e1 e2
      split at e1
      · rename_i h1
        split at e2
        · rename_i h2
          rw [beq_iff_eq.mp h1, beq_iff_eq.mp h2]
        · cases e2
      · cases e1
    · cases i with
      | zero =>
        cases e
        exact ⟨M.cc, rfl, fun v e => by cases e; exact ⟨.ref C, rfl, _, KX _ _ lcc, rfl⟩⟩
      | succ i => simp at e
  have env0 : PySem.W.ksEnv M.F.qual M.F.scope s.heap.objs.size M.fI (.ref M.F.c) M.cc = envF M.F M.fI s.heap.objs.size := by
    show PySem.W.envX M.F.qual M.F.scope s.heap.objs.size M.fI (.ref M.F.c) [("__class__", M.cc)] = PySem.W.envX M.F.qual M.F.scope s.heap.objs.size M.fI (.ref M.F.c) M.F.cl
    rw [M.cl]
  rw [hfd] at lk hb
  refine PySem.ks_codeAny_call_defAt (body := M.F.body) (binds := (["self", x] : List Str).zip us) hr.depth (KX _ _ lk) rfl lim (PySem.W.codeRec_of KX M.hcd) rfl hb S.nocell (fun y hy => S.par y.1 (List.of_mem_zip hy).1) (fun h₁ hns kp => ?_) S.co S.gen S.kind
  show PySem.wpAt (model P w) (A.deeper (PySem.W.ksEnv M.F.qual M.F.scope s.heap.objs.size M.fI (.ref M.F.c) M.cc)) (.func M.F.body (PySem.W.ksEnv M.F.qual M.F.scope s.heap.objs.size M.fI (.ref M.F.c) M.cc)) (execs M.F.body (PySem.W.ksEnv M.F.qual M.F.scope s.heap.objs.size M.fI (.ref M.F.c) M.cc)) _
    (fun e s' => wpAny (model P w) (A.deeper (PySem.W.ksEnv M.F.qual M.F.scope s.heap.objs.size M.fI (.ref M.F.c) M.cc)) (leaving (PySem.W.ksEnv M.F.qual M.F.scope s.heap.objs.size M.fI (.ref M.F.c) M.cc) e) (fun _ s'' => CX outer H s E e s'') (fun e' s'' => CX outer H s E e' s'') s') _
  rw [env0]
  have I : Inv (ncx CX P w K mg base ["self", x, "__class__"] M.F M.fI A outer s H E) [] (startF ["self", x, "__class__"] [.ref a, v] [some (.ref C)]) H { s with heap := h₁, toks := s.toks + ((["self", x] : List Str).zip us).length } :=
    inv_startN S hr.hd e0 rfl r CA hns kp
  obtain ⟨p0, p1, p2, p3, p4, p5, p6, p7, p8, hbody, hcall⟩ := M.body
  obtain ⟨pl, hcall⟩ := hcall (envF M.F M.fI s.heap.objs.size)
  obtain ⟨ccl, cdd, ccs, vs0, file, tf, lcd, hvs, hfile⟩ := M.code
  obtain ⟨ar, har, hself⟩ := M.ar
  obtain ⟨nm, q, NN, bs, bm, sn, sub, ab, col, dd, k0, k1, k2, k3, k5, hC, hbm⟩ := M.T.cls
  obtain ⟨t, hPA, htq⟩ := he A outer s H E (hr.deeper _)
  have hcl : PySem.W.clsIn K C = some { name := nm, bases := bs, mro := .ref C :: bm, ns := NN, qualname := q, hasDict := true, slotNames := sn, subclasses := sub, abstract := ab, collection := col, hasDel := false } := by
    unfold PySem.W.clsIn
    rw [hC] <;> rfl
  have halong := M.along
  unfold PySem.W.ks_superIn at halong
  rw [hcl] at halong
  have hkc : (envF M.F M.fI s.heap.objs.size).kindOf "__class__" = some .free := S.frk _ (by simp)
  have hks : (envF M.F M.fI s.heap.objs.size).kindOf "super" = some .globalImplicit := M.ks
  have hkl : (envF M.F M.fI s.heap.objs.size).kindOf "self" = some .local := S.par _ (by simp)
  have fin : ∀ (pins : List (Addr × Obj)) (fl : Flow) (s' : Shared), SP (ncx CX P w K mg base ["self", x, "__class__"] M.F M.fI A outer s H E) pins { nx := fun _ H' => Q .non H', rt := Q } fl s' → CR CX outer P w H s Q E (.ok (.ret (match fl with | .ret v => v | _ => .none))) s' := fun pins fl s' hs => by
    have fin1 : ∀ {σ' : L2.St} {H' : Hp} {v : V} {u : Value}, Inv (ncx CX P w K mg base ["self", x, "__class__"] M.F M.fI A outer s H E) pins σ' H' s' → L2.RelV v u → Q v H' → CE outer P w H s Q u s' :=
      fun {σ' H' v u} J rv q => ⟨v, H', J.os, J.bare, J.base, J.hok, rv, q⟩
    cases fl with
    | ret u =>
      obtain ⟨v, σ', H', J, rv, q⟩ := hs
      exact fin1 J rv q
    | next =>
      obtain ⟨σ', H', J, q⟩ := hs
      exact fin1 (v := V.non) (u := Value.none) J rfl q
    | brk =>
      obtain ⟨_, _, _, q⟩ := hs
      exact False.elim q
    | cont =>
      obtain ⟨_, _, _, q⟩ := hs
      exact False.elim q
  rw [show execs M.F.body (envF M.F M.fI s.heap.objs.size) = execs [.Expr (.Call (.Attribute (.Call (.Name "super" p0) [] [] p1) "__init__" p2) [.JoinedStr [.Constant (.str u0) ji q0, .FormattedValue (.Name x q1) (-1) none q2] jp] [] p3) p4, .Assign [.Attribute (.Name "self" p5) x p6] (.Name x p7) p8] (envF M.F M.fI s.heap.objs.size) from congrArg (fun b => execs b (envF M.F M.fI s.heap.objs.size)) hbody]
  refine PySem.ks_wpAt_execs_cons (PySem.ks_wpAt_Expr_any (PySem.ks_wpAt_MethodCall (pl := pl) ?_ hcall) I.quiet)
  refine PySem.ks_wpAt_super_base (f := M.fI) (cc := M.F.c) hks hkc (by decide) rfl (I.kIn _ _ lk) rfl har rfl (I.kIn _ _ lcd) rfl hvs hfile M.top ?_
  obtain ⟨mb, hb1, hb2⟩ := I.mod.blt
  refine PySem.W.ks_loadName_global S.kind hks (Calls.loadGlobal_builtin (I.mod.glob.keeps I.bk) M.sup (hb1.keeps I.bk) ((hb2 "super" (by decide)).trans boot_super) ⟨rfl, ?_⟩)
  refine wpAny_loadName_free S.kind hkc (c := M.cc) (by show M.F.cl.lookup ("__class__" : Str) = _; rw [M.cl]; rfl) ⟨_, I.kIn _ _ lcc, rfl⟩ ?_
  obtain ⟨m, hns2, hlook⟩ := I.loc
  have hmself : m "self" = some (.ref a) := by
    obtain ⟨u, ru, lk⟩ := hlook 0 "self" (.ref a) rfl rfl (.inl (S.par _ (by simp)))
    cases ru
    rcases lk with ⟨_, h⟩ | ⟨h1 | h1, _⟩
    · exact h
    · rw [show (ncx CX P w K mg base ["self", x, "__class__"] M.F M.fI A outer s H E).env = envF M.F M.fI s.heap.objs.size from rfl, hkl] at h1
      cases h1
    · rw [show (ncx CX P w K mg base ["self", x, "__class__"] M.F M.fI A outer s H E).env = envF M.F M.fI s.heap.objs.size from rfl, hkl] at h1
      cases h1
  rw [hself]
  refine wpAny_loadName_local S.kind hkl hns2 hmself ?_
  obtain ⟨t1, hoa⟩ := exo_at I.hok ha
  refine ks_wpAny_isType_cls (I.kIn _ _ hC) rfl ⟨rfl, ?_⟩
  refine ks_wpAny_call_super (I.kIn _ _ hC) rfl hoa rfl (fun c e => nomatch e) (PySem.W.looks_mroIn I.kIn M.mroC) (fun h2 hso k2 => ?_)
  have I2 := I.kept (t' := s.toks + ((["self", x] : List Str).zip us).length) k2
  have IA : PySem.W.InstAt h2 a { cls := .ref C, dict := none, data := .fields #[.ref t1, .none, .none, .none, .bool false, .none] } C none := ⟨k2 _ _ hoa, rfl, rfl, trivial⟩
  refine PySem.W.kxs_getMethod PySem.W.kxs_ValueError hso (PySem.W.looks_opaque I2.kIn M.stat) (l₀ := .ref C :: bm) (fun A Q E s k q => wpAny_bind ((PySem.W.looks_clsIn I2.kIn hcl) A _ E s k (wpAny_pure q))) rfl I2.kIn halong (IA.type.andThen (PySem.W.looks_subIn I2.kIn M.isVE)) (PySem.W.ks_ne I2.kIn IA hcl) (by decide) ?_
  have I3 := I2.kept (h' := h2.push (mwO a)) (t' := s.toks + ((["self", x] : List Str).zip us).length + 1) (fun b o e => Heap.get?_push_of_some _ e)
  have I4 : Inv (ncx CX P w K mg base ["self", x, "__class__"] M.F M.fI A outer s H E) [(h2.objs.size, mwO a)] _ H _ := I3.pins_of fun p hp => by
    cases List.mem_singleton.mp hp
    exact ⟨Heap.get?_push_size h2 rfl, I2.hok.fresh (Nat.le_refl _), Nat.ne_of_gt I2.lt, I2.nofs (Nat.le_refl _), fun v e => nomatch e⟩
  have hst0 : starEach [.JoinedStr [.Constant (.str u0) ji q0, .FormattedValue (.Name x q1) (-1) none q2] jp] (envF M.F M.fI s.heap.objs.size) = (false, eval (.JoinedStr [.Constant (.str u0) ji q0, .FormattedValue (.Name x q1) (-1) none q2] jp) (envF M.F M.fI s.heap.objs.size)) :: starEach [] (envF M.F M.fI s.heap.objs.size) := by rfl
  have run := hPA.run p3 _ _ _ _ (fun ys H1 => H1 = H ∧ ys.length = 1) I4 (htq a v _ H _ okv fun y => ⟨rfl, rfl⟩)
  show wpAny _ _ (callWith p3 (.ref h2.objs.size) [] (backTo p3 (starEach [.JoinedStr [.Constant (.str u0) ji q0, .FormattedValue (.Name x q1) (-1) none q2] jp] (envF M.F M.fI s.heap.objs.size))) []) _ _ _
  have run' : wpAny (model P w) (A.deeper (envF M.F M.fI s.heap.objs.size)) (spliced (backTo p3 (starEach [.JoinedStr [.Constant (.str u0) ji q0, .FormattedValue (.Name x q1) (-1) none q2] jp] (envF M.F M.fI s.heap.objs.size)))) _ _ _ := run
  rw [hst0] at run' ⊢
  refine PySem.W.kxs_callWith (i := "ValueError.__init__") (x := a) rfl ?_
  refine PySem.Calls.evalArgs_plain ?_
  show wpAny (model P w) (A.deeper (envF M.F M.fI s.heap.objs.size)) (spliced (backTo p3 ((false, eval (.JoinedStr [.Constant (.str u0) ji q0, .FormattedValue (.Name x q1) (-1) none q2] jp) (envF M.F M.fI s.heap.objs.size)) :: starEach [] (envF M.F M.fI s.heap.objs.size)))) _ _ _
  refine wpAny_mono run' (fun ys s1 hy => ?_) fun _ _ x => x
  obtain ⟨zs, H1, I5, r5, eH, hl5⟩ := hy
  rw [eH] at I5
  have hu := (I5.pin (h2.objs.size, mwO a) (List.mem_append_right _ (List.mem_singleton.mpr rfl))).1
  refine ⟨hu, ?_⟩
  refine omw_ok M.T I5 ha hu (by show ([] ++ ys).length ≤ _; rw [List.nil_append, ← r5.length, hl5]; decide) fun s2 J => ?_
  show PySem.wpAt _ _ _ (execs [.Assign [.Attribute (.Name "self" p5) x p6] (.Name x p7) p8] (envF M.F M.fI s.heap.objs.size)) _ _ _
  refine wpAt_of_wpAny ?_
  have hself2 : Vis M.F.scope "self" := .inl (S.par _ (by simp))
  have hx2 : Vis M.F.scope x := .inl (S.par _ (by simp))
  have ps : PSs (ncx CX P w K mg base ["self", x, "__class__"] M.F M.fI A outer s H E) [.Assign [.Attribute (.Name "self" p5) x p6] (.Name x p7) p8] _ := pss_one (ps_ost (pe_var (i := 0) rfl hself2) (pe_var (i := 1) rfl hx2 hdx hcx))
  refine wpAny_mono (ps.run _ s2 _ H { nx := fun _ H' => Q .non H', rt := Q } J ?_) (fun fl s' hs => fin _ fl s' hs) fun _ _ h => h
  exact ⟨v, rfl, .ref a, rfl, a, C, rfl, M.T, M.no, .inl ⟨ha, fun dx hn hne => hq dx hn hne⟩⟩
end
end PyM

-- PyM2
set_option maxRecDepth 100000
set_option maxHeartbeats 4000000
noncomputable section
namespace PyM
open PySem PySem.Spec PyProof.Rows L2 PyD
/-! ### C(v), C's __init__ as told: an exception with a field, its context None -/
section
variable {X : Cx} {C : Addr} {x y : Str} {e e1 : Expr} {pos p : Pos} {ok : V → Prop} {k : Nat}
theorem pmk_many {t : TA} (M : InitAt X.prog X.K X.mg C x e) (FO : FnOk X.prog X.w X.K X.mg X.base (L2N.CX X.prog X.w) k M.fI M.fd ["self", x] (spInit C x ok)) (hr : Room (k + 1) X.A) (hg : Gl X y) (hm : X.mg y = some (.ref C)) (ha : PA X [e1] t)
    (hdb : (y == ("__debug__" : Str)) = false := by decide) (he : starEach [e1] X.env = (false, eval e1 X.env) :: starEach [] X.env := by rfl) :
    L2N.PMk X (.Call (.Name y p) [e1] [] pos) (fun g H Q => t g H fun vs H1 => ∃ v, vs = [v] ∧ ok v ∧ ∀ d, H1 d = none → Q (.ref C) (some d) (upd H1 d (.xd [(x, v)]))) := by
  intro pins s g H Q I h
  have T := M.T
  obtain ⟨nm, q, N, bs, bm, sn, sub, ab, col, dd, k0, k1, k2, k3, k5, hC, hbm⟩ := T.cls
  refine wpAny_Call_Name_kw (ld_glob I hg hm ?_ hdb)
  refine PySem.W.callWith_K (h₀ := X.base) I.ok.mod.kin T.kC (thn (ha.run pos pins s g H _ I h) fun us s1 hvs => ⟨?_, ?_⟩) he rfl
  · obtain ⟨vs, H1, I1, r1, v, rfl, okv, q1⟩ := hvs
    exact I1.kIn
  obtain ⟨vs, H1, I1, r1, v, rfl, okv, q1⟩ := hvs
  show wpAny _ _ (call (.ref C) us) _ _ _
  obtain ⟨hp, gs, dr, tk, os⟩ := s1
  have lt1 : hp.objs.size ≤ hp.objs.size + 1 := Nat.le_succ _
  have nE : H1 (hp.objs.size + 1) = none := I1.hok.fresh lt1
  have up2 : ∀ b o, hp.get? b = some o → ((hp.push (PySem.W.kdv_tup us)).push (PySem.HandSPX.excO C hp.objs.size)).get? b = some o := fun b o e => Heap.get?_push_of_some _ (Heap.get?_push_of_some _ e)
  have gE : ((hp.push (PySem.W.kdv_tup us)).push (PySem.HandSPX.excO C hp.objs.size)).get? (hp.objs.size + 1) = some (PySem.HandSPX.excO C hp.objs.size) := by heap_get
  have I2 := I1.laid (t' := tk) (o := exo (hp.objs.size + 1) C none) up2 lt1 (exo_ok gE)
  have r2 : Vals [V.ref (hp.objs.size + 1), v] (Value.ref (hp.objs.size + 1) :: us) := .cons rfl r1
  have hl : (Value.ref (hp.objs.size + 1) :: us).length = 2 := by rw [← r2.length]; rfl
  have hus : us.length ≤ sizeLine := by
    rw [← r1.length]
    show 1 ≤ sizeLine
    decide
  have hsp : spInit C x ok [V.ref (hp.objs.size + 1), v] (upd H1 (hp.objs.size + 1) (exo (hp.objs.size + 1) C none))
      (fun r H2 => r = .non ∧ ∃ d, H1 d = none ∧ d ≠ hp.objs.size + 1 ∧ H2 = upd (upd (upd H1 (hp.objs.size + 1) (exo (hp.objs.size + 1) C none)) d (exd d [(x, v)])) (hp.objs.size + 1) (exo (hp.objs.size + 1) C (some d))) (fun _ _ _ => False) :=
    ⟨_, v, rfl, okv, upd_same, fun d hd hne => ⟨rfl, d, by rw [upd_ne hne] at hd; exact hd, hne, rfl⟩⟩
  have hbb := M.binds ⟨(hp.push (PySem.W.kdv_tup us)).push (PySem.HandSPX.excO C hp.objs.size), gs, dr, tk, os⟩ (Value.ref (hp.objs.size + 1) :: us) I2.kIn (by rw [List.append_nil]; exact hl)
  rw [List.append_nil] at hbb
  have pass : Passes (L2N.CX X.prog X.w) X (fun _ _ _ => False) := passLN
  refine wpAny_call (PySem.HandSPX.call_own F.excBase_ValueError (fun Y => PySem.HandSPX.refsVE_contains Y bm hbm) (I1.kIn _ _ hC) (PySem.W.looks_findIn I1.kIn M.init) (fun self => PySem.W.bind_fn I1.kIn self M.fty) hus
    (codeAny_mono (FO.run _ X.stack _ _ ⟨Value.ref (hp.objs.size + 1) :: us, []⟩ (Value.ref (hp.objs.size + 1) :: us) _ _ (fun _ _ _ => False) (hr.make C us []) (I2.env0.make C us []) hbb r2 hsp) fun r s' hq' => ?_))
  cases r with
  | error er => exact pass pins _ _ _ er s' I2 hq'
  | ok fl =>
    cases fl with
    | ret u =>
      obtain ⟨z, H2, os2, bare2, un2, hok2, rv, rfl, d, hd1, hdne, rfl⟩ := hq'
      obtain ⟨h2, g2, d2, t2, os'⟩ := s'
      have ea : (upd (upd (upd H1 (hp.objs.size + 1) (exo (hp.objs.size + 1) C none)) d (exd d [(x, v)])) (hp.objs.size + 1) (exo (hp.objs.size + 1) C (some d))) (hp.objs.size + 1) = some (exo (hp.objs.size + 1) C (some d)) := upd_same
      have ed : (upd (upd (upd H1 (hp.objs.size + 1) (exo (hp.objs.size + 1) C none)) d (exd d [(x, v)])) (hp.objs.size + 1) (exo (hp.objs.size + 1) C (some d))) d = some (exd d [(x, v)]) := by rw [upd_ne hdne, upd_same]
      obtain ⟨t0, G, J, kG, ge, hoe, na⟩ := mk_end0 (d2 := d2) (t2 := t2) I1 lt1 up2 un2 hok2 os2 bare2 ea ed hd1
      have eH : upd (del (upd (upd (upd H1 (hp.objs.size + 1) (exo (hp.objs.size + 1) C none)) d (exd d [(x, v)])) (hp.objs.size + 1) (exo (hp.objs.size + 1) C (some d))) (hp.objs.size + 1)) d (.xd [(x, v)]) = upd H1 d (.xd [(x, v)]) := by
        funext b
        by_cases hb : b = d
        · rw [hb, upd_same, upd_same]
        · rw [upd_ne hb, upd_ne hb]
          by_cases ha : b = hp.objs.size + 1
          · rw [ha, del_same, nE]
          · rw [del_ne ha, upd_ne ha, upd_ne hb, upd_ne ha]
      rw [eH] at J na
      refine ⟨rv, hp.objs.size + 1, _, _, ⟨G, g2, d2, t2, os'⟩, upd H1 d (.xd [(x, v)]), .ref C, some d, rfl, J, kG, ge, hoe, ⟨rfl, rfl, fun vs e => ?_⟩, rfl, rfl, na, rfl, bare2, raises_own T.exC T.tyC, q1 d hd1⟩
      cases e
      rfl
    | next => exact False.elim hq'
    | brk => exact False.elim hq'
    | cont => exact False.elim hq'
end
/-- raise C(d), d an int that becomes its field -/
def raiseMS (ok : Int → Bool) (cls : Str) (hs : Den (List D)) : SDen := bindS hs fun ds r M => match ds with
  | [.int z] => if ok z = true then some (.ex ⟨cls, some (.int z)⟩, r, M) else none
  | _ => none
def isIntV (ok : Int → Bool) (v : V) : Prop := ∃ z, v = .int z ∧ ok z = true
/-- the text u with the int behind it can be made -/
def okText (u : Str) (z : Int) : Bool := decide (z.natAbs.log2 < 1900) && (decide ((Str.empty ++ u).length ≤ 100000) && decide (((Str.empty ++ u) ++ toString z).length ≤ 100000))
section
variable {X : Cx} {c : Cfg} {C : Addr} {x y : Str} {e e1 : Expr} {pos p pos' : Pos} {k : Nat} {hs : Den (List D)} {ok : Int → Bool}
theorem ds_raiseM (hc : X.calm = true) (tk : L2N.Takes X (fun cls d _ H => c.W cls d H)) (M : InitAt X.prog X.K X.mg C x e) (FO : FnOk X.prog X.w X.K X.mg X.base (L2N.CX X.prog X.w) k M.fI M.fd ["self", x] (spInit C x (isIntV ok))) (hr : Room (k + 1) X.A) (hg : Gl X y) (hm : X.mg y = some (.ref C))
    (hcm : c.mg y = some (.ref C)) (hf : c.fl y = some x) (ha : PA X [e1] (sA c hs)) (hdb : (y == ("__debug__" : Str)) = false := by decide) (hst : starEach [e1] X.env = (false, eval e1 X.env) :: starEach [] X.env := by rfl) :
    PS X (.Raise (some (.Call (.Name y p) [e1] [] pos)) none pos') (sS c (raiseMS ok y hs)) := PS.imp (L2N.ps_raise hc tk (pmk_many M FO hr hg hm ha hdb hst)) fun Ds g H s => by
  refine sS.bind s fun ds vs r M1 io1 H1 re rs ra run => ?_
  obtain ⟨fl, r', M', eq, z⟩ := run
  dsimp only at eq
  split at eq
  · rename_i zz
    split at eq
    · rename_i hok
      cases eq
      cases ra with
      | cons r1 r2 =>
        cases r2
        cases r1
        exact ⟨.int zz, rfl, ⟨zz, rfl, hok⟩, fun d hd => z io1 (upd H1 d (.xd [(x, .int zz)])) (Ext.tupNew hd) (rs.tupNew hd) (.ref C) (some d) ⟨hcm, x, d, .int zz, hf, rfl, upd_same, .int _⟩⟩
    · cases eq
  · cases eq
end
/-- .. that says super().__init__(f".. {x}") -/
theorem init_fstr {P : Program} {w : World} {K : PySem.W.Frag} {mg : Str → Option Value} {base : Heap} {C : Addr} {x u : Str} {p0 p1 p2 p3 : Pos} {i : Nat} (M : InitAt P K mg C x (.JoinedStr [.Constant (.str u) i p0, .FormattedValue (.Name x p1) (-1) none p2] p3)) (hx : ("self" == x) = false)
    (hdx : (x == ("__debug__" : Str)) = false) (hcx : (x == ("__classdict__" : Str)) = false) :
    FnOk P w K mg base (L2N.CX P w) 1 M.fI M.fd ["self", x] (spInit C x (isIntV (okText u))) :=
  init_ok M hx 0 (fun A outer s H E hr => ⟨_, pa_cons (pe_joined (.cons pe_str (.cons (pe_fmt (pe_var (i := 1) rfl (.inl (M.S.par _ (by simp))) hdx hcx)) .nil))) pa_nil, fun a v ws H' Q okv hq => by
    obtain ⟨z, rfl, hz⟩ := okv
    unfold okText at hz
    rw [Bool.and_eq_true, Bool.and_eq_true] at hz
    have h1 := of_decide_eq_true hz.1
    have h2 := of_decide_eq_true hz.2.1
    have h3 := of_decide_eq_true hz.2.2
    refine ⟨_, rfl, big_le h2, .int z, rfl, .inr ⟨z, rfl, by omega, ?_⟩⟩
    exact ⟨_, rfl, big_le h3, hq _⟩⟩) hdx hcx
/-- where a class stands -/
structure ClsN (K : PySem.W.Frag) (mg : Str → Option Value) (y : Str) where
  a : Addr
  m : mg y = some (.ref a)
end PyM

-- PyM5
set_option maxRecDepth 100000
set_option maxHeartbeats 4000000
noncomputable section
namespace PyM
open PySem PySem.Spec PyProof.Rows L2 PyD PyL
/-! ### the law's first steps: the script is read once, two numbers are drawn of it -/
def cellOf (ns : List Int) : Int := if (ns ++ [0]).headD 0 < 0 then -((ns ++ [0]).headD 0) else (ns ++ [0]).headD 0
section
variable {P : Program} {w : World} {K : PySem.W.Frag} {mg : Str → Option Value} {base : Heap}
/-- a def whose first statement is read by hand, the others as data -/
theorem fn_mixed {W : Cfg → Prop} {x qual : Str} {st s0 : Stmt} {rest : List Stmt} {f : Addr} {fd : FuncData} {N ps : List Str} {k : Nat} {t0 : TS} {b : SDen} {sp : Sp} (F : Fun K x qual st f fd) (S : FnScope N ps (defScope st)) (hst : defBody st = s0 :: rest)
    (hl : ∀ vs H Q E, sp vs H Q E → vs.length = ps.length)
    (hb : ∀ (cdv : Value) (A : Around) (outer : List Env) (s : Shared) (H : Hp) (E : XK), Room k (A.deeper (envOfC qual (defScope st) s.heap.objs.size f cdv)) → fd.code = cdv →
      ∃ c : Cfg, W c ∧ PS (cxOf (L2N.CX P w) P w K mg base N qual (defScope st) f cdv A outer s H E) s0 t0 ∧ PSs (cxOf (L2N.CX P w) P w K mg base N qual (defScope st) f cdv A outer s H E) rest (sS c b))
    (hsp : ∀ (c : Cfg) vs H Q E, W c → sp vs H Q E → tSeq t0 (sS c b) { nx := fun _ H' => Q .non H', rt := Q } (L2.start N vs) H) : FnOk P w K mg base (L2N.CX P w) (k + 1) f fd ps sp := by
  obtain ⟨oc, od, kV, doc, pm, an, cdv, ct, osl, rfl, lk, hcd⟩ := F.ex
  refine fn_of lk hcd S hl (fun A outer s H vs Q E hr h => ?_)
  obtain ⟨c, hW, p0, p1⟩ := hb cdv A outer s H E hr rfl
  refine ⟨_, ?_, hsp c vs H Q E hW h⟩
  rw [hst]
  exact pss_cons p0 p1
/-- x = abs((list(script) + [0])[0]) -/
def tCell (K : PySem.W.Frag) (i j : Nat) : TS := fun D σ H => ∃ (a : Addr) (ns : List Int), σ[i]? = some (some (.ref a)) ∧ SqL K H a (ns.map V.int) ∧ ns.length + 1 ≤ sizeLine ∧ ∀ p q r H1, H p = none → (upd H p (.lst (ns.map V.int))) q = none → (upd (upd H p (.lst (ns.map V.int))) q (.lst [.int 0])) r = none →
  H1 = upd (upd (upd H p (.lst (ns.map V.int))) q (.lst [.int 0])) r (.lst (ns.map V.int ++ [.int 0])) → D.nx (σ.set j (some (.int (cellOf ns)))) H1
theorem ps_cell {X : Cx} {i j : Nat} {s0 : Str} {p0 : Pos} {y : Str} {p1 p2 p3 p4 p5 p6 p7 p8 p9 p10 p11 : Pos} {k1 k2 : Nat} (hs : PE X (.Name s0 p0) (tVar i)) (hy : PG X (.Name y p1) (gName j)) (g1 : Gl X "abs") (m1 : X.mg "abs" = none) (g2 : Gl X "list") (m2 : X.mg "list" = none) (hsw : swapsWith (.Call (.Name "abs" p2) [.Subscript (.BinOp (.Call (.Name "list" p3) [.Name s0 p0] [] p4) .Add (.List [.Constant (.int 0) k1 p5] p6) p7) (.Constant (.int 0) k2 p8) p9] [] p10) (some (.Name y p1)) p11.line X.env = pure false := by rfl) :
    PS X (.Assign [.Name y p1] (.Call (.Name "abs" p2) [.Subscript (.BinOp (.Call (.Name "list" p3) [.Name s0 p0] [] p4) .Add (.List [.Constant (.int 0) k1 p5] p6) p7) (.Constant (.int 0) k2 p8) p9] [] p10) p11) (tCell X.K i j) :=
  PS.imp (ps_asg (pe_callB call_abs g1 m1 (by decide +kernel) (pa_cons (pe_ix ix_list (pe_op op_cat (pe_callTy call_list_of g2 m2 (by decide +kernel) (pa_cons hs pa_nil)) (pe_lst (pa_cons pe_int pa_nil))) pe_int (by intro _ _; rfl)) pa_nil)) hy hsw) fun D g H h => by
    obtain ⟨a, ns, h0, hS, hl, hq⟩ := h
    refine ⟨_, h0, a, ns.map V.int, rfl, .inl hS, fun p hp => ?_⟩
    refine ⟨by decide, fun q hq1 => ⟨p, q, ns.map V.int, [.int 0], rfl, rfl, ?_, upd_same, ?_, fun r hr => ?_⟩⟩
    · by_cases e : p = q
      · subst e
        rw [upd_same] at hq1
        cases hq1
      · rw [upd_ne e, upd_same]
    · rw [List.length_map]
      exact hl
    · refine ⟨r, ns.map V.int ++ [.int 0], 0, .int ((ns ++ [0]).headD 0), rfl, rfl, SqL.of upd_same, ?_, _, rfl, ?_⟩
      · cases ns with
        | nil => exact atI_nat (j := 0) rfl
        | cons n r => exact atI_nat (j := 0) rfl
      · exact hq p q r _ hp hq1 hr rfl
end
end PyM
namespace PyM
open PySem PySem.Spec PyProof.Rows L2 PyD PyL
def cup2 (z : Int) : Int × Int := (if 1000000000000000000 ≤ z then z / 11 else 0, (z * 193 + 1201).fmod 2077504273 + 89)
def cupOf (ns : List Int) : Int × Int := cup2 (cellOf ns)
/-- what the cup's def promises: a new list of two numbers -/
def spCup (K : PySem.W.Frag) (tb : List (Addr × Str)) : Sp := fun vs H Q _ => ∃ (a : Addr) (ns : List Int), vs = [.ref a] ∧ SqL K H a (ns.map V.int) ∧ LamX.Tabs tb H ∧ ns.length + 1 ≤ sizeLine ∧
  ∀ p H', LamX.Tabs tb H' → H' p = some (.lst [.int (cupOf ns).1, .int (cupOf ns).2]) → Q (.ref p) H'
def tCup (K : PySem.W.Frag) (tb : List (Addr × Str)) (i j : Nat) : TS := fun D σ H => ∃ (a : Addr) (ns : List Int), σ[i]? = some (some (.ref a)) ∧ SqL K H a (ns.map V.int) ∧ LamX.Tabs tb H ∧ ns.length + 1 ≤ sizeLine ∧
  ∀ p H', LamX.Tabs tb H' → H' p = some (.lst [.int (cupOf ns).1, .int (cupOf ns).2]) → D.nx (σ.set j (some (.ref p))) H'
theorem ps_cup {X : Cx} {tb : List (Addr × Str)} {fa : Addr} {fdt : FuncData} {ps : List Str} {k i j : Nat} {f y : Str} {x : Expr} {p1 p2 p3 p4 : Pos} (F : FnOk X.prog X.w X.K X.mg X.base (L2N.CX X.prog X.w) k fa fdt ps (spCup X.K tb)) (hr : Room k X.A) (hg : Gl X f) (hm : X.mg f = some (.ref fa)) (hk : PySem.W.keepIn X.K (.ref fa) = true) (hb : Binds X.K fdt ps [])
    (hx : PE X x (tVar i)) (hy : PG X (.Name y p1) (gName j)) (hdb : (f == ("__debug__" : Str)) = false := by decide) (he : starEach [x] X.env = (false, eval x X.env) :: starEach [] X.env := by rfl) (hsw : swapsWith (.Call (.Name f p2) [x] [] p3) (some (.Name y p1)) p4.line X.env = pure false := by rfl) :
    PS X (.Assign [.Name y p1] (.Call (.Name f p2) [x] [] p3) p4) (tCup X.K tb i j) :=
  PS.imp (ps_asg (pe_call (E := E0) F hr hg hm hk hb .nil passLN (pa_cons hx pa_nil he) hdb he rfl) hy hsw) fun D g H h => by
    obtain ⟨a, ns, h0, hS, hT, hl, hq⟩ := h
    exact ⟨_, h0, a, ns, rfl, hS, hT, hl, fun p H' t e => hq p H' t e⟩
/-- a law of one script: it comes to True -/
def spLaw (K : PySem.W.Frag) (tb : List (Addr × Str)) (ok : List Int → Prop) : Sp := fun vs H Q _ => ∃ (a : Addr) (ns : List Int), vs = [.ref a] ∧ SqL K H a (ns.map V.int) ∧ LamX.Tabs tb H ∧ ns.length + 1 ≤ sizeLine ∧ ok ns ∧ ∀ H', Q (.bl true) H'
/-- the law's other statements, as data, come to True -/
def runsTo (b : SDen) (n : Nat) (g c : Int) : Prop := ∃ r' M', b (none :: some (.lst 0) :: List.replicate n none) [.lst [.int g, .int c]] = some (.rt (.bl true), r', M')
section
variable {P : Program} {w : World} {K : PySem.W.Frag} {mg : Str → Option Value} {base : Heap}
theorem tabs_up {T : List (Addr × Str)} {H : Hp} {p : Addr} {o : HO} (t : LamX.Tabs T H) (n : H p = none) : LamX.Tabs T (upd H p o) := tabs_new t n
theorem cup_sp {c : Cfg} {tb : List (Addr × Str)} {b : SDen} {N : List Str} (hN : N.length = 3) (hK : c.K.f = K) (hT : c.K.T = tb) (hb : ∀ z : Int, ∃ r', b [none, some (.int z), none] [] = some (.rt (.lst 0), r', [.lst [.int (cup2 z).1, .int (cup2 z).2]]))
    {vs : List V} {H : Hp} {Q : VK} {E : XK} (h : spCup K tb vs H Q E) : tSeq (tCell K 0 1) (sS c b) { nx := fun _ H' => Q .non H', rt := Q } (L2.start N vs) H := by
  obtain ⟨a, ns, rfl, hS, ht, hl, hq⟩ := h
  have e0 : L2.start N [V.ref a] = [some (.ref a), none, none] := by
    unfold L2.start
    rw [hN]
    rfl
  rw [e0]
  refine ⟨a, ns, rfl, hS, hl, fun p q r H1 h1 h2 h3 e => ?_⟩
  obtain ⟨r', eb⟩ := hb (cellOf ns)
  subst hT
  have t1 : LamX.Tabs c.K.T H1 := by
    rw [e]
    exact tabs_up (tabs_up (tabs_up ht h1) h2) h3
  refine ⟨[none, some (.int (cellOf ns)), none], [], [], ⟨rfl, fun i d hi => ?_⟩, ⟨rfl, List.nodup_nil, t1, fun i c hi => by rw [sGet_eq] at hi; simp at hi⟩, _, _, _, eb, fun io' H' ex rs v rv => ?_⟩
  · match i, hi with
    | 1, hi =>
      cases hi
      exact ⟨_, rfl, .int _⟩
    | 0, hi => cases hi
    | 2, hi => cases hi
    | n + 3, hi => simp at hi
  · cases rv with
    | lst ei =>
      obtain ⟨xs, h4, rl⟩ := rs.lst ei rfl
      cases rl with
      | cons ra rb =>
        cases ra
        cases rb with
        | cons rc rd =>
          cases rc
          cases rd
          exact hq _ H' rs.tab h4
theorem law_sp {c : Cfg} {tb : List (Addr × Str)} {b : SDen} {N : List Str} {n : Nat} (hN : N.length = n + 2) (hK : c.K.f = K) (hT : c.K.T = tb)
    {vs : List V} {H : Hp} {Q : VK} {E : XK} (h : spLaw K tb (fun ns => runsTo b n (cupOf ns).1 (cupOf ns).2) vs H Q E) : tSeq (tCup K tb 0 1) (sS c b) { nx := fun _ H' => Q .non H', rt := Q } (L2.start N vs) H := by
  obtain ⟨a, ns, rfl, hS, ht, hl, ⟨r', M', eb⟩, hq⟩ := h
  have e0 : L2.start N [V.ref a] = some (.ref a) :: none :: List.replicate n none := by
    unfold L2.start
    rw [hN]
    rfl
  rw [e0]
  refine ⟨a, ns, rfl, hS, ht, hl, fun p H1 t1 e => ?_⟩
  subst hT
  refine ⟨none :: some (.lst 0) :: List.replicate n none, [.lst [.int (cupOf ns).1, .int (cupOf ns).2]], [p], ⟨?_, fun i d hi => ?_⟩, ⟨rfl, by simp, t1, fun i c hi => ?_⟩, _, _, _, eb, fun io' H' ex rs v rv => ?_⟩
  · simp
  · match i, hi with
    | 0, hi => cases hi
    | 1, hi =>
      cases hi
      exact ⟨_, rfl, .lst rfl⟩
    | n + 2, hi =>
      have z : (List.replicate _ (none : Option D))[n]? = some (some d) := hi
      rw [List.getElem?_replicate] at z
      split at z <;> cases z
  · match i, hi with
    | 0, hi =>
      cases hi
      exact ⟨p, _, rfl, e, _, rfl, .cons (.int _) (.cons (.int _) .nil)⟩
    | n + 1, hi => rw [sGet_eq] at hi; simp at hi
  · cases rv
    exact hq H'
end
end PyM

-- PyT2
set_option maxRecDepth 100000
set_option maxHeartbeats 4000000
noncomputable section
namespace PyT
open PySem PySem.Spec PyProof.Rows L2 PyD PyL PyM NdefX
/-! ### from the look to what the defs' terms ask -/
section
variable {K : PySem.W.Frag} {h : Heap} {mg : Str → Option Value} {w : World} {fa : List He.Fa} {fn : List He.DefD}
theorem defAt {x : Str} {st : Stmt} {ps : List Str} (X : K.In h) (G : h.Ns mainGlobals mg) (c : He.SaysD fa fn K) (hd : defD x st ∈ fn) (hg : He.Fa.glo x ∈ fa)
    (hb : ∀ (kV doc pm : Value) (an : Option Addr) (cdv ct : Value) (us : List Value), us.length = ps.length → bindArgs (PySem.W.fnOf x x (defArgs st) (defBody st) (defScope st) .none kV doc pm an cdv ct) ⟨us, []⟩ = pure (ps.zip us)) :
    ∃ T : DefAt K mg x st ps, T.a = He.ga K x ∧ ∀ (s : Shared) (us : List Value), us.length = ps.length → BindsTo s T.u ⟨us, []⟩ (ps.zip us) := by
  obtain ⟨fd, F⟩ := c.defs hd
  have F2 : FunD K x x (defArgs st) (defBody st) (defScope st) [] [] (He.ga K x) fd := F
  exact ⟨⟨He.ga K x, fd, He5.fun_of F2, He.glo_ok X G (c.facts hg), F2.bindsN hb⟩, rfl, fun s us hl => F2.bindsA hb s us hl⟩
theorem aliAt {x y : Str} {st : Stmt} {ps : List Str} (X : K.In h) (G : h.Ns mainGlobals mg) (c : He.SaysD fa fn K) (hd : (⟨(x, none), y, y, defArgs st, defBody st, defScope st, [], []⟩ : He.DefD) ∈ fn) (hg : He.Fa.glo x ∈ fa)
    (hb : ∀ (kV doc pm : Value) (an : Option Addr) (cdv ct : Value) (us : List Value), us.length = ps.length → bindArgs (PySem.W.fnOf y y (defArgs st) (defBody st) (defScope st) .none kV doc pm an cdv ct) ⟨us, []⟩ = pure (ps.zip us)) :
    ∃ T : AliAt K mg x y st ps, True := by
  obtain ⟨fd, F⟩ := c.defs hd
  have F2 : FunD K y y (defArgs st) (defBody st) (defScope st) [] [] (He.ga K x) fd := F
  exact ⟨⟨He.ga K x, fd, He5.fun_of F2, He.glo_ok X G (c.facts hg), F2.bindsN hb⟩, trivial⟩
theorem methAt {C m q : Str} {st : Stmt} {ps : List Str} (c : He.SaysD fa fn K) (hd : (⟨(C, some m), m, q, defArgs st, defBody st, defScope st, [], []⟩ : He.DefD) ∈ fn) (hg : He.Fa.meth C m ∈ fa)
    (hb : ∀ (kV doc pm : Value) (an : Option Addr) (cdv ct : Value) (us : List Value), us.length = ps.length → bindArgs (PySem.W.fnOf m q (defArgs st) (defBody st) (defScope st) .none kV doc pm an cdv ct) ⟨us, []⟩ = pure (ps.zip us)) :
    ∃ T : MethAt K C m q st ps, T.a = He.ma K (He.ga K C) m := by
  obtain ⟨fd, F⟩ := c.defs hd
  have F2 : FunD K m q (defArgs st) (defBody st) (defScope st) [] [] (He.ma K (He.ga K C) m) fd := F
  exact ⟨⟨_, fd, He5.fun_of F2, He.meth_ok (c.facts hg), F2.bindsN hb⟩, rfl⟩
theorem clsAt {x : Str} (X : K.In h) (G : h.Ns mainGlobals mg) (c : He.SaysD fa fn K) (hg : He.Fa.glo x ∈ fa) (he : He.Fa.exc x ∈ fa) : ∃ T : ClsAt K mg x, T.a = He.ga K x := by
  obtain ⟨h1, h2, h3, h4⟩ := He.exc_ok (c.facts he)
  exact ⟨⟨He.ga K x, He.glo_ok X G (c.facts hg), h1, h2, h3, h4⟩, rfl⟩
noncomputable def clsMk {x : Str} (X : K.In h) (G : h.Ns mainGlobals mg) (c : He.SaysD fa fn K) (hg : He.Fa.glo x ∈ fa) (he : He.Fa.exc x ∈ fa) : ClsAt K mg x :=
  ⟨He.ga K x, He.glo_ok X G (c.facts hg), (He.exc_ok (c.facts he)).1, (He.exc_ok (c.facts he)).2.1, (He.exc_ok (c.facts he)).2.2.1, (He.exc_ok (c.facts he)).2.2.2⟩
noncomputable def clsN {x : Str} (X : K.In h) (G : h.Ns mainGlobals mg) (c : He.SaysD fa fn K) (hg : He.Fa.glo x ∈ fa) : ClsN K mg x := ⟨He.ga K x, He.glo_ok X G (c.facts hg)⟩
/-! tuples, dicts -/
theorem tupKB_ok {a : Addr} {vs : List V} (e : tupKB K a vs = true) : SqK K a vs := by
  unfold tupKB at e
  cases hk : K.lookup a with
  | none => rw [hk] at e; cases e
  | some o =>
    rw [hk] at e
    have e2 : (isTupT o.cls && (match o.data with
      | .seq its _ => Nat.ble its.size 1000 && He.relAll vs its.toList
      | _ => false)) = true := e
    rw [Bool.and_eq_true] at e2
    obtain ⟨e3, e4⟩ := e2
    have hc : o.cls = .type "tuple" := by
      unfold isTupT at e3
      split at e3
      · rename_i t ht
        rw [ht, of_decide_eq_true e3]
      · cases e3
    split at e4
    · rename_i its n hd
      rw [Bool.and_eq_true] at e4
      have hz : its.size ≤ 1000 := Nat.le_of_ble_eq_true e4.1
      exact ⟨o, its, n, hk, hc, hd, Nat.le_trans hz (by decide), He.relAll_ok e4.2⟩
    · cases e4
theorem kTup {x : Str} {vs : List V} (X : K.In h) (G : h.Ns mainGlobals mg) (c : He.SaysD fa fn K) (hg : He.Fa.glo x ∈ fa) (e : tupKB K (He.ga K x) vs = true) : KTup K mg x vs := ⟨_, He.glo_ok X G (c.facts hg), tupKB_ok e⟩
theorem rl_ints {K : KT} {H : Hp} {io : List Addr} : ∀ {is : List Int}, RL K H io (is.map D.int) (is.map V.int)
  | [] => .nil
  | i :: is => .cons (.int i) rl_ints
theorem kDic {x : Str} {kvs : List (Str × List Int)} {es : Array DictEntry} {n : Nat} (X : K.In h) (G : h.Ns mainGlobals mg) (c : He.SaysD fa fn K) (hg : He.Fa.glo x ∈ fa) (hd : KDict K w (He.ga K x) es n) (e : dicKB K (He.ga K x) kvs = true) :
    KDic K w mg x (kvs.map fun q => (q.1, D.ktup (q.2.map D.int))) := by
  refine ⟨_, He.glo_ok X G (c.facts hg), fun p hp => ?_⟩
  obtain ⟨q, hq, rfl⟩ := List.mem_map.mp hp
  have z := List.all_eq_true.mp e q hq
  cases hn : PySem.W.nsIn K (He.ga K x) q.1 with
  | none => rw [hn] at z; cases z
  | some o =>
    rw [hn] at z
    cases o with
    | none => cases z
    | some v =>
      cases v with
      | ref t => exact ⟨.ref t, ⟨es, n, .ref t, hd.at_, hd.lit, hn, rfl⟩, fun T lam ex H io => .ktup (tupKB_ok z) rl_ints⟩
      | _ => cases z
theorem kDicS {x : Str} {kvs : List (Str × Str)} {es : Array DictEntry} {n : Nat} (X : K.In h) (G : h.Ns mainGlobals mg) (c : He.SaysD fa fn K) (hg : He.Fa.glo x ∈ fa) (hd : KDict K w (He.ga K x) es n) (e : dicSB K (He.ga K x) kvs = true) :
    KDic K w mg x (kvs.map fun q => (q.1, D.str q.2)) := by
  refine ⟨_, He.glo_ok X G (c.facts hg), fun p hp => ?_⟩
  obtain ⟨q, hq, rfl⟩ := List.mem_map.mp hp
  have z := List.all_eq_true.mp e q hq
  cases hn : PySem.W.nsIn K (He.ga K x) q.1 with
  | none => rw [hn] at z; cases z
  | some o =>
    rw [hn] at z
    cases o with
    | none => cases z
    | some v =>
      cases v with
      | str t tk =>
        have zt : t = q.2 := sbeq_iff.mp z
        subst zt
        exact ⟨.str q.2, ⟨es, n, .str q.2 tk, hd.at_, hd.lit, hn, ⟨tk, rfl⟩⟩, fun T lam ex H io => .str q.2⟩
      | _ => cases z
theorem kIn {x : Str} {tbl : List (Str × Bool)} {es : Array DictEntry} {n : Nat} (X : K.In h) (G : h.Ns mainGlobals mg) (c : He.SaysD fa fn K) (hg : He.Fa.glo x ∈ fa) (hd : KDict K w (He.ga K x) es n) (e : inKB K (He.ga K x) tbl = true) : KIn K w mg x tbl := by
  refine ⟨_, es, n, He.glo_ok X G (c.facts hg), hd, fun p hp => ?_⟩
  have z := List.all_eq_true.mp e p hp
  cases hn : PySem.W.nsIn K (He.ga K x) p.1 with
  | none => rw [hn] at z; cases z
  | some r =>
    rw [hn] at z
    exact ⟨r, rfl, by simpa using z⟩
/-! what is caught -/
theorem clsF {c NE : Str} {tab : List Str} {sub : Str → Str → Bool} {fld : Str} (X : K.In h) (G : h.Ns mainGlobals mg) (cc : He.SaysD fa fn K) (hg : He.Fa.glo c ∈ fa) (e : clsFB K c NE tab sub fld = true) :
    ClsF K mg (He.ga K NE) (tab.map (fun p => (p, Value.ref (He.ga K p))) ++ [(("ValueError" : Str), Value.type "ValueError")]) sub fld c := by
  unfold clsFB at e
  simp only [Bool.and_eq_true] at e
  obtain ⟨e1, e2, e3, e4, e5, e6, e7, e9, e8⟩ := e
  have x := xfB_ok e2
  refine ⟨He.ga K c, He.glo_ok X G (cc.facts hg), of_decide_eq_true e1, ⟨x.ga, x.gg, x.exC, x.hdC, He.eqO_ok e3, He.eqO_ok e4, of_decide_eq_true e5, of_decide_eq_true e6⟩, x, He.eqO_ok e7, fun p hp => ?_⟩
  rcases List.mem_append.mp hp with hp | hp
  · obtain ⟨q, hq, rfl⟩ := List.mem_map.mp hp
    exact of_decide_eq_true (List.all_eq_true.mp e8 q hq)
  · rw [List.mem_singleton.mp hp]
    exact of_decide_eq_true e9
/-! the makers' tables -/
theorem lamAt {base : Heap} {tl : List Mkr} {x q : Str} {st : Stmt} {ps : List Str} (T : DefAt K mg x st ps) (ha : T.a = He.ga K x) (hm : (x, q ++ "<lambda>") ∈ tl) (hb : mkB K tl = true) (TB : ∀ p ∈ mkC K tl, LamX.TabB base mg p.1 p.2) :
    LamAt base mg (mkT K tl) T.u.code q := by
  obtain ⟨oc, od, kV, doc, pm, an, cdv, ct, osl, e, lk, hcd⟩ := T.F.ex
  obtain ⟨c, hc⟩ := He.codeIn_ref hcd
  have hu : T.u.code = .ref c := by
    rw [e]
    exact hc
  have lk2 : K.lookup (He.fAd K (x, none)) = some ⟨oc, od, .func T.u, osl⟩ := by
    rw [show He.fAd K (x, none) = He.ga K x from rfl, ← ha]
    exact lk
  have ec : He.codeOf K (x, none) = c := He.codeOf_eq lk2 hu
  refine ⟨c, (He.cT K (x, none)).2, hu, ?_, List.mem_map.mpr ⟨(x, q ++ "<lambda>"), hm, rfl⟩, fun p hp e2 => ?_⟩
  · have z := TB (He.cT K (x, none)) (List.mem_map.mpr ⟨(x, q ++ "<lambda>"), hm, rfl⟩)
    have e3 : (He.cT K (x, none)).1 = c := ec
    rw [e3] at z
    exact z
  · obtain ⟨r, hr, rfl⟩ := List.mem_map.mp hp
    have z := List.all_eq_true.mp (List.all_eq_true.mp hb r hr) (x, q ++ "<lambda>") hm
    have e3 : Nat.beq (He.cT K (mkD r)).2 (He.cT K (mkD (x, q ++ "<lambda>"))).2 = true := by
      rw [show (He.cT K (mkD r)).2 = (He.cT K (mkD (x, q ++ "<lambda>"))).2 from e2]
      exact Nat.beq_refl _
    rw [e3] at z
    exact sbeq_iff.mp z
theorem tabs0 {H : Hp} {tl : List Mkr} (e : ∀ p ∈ mkC K tl, H p.2 = some (.tbl #[])) : LamX.Tabs (mkT K tl) H := fun p hp => by
  obtain ⟨r, hr, rfl⟩ := List.mem_map.mp hp
  exact LamX.TabS.nil (e _ (List.mem_map.mpr ⟨r, hr, rfl⟩))
/-! a class with its own __init__ -/
theorem oexB_ok {C : Addr} (e : oexB K C = true) : ∃ nm q N bs bm sn sub ab col dd k0 k1 k2 k3 k5, K.lookup C = some (excClassObj nm q C N bs bm true sn sub ab col dd k0 k1 k2 k3 k5 "ValueError.__new__") ∧ PySem.HandSPX.refsVE bm = true := by
  unfold oexB at e
  cases hk : K.lookup C with
  | none => rw [hk] at e; cases e
  | some o =>
    rw [hk] at e
    obtain ⟨oc, od, dt, sl⟩ := o
    dsimp only at e
    split at e
    · rename_i t cd k0 k1 k2 k3 n k5 hs
      simp only [Bool.and_eq_true] at e
      obtain ⟨e1, e2, e3, e4, e5⟩ := e
      obtain ⟨nm, bs, mro, ns, qn, hdct, sn, sb, ab, col, del⟩ := cd
      dsimp only at e3 e4 e5
      split at e5
      · rename_i C2 bm
        rw [Bool.and_eq_true] at e5
        have ec : C2 = C := Nat.eq_of_beq_eq_true e5.1
        subst ec
        have et := of_decide_eq_true e1
        have en := of_decide_eq_true e2
        subst et en e3
        have ed : del = false := by simpa using e4
        subst ed
        have es : sl = #[k0, k1, k2, k3, some (.builtin "ValueError.__new__"), k5] := by
          obtain ⟨l⟩ := sl
          have z : l = [k0, k1, k2, k3, some (.builtin "ValueError.__new__"), k5] := hs
          rw [z]
        subst es
        exact ⟨nm, qn, ns, bs, bm, sn, sb, ab, col, od, k0, k1, k2, k3, k5, rfl, e5.2⟩
      · cases e5
    · cases e
theorem lookB_ok {K : PySem.W.Frag} {a : Addr} {f : Obj → Bool} (e : lookB K a f = true) : ∃ o, K.lookup a = some o ∧ f o = true := by
  unfold lookB at e
  split at e
  · rename_i o ho
    exact ⟨o, ho, e⟩
  · cases e
theorem cellB_ok {C : Addr} {o : Obj} (e : cellB C o = true) : ∃ (cv : Value) (cld : Option Addr) (csl : Array (Option Value)), o = ⟨cv, cld, .cell (some (.ref C)), csl⟩ := by
  obtain ⟨a1, a2, a3, a4⟩ := o
  unfold cellB at e
  split at e
  · rename_i D hD
    have eD := Nat.eq_of_beq_eq_true e
    subst eD
    have h3 : a3 = .cell (some (.ref D)) := hD
    rw [h3]
    exact ⟨a1, a2, a4, rfl⟩
  · cases e
theorem fileB_ok {file : Str} {o : Obj} (e : fileB file o = true) : ∃ (ccl : Value) (cdd : Option Addr) (ccs : Array (Option Value)) (vs : Array Value) (tf : Tok), o = ⟨ccl, cdd, .fields vs, ccs⟩ ∧ vs[2]? = some (.str file tf) := by
  obtain ⟨a1, a2, a3, a4⟩ := o
  unfold fileB at e
  split at e
  · rename_i vs hv
    have h3 : a3 = .fields vs := hv
    unfold fileV at e
    split at e
    · rename_i x y f tk r hl
      have ef := sbeq_iff.mp e
      refine ⟨a1, a2, a4, vs, tk, by rw [h3], ?_⟩
      rw [ef, ← Array.getElem?_toList, hl]
      rfl
    · cases e
  · cases e
theorem closB_ok {K : PySem.W.Frag} {fI C : Addr} {file q : Str} (e : closB K fI C file q = true) : ∃ (oc : Value) (od : Option Addr) (sl : Array (Option Value)) (fd : FuncData) (cc c : Addr), K.lookup fI = some ⟨oc, od, .func fd, sl⟩ ∧ fd.closure = [(("__class__" : Str), cc)] ∧ fd.code = .ref c ∧
    PySem.W.codeIn K (.ref c) q = true ∧ (∃ o, K.lookup cc = some o ∧ cellB C o = true) ∧ (∃ o, K.lookup c = some o ∧ fileB file o = true) ∧ fd.defaults = .none := by
  obtain ⟨o, ho, e2⟩ := lookB_ok e
  obtain ⟨a1, a2, a3, a4⟩ := o
  unfold closO at e2
  split at e2
  · rename_i fd hd
    have h3 : a3 = .func fd := hd
    unfold closFd at e2
    split at e2
    · rename_i x cc c h4 h5
      simp only [Bool.and_eq_true] at e2
      obtain ⟨c1, c2, c3, c4, c5⟩ := e2
      have ex := sbeq_iff.mp c1
      rw [ex] at h4
      exact ⟨a1, a2, a4, fd, cc, c, by rw [ho, h3], h4, h5, c2, lookB_ok c3, lookB_ok c4, of_decide_eq_true c5⟩
    · cases e2
  · cases e2
theorem fnT_ok {K : PySem.W.Frag} {p : Str × Option Str} {nm q : Str} {pr : Arguments} {bd : FuncBody} {sc : Scope} {oc : Value} {od : Option Addr} {sl : Array (Option Value)} {fd : FuncData} (hf : fnT K p = some (nm, q, pr, bd, sc, mainGlobals, builtinsNs)) (hk : K.lookup (He.fAd K p) = some ⟨oc, od, .func fd, sl⟩) :
    fd.name = nm ∧ fd.qualname = q ∧ fd.params = pr ∧ fd.body = bd ∧ fd.scope = sc ∧ fd.globals = mainGlobals ∧ fd.builtins = builtinsNs := by
  unfold fnT at hf
  rw [hk] at hf
  have hf3 : some (fd.name, fd.qualname, fd.params, fd.body, fd.scope, fd.globals, fd.builtins) = some (nm, q, pr, bd, sc, mainGlobals, builtinsNs) := hf
  simp only [Option.some.injEq, Prod.mk.injEq] at hf3
  exact hf3
theorem fd_eta {nm q : Str} {pr : Arguments} {bd : List Stmt} {sc : Scope} {fd : FuncData} {cc c : Addr} (h : fd.name = nm ∧ fd.qualname = q ∧ fd.params = pr ∧ fd.body = .stmts bd ∧ fd.scope = sc ∧ fd.globals = mainGlobals ∧ fd.builtins = builtinsNs) (h1 : fd.closure = [(("__class__" : Str), cc)]) (h2 : fd.code = .ref c) :
    fd = PySem.W.ksFn nm q pr bd sc fd.defaults fd.kwdefaults fd.doc fd.pyModule fd.annotations (.ref c) fd.closureTuple cc := by
  obtain ⟨a1, a2, a3, a4, a5, a6, a7⟩ := h
  obtain ⟨x1, x2, x3, x4, x5, x6, x7, x8, x9, x10, x11, x12, x13, x14, x15⟩ := fd
  dsimp only at a1 a2 a3 a4 a5 a6 a7 h1 h2
  subst a1 a2 a3 a4 a5 a6 a7 h1 h2
  rfl
theorem initAt {P : Program} {y x q : Str} {st : Stmt} {e : Expr} (hf : fnT K (y, some "__init__") = some (("__init__" : Str), q, defArgs st, FuncBody.stmts (defBody st), defScope st, mainGlobals, builtinsNs)) (hB : initB K y x q P.main.file = true)
    (top : (P.main.scope.names.lookup ("super" : Str)).isSome = false) (sup : mg "super" = none) (S : NScope ["self", x, "__class__"] ["self", x] ["__class__"] (defScope st)) (ks : (defScope st).names.lookup ("super" : Str) = some NameKind.globalImplicit)
    (ar : ∃ ar : Arg, ((defArgs st).posonlyargs ++ (defArgs st).args).head? = some ar ∧ ar.arg = "self")
    (binds : ∀ (kV doc pm : Value) (an : Option Addr) (cdv ct : Value) (cl : List (Str × Addr)) (us : List Value), us.length = 2 → bindArgs (PySem.W.fnX "__init__" q (defArgs st) (defBody st) (defScope st) cl .none kV doc pm an cdv ct) ⟨us, []⟩ = pure ((["self", x] : List Str).zip us))
    (body : ∃ p0 p1 p2 p3 p4 p5 p6 p7 p8, defBody st = [.Expr (.Call (.Attribute (.Call (.Name "super" p0) [] [] p1) "__init__" p2) [e] [] p3) p4, .Assign [.Attribute (.Name "self" p5) x p6] (.Name x p7) p8] ∧
      ∀ env : Env, ∃ pl : Sem Bool, eval (.Call (.Attribute (.Call (.Name "super" p0) [] [] p1) "__init__" p2) [e] [] p3) env = (do
        let ov ← attributeBase (.Call (.Name "super" p0) [] [] p1) "__init__" env (eval (.Call (.Name "super" p0) [] [] p1) env)
        standAt p2.atName
        let (f, first) ← holding [ov] (getMethod ov "__init__" pl)
        callWith p3 f first (backTo p3 (starEach [e] env)) [])) :
    Nonempty (InitAt P K mg (He.ga K y) x e) := by
  unfold initB at hB
  simp only [Bool.and_eq_true] at hB
  obtain ⟨b1, b2, b3, b4, b5, b6, b7, b8, b9, b10, b11, b12, b13⟩ := hB
  obtain ⟨oc, od, sl, fd, cc, c, hk, h1, h2, hcd, ⟨o1, k1, ko1⟩, ⟨o2, k2, ko2⟩, hdn⟩ := closB_ok b6
  have hfd := fd_eta (fnT_ok hf hk) h1 h2
  obtain ⟨cv, cld, csl, rfl⟩ := cellB_ok ko1
  obtain ⟨ccl, cdd, ccs, vs, tf, rfl, hvs⟩ := fileB_ok ko2
  have hb : Binds K fd ["self", x] [] := by
    rw [hfd, hdn]
    exact Binds.all fun us hl => binds _ _ _ _ _ _ _ us hl
  have hT : OexC K (He.ga K y) := ⟨oexB_ok b1, He.eqO_ok b2, of_decide_eq_true b3, of_decide_eq_true b4, b5⟩
  exact ⟨⟨hT, He.ma K (He.ga K y) "__init__", cc, ⟨"__init__", q, defArgs st, defBody st, defScope st, [("__class__", cc)], c⟩, fd, ⟨fd.defaults, fd.kwdefaults, fd.doc, fd.pyModule, fd.closureTuple, oc, fd.annotations, od, sl, hfd, hk⟩, rfl, hcd, ⟨cv, cld, csl, k1⟩,
    ⟨ccl, cdd, ccs, vs, P.main.file, tf, k2, hvs, beq_self_eq_true _⟩, top, sup, S, ks, ar, He.eqO_ok b7, He.eqO_ok b8, of_decide_eq_true b9, of_decide_eq_true b10, He.eqO_ok b11, He.eqO_ok b12, of_decide_eq_true b13, hb, body⟩⟩
end
end PyT

-- G50
set_option maxRecDepth 100000
set_option maxHeartbeats 8000000
noncomputable section
namespace Py
open PySem PySem.Spec PyProof.Rows L2 PyD PyL PyH L2H HotX PyM
def nn__law_cup : List Str := ["_law_script", "_law_cell", "_law_great"]
def pp__law_cup : List Str := ["_law_script"]
theorem sc__law_cup : FnScope nn__law_cup pp__law_cup (defScope st__law_cup) := ⟨rfl, rfl, rfl, by decide +kernel, rfl, by decide +kernel, by decide +kernel⟩
def d__law_cup : SDen :=
    (seqS (setS (ifE (btestD (op2 (cmpD .GtE) (nmD 1) (op2 (binD .Pow) (cstD (.int 10)) (cstD (.int 18))))) (op2 (binD .FloorDiv) (nmD 1) (cstD (.int 11))) (cstD (.int 0))) (nmT 2))
    (retS (opS lstD (consD (nmD 2) (consD (op2 (binD .Add) (op2 (binD .Mod) (opS intD (consD (op2 (binD .Add) (op2 (binD .Mult) (nmD 1) (cstD (.int 193))) (cstD (.int 1201))) nilD)) (cstD (.int 2077504273))) (cstD (.int 89))) nilD)))))
def nn__law_roll : List Str := ["_law_cup_here", "_law_many", "_law_found", "_law_deep"]
def pp__law_roll : List Str := ["_law_cup_here", "_law_many"]
theorem sc__law_roll : FnScope nn__law_roll pp__law_roll (defScope st__law_roll) := ⟨rfl, rfl, rfl, by decide +kernel, rfl, by decide +kernel, by decide +kernel⟩
def d__law_roll : SDen :=
    (seqS (ifS (btestD (op2 (cmpD .Gt) (op2 itemD (nmD 0) (cstD (.int 0))) (cstD (.int 0)))) (seqS (setS (op2 (binD .Mod) (opS intD (consD (op2 itemD (nmD 0) (cstD (.int 0))) nilD)) (nmD 1)) (nmT 2))
    (seqS (putS (nmD 0) (cstD (.int 0)) (op2 (binD .FloorDiv) (op2 itemD (nmD 0) (cstD (.int 0))) (nmD 1)))
    (retS (nmD 2)))) skipS)
    (seqS (putS (nmD 0) (cstD (.int 1)) (op2 (binD .Mod) (opS intD (consD (op2 (binD .Add) (op2 (binD .Mult) (op2 itemD (nmD 0) (cstD (.int 1))) (cstD (.int 30671))) (cstD (.int 7919))) nilD)) (cstD (.int 2147483549))))
    (seqS (setS (op2 (binD .Mod) (opS intD (consD (op2 (binD .Mult) (op2 itemD (nmD 0) (cstD (.int 1))) (op2 (binD .Add) (op2 itemD (nmD 0) (cstD (.int 1))) (cstD (.int 131)))) nilD)) (cstD (.int 2147483587))) (nmT 3))
    (retS (op2 (binD .Mod) (opS intD (consD (op2 (binD .FloorDiv) (nmD 3) (cstD (.int 709))) nilD)) (nmD 1))))))
def f__law_roll : FDen := bodyF 4 d__law_roll
def nn__law_some : List Str := ["_law_cup_here", "_law_things"]
def pp__law_some : List Str := ["_law_cup_here", "_law_things"]
theorem sc__law_some : FnScope nn__law_some pp__law_some (defScope st__law_some) := ⟨rfl, rfl, rfl, by decide +kernel, rfl, by decide +kernel, by decide +kernel⟩
def d__law_some : SDen :=
    (retS (op2 itemD (nmD 1) (callE 2 f__law_roll (consD (nmD 0) (consD (opS lenD (consD (nmD 1) nilD)) nilD)))))
def f__law_some : FDen := bodyF 2 d__law_some
def nn__law_word : List Str := ["_law_cup_here", "_law_addresses", "_law_way"]
def pp__law_word : List Str := ["_law_cup_here", "_law_addresses"]
theorem sc__law_word : FnScope nn__law_word pp__law_word (defScope st__law_word) := ⟨rfl, rfl, rfl, by decide +kernel, rfl, by decide +kernel, by decide +kernel⟩
def d__law_word : SDen :=
    (seqS (setS (callE 2 f__law_roll (consD (nmD 0) (consD (cstD (.int 8)) nilD))) (nmT 2))
    (seqS (ifS (orT (btestD (op2 (cmpD .Eq) (nmD 2) (cstD (.int 0)))) (btestD (op2 (cmpD .Eq) (nmD 1) (opS lstD nilD)))) (retS (cstD .non)) skipS)
    (retS (ifE (btestD (op2 (cmpD .Eq) (nmD 2) (cstD (.int 1)))) (opS tupD (consD (cstD (.str "num")) (consD (op2 (binD .Sub) (callE 2 f__law_roll (consD (nmD 0) (consD (cstD (.int 9)) nilD))) (cstD (.int 4))) nilD))) (callE 2 f__law_some (consD (nmD 0) (consD (nmD 1) nilD)))))))
def f__law_word : FDen := bodyF 3 d__law_word
def nn__law_heap : List Str := ["_law_cup_here", "_law_free", "_law_addresses", "_law_cells", "_law_gone_so", "_law_words_so", "_law_place", "_law_turn"]
def pp__law_heap : List Str := ["_law_cup_here"]
theorem sc__law_heap : FnScope nn__law_heap pp__law_heap (defScope st__law_heap) := ⟨rfl, rfl, rfl, by decide +kernel, rfl, by decide +kernel, by decide +kernel⟩
def d__law_heap : SDen :=
    (seqS (setS (compE (rngSrc1 (consD (op2 (binD .Add) (cstD (.int 1)) (callE 2 f__law_roll (consD (nmD 0) (consD (cstD (.int 9)) nilD)))) nilD)) [6] (.one 6) yesT (op2 (cmpD .Eq) (callN 2 f__law_roll (consD (nmD 0) (consD (cstD (.int 5)) nilD))) (cstD (.int 0))) 100000) (nmT 1))
    (seqS (setS (opS tupD (consD (compE (rngSrc1 (consD (opS lenD (consD (nmD 1) nilD)) nilD)) [6] (.one 6) (notT (testD (op2 itemD (nmD 1) (nmD 6)))) (nmD 6) 100000) (consD (opS tupD nilD) nilD))) (tupT 2 (consT (nmT 2) (consT (nmT 3) nilT))))
    (seqS (forS (anySrc (nmD 1)) (nmT 4) (trimW (seqS (setS (opS tupleD (consD (compE (rngSrc1 (consD (callE 2 f__law_some (consD (nmD 0) (consD (opS lstD (consD (cstD (.int 0)) (consD (cstD (.int 1)) (consD (cstD (.int 1)) (consD (cstD (.int 2)) (consD (cstD (.int 2)) (consD (cstD (.int 3)) nilD))))))) nilD))) nilD)) [7] (.one 7) yesT (trimE (callN 2 f__law_word (consD (nmD 0) (consD (nmD 2) nilD)))) 100000) nilD)) (nmT 5))
    (setS (op2 (binD .Add) (nmD 3) (opS tupD (consD (ifE (testD (nmD 4)) (cstD .non) (opS tupD (consD (opS tupD (consD (callE 2 f__law_some (consD (nmD 0) (consD (opS lstD (consD (cstD (.str "a")) (consD (cstD (.str "b")) (consD (cstD (.str "c")) nilD)))) nilD))) nilD)) (consD (nmD 5) nilD)))) nilD))) (nmT 3)))) 100000)
    (retS (nmD 3)))))
def f__law_heap : FDen := bodyF 8 d__law_heap
def nn__law_led : List Str := ["_law_words_so", "_law_word_here"]
def pp__law_led : List Str := ["_law_words_so"]
theorem sc__law_led : FnScope nn__law_led pp__law_led (defScope st__law_led) := ⟨rfl, rfl, rfl, by decide +kernel, rfl, by decide +kernel, by decide +kernel⟩
def d__law_led : SDen :=
    (retS (compE (anySrc (nmD 0)) [1] (.one 1) (testD (opS PyK.isiD (consD (nmD 1) (consD (cstD (.ty "int")) nilD)))) (nmD 1) 100000))
def f__law_led : FDen := bodyF 2 d__law_led
def nn__law_reached : List Str := ["_law_heap_here", "_law_roots_here", "_law_barred", "_law_found", "_law_at", "_law_word_here"]
def pp__law_reached : List Str := ["_law_heap_here", "_law_roots_here", "_law_barred"]
theorem sc__law_reached : FnScope nn__law_reached pp__law_reached (defScope st__law_reached) := ⟨rfl, rfl, rfl, by decide +kernel, rfl, by decide +kernel, by decide +kernel⟩
def d__law_reached : SDen :=
    (seqS (PyK.parS 3 4 (consD (opS lstD nilD) (consD (cstD (.int 0)) nilD)))
    (seqS (forS (anySrc (callE 1 f__law_led (consD (nmD 1) nilD))) (nmT 5) (setS (op2 (binD .Add) (nmD 3) (op2 (binD .Mult) (opS lstD (consD (nmD 5) nilD)) (opS intD (consD (op2 (cmpD .NotIn) (nmD 5) (nmD 3)) nilD)))) (nmT 3)) 100000)
    (seqS (whileS (btestD (op2 (cmpD .Lt) (nmD 4) (opS lenD (consD (nmD 3) nilD)))) (seqS (forS (anySrc (ifE (btestD (op2 (cmpD .NotEq) (op2 itemD (nmD 3) (nmD 4)) (nmD 2))) (callE 1 f__law_led (consD (op2 itemD (op2 itemD (nmD 0) (op2 itemD (nmD 3) (nmD 4))) (cstD (.int 1))) nilD)) (opS lstD nilD))) (nmT 5) (setS (op2 (binD .Add) (nmD 3) (op2 (binD .Mult) (opS lstD (consD (nmD 5) nilD)) (opS intD (consD (op2 (cmpD .NotIn) (nmD 5) (nmD 3)) nilD)))) (nmT 3)) 100000)
    (setS (op2 (binD .Add) (nmD 4) (cstD (.int 1))) (nmT 4))) 100000)
    (retS (nmD 3)))))
def f__law_reached : FDen := bodyF 6 d__law_reached
def nn_is_tuple_of : List Str := ["value", "low", "high"]
def pp_is_tuple_of : List Str := ["value", "low", "high"]
theorem sc_is_tuple_of : FnScope nn_is_tuple_of pp_is_tuple_of (defScope st_is_tuple_of) := ⟨rfl, rfl, rfl, by decide +kernel, rfl, by decide +kernel, by decide +kernel⟩
def d_is_tuple_of : SDen :=
    (retS (andE (op2 (cmpD .Is) (opS tyOfD (consD (nmD 0) nilD)) (cstD (.ty "tuple"))) (chainE (cmpD .LtE) (cmpD .LtE) (nmD 1) (opS lenD (consD (nmD 0) nilD)) (nmD 2))))
def f_is_tuple_of : FDen := bodyF 3 d_is_tuple_of
def nn_begins_with_word : List Str := ["value"]
def pp_begins_with_word : List Str := ["value"]
theorem sc_begins_with_word : FnScope nn_begins_with_word pp_begins_with_word (defScope st_begins_with_word) := ⟨rfl, rfl, rfl, by decide +kernel, rfl, by decide +kernel, by decide +kernel⟩
def d_begins_with_word : SDen :=
    (retS (andE (op2 (cmpD .Is) (opS tyOfD (consD (nmD 0) nilD)) (cstD (.ty "tuple"))) (andE (op2 (cmpD .Gt) (opS lenD (consD (nmD 0) nilD)) (cstD (.int 0))) (op2 (cmpD .Is) (opS tyOfD (consD (op2 itemD (nmD 0) (cstD (.int 0))) nilD)) (cstD (.ty "str"))))))
def f_begins_with_word : FDen := bodyF 1 d_begins_with_word
def nn_is_index_of : List Str := ["value", "rows"]
def pp_is_index_of : List Str := ["value", "rows"]
theorem sc_is_index_of : FnScope nn_is_index_of pp_is_index_of (defScope st_is_index_of) := ⟨rfl, rfl, rfl, by decide +kernel, rfl, by decide +kernel, by decide +kernel⟩
def d_is_index_of : SDen :=
    (retS (andE (op2 (cmpD .Is) (opS tyOfD (consD (nmD 0) nilD)) (cstD (.ty "int"))) (chainE (cmpD .LtE) (cmpD .Lt) (cstD (.int 0)) (nmD 0) (opS lenD (consD (nmD 1) nilD)))))
def f_is_index_of : FDen := bodyF 2 d_is_index_of
def nn_is_address : List Str := ["heap", "value"]
def pp_is_address : List Str := ["heap", "value"]
theorem sc_is_address : FnScope nn_is_address pp_is_address (defScope st_is_address) := ⟨rfl, rfl, rfl, by decide +kernel, rfl, by decide +kernel, by decide +kernel⟩
def d_is_address : SDen :=
    (retS (andE (trimE (callE 2 f_is_index_of (consD (nmD 1) (consD (nmD 0) nilD)))) (op2 (cmpD .IsNot) (op2 itemD (nmD 0) (nmD 1)) (cstD .non))))
def f_is_address : FDen := bodyF 2 d_is_address
def nn_is_integer : List Str := ["value", "low", "high"]
def pp_is_integer : List Str := ["value", "low", "high"]
theorem sc_is_integer : FnScope nn_is_integer pp_is_integer (defScope st_is_integer) := ⟨rfl, rfl, rfl, by decide +kernel, rfl, by decide +kernel, by decide +kernel⟩
def d_is_integer : SDen :=
    (retS (andE (op2 (cmpD .Is) (opS tyOfD (consD (nmD 0) nilD)) (cstD (.ty "int"))) (chainE (cmpD .LtE) (cmpD .LtE) (nmD 1) (nmD 0) (nmD 2))))
def f_is_integer : FDen := bodyF 3 d_is_integer
def nn_is_number : List Str := ["value"]
def pp_is_number : List Str := ["value"]
theorem sc_is_number : FnScope nn_is_number pp_is_number (defScope st_is_number) := ⟨rfl, rfl, rfl, by decide +kernel, rfl, by decide +kernel, by decide +kernel⟩
def d_is_number : SDen :=
    (retS (trimE (callE 3 f_is_integer (consD (nmD 0) (consD (op1 negD (cstD (.int 1000000000000))) (consD (cstD (.int 1000000000000)) nilD))))))
def f_is_number : FDen := bodyF 1 d_is_number
def nn_is_heap_word : List Str := ["heap", "value"]
def pp_is_heap_word : List Str := ["heap", "value"]
theorem sc_is_heap_word : FnScope nn_is_heap_word pp_is_heap_word (defScope st_is_heap_word) := ⟨rfl, rfl, rfl, by decide +kernel, rfl, by decide +kernel, by decide +kernel⟩
def d_is_heap_word : SDen :=
    (seqS (ifS (orT (btestD (op2 (cmpD .Is) (nmD 1) (cstD .non))) (testD (trimE (callE 2 f_is_address (consD (nmD 0) (consD (nmD 1) nilD)))))) (retS (cstD (.bl true))) skipS)
    (retS (andE (trimE (callE 3 f_is_tuple_of (consD (nmD 1) (consD (cstD (.int 2)) (consD (cstD (.int 2)) nilD))))) (andE (op2 (cmpD .Is) (opS tyOfD (consD (op2 itemD (nmD 1) (cstD (.int 0))) nilD)) (cstD (.ty "str"))) (andE (op2 (cmpD .Eq) (op2 itemD (nmD 1) (cstD (.int 0))) (cstD (.str "num"))) (trimE (callE 1 f_is_number (consD (op2 itemD (nmD 1) (cstD (.int 1))) nilD))))))))
def f_is_heap_word : FDen := bodyF 2 d_is_heap_word
def nn_are_words : List Str := ["heap", "value", "word"]
def pp_are_words : List Str := ["heap", "value"]
theorem sc_are_words : FnScope nn_are_words pp_are_words (defScope st_are_words) := ⟨rfl, rfl, rfl, by decide +kernel, rfl, by decide +kernel, by decide +kernel⟩
def d_are_words : SDen :=
    (retS (andE (trimE (callE 3 f_is_tuple_of (consD (nmD 1) (consD (cstD (.int 0)) (consD (cstD (.int 12)) nilD))))) (opS allD (consD (compE (anySrc (nmD 1)) [2] (.one 2) yesT (trimE (callN 2 f_is_heap_word (consD (nmD 0) (consD (nmD 2) nilD)))) 100000) nilD))))
def f_are_words : FDen := bodyF 3 d_are_words
def nn_is_cell : List Str := ["heap", "value"]
def pp_is_cell : List Str := ["heap", "value"]
theorem sc_is_cell : FnScope nn_is_cell pp_is_cell (defScope st_is_cell) := ⟨rfl, rfl, rfl, by decide +kernel, rfl, by decide +kernel, by decide +kernel⟩
def d_is_cell : SDen :=
    (retS (andE (trimE (callE 3 f_is_tuple_of (consD (nmD 1) (consD (cstD (.int 2)) (consD (cstD (.int 2)) nilD))))) (andE (trimE (callE 1 f_begins_with_word (consD (op2 itemD (nmD 1) (cstD (.int 0))) nilD))) (trimE (callE 2 f_are_words (consD (nmD 0) (consD (op2 itemD (nmD 1) (cstD (.int 1))) nilD)))))))
def f_is_cell : FDen := bodyF 2 d_is_cell
def nn_fits_heap : List Str := ["value", "item"]
def pp_fits_heap : List Str := ["value"]
theorem sc_fits_heap : FnScope nn_fits_heap pp_fits_heap (defScope st_fits_heap) := ⟨rfl, rfl, rfl, by decide +kernel, rfl, by decide +kernel, by decide +kernel⟩
def d_fits_heap : SDen :=
    (seqS (ifS (notT (testD (trimE (callE 3 f_is_tuple_of (consD (nmD 0) (consD (cstD (.int 0)) (consD (cstD (.int 1000)) nilD))))))) (retS (cstD (.bl false))) skipS)
    (retS (opS allD (consD (compE (anySrc (nmD 0)) [1] (.one 1) yesT (orE (op2 (cmpD .Is) (nmD 1) (cstD .non)) (trimE (callN 2 f_is_cell (consD (nmD 0) (consD (nmD 1) nilD))))) 100000) nilD))))
def f_fits_heap : FDen := bodyF 2 d_fits_heap
def nn_check_heap : List Str := ["value"]
def pp_check_heap : List Str := ["value"]
theorem sc_check_heap : FnScope nn_check_heap pp_check_heap (defScope st_check_heap) := ⟨rfl, rfl, rfl, by decide +kernel, rfl, by decide +kernel, by decide +kernel⟩
def d_check_heap : SDen :=
    (ifS (notT (testD (trimE (callE 1 f_fits_heap (consD (nmD 0) nilD))))) (raiseS "InvalidHeap") skipS)
def f_check_heap : FDen := bodyF 1 d_check_heap
def nn_check_roots : List Str := ["heap", "value"]
def pp_check_roots : List Str := ["heap", "value"]
theorem sc_check_roots : FnScope nn_check_roots pp_check_roots (defScope st_check_roots) := ⟨rfl, rfl, rfl, by decide +kernel, rfl, by decide +kernel, by decide +kernel⟩
def d_check_roots : SDen :=
    (ifS (notT (testD (trimE (callE 2 f_are_words (consD (nmD 0) (consD (nmD 1) nilD)))))) (raiseS "InvalidRoots") skipS)
def f_check_roots : FDen := bodyF 2 d_check_roots
def nn_addresses_in : List Str := ["words", "word"]
def pp_addresses_in : List Str := ["words"]
theorem sc_addresses_in : FnScope nn_addresses_in pp_addresses_in (defScope st_addresses_in) := ⟨rfl, rfl, rfl, by decide +kernel, rfl, by decide +kernel, by decide +kernel⟩
def d_addresses_in : SDen :=
    (retS (compE (anySrc (nmD 0)) [1] (.one 1) (btestD (op2 (cmpD .Is) (opS tyOfD (consD (nmD 1) nilD)) (cstD (.ty "int")))) (nmD 1) 100000))
def f_addresses_in : FDen := bodyF 2 d_addresses_in
def nn_reached_from : List Str := ["heap", "roots", "reached", "waiting", "address"]
def pp_reached_from : List Str := ["heap", "roots"]
theorem sc_reached_from : FnScope nn_reached_from pp_reached_from (defScope st_reached_from) := ⟨rfl, rfl, rfl, by decide +kernel, rfl, by decide +kernel, by decide +kernel⟩
def d_reached_from : SDen :=
    (seqS (exprS (trimE (callE 1 f_check_heap (consD (nmD 0) nilD))))
    (seqS (exprS (trimE (callE 2 f_check_roots (consD (nmD 0) (consD (nmD 1) nilD)))))
    (seqS (setS dk0 (nmT 2))
    (seqS (setS (callE 1 f_addresses_in (consD (nmD 1) nilD)) (nmT 3))
    (seqS (whileS (testD (nmD 3)) (trimW (seqS (setS (meth0 popD (nmD 3)) (nmT 4))
    (ifS (btestD (op2 (cmpD .NotIn) (nmD 4) (nmD 2))) (seqS (putS (nmD 2) (nmD 4) (cstD (.bl true)))
    (exprS (methE extendD (nmD 3) (consD (callE 1 f_addresses_in (consD (op2 itemD (op2 itemD (nmD 0) (nmD 4)) (cstD (.int 1))) nilD)) nilD)))) skipS))) 100000)
    (retS (opS PyK.sortID (consD (nmD 2) nilD))))))))
def f_reached_from : FDen := bodyF 5 d_reached_from
def nn_counts_in : List Str := ["heap", "roots", "counts", "words", "address", "told", "cell", "count"]
def pp_counts_in : List Str := ["heap", "roots"]
theorem sc_counts_in : FnScope nn_counts_in pp_counts_in (defScope st_counts_in) := ⟨rfl, rfl, rfl, by decide +kernel, rfl, by decide +kernel, by decide +kernel⟩
def d_counts_in : SDen :=
    (seqS (exprS (trimE (callE 1 f_check_heap (consD (nmD 0) nilD))))
    (seqS (exprS (trimE (callE 2 f_check_roots (consD (nmD 0) (consD (nmD 1) nilD)))))
    (seqS (setS (op2 (binD .Mult) (opS lstD (consD (cstD (.int 0)) nilD)) (opS lenD (consD (nmD 0) nilD))) (nmT 2))
    (seqS (forS (anySrc (op2 (binD .Add) (opS lstD (consD (nmD 1) nilD)) (compE (anySrc (nmD 0)) [6] (.one 6) (btestD (op2 (cmpD .IsNot) (nmD 6) (cstD .non))) (op2 itemD (nmD 6) (cstD (.int 1))) 100000))) (nmT 3) (trimW (forS (anySrc (callE 1 f_addresses_in (consD (nmD 3) nilD))) (nmT 4) (trimW (putS (nmD 2) (nmD 4) (op2 (binD .Add) (op2 itemD (nmD 2) (nmD 4)) (cstD (.int 1))))) 100000)) 100000)
    (seqS (setS (opS lstD nilD) (nmT 5))
    (seqS (forS (PyK.zipSrcM (consD (nmD 0) (consD (nmD 2) nilD))) (tupT 2 (consT (nmT 6) (consT (nmT 7) nilT))) (trimW (ifS (btestD (op2 (cmpD .Is) (nmD 6) (cstD .non))) (exprS (methE appendD (nmD 5) (consD (cstD .non) nilD))) (exprS (methE appendD (nmD 5) (consD (nmD 7) nilD))))) 100000)
    (retS (opS tupleD (consD (nmD 5) nilD)))))))))
def f_counts_in : FDen := bodyF 8 d_counts_in
def nn_is_heap : List Str := ["value"]
def pp_is_heap : List Str := ["value"]
theorem sc_is_heap : FnScope nn_is_heap pp_is_heap (defScope st_is_heap) := ⟨rfl, rfl, rfl, by decide +kernel, rfl, by decide +kernel, by decide +kernel⟩
def d_is_heap : SDen :=
    (retS (trimE (callE 1 f_fits_heap (consD (nmD 0) nilD))))
def f_is_heap : FDen := bodyF 1 d_is_heap
def nn_are_roots : List Str := ["heap", "value"]
def pp_are_roots : List Str := ["heap", "value"]
theorem sc_are_roots : FnScope nn_are_roots pp_are_roots (defScope st_are_roots) := ⟨rfl, rfl, rfl, by decide +kernel, rfl, by decide +kernel, by decide +kernel⟩
def d_are_roots : SDen :=
    (seqS (exprS (trimE (callE 1 f_check_heap (consD (nmD 0) nilD))))
    (retS (trimE (callE 2 f_are_words (consD (nmD 0) (consD (nmD 1) nilD))))))
def f_are_roots : FDen := bodyF 2 d_are_roots
def nn__law_bent : List Str := ["_law_cup_here", "_law_heap_here", "_law_at", "_law_odd", "_law_label", "_law_words_so", "_law_cells", "_law_other"]
def pp__law_bent : List Str := ["_law_cup_here", "_law_heap_here"]
theorem sc__law_bent : FnScope nn__law_bent pp__law_bent (defScope st__law_bent) := ⟨rfl, rfl, rfl, by decide +kernel, rfl, by decide +kernel, by decide +kernel⟩
def d__law_bent : SDen :=
    (seqS (PyK.parS 2 3 (consD (callE 2 f__law_roll (consD (nmD 0) (consD (opS lenD (consD (nmD 1) nilD)) nilD))) (consD (callE 2 f__law_some (consD (nmD 0) (consD (opS lstD (consD (cstD .non) (consD (cstD (.bl true)) (consD (op1 negD (cstD (.int 1))) (consD (opS lenD (consD (nmD 1) nilD)) (consD (cstD (.int 0)) (consD (cstD (.str "0")) (consD (opS tupD (consD (cstD (.str "num")) (consD (cstD (.bl true)) nilD))) (consD (opS tupD (consD (cstD (.str "num")) (consD (cstD (.int 5)) nilD))) (consD (opS tupD (consD (cstD (.str "num")) (consD (op2 (binD .Add) (op2 (binD .Pow) (cstD (.int 10)) (cstD (.int 12))) (cstD (.int 1))) nilD))) (consD (opS lstD (consD (cstD (.int 0)) nilD)) (consD (opS tupD (consD (cstD (.int 0)) nilD)) (consD (opS tupD (consD (cstD (.str "num")) nilD)) nilD))))))))))))) nilD))) nilD)))
    (seqS (setS (ifE (btestD (op2 (cmpD .IsNot) (op2 itemD (nmD 1) (nmD 2)) (cstD .non))) (op2 itemD (nmD 1) (nmD 2)) (opS tupD (consD (opS tupD (consD (cstD (.str "a")) nilD)) (consD (opS tupD nilD) nilD)))) (tupT 2 (consT (nmT 4) (consT (nmT 5) nilT))))
    (seqS (setS (opS lstD (consD (opS tupD (consD (nmD 4) (consD (op2 (binD .Add) (nmD 5) (opS tupD (consD (nmD 3) nilD))) nilD))) (consD (opS tupD (consD (nmD 4) (consD (opS listD (consD (nmD 5) nilD)) nilD))) (consD (opS tupD (consD (opS listD (consD (nmD 4) nilD)) (consD (nmD 5) nilD))) (consD (opS tupD (consD (opS tupD nilD) (consD (nmD 5) nilD))) (consD (opS tupD (consD (opS tupD (consD (nmD 3) nilD)) (consD (nmD 5) nilD))) (consD (opS tupD (consD (nmD 4) nilD)) (consD (nmD 3) nilD)))))))) (nmT 6))
    (seqS (setS (op2 (binD .Add) (nmD 6) (opS lstD (consD (opS tupD (consD (op2 (binD .Add) (nmD 4) (opS tupD (consD (nmD 3) nilD))) (consD (nmD 5) nilD))) (consD (opS tupD (consD (nmD 4) (consD (op2 (binD .Add) (nmD 5) (op2 (binD .Mult) (opS tupD (consD (cstD (.int 0)) nilD)) (cstD (.int 12)))) nilD))) (consD (opS tupD (consD (nmD 4) (consD (opS tupD nilD) nilD))) (consD (cstD .non) nilD)))))) (nmT 6))
    (seqS (setS (op2 (binD .Add) (op2 (binD .Add) (sliceE (nmD 1) noPart (somePart (nmD 2))) (opS tupD (consD (callE 2 f__law_some (consD (nmD 0) (consD (nmD 6) nilD))) nilD))) (sliceE (nmD 1) (somePart (op2 (binD .Add) (nmD 2) (cstD (.int 1)))) noPart)) (nmT 7))
    (retS (callE 2 f__law_some (consD (nmD 0) (consD (opS lstD (consD (nmD 7) (consD (nmD 7) (consD (nmD 7) (consD (nmD 7) (consD (opS listD (consD (nmD 1) nilD)) (consD (sliceE (nmD 1) noPart (somePart (nmD 2))) (consD (op2 (binD .Add) (nmD 1) (op2 (binD .Mult) (opS tupD (consD (cstD .non) nilD)) (callE 2 f__law_some (consD (nmD 0) (consD (opS lstD (consD (cstD (.int 1)) (consD (cstD (.int 991)) (consD (cstD (.int 1000)) nilD)))) nilD))))) (consD (nmD 3) nilD))))))))) nilD)))))))))
def f__law_bent : FDen := bodyF 8 d__law_bent
def nn__law_is_whole : List Str := ["_law_value", "_law_low", "_law_high"]
def pp__law_is_whole : List Str := ["_law_value", "_law_low", "_law_high"]
theorem sc__law_is_whole : FnScope nn__law_is_whole pp__law_is_whole (defScope st__law_is_whole) := ⟨rfl, rfl, rfl, by decide +kernel, rfl, by decide +kernel, by decide +kernel⟩
def d__law_is_whole : SDen :=
    (retS (andE (opS PyK.isiD (consD (nmD 0) (consD (cstD (.ty "int")) nilD))) (andE (notE (opS PyK.isiD (consD (nmD 0) (consD (cstD (.ty "bool")) nilD)))) (chainE (cmpD .LtE) (cmpD .LtE) (nmD 1) (nmD 0) (nmD 2)))))
def f__law_is_whole : FDen := bodyF 3 d__law_is_whole
def nn__law_is_word : List Str := ["_law_heap_here", "_law_word_here"]
def pp__law_is_word : List Str := ["_law_heap_here", "_law_word_here"]
theorem sc__law_is_word : FnScope nn__law_is_word pp__law_is_word (defScope st__law_is_word) := ⟨rfl, rfl, rfl, by decide +kernel, rfl, by decide +kernel, by decide +kernel⟩
def d__law_is_word : SDen :=
    (seqS (ifS (testD (opS PyK.isiD (consD (nmD 1) (consD (cstD (.ty "tuple")) nilD)))) (retS (andE (op2 (cmpD .Eq) (opS lenD (consD (nmD 1) nilD)) (cstD (.int 2))) (andE (op2 (cmpD .Eq) (op2 itemD (nmD 1) (cstD (.int 0))) (cstD (.str "num"))) (trimE (callE 3 f__law_is_whole (consD (op2 itemD (nmD 1) (cstD (.int 1))) (consD (op1 negD (op2 (binD .Pow) (cstD (.int 10)) (cstD (.int 12)))) (consD (op2 (binD .Pow) (cstD (.int 10)) (cstD (.int 12))) nilD)))))))) skipS)
    (retS (orE (op2 (cmpD .Is) (nmD 1) (cstD .non)) (andE (trimE (callE 3 f__law_is_whole (consD (nmD 1) (consD (cstD (.int 0)) (consD (op2 (binD .Sub) (opS lenD (consD (nmD 0) nilD)) (cstD (.int 1))) nilD))))) (op2 (cmpD .IsNot) (op2 itemD (nmD 0) (nmD 1)) (cstD .non))))))
def f__law_is_word : FDen := bodyF 2 d__law_is_word
def nn__law_are_words : List Str := ["_law_heap_here", "_law_value", "_law_word_here"]
def pp__law_are_words : List Str := ["_law_heap_here", "_law_value"]
theorem sc__law_are_words : FnScope nn__law_are_words pp__law_are_words (defScope st__law_are_words) := ⟨rfl, rfl, rfl, by decide +kernel, rfl, by decide +kernel, by decide +kernel⟩
def d__law_are_words : SDen :=
    (seqS (ifS (orT (notT (testD (opS PyK.isiD (consD (nmD 1) (consD (cstD (.ty "tuple")) nilD))))) (btestD (op2 (cmpD .Gt) (opS lenD (consD (nmD 1) nilD)) (cstD (.int 12))))) (retS (cstD (.bl false))) skipS)
    (retS (op2 (cmpD .Eq) (compE (anySrc (nmD 1)) [2] (.one 2) (notT (testD (trimE (callN 2 f__law_is_word (consD (nmD 0) (consD (nmD 2) nilD)))))) (nmD 2) 100000) (opS lstD nilD))))
def f__law_are_words : FDen := bodyF 3 d__law_are_words
def nn__law_is_heap : List Str := ["_law_value", "_law_cell"]
def pp__law_is_heap : List Str := ["_law_value"]
theorem sc__law_is_heap : FnScope nn__law_is_heap pp__law_is_heap (defScope st__law_is_heap) := ⟨rfl, rfl, rfl, by decide +kernel, rfl, by decide +kernel, by decide +kernel⟩
def d__law_is_heap : SDen :=
    (seqS (ifS (orT (notT (testD (opS PyK.isiD (consD (nmD 0) (consD (cstD (.ty "tuple")) nilD))))) (btestD (op2 (cmpD .Gt) (opS lenD (consD (nmD 0) nilD)) (cstD (.int 1000))))) (retS (cstD (.bl false))) skipS)
    (seqS (forS (anySrc (nmD 0)) (nmT 1) (trimW (ifS (btestD (op2 (cmpD .IsNot) (nmD 1) (cstD .non))) (seqS (ifS (orT (notT (testD (opS PyK.isiD (consD (nmD 1) (consD (cstD (.ty "tuple")) nilD))))) (orT (btestD (op2 (cmpD .NotEq) (opS lenD (consD (nmD 1) nilD)) (cstD (.int 2)))) (notT (testD (opS PyK.isiD (consD (op2 itemD (nmD 1) (cstD (.int 0))) (consD (cstD (.ty "tuple")) nilD))))))) (retS (cstD (.bl false))) skipS)
    (ifS (orT (btestD (op2 (cmpD .Eq) (opS lenD (consD (op2 itemD (nmD 1) (cstD (.int 0))) nilD)) (cstD (.int 0)))) (orT (notT (testD (opS PyK.isiD (consD (op2 itemD (op2 itemD (nmD 1) (cstD (.int 0))) (cstD (.int 0))) (consD (cstD (.ty "str")) nilD))))) (notT (testD (trimE (callE 2 f__law_are_words (consD (nmD 0) (consD (op2 itemD (nmD 1) (cstD (.int 1))) nilD)))))))) (retS (cstD (.bl false))) skipS)) skipS)) 100000)
    (retS (cstD (.bl true)))))
def f__law_is_heap : FDen := bodyF 2 d__law_is_heap
def nn__law_truly : List Str := ["_law_found", "_law_due"]
def pp__law_truly : List Str := ["_law_found", "_law_due"]
theorem sc__law_truly : FnScope nn__law_truly pp__law_truly (defScope st__law_truly) := ⟨rfl, rfl, rfl, by decide +kernel, rfl, by decide +kernel, by decide +kernel⟩
def d__law_truly : SDen :=
    (retS (andE (opS PyK.isiD (consD (nmD 0) (consD (cstD (.ty "bool")) nilD))) (op2 (cmpD .Eq) (nmD 0) (nmD 1))))
def f__law_truly : FDen := bodyF 2 d__law_truly
def nn__law_names : List Str := ["_law_e", "_law_some_here", "_law_labels", "_law_label", "_law_good"]
def pp__law_names : List Str := ["_law_e"]
theorem sc__law_names : FnScope nn__law_names pp__law_names (defScope st__law_names) := ⟨rfl, rfl, rfl, by decide +kernel, rfl, by decide +kernel, by decide +kernel⟩
def d__law_names (sub : Str → Bool) : SDen :=
    (seqS (setS (opS lstD (consD (op1 (isExD (sub "InvalidHeap")) (nmD 0)) (consD (op1 (isExD (sub "InvalidRoots")) (nmD 0)) (consD (op1 (isExD (sub "InvalidAddress")) (nmD 0)) (consD (op1 (isExD (sub "InvalidClearing")) (nmD 0)) nilD))))) (nmT 1))
    (seqS (setS (op2 (binD .Add) (nmD 1) (opS lstD (consD (op1 (isExD (sub "InvalidTree")) (nmD 0)) (consD (op1 (isExD (sub "InvalidProgram")) (nmD 0)) (consD (op1 (isExD (sub "InvalidNumber")) (nmD 0)) nilD))))) (nmT 1))
    (seqS (setS (op2 (binD .Add) (nmD 1) (opS lstD (consD (op1 (isExD (sub "TooMany")) (nmD 0)) (consD (op1 (isExD (sub "ValueError")) (nmD 0)) nilD)))) (nmT 1))
    (seqS (setS (cstD (.str "heap roots address clearing tree program number many value")) (nmT 2))
    (retS (joinE (cstD (.str " ")) (compE (zipSrcL (consD (splitE (nmD 2) (cstD (.str " "))) (consD (nmD 1) nilD))) [3, 4] (.many [3, 4]) (testD (nmD 4)) (nmD 3) 100000)))))))
def f__law_names (sub : Str → Bool) : FDen := bodyF 5 (d__law_names sub)
def known : List Str := ["InvalidTree", "InvalidProgram", "InvalidNumber", "InvalidHeap", "InvalidRoots", "InvalidAddress", "InvalidClearing", "TooMany"]
def dnm (cls : Str) : SDen := d__law_names (sub0 cls)
def pp__law_error : List Str := ["_law_call"]
def nn__law_right : List Str := ["_law_cup_here", "_law_heap_here", "_law_roots_here", "_law_found", "_law_every", "_law_cell", "_law_due", "_law_turn", "_law_value", "_law_good", "_law_odd", "_law_at"]
def pp__law_right : List Str := ["_law_cup_here", "_law_heap_here", "_law_roots_here"]
theorem sc__law_right : FnScope nn__law_right pp__law_right (defScope st__law_right) := ⟨rfl, rfl, rfl, by decide +kernel, rfl, by decide +kernel, by decide +kernel⟩
def LS__law_right_0 : LamS := theVal (a := lamsOf st__law_right 0) _ (by conv => {lhs; whnf})
def LS__law_right_1 : LamS := theVal (a := lamsOf st__law_right 1) _ (by conv => {lhs; whnf})
def LS__law_right_2 : LamS := theVal (a := lamsOf st__law_right 2) _ (by conv => {lhs; whnf})
def LS__law_right : Nat → LamS := fun n => match n with
  | 0 => LS__law_right_0
  | 1 => LS__law_right_1
  | 2 => LS__law_right_2
  | _ => noLam
abbrev lam__law_right (h : Nat) : Nat → Addr → HO → Addr → HO → Prop := lamOf (qv__law_right ++ "<lambda>") fun n => ⟨LS__law_right n, cloFrom (cellsFrom (h + 1) (defScope st__law_right).names []) (LS__law_right n).scope.names []⟩
def bd__law_right : Nat → Option (Den D) := fun n => match n with
  | 0 => some (trimE (callE 2 f_reached_from (consD (nmD 8) (consD (cstD .non) nilD))))
  | 1 => some (trimE (callE 2 f_counts_in (consD (nmD 8) (consD (cstD .non) nilD))))
  | 2 => some (trimE (callE 2 f_counts_in (consD (nmD 1) (consD (nmD 10) nilD))))
  | _ => none
def d__law_right : SDen :=
    (seqS (setS (opS PyK.sortID (consD (trimE (callE 3 f__law_reached (consD (nmD 1) (consD (nmD 2) (consD (cstD .non) nilD))))) nilD)) (nmT 3))
    (seqS (ifS (btestD (op2 (cmpD .NotEq) (trimE (callE 2 f_reached_from (consD (nmD 1) (consD (nmD 2) nilD)))) (nmD 3))) stuckS skipS)
    (seqS (setS (callE 1 f__law_led (consD (nmD 2) nilD)) (nmT 4))
    (seqS (forS (anySrc (nmD 1)) (nmT 5) (setS (op2 (binD .Add) (nmD 4) (callE 1 f__law_led (consD (ifE (btestD (op2 (cmpD .IsNot) (nmD 5) (cstD .non))) (op2 itemD (nmD 5) (cstD (.int 1))) (opS tupD nilD)) nilD))) (nmT 4)) 100000)
    (seqS (setS (opS tupleD (consD (compE (PyK.enumSrcT (consD (nmD 1) nilD)) [11, 5] (.many [11, 5]) yesT (ifE (btestD (op2 (cmpD .Is) (nmD 5) (cstD .non))) (cstD .non) (methE PyK.countD (nmD 4) (consD (nmD 11) nilD))) 100000) nilD)) (nmT 6))
    (seqS (ifS (orT (btestD (op2 (cmpD .NotEq) (trimE (callE 2 f_counts_in (consD (nmD 1) (consD (nmD 2) nilD)))) (nmD 6))) (orT (btestD (op2 (cmpD .IsNot) (trimE (callE 1 f_is_heap (consD (nmD 1) nilD))) (cstD (.bl true)))) (btestD (op2 (cmpD .IsNot) (trimE (callE 2 f_are_roots (consD (nmD 1) (consD (nmD 2) nilD)))) (cstD (.bl true)))))) stuckS skipS)
    (seqS (forS (rngSrc1 (consD (cstD (.int 5)) nilD)) (nmT 7) (trimW (seqS (setS (trimE (callE 2 f__law_bent (consD (nmD 0) (consD (nmD 1) nilD)))) (nmT 8))
    (seqS (setS (trimE (callE 1 f__law_is_heap (consD (nmD 8) nilD))) (nmT 9))
    (seqS (ifS (notT (testD (trimE (callE 2 f__law_truly (consD (trimE (callE 1 f_is_heap (consD (nmD 8) nilD))) (consD (nmD 9) nilD)))))) stuckS skipS)
    (ifS (andT (notT (testD (nmD 9))) (btestD (op2 (cmpD .NotEq) (opS lstD (consD (trimE (errC known nn__law_names.length dnm [] bd__law_right (lamD 0))) (consD (trimE (errC known nn__law_names.length dnm [] bd__law_right (lamD 1))) nilD))) (op2 (binD .Mult) (opS lstD (consD (cstD (.str "heap value")) nilD)) (cstD (.int 2)))))) stuckS skipS))))) 100000)
    (seqS (forS (anySrc (opS lstD (consD (cstD .non) (consD (cstD (.int 0)) (consD (opS lstD nilD) (consD (opS lstD (consD (cstD (.int 0)) nilD)) (consD (opS tupD (consD (cstD (.bl true)) nilD)) (consD (opS tupD (consD (op1 negD (cstD (.int 1))) nilD)) (consD (opS tupD (consD (opS lenD (consD (nmD 1) nilD)) nilD)) (consD (opS tupD (consD (cstD (.str "0")) nilD)) (consD (opS tupD (consD (opS tupD (consD (cstD (.str "num")) (consD (cstD (.str "1")) nilD))) nilD)) (consD (op2 (binD .Mult) (opS tupD (consD (cstD .non) nilD)) (cstD (.int 13))) (consD (opS tupD (consD (opS tupD (consD (cstD (.int 0)) nilD)) nilD)) nilD))))))))))))) (nmT 10) (trimW (ifS (orT (btestD (op2 (cmpD .IsNot) (trimE (callE 2 f_are_roots (consD (nmD 1) (consD (nmD 10) nilD)))) (cstD (.bl false)))) (btestD (op2 (cmpD .NotEq) (trimE (errC known nn__law_names.length dnm [] bd__law_right (lamD 2))) (cstD (.str "roots value"))))) stuckS skipS)) 100000)
    (retS (cstD (.bl true)))))))))))
def f__law_right : FDen := bodyL 12 d__law_right
def nn__law_roots : List Str := ["_law_cup_here", "_law_heap_here", "_law_addresses", "_law_place", "_law_turn"]
def pp__law_roots : List Str := ["_law_cup_here", "_law_heap_here"]
theorem sc__law_roots : FnScope nn__law_roots pp__law_roots (defScope st__law_roots) := ⟨rfl, rfl, rfl, by decide +kernel, rfl, by decide +kernel, by decide +kernel⟩
def d__law_roots : SDen :=
    (seqS (setS (compE (rngSrc1 (consD (opS lenD (consD (nmD 1) nilD)) nilD)) [3] (.one 3) (btestD (op2 (cmpD .IsNot) (op2 itemD (nmD 1) (nmD 3)) (cstD .non))) (nmD 3) 100000) (nmT 2))
    (retS (opS tupleD (consD (compE (rngSrc1 (consD (callE 2 f__law_some (consD (nmD 0) (consD (opS lstD (consD (cstD (.int 0)) (consD (cstD (.int 1)) (consD (cstD (.int 1)) (consD (cstD (.int 2)) (consD (cstD (.int 3)) nilD)))))) nilD))) nilD)) [4] (.one 4) yesT (trimE (callN 2 f__law_word (consD (nmD 0) (consD (nmD 2) nilD)))) 100000) nilD))))
def f__law_roots : FDen := bodyF 5 d__law_roots
def nn_law : List Str := ["_law_script", "_law_cup_here", "_law_turn", "_law_heap_here", "_law_g"]
def pp_law : List Str := ["_law_script"]
theorem sc_law : FnScope nn_law pp_law (defScope st_law) := ⟨rfl, rfl, rfl, by decide +kernel, rfl, by decide +kernel, by decide +kernel⟩
def LS_law : Nat → LamS := fun n => match n with
  | _ => noLam
abbrev lam_law (h : Nat) : Nat → Addr → HO → Addr → HO → Prop := lamOf (qv_law ++ "<lambda>") fun n => ⟨LS_law n, cloFrom (cellsFrom (h + 1) (defScope st_law).names []) (LS_law n).scope.names []⟩
def bd_law : Nat → Option (Den D) := fun n => match n with
  | _ => none
def d_law_0 : SDen :=
    (forS (rngSrc1 (consD (cstD (.int 2)) nilD)) (nmT 2) (seqS (setS (callE 1 f__law_heap (consD (nmD 1) nilD)) (nmT 3))
    (trimS (ifS (notT (testD (callE 3 f__law_right (consD (nmD 1) (consD (nmD 3) (consD (callE 2 f__law_roots (consD (nmD 1) (consD (nmD 3) nilD))) nilD)))))) stuckS skipS))) 100000)
def d_law_1 : SDen :=
    (setS (opS tupD (consD (opS tupD (consD (opS tupD (consD (cstD (.str "a")) nilD)) (consD (opS tupD (consD (cstD (.int 1)) nilD)) nilD))) (consD (opS tupD (consD (opS tupD (consD (cstD (.str "b")) nilD)) (consD (opS tupD (consD (cstD (.int 0)) nilD)) nilD))) (consD (opS tupD (consD (opS tupD (consD (cstD (.str "c")) nilD)) (consD (opS tupD (consD (cstD (.int 1)) nilD)) nilD))) (consD (cstD .non) (consD (opS tupD (consD (opS tupD (consD (cstD (.str "d")) nilD)) (consD (opS tupD (consD (cstD (.int 2)) (consD (cstD (.int 4)) nilD))) nilD))) nilD)))))) (nmT 4))
def d_law_2 : SDen :=
    (trimS (ifS (orT (notT (testD (callE 3 f__law_right (consD (nmD 1) (consD (nmD 4) (consD (opS tupD (consD (cstD (.int 2)) nilD)) nilD)))))) (btestD (op2 (cmpD .NotEq) (opS lstD (consD (callE 1 f_is_heap (consD (opS tupD nilD) nilD)) (consD (callE 1 f_is_heap (consD (opS tupD (consD (opS tupD (consD (opS tupD (consD (cstD (.str "a")) nilD)) (consD (opS tupD (consD (cstD (.int 1)) nilD)) nilD))) nilD)) nilD)) (consD (callE 2 f_are_roots (consD (nmD 4) (consD (opS tupD (consD (cstD (.int 3)) nilD)) nilD))) (consD (callE 2 f_are_roots (consD (nmD 4) (consD (opS tupD (consD (cstD (.int 4)) (consD (cstD .non) nilD))) nilD))) nilD))))) (opS lstD (consD (cstD (.bl true)) (consD (cstD (.bl false)) (consD (cstD (.bl false)) (consD (cstD (.bl true)) nilD)))))))) stuckS skipS))
def d_law_3 : SDen :=
    (trimS (ifS (btestD (op2 (cmpD .NotEq) (opS lstD (consD (callE 2 f_reached_from (consD (nmD 4) (consD (opS tupD (consD (cstD (.int 2)) nilD)) nilD))) (consD (callE 2 f_reached_from (consD (nmD 4) (consD (opS tupD nilD) nilD))) (consD (callE 2 f_reached_from (consD (nmD 4) (consD (opS tupD (consD (cstD (.int 4)) nilD)) nilD))) nilD)))) (opS lstD (consD (opS lstD (consD (cstD (.int 0)) (consD (cstD (.int 1)) (consD (cstD (.int 2)) nilD)))) (consD (opS lstD nilD) (consD (opS lstD (consD (cstD (.int 0)) (consD (cstD (.int 1)) (consD (cstD (.int 2)) (consD (cstD (.int 4)) nilD))))) nilD)))))) stuckS skipS))
def d_law_4 : SDen :=
    (retS (andE (op2 (cmpD .Eq) (callE 2 f_counts_in (consD (nmD 4) (consD (opS tupD (consD (cstD (.int 2)) nilD)) nilD))) (opS tupD (consD (cstD (.int 1)) (consD (cstD (.int 2)) (consD (cstD (.int 2)) (consD (cstD .non) (consD (cstD (.int 1)) nilD))))))) (andE (op2 (cmpD .Eq) (callE 2 f_counts_in (consD (nmD 4) (consD (opS tupD nilD) nilD))) (opS tupD (consD (cstD (.int 1)) (consD (cstD (.int 2)) (consD (cstD (.int 1)) (consD (cstD .non) (consD (cstD (.int 1)) nilD))))))) (op2 (cmpD .Eq) (callE 2 f_counts_in (consD (opS tupD nilD) (consD (opS tupD nilD) nilD))) (opS tupD nilD)))))
def d_law : SDen :=
    (seqS d_law_0 (seqS d_law_1 (seqS d_law_2 (seqS d_law_3 d_law_4))))
structure Top (P : Program) (w : World) (K : PySem.W.Frag) (mg : Str → Option Value) where
  D__law_cup : DefAt K mg "_law_cup" st__law_cup pp__law_cup
  D__law_roll : DefAt K mg "_law_roll" st__law_roll pp__law_roll
  D__law_some : DefAt K mg "_law_some" st__law_some pp__law_some
  D__law_word : DefAt K mg "_law_word" st__law_word pp__law_word
  D__law_heap : DefAt K mg "_law_heap" st__law_heap pp__law_heap
  D__law_led : DefAt K mg "_law_led" st__law_led pp__law_led
  D__law_reached : DefAt K mg "_law_reached" st__law_reached pp__law_reached
  D_is_tuple_of : DefAt K mg "is_tuple_of" st_is_tuple_of pp_is_tuple_of
  D_begins_with_word : DefAt K mg "begins_with_word" st_begins_with_word pp_begins_with_word
  D_is_index_of : DefAt K mg "is_index_of" st_is_index_of pp_is_index_of
  D_is_address : DefAt K mg "is_address" st_is_address pp_is_address
  D_is_integer : DefAt K mg "is_integer" st_is_integer pp_is_integer
  D_is_number : DefAt K mg "is_number" st_is_number pp_is_number
  D_is_heap_word : DefAt K mg "is_heap_word" st_is_heap_word pp_is_heap_word
  D_are_words : DefAt K mg "are_words" st_are_words pp_are_words
  D_is_cell : DefAt K mg "is_cell" st_is_cell pp_is_cell
  D_fits_heap : DefAt K mg "fits_heap" st_fits_heap pp_fits_heap
  D_check_heap : DefAt K mg "check_heap" st_check_heap pp_check_heap
  D_check_roots : DefAt K mg "check_roots" st_check_roots pp_check_roots
  D_addresses_in : DefAt K mg "addresses_in" st_addresses_in pp_addresses_in
  D_reached_from : DefAt K mg "reached_from" st_reached_from pp_reached_from
  D_counts_in : DefAt K mg "counts_in" st_counts_in pp_counts_in
  D_is_heap : DefAt K mg "is_heap" st_is_heap pp_is_heap
  D_are_roots : DefAt K mg "are_roots" st_are_roots pp_are_roots
  D__law_bent : DefAt K mg "_law_bent" st__law_bent pp__law_bent
  D__law_is_whole : DefAt K mg "_law_is_whole" st__law_is_whole pp__law_is_whole
  D__law_is_word : DefAt K mg "_law_is_word" st__law_is_word pp__law_is_word
  D__law_are_words : DefAt K mg "_law_are_words" st__law_are_words pp__law_are_words
  D__law_is_heap : DefAt K mg "_law_is_heap" st__law_is_heap pp__law_is_heap
  D__law_truly : DefAt K mg "_law_truly" st__law_truly pp__law_truly
  D__law_names : DefAt K mg "_law_names" st__law_names pp__law_names
  D__law_error : DefAt K mg "_law_error" st__law_error pp__law_error
  D__law_right : DefAt K mg "_law_right" st__law_right pp__law_right
  D__law_roots : DefAt K mg "_law_roots" st__law_roots pp__law_roots
  D_law : DefAt K mg "law" st_law pp_law
  n_ValueError : mg "ValueError" = none
  n_abs : mg "abs" = none
  n_all : mg "all" = none
  n_bool : mg "bool" = none
  n_enumerate : mg "enumerate" = none
  n_int : mg "int" = none
  n_isinstance : mg "isinstance" = none
  n_len : mg "len" = none
  n_list : mg "list" = none
  n_range : mg "range" = none
  n_sorted : mg "sorted" = none
  n_str : mg "str" = none
  n_tuple : mg "tuple" = none
  n_type : mg "type" = none
  n_zip : mg "zip" = none
  c_MOST_ITEMS : ∃ t, mg "MOST_ITEMS" = some (.int 1000 t)
  c_MOST_NUMBER : ∃ t, mg "MOST_NUMBER" = some (.int 1000000000000 t)
  c_MOST_WORDS : ∃ t, mg "MOST_WORDS" = some (.int 12 t)
  C_InvalidAddress : ClsAt K mg "InvalidAddress"
  C_InvalidClearing : ClsAt K mg "InvalidClearing"
  C_InvalidHeap : ClsAt K mg "InvalidHeap"
  C_InvalidNumber : ClsAt K mg "InvalidNumber"
  C_InvalidProgram : ClsAt K mg "InvalidProgram"
  C_InvalidRoots : ClsAt K mg "InvalidRoots"
  C_InvalidTree : ClsAt K mg "InvalidTree"
  C_NearError : ClsAt K mg "NearError"
  C_TooMany : ClsN K mg "TooMany"
def flds : Flds := fun y => if y = "TooMany" then some "limit" else none
abbrev EAll {P : Program} {w : World} {K : PySem.W.Frag} {mg : Str → Option Value} (T : Top P w K mg) (base : Heap) (tb : List (Addr × Str)) : Prop := ErrAll P w K mg base tb flds "limit" [("InvalidClearing", .ref T.C_InvalidClearing.a), ("InvalidAddress", .ref T.C_InvalidAddress.a), ("InvalidRoots", .ref T.C_InvalidRoots.a), ("InvalidHeap", .ref T.C_InvalidHeap.a), ("InvalidNumber", .ref T.C_InvalidNumber.a), ("InvalidProgram", .ref T.C_InvalidProgram.a), ("InvalidTree", .ref T.C_InvalidTree.a), ("TooMany", .ref T.C_TooMany.a), ("ValueError", .type "ValueError")] sub0 "_law_names" st__law_names T.D__law_names.a T.D__law_names.u nn__law_names "_law_e" dnm 0 T.C_NearError.a "NearError" "_law_error" st__law_error T.D__law_error.a T.D__law_error.u "_law_call" "_law_e" known
structure Lams {P : Program} {w : World} {K : PySem.W.Frag} {mg : Str → Option Value} (T : Top P w K mg) (base : Heap) (tb : List (Addr × Str)) : Prop where
  la__law_right : LamAt base mg tb T.D__law_right.u.code qv__law_right
  la_law : LamAt base mg tb T.D_law.u.code qv_law
section
variable {P : Program} {w : World} {K : PySem.W.Frag} {mg : Str → Option Value} {base : Heap}
def c0 (K : PySem.W.Frag) (tb : List (Addr × Str)) (lam : Nat → Addr → HO → Addr → HO → Prop) (mg : Str → Option Value) : Cfg := ⟨⟨K, tb, lam, fun _ _ _ => False⟩, mg, flds, fun _ _ _ => False⟩
/-- where the exception p is handled -/
def cH (K : PySem.W.Frag) (tb : List (Addr × Str)) (lam : Nat → Addr → HO → Addr → HO → Prop) (mg : Str → Option Value) (p : Addr × Obj) (z : Option (Addr × Str)) (cls : Str) : Cfg := ⟨⟨K, tb, lam, fun cl a y => cl = cls ∧ a = p.1 ∧ y = z⟩, mg, flds, C8.E0⟩
theorem ok__law_cup (T : Top P w K mg) (tb : List (Addr × Str)) (hev : ∀ z : Int, ∃ r', d__law_cup [none, some (.int z), none] [] = some (.rt (.lst 0), r', [.lst [.int (cup2 z).1, .int (cup2 z).2]])) :
    FnOk P w K mg base (L2N.CX P w) 1 T.D__law_cup.a T.D__law_cup.u pp__law_cup (spCup K tb) := by
  refine fn_mixed (W := fun c => c.K.f = K ∧ c.K.T = tb) (t0 := tCell K 0 1) T.D__law_cup.F sc__law_cup rfl (fun vs H Q E h => by obtain ⟨a, ns, rfl, _⟩ := h; rfl) (fun cdv A outer s H E hr hcd => ⟨⟨⟨K, tb, fun _ _ _ _ _ => False, fun _ _ _ => False⟩, mg, flds, E⟩, ⟨rfl, rfl⟩, ps_cell (pv 0) (pg_name (i := 1) sc__law_cup.nd rfl (Or.inl rfl)) (by rfl) T.n_abs (by rfl) T.n_list, ?_⟩) (fun c vs H Q E hW h => cup_sp rfl hW.1 hW.2 hev h)
  have nd := sc__law_cup.nd
  exact (ds_cons (ds_set (ps_asg (de_ifE (dt_cmp rfl (hu65 hr) (de_nm (pv 1)) (de_bin rfl (de_cst pe_int fun _ _ => .int _) (de_cst pe_int fun _ _ => .int _)) (nomark _)) (de_bin rfl (de_nm (pv 1)) (de_cst pe_int fun _ _ => .int _)) (de_cst pe_int fun _ _ => .int _)) (dg_nm (pg_name (i := 2) nd rfl (Or.inl rfl)))))
      (ds_one (ds_ret (de_lst (da_cons (de_nm (pv 2)) (da_cons (de_bin rfl (de_bin rfl (de_callTy (cr_intD rfl) (by rfl) T.n_int (by decide +kernel) (da_cons (de_bin rfl (de_bin rfl (de_nm (pv 1)) (de_cst pe_int fun _ _ => .int _)) (de_cst pe_int fun _ _ => .int _)) da_nil)) (de_cst pe_int fun _ _ => .int _)) (de_cst pe_int fun _ _ => .int _)) da_nil))))))
theorem ok__law_roll (T : Top P w K mg) (tb : List (Addr × Str)) (lam : Nat → Addr → HO → Addr → HO → Prop) : FnOk P w K mg base (L2N.CX P w) 1 T.D__law_roll.a T.D__law_roll.u pp__law_roll (spF (c0 K tb lam mg) 2 f__law_roll) := by
  refine fn_ok rfl T.D__law_roll.F sc__law_roll rfl fun cdv A outer s H E hr => ?_
  have nd := sc__law_roll.nd
  have tk : L2N.Takes (cxOf (L2N.CX P w) P w K mg base nn__law_roll "_law_roll" (defScope st__law_roll) T.D__law_roll.a cdv A outer s H E) (fun cls d _ H => ((c0 K tb lam mg).to E).W cls d H) := L2N.takes_of rfl rfl rfl rfl
  exact (ds_cons (ds_if (dt_cmp rfl (hu65 hr) (de_item rfl (hu1 hr) (de_nm (pv 0)) (de_cst pe_int fun _ _ => .int _)) (de_cst pe_int fun _ _ => .int _) (nomark _)) (ds_cons (ds_set (ps_asg (de_bin rfl (de_callTy (cr_intD rfl) (by rfl) T.n_int (by decide +kernel) (da_cons (de_item rfl (hu1 hr) (de_nm (pv 0)) (de_cst pe_int fun _ _ => .int _)) da_nil)) (de_nm (pv 1))) (dg_nm (pg_name (i := 2) nd rfl (Or.inl rfl)))))
      (ds_cons (ds_put rfl (hu1 hr) (de_nm (pv 0)) (de_cst pe_int fun _ _ => .int _) (de_bin rfl (de_item rfl (hu1 hr) (de_nm (pv 0)) (de_cst pe_int fun _ _ => .int _)) (de_nm (pv 1))))
      (ds_one (ds_ret (de_nm (pv 2)))))) ds_nil)
      (ds_cons (ds_put rfl (hu1 hr) (de_nm (pv 0)) (de_cst pe_int fun _ _ => .int _) (de_bin rfl (de_callTy (cr_intD rfl) (by rfl) T.n_int (by decide +kernel) (da_cons (de_bin rfl (de_bin rfl (de_item rfl (hu1 hr) (de_nm (pv 0)) (de_cst pe_int fun _ _ => .int _)) (de_cst pe_int fun _ _ => .int _)) (de_cst pe_int fun _ _ => .int _)) da_nil)) (de_cst pe_int fun _ _ => .int _)))
      (ds_cons (ds_set (ps_asg (de_bin rfl (de_callTy (cr_intD rfl) (by rfl) T.n_int (by decide +kernel) (da_cons (de_bin rfl (de_item rfl (hu1 hr) (de_nm (pv 0)) (de_cst pe_int fun _ _ => .int _)) (de_bin rfl (de_item rfl (hu1 hr) (de_nm (pv 0)) (de_cst pe_int fun _ _ => .int _)) (de_cst pe_int fun _ _ => .int _))) da_nil)) (de_cst pe_int fun _ _ => .int _)) (dg_nm (pg_name (i := 3) nd rfl (Or.inl rfl)))))
      (ds_one (ds_ret (de_bin rfl (de_callTy (cr_intD rfl) (by rfl) T.n_int (by decide +kernel) (da_cons (de_bin rfl (de_nm (pv 3)) (de_cst pe_int fun _ _ => .int _)) da_nil)) (de_nm (pv 1))))))))
theorem ok__law_some (T : Top P w K mg) (tb : List (Addr × Str)) (lam : Nat → Addr → HO → Addr → HO → Prop) : FnOk P w K mg base (L2N.CX P w) 2 T.D__law_some.a T.D__law_some.u pp__law_some (spF (c0 K tb lam mg) 2 f__law_some) := by
  refine fn_ok rfl T.D__law_some.F sc__law_some rfl fun cdv A outer s H E hr => ?_
  have nd := sc__law_some.nd
  have tk : L2N.Takes (cxOf (L2N.CX P w) P w K mg base nn__law_some "_law_some" (defScope st__law_some) T.D__law_some.a cdv A outer s H E) (fun cls d _ H => ((c0 K tb lam mg).to E).W cls d H) := L2N.takes_of rfl rfl rfl rfl
  exact (ds_one (ds_ret (de_item rfl (hu1 hr) (de_nm (pv 1)) (de_call tk (ok__law_roll T tb lam) (hr.mono (by decide)) (by rfl) T.D__law_roll.m T.D__law_roll.F.kp T.D__law_roll.b (da_cons (de_nm (pv 0)) (da_cons (de_callB (cr_len rfl) (by rfl) T.n_len PySem.boot_len (da_cons (de_nm (pv 1)) da_nil)) da_nil))))))
theorem ok__law_word (T : Top P w K mg) (tb : List (Addr × Str)) (lam : Nat → Addr → HO → Addr → HO → Prop) : FnOk P w K mg base (L2N.CX P w) 3 T.D__law_word.a T.D__law_word.u pp__law_word (spF (c0 K tb lam mg) 2 f__law_word) := by
  refine fn_ok rfl T.D__law_word.F sc__law_word rfl fun cdv A outer s H E hr => ?_
  have nd := sc__law_word.nd
  have tk : L2N.Takes (cxOf (L2N.CX P w) P w K mg base nn__law_word "_law_word" (defScope st__law_word) T.D__law_word.a cdv A outer s H E) (fun cls d _ H => ((c0 K tb lam mg).to E).W cls d H) := L2N.takes_of rfl rfl rfl rfl
  exact (ds_cons (ds_set (ps_asg (de_call tk (ok__law_roll T tb lam) (hr.mono (by decide)) (by rfl) T.D__law_roll.m T.D__law_roll.F.kp T.D__law_roll.b (da_cons (de_nm (pv 0)) (da_cons (de_cst pe_int fun _ _ => .int _) da_nil))) (dg_nm (pg_name (i := 2) nd rfl (Or.inl rfl)))))
      (ds_cons (ds_if (PW.pt (dw_or (dt_cmp rfl (hu65 hr) (de_nm (pv 2)) (de_cst pe_int fun _ _ => .int _) (nomark _)) (dw_or1 (dt_cmp rfl (hu65 hr) (de_nm (pv 1)) (de_lst da_nil) (nomark _))))) (ds_one (ds_ret (de_cst pe_non fun _ _ => .non))) ds_nil)
      (ds_one (ds_ret (de_ifE (dt_cmp rfl (hu65 hr) (de_nm (pv 2)) (de_cst pe_int fun _ _ => .int _) (nomark _)) (de_tup (da_cons (de_cst pe_str fun _ _ => .str _) (da_cons (de_bin rfl (de_call tk (ok__law_roll T tb lam) (hr.mono (by decide)) (by rfl) T.D__law_roll.m T.D__law_roll.F.kp T.D__law_roll.b (da_cons (de_nm (pv 0)) (da_cons (de_cst pe_int fun _ _ => .int _) da_nil))) (de_cst pe_int fun _ _ => .int _)) da_nil))) (de_call tk (ok__law_some T tb lam) (hr.mono (by decide)) (by rfl) T.D__law_some.m T.D__law_some.F.kp T.D__law_some.b (da_cons (de_nm (pv 0)) (da_cons (de_nm (pv 1)) da_nil))))))))
theorem ok__law_heap (T : Top P w K mg) (tb : List (Addr × Str)) (lam : Nat → Addr → HO → Addr → HO → Prop) : FnOk P w K mg base (L2N.CX P w) 4 T.D__law_heap.a T.D__law_heap.u pp__law_heap (spF (c0 K tb lam mg) 1 f__law_heap) := by
  refine fn_ok rfl T.D__law_heap.F sc__law_heap rfl fun cdv A outer s H E hr => ?_
  have nd := sc__law_heap.nd
  have tk : L2N.Takes (cxOf (L2N.CX P w) P w K mg base nn__law_heap "_law_heap" (defScope st__law_heap) T.D__law_heap.a cdv A outer s H E) (fun cls d _ H => ((c0 K tb lam mg).to E).W cls d H) := L2N.takes_of rfl rfl rfl rfl
  exact (ds_cons (ds_set (ps_asg (de_lc rfl rfl nd (dp_rng1 (by rfl) T.n_range (da_cons (de_bin rfl (de_cst pe_int fun _ _ => .int _) (de_call tk (ok__law_roll T tb lam) (hr.mono (by decide)) (by rfl) T.D__law_roll.m T.D__law_roll.F.kp T.D__law_roll.b (da_cons (de_nm (pv 0)) (da_cons (de_cst pe_int fun _ _ => .int _) da_nil)))) da_nil)) (blkOk_by (own := [("_law_place", 6)]) (N := nn__law_heap) (sc := defScope st__law_heap) (by decide +kernel)) (by decide) (fun _ _ _ _ _ => pg_name (i := 6) nd rfl (Or.inl rfl)) (fun _ _ _ _ _ => dpts_nil) (fun _ _ _ _ _ => (de_cmp rfl (hu65 hr) (de_callN (ok__law_roll T tb lam) (hr.mono (by decide)) (by rfl) T.D__law_roll.m T.D__law_roll.F.kp T.D__law_roll.b (da_cons (de_nm (pv 0)) (da_cons (de_cst pe_int fun _ _ => .int _) da_nil))) (de_cst pe_int fun _ _ => .int _) (nomark _)))) (dg_nm (pg_name (i := 1) nd rfl (Or.inr rfl)))))
      (ds_cons (ds_set (ps_asg (de_tup (da_cons (de_lc rfl rfl nd (dp_rng1 (by rfl) T.n_range (da_cons (de_callB (cr_len rfl) (by rfl) T.n_len PySem.boot_len (da_cons (de_nm (pv 1)) da_nil)) da_nil)) (blkOk_by (own := [("_law_place", 6)]) (N := nn__law_heap) (sc := defScope st__law_heap) (by decide +kernel)) (by decide) (fun _ _ _ _ _ => pg_name (i := 6) nd rfl (Or.inl rfl)) (fun _ _ _ _ _ => (pts_one (dt_not (dt_val rfl (de_item rfl (hu1 hr) (de_nm (pv 1)) (de_nm (pv 6))))))) (fun _ _ _ _ _ => (de_nm (pv 6)))) (da_cons (de_tup da_nil) da_nil))) (dg_tup rfl rfl (dgs_cons (dg_nm (pg_name (i := 2) nd rfl (Or.inr rfl))) (dgs_cons (dg_nm (pg_name (i := 3) nd rfl (Or.inl rfl))) dgs_nil)))))
      (ds_cons (ds_for (n := 100000) (passes_of rfl) rfl (dp_any rfl (de_nm (pv 1))) (dg_nm (pg_name (i := 4) nd rfl (Or.inl rfl))) (dss_trimW (ds_cons (ds_set (ps_asg (de_callTy (cr_tuple rfl) (by rfl) T.n_tuple (by decide +kernel) (da_cons (de_lc rfl rfl nd (dp_rng1 (by rfl) T.n_range (da_cons (de_call tk (ok__law_some T tb lam) (hr.mono (by decide)) (by rfl) T.D__law_some.m T.D__law_some.F.kp T.D__law_some.b (da_cons (de_nm (pv 0)) (da_cons (de_lst (da_cons (de_cst pe_int fun _ _ => .int _) (da_cons (de_cst pe_int fun _ _ => .int _) (da_cons (de_cst pe_int fun _ _ => .int _) (da_cons (de_cst pe_int fun _ _ => .int _) (da_cons (de_cst pe_int fun _ _ => .int _) (da_cons (de_cst pe_int fun _ _ => .int _) da_nil))))))) da_nil))) da_nil)) (blkOk_by (own := [("_law_turn", 7)]) (N := nn__law_heap) (sc := defScope st__law_heap) (by decide +kernel)) (by decide) (fun _ _ _ _ _ => pg_name (i := 7) nd rfl (Or.inl rfl)) (fun _ _ _ _ _ => dpts_nil) (fun _ _ _ _ _ => (de_trim (de_callN (ok__law_word T tb lam) (hr.mono (by decide)) (by rfl) T.D__law_word.m T.D__law_word.F.kp T.D__law_word.b (da_cons (de_nm (pv 0)) (da_cons (de_nm (pv 2)) da_nil)))))) da_nil)) (dg_nm (pg_name (i := 5) nd rfl (Or.inl rfl)))))
      (ds_one (ds_set (ps_asg (de_bin rfl (de_nm (pv 3)) (de_tup (da_cons (de_ifE (dt_val rfl (de_nm (pv 4))) (de_cst pe_non fun _ _ => .non) (de_tup (da_cons (de_tup (da_cons (de_call tk (ok__law_some T tb lam) (hr.mono (by decide)) (by rfl) T.D__law_some.m T.D__law_some.F.kp T.D__law_some.b (da_cons (de_nm (pv 0)) (da_cons (de_lst (da_cons (de_cst pe_str fun _ _ => .str _) (da_cons (de_cst pe_str fun _ _ => .str _) (da_cons (de_cst pe_str fun _ _ => .str _) da_nil)))) da_nil))) da_nil)) (da_cons (de_nm (pv 5)) da_nil)))) da_nil))) (dg_nm (pg_name (i := 3) nd rfl (Or.inl rfl)))))))))
      (ds_one (ds_ret (de_nm (pv 3)))))))
theorem ok__law_led (T : Top P w K mg) (tb : List (Addr × Str)) (lam : Nat → Addr → HO → Addr → HO → Prop) : FnOk P w K mg base (L2N.CX P w) 1 T.D__law_led.a T.D__law_led.u pp__law_led (spF (c0 K tb lam mg) 1 f__law_led) := by
  refine fn_ok rfl T.D__law_led.F sc__law_led rfl fun cdv A outer s H E hr => ?_
  have nd := sc__law_led.nd
  have tk : L2N.Takes (cxOf (L2N.CX P w) P w K mg base nn__law_led "_law_led" (defScope st__law_led) T.D__law_led.a cdv A outer s H E) (fun cls d _ H => ((c0 K tb lam mg).to E).W cls d H) := L2N.takes_of rfl rfl rfl rfl
  exact (ds_one (ds_ret (de_lc rfl rfl nd (dp_any rfl (de_nm (pv 0))) (blkOk_by (own := [("_law_word_here", 1)]) (N := nn__law_led) (sc := defScope st__law_led) (by decide +kernel)) (by decide) (fun _ _ _ _ _ => pg_name (i := 1) nd rfl (Or.inl rfl)) (fun _ _ _ _ _ => (pts_one (dt_val rfl (de_callB (PyK.cr_isi rfl) (by rfl) T.n_isinstance (by decide +kernel) (da_cons (de_nm (pv 1)) (da_cons (de_gty (by rfl) T.n_int (by decide +kernel)) da_nil)))))) (fun _ _ _ _ _ => (de_nm (pv 1))))))
theorem ok__law_reached (T : Top P w K mg) (tb : List (Addr × Str)) (lam : Nat → Addr → HO → Addr → HO → Prop) : FnOk P w K mg base (L2N.CX P w) 2 T.D__law_reached.a T.D__law_reached.u pp__law_reached (spF (c0 K tb lam mg) 3 f__law_reached) := by
  refine fn_ok rfl T.D__law_reached.F sc__law_reached rfl fun cdv A outer s H E hr => ?_
  have nd := sc__law_reached.nd
  have tk : L2N.Takes (cxOf (L2N.CX P w) P w K mg base nn__law_reached "_law_reached" (defScope st__law_reached) T.D__law_reached.a cdv A outer s H E) (fun cls d _ H => ((c0 K tb lam mg).to E).W cls d H) := L2N.takes_of rfl rfl rfl rfl
  exact (ds_cons (PyK.ds_par (i := 3) (j := 4) rfl nd rfl rfl (by decide) rfl rfl (da_cons (de_lst da_nil) (da_cons (de_cst pe_int fun _ _ => .int _) da_nil)))
      (ds_cons (ds_for (n := 100000) (passes_of rfl) rfl (dp_any rfl (de_call tk (ok__law_led T tb lam) (hr.mono (by decide)) (by rfl) T.D__law_led.m T.D__law_led.F.kp T.D__law_led.b (da_cons (de_nm (pv 1)) da_nil))) (dg_nm (pg_name (i := 5) nd rfl (Or.inl rfl))) (ds_one (ds_set (ps_asg (de_bin rfl (de_nm (pv 3)) (de_bin rfl (de_lst (da_cons (de_nm (pv 5)) da_nil)) (de_callTy (cr_intD rfl) (by rfl) T.n_int (by decide +kernel) (da_cons (de_cmp rfl (hu65 hr) (de_nm (pv 5)) (de_nm (pv 3)) (by rfl)) da_nil)))) (dg_nm (pg_name (i := 3) nd rfl (Or.inl rfl)))))))
      (ds_cons (ds_while (n := 100000) (passes_of rfl) (dt_cmp rfl (hu65 hr) (de_nm (pv 4)) (de_callB (cr_len rfl) (by rfl) T.n_len PySem.boot_len (da_cons (de_nm (pv 3)) da_nil)) (nomark _)) (ds_cons (ds_for (n := 100000) (passes_of rfl) rfl (dp_any rfl (de_ifE (dt_cmp rfl (hu65 hr) (de_item rfl (hu1 hr) (de_nm (pv 3)) (de_nm (pv 4))) (de_nm (pv 2)) (nomark _)) (de_call tk (ok__law_led T tb lam) (hr.mono (by decide)) (by rfl) T.D__law_led.m T.D__law_led.F.kp T.D__law_led.b (da_cons (de_item rfl (hu1 hr) (de_item rfl (hu1 hr) (de_nm (pv 0)) (de_item rfl (hu1 hr) (de_nm (pv 3)) (de_nm (pv 4)))) (de_cst pe_int fun _ _ => .int _)) da_nil)) (de_lst da_nil))) (dg_nm (pg_name (i := 5) nd rfl (Or.inl rfl))) (ds_one (ds_set (ps_asg (de_bin rfl (de_nm (pv 3)) (de_bin rfl (de_lst (da_cons (de_nm (pv 5)) da_nil)) (de_callTy (cr_intD rfl) (by rfl) T.n_int (by decide +kernel) (da_cons (de_cmp rfl (hu65 hr) (de_nm (pv 5)) (de_nm (pv 3)) (by rfl)) da_nil)))) (dg_nm (pg_name (i := 3) nd rfl (Or.inl rfl)))))))
      (ds_one (ds_set (ps_asg (de_bin rfl (de_nm (pv 4)) (de_cst pe_int fun _ _ => .int _)) (dg_nm (pg_name (i := 4) nd rfl (Or.inl rfl))))))))
      (ds_one (ds_ret (de_nm (pv 3)))))))
theorem ok_is_tuple_of (T : Top P w K mg) (tb : List (Addr × Str)) (lam : Nat → Addr → HO → Addr → HO → Prop) : FnOk P w K mg base (L2N.CX P w) 1 T.D_is_tuple_of.a T.D_is_tuple_of.u pp_is_tuple_of (spF (c0 K tb lam mg) 3 f_is_tuple_of) := by
  refine fn_ok rfl T.D_is_tuple_of.F sc_is_tuple_of rfl fun cdv A outer s H E hr => ?_
  have nd := sc_is_tuple_of.nd
  have tk : L2N.Takes (cxOf (L2N.CX P w) P w K mg base nn_is_tuple_of "is_tuple_of" (defScope st_is_tuple_of) T.D_is_tuple_of.a cdv A outer s H E) (fun cls d _ H => ((c0 K tb lam mg).to E).W cls d H) := L2N.takes_of rfl rfl rfl rfl
  exact (ds_one (ds_ret (de_and (de_cmp rfl (hu65 hr) (de_callTy (cr_ty rfl) (by rfl) T.n_type (by decide +kernel) (da_cons (de_nm (pv 0)) da_nil)) (de_gty (by rfl) T.n_tuple (by decide +kernel)) (nomark _)) (pe_one (de_chain rfl (hu65 hr) (de_nm (pv 1)) (de_callB (cr_len rfl) (by rfl) T.n_len PySem.boot_len (da_cons (de_nm (pv 0)) da_nil)) (de_nm (pv 2)))))))
theorem ok_begins_with_word (T : Top P w K mg) (tb : List (Addr × Str)) (lam : Nat → Addr → HO → Addr → HO → Prop) : FnOk P w K mg base (L2N.CX P w) 1 T.D_begins_with_word.a T.D_begins_with_word.u pp_begins_with_word (spF (c0 K tb lam mg) 1 f_begins_with_word) := by
  refine fn_ok rfl T.D_begins_with_word.F sc_begins_with_word rfl fun cdv A outer s H E hr => ?_
  have nd := sc_begins_with_word.nd
  have tk : L2N.Takes (cxOf (L2N.CX P w) P w K mg base nn_begins_with_word "begins_with_word" (defScope st_begins_with_word) T.D_begins_with_word.a cdv A outer s H E) (fun cls d _ H => ((c0 K tb lam mg).to E).W cls d H) := L2N.takes_of rfl rfl rfl rfl
  exact (ds_one (ds_ret (de_and (de_cmp rfl (hu65 hr) (de_callTy (cr_ty rfl) (by rfl) T.n_type (by decide +kernel) (da_cons (de_nm (pv 0)) da_nil)) (de_gty (by rfl) T.n_tuple (by decide +kernel)) (nomark _)) (de_and (de_cmp rfl (hu65 hr) (de_callB (cr_len rfl) (by rfl) T.n_len PySem.boot_len (da_cons (de_nm (pv 0)) da_nil)) (de_cst pe_int fun _ _ => .int _) (nomark _)) (pe_one (de_cmp rfl (hu65 hr) (de_callTy (cr_ty rfl) (by rfl) T.n_type (by decide +kernel) (da_cons (de_item rfl (hu1 hr) (de_nm (pv 0)) (de_cst pe_int fun _ _ => .int _)) da_nil)) (de_gty (by rfl) T.n_str (by decide +kernel)) (nomark _)))))))
theorem ok_is_index_of (T : Top P w K mg) (tb : List (Addr × Str)) (lam : Nat → Addr → HO → Addr → HO → Prop) : FnOk P w K mg base (L2N.CX P w) 1 T.D_is_index_of.a T.D_is_index_of.u pp_is_index_of (spF (c0 K tb lam mg) 2 f_is_index_of) := by
  refine fn_ok rfl T.D_is_index_of.F sc_is_index_of rfl fun cdv A outer s H E hr => ?_
  have nd := sc_is_index_of.nd
  have tk : L2N.Takes (cxOf (L2N.CX P w) P w K mg base nn_is_index_of "is_index_of" (defScope st_is_index_of) T.D_is_index_of.a cdv A outer s H E) (fun cls d _ H => ((c0 K tb lam mg).to E).W cls d H) := L2N.takes_of rfl rfl rfl rfl
  exact (ds_one (ds_ret (de_and (de_cmp rfl (hu65 hr) (de_callTy (cr_ty rfl) (by rfl) T.n_type (by decide +kernel) (da_cons (de_nm (pv 0)) da_nil)) (de_gty (by rfl) T.n_int (by decide +kernel)) (nomark _)) (pe_one (de_chain rfl (hu65 hr) (de_cst pe_int fun _ _ => .int _) (de_nm (pv 0)) (de_callB (cr_len rfl) (by rfl) T.n_len PySem.boot_len (da_cons (de_nm (pv 1)) da_nil)))))))
theorem ok_is_address (T : Top P w K mg) (tb : List (Addr × Str)) (lam : Nat → Addr → HO → Addr → HO → Prop) : FnOk P w K mg base (L2N.CX P w) 2 T.D_is_address.a T.D_is_address.u pp_is_address (spF (c0 K tb lam mg) 2 f_is_address) := by
  refine fn_ok rfl T.D_is_address.F sc_is_address rfl fun cdv A outer s H E hr => ?_
  have nd := sc_is_address.nd
  have tk : L2N.Takes (cxOf (L2N.CX P w) P w K mg base nn_is_address "is_address" (defScope st_is_address) T.D_is_address.a cdv A outer s H E) (fun cls d _ H => ((c0 K tb lam mg).to E).W cls d H) := L2N.takes_of rfl rfl rfl rfl
  exact (ds_one (ds_ret (de_and (de_trim (de_call tk (ok_is_index_of T tb lam) (hr.mono (by decide)) (by rfl) T.D_is_index_of.m T.D_is_index_of.F.kp T.D_is_index_of.b (da_cons (de_nm (pv 1)) (da_cons (de_nm (pv 0)) da_nil)))) (pe_one (de_cmp rfl (hu65 hr) (de_item rfl (hu1 hr) (de_nm (pv 0)) (de_nm (pv 1))) (de_cst pe_non fun _ _ => .non) (nomark _))))))
theorem ok_is_integer (T : Top P w K mg) (tb : List (Addr × Str)) (lam : Nat → Addr → HO → Addr → HO → Prop) : FnOk P w K mg base (L2N.CX P w) 1 T.D_is_integer.a T.D_is_integer.u pp_is_integer (spF (c0 K tb lam mg) 3 f_is_integer) := by
  refine fn_ok rfl T.D_is_integer.F sc_is_integer rfl fun cdv A outer s H E hr => ?_
  have nd := sc_is_integer.nd
  have tk : L2N.Takes (cxOf (L2N.CX P w) P w K mg base nn_is_integer "is_integer" (defScope st_is_integer) T.D_is_integer.a cdv A outer s H E) (fun cls d _ H => ((c0 K tb lam mg).to E).W cls d H) := L2N.takes_of rfl rfl rfl rfl
  exact (ds_one (ds_ret (de_and (de_cmp rfl (hu65 hr) (de_callTy (cr_ty rfl) (by rfl) T.n_type (by decide +kernel) (da_cons (de_nm (pv 0)) da_nil)) (de_gty (by rfl) T.n_int (by decide +kernel)) (nomark _)) (pe_one (de_chain rfl (hu65 hr) (de_nm (pv 1)) (de_nm (pv 0)) (de_nm (pv 2)))))))
theorem ok_is_number (T : Top P w K mg) (tb : List (Addr × Str)) (lam : Nat → Addr → HO → Addr → HO → Prop) : FnOk P w K mg base (L2N.CX P w) 2 T.D_is_number.a T.D_is_number.u pp_is_number (spF (c0 K tb lam mg) 1 f_is_number) := by
  refine fn_ok rfl T.D_is_number.F sc_is_number rfl fun cdv A outer s H E hr => ?_
  have nd := sc_is_number.nd
  have tk : L2N.Takes (cxOf (L2N.CX P w) P w K mg base nn_is_number "is_number" (defScope st_is_number) T.D_is_number.a cdv A outer s H E) (fun cls d _ H => ((c0 K tb lam mg).to E).W cls d H) := L2N.takes_of rfl rfl rfl rfl
  exact (ds_one (ds_ret (de_trim (de_call tk (ok_is_integer T tb lam) (hr.mono (by decide)) (by rfl) T.D_is_integer.m T.D_is_integer.F.kp T.D_is_integer.b (da_cons (de_nm (pv 0)) (da_cons (de_neg rfl (de_gint (by rfl) T.c_MOST_NUMBER)) (da_cons (de_gint (by rfl) T.c_MOST_NUMBER) da_nil)))))))
theorem ok_is_heap_word (T : Top P w K mg) (tb : List (Addr × Str)) (lam : Nat → Addr → HO → Addr → HO → Prop) : FnOk P w K mg base (L2N.CX P w) 3 T.D_is_heap_word.a T.D_is_heap_word.u pp_is_heap_word (spF (c0 K tb lam mg) 2 f_is_heap_word) := by
  refine fn_ok rfl T.D_is_heap_word.F sc_is_heap_word rfl fun cdv A outer s H E hr => ?_
  have nd := sc_is_heap_word.nd
  have tk : L2N.Takes (cxOf (L2N.CX P w) P w K mg base nn_is_heap_word "is_heap_word" (defScope st_is_heap_word) T.D_is_heap_word.a cdv A outer s H E) (fun cls d _ H => ((c0 K tb lam mg).to E).W cls d H) := L2N.takes_of rfl rfl rfl rfl
  exact (ds_cons (ds_if (PW.pt (dw_or (dt_cmp rfl (hu65 hr) (de_nm (pv 1)) (de_cst pe_non fun _ _ => .non) (nomark _)) (dw_or1 (dt_val rfl (de_trim (de_call tk (ok_is_address T tb lam) (hr.mono (by decide)) (by rfl) T.D_is_address.m T.D_is_address.F.kp T.D_is_address.b (da_cons (de_nm (pv 0)) (da_cons (de_nm (pv 1)) da_nil)))))))) (ds_one (ds_ret (de_cst pe_bl fun _ _ => .bl _))) ds_nil)
      (ds_one (ds_ret (de_and (de_trim (de_call tk (ok_is_tuple_of T tb lam) (hr.mono (by decide)) (by rfl) T.D_is_tuple_of.m T.D_is_tuple_of.F.kp T.D_is_tuple_of.b (da_cons (de_nm (pv 1)) (da_cons (de_cst pe_int fun _ _ => .int _) (da_cons (de_cst pe_int fun _ _ => .int _) da_nil))))) (de_and (de_cmp rfl (hu65 hr) (de_callTy (cr_ty rfl) (by rfl) T.n_type (by decide +kernel) (da_cons (de_item rfl (hu1 hr) (de_nm (pv 1)) (de_cst pe_int fun _ _ => .int _)) da_nil)) (de_gty (by rfl) T.n_str (by decide +kernel)) (nomark _)) (de_and (de_cmp rfl (hu65 hr) (de_item rfl (hu1 hr) (de_nm (pv 1)) (de_cst pe_int fun _ _ => .int _)) (de_cst pe_str fun _ _ => .str _) (nomark _)) (pe_one (de_trim (de_call tk (ok_is_number T tb lam) (hr.mono (by decide)) (by rfl) T.D_is_number.m T.D_is_number.F.kp T.D_is_number.b (da_cons (de_item rfl (hu1 hr) (de_nm (pv 1)) (de_cst pe_int fun _ _ => .int _)) da_nil))))))))))
theorem ok_are_words (T : Top P w K mg) (tb : List (Addr × Str)) (lam : Nat → Addr → HO → Addr → HO → Prop) : FnOk P w K mg base (L2N.CX P w) 4 T.D_are_words.a T.D_are_words.u pp_are_words (spF (c0 K tb lam mg) 2 f_are_words) := by
  refine fn_ok rfl T.D_are_words.F sc_are_words rfl fun cdv A outer s H E hr => ?_
  have nd := sc_are_words.nd
  have tk : L2N.Takes (cxOf (L2N.CX P w) P w K mg base nn_are_words "are_words" (defScope st_are_words) T.D_are_words.a cdv A outer s H E) (fun cls d _ H => ((c0 K tb lam mg).to E).W cls d H) := L2N.takes_of rfl rfl rfl rfl
  exact (ds_one (ds_ret (de_and (de_trim (de_call tk (ok_is_tuple_of T tb lam) (hr.mono (by decide)) (by rfl) T.D_is_tuple_of.m T.D_is_tuple_of.F.kp T.D_is_tuple_of.b (da_cons (de_nm (pv 1)) (da_cons (de_cst pe_int fun _ _ => .int _) (da_cons (de_gint (by rfl) T.c_MOST_WORDS) da_nil))))) (pe_one (de_callB (cr_allD rfl rfl) (by rfl) T.n_all (by decide +kernel) (da_cons (de_lc rfl rfl nd (dp_any rfl (de_nm (pv 1))) (blkOk_by (own := [("word", 2)]) (N := nn_are_words) (sc := defScope st_are_words) (by decide +kernel)) (by decide) (fun _ _ _ _ _ => pg_name (i := 2) nd rfl (Or.inl rfl)) (fun _ _ _ _ _ => dpts_nil) (fun _ _ _ _ _ => (de_trim (de_callN (ok_is_heap_word T tb lam) (hr.mono (by decide)) (by rfl) T.D_is_heap_word.m T.D_is_heap_word.F.kp T.D_is_heap_word.b (da_cons (de_nm (pv 0)) (da_cons (de_nm (pv 2)) da_nil)))))) da_nil))))))
theorem ok_is_cell (T : Top P w K mg) (tb : List (Addr × Str)) (lam : Nat → Addr → HO → Addr → HO → Prop) : FnOk P w K mg base (L2N.CX P w) 5 T.D_is_cell.a T.D_is_cell.u pp_is_cell (spF (c0 K tb lam mg) 2 f_is_cell) := by
  refine fn_ok rfl T.D_is_cell.F sc_is_cell rfl fun cdv A outer s H E hr => ?_
  have nd := sc_is_cell.nd
  have tk : L2N.Takes (cxOf (L2N.CX P w) P w K mg base nn_is_cell "is_cell" (defScope st_is_cell) T.D_is_cell.a cdv A outer s H E) (fun cls d _ H => ((c0 K tb lam mg).to E).W cls d H) := L2N.takes_of rfl rfl rfl rfl
  exact (ds_one (ds_ret (de_and (de_trim (de_call tk (ok_is_tuple_of T tb lam) (hr.mono (by decide)) (by rfl) T.D_is_tuple_of.m T.D_is_tuple_of.F.kp T.D_is_tuple_of.b (da_cons (de_nm (pv 1)) (da_cons (de_cst pe_int fun _ _ => .int _) (da_cons (de_cst pe_int fun _ _ => .int _) da_nil))))) (de_and (de_trim (de_call tk (ok_begins_with_word T tb lam) (hr.mono (by decide)) (by rfl) T.D_begins_with_word.m T.D_begins_with_word.F.kp T.D_begins_with_word.b (da_cons (de_item rfl (hu1 hr) (de_nm (pv 1)) (de_cst pe_int fun _ _ => .int _)) da_nil))) (pe_one (de_trim (de_call tk (ok_are_words T tb lam) (hr.mono (by decide)) (by rfl) T.D_are_words.m T.D_are_words.F.kp T.D_are_words.b (da_cons (de_nm (pv 0)) (da_cons (de_item rfl (hu1 hr) (de_nm (pv 1)) (de_cst pe_int fun _ _ => .int _)) da_nil)))))))))
theorem ok_fits_heap (T : Top P w K mg) (tb : List (Addr × Str)) (lam : Nat → Addr → HO → Addr → HO → Prop) : FnOk P w K mg base (L2N.CX P w) 6 T.D_fits_heap.a T.D_fits_heap.u pp_fits_heap (spF (c0 K tb lam mg) 1 f_fits_heap) := by
  refine fn_ok rfl T.D_fits_heap.F sc_fits_heap rfl fun cdv A outer s H E hr => ?_
  have nd := sc_fits_heap.nd
  have tk : L2N.Takes (cxOf (L2N.CX P w) P w K mg base nn_fits_heap "fits_heap" (defScope st_fits_heap) T.D_fits_heap.a cdv A outer s H E) (fun cls d _ H => ((c0 K tb lam mg).to E).W cls d H) := L2N.takes_of rfl rfl rfl rfl
  exact (ds_cons (ds_if (dt_not (dt_val rfl (de_trim (de_call tk (ok_is_tuple_of T tb lam) (hr.mono (by decide)) (by rfl) T.D_is_tuple_of.m T.D_is_tuple_of.F.kp T.D_is_tuple_of.b (da_cons (de_nm (pv 0)) (da_cons (de_cst pe_int fun _ _ => .int _) (da_cons (de_gint (by rfl) T.c_MOST_ITEMS) da_nil))))))) (ds_one (ds_ret (de_cst pe_bl fun _ _ => .bl _))) ds_nil)
      (ds_one (ds_ret (de_callB (cr_allD rfl rfl) (by rfl) T.n_all (by decide +kernel) (da_cons (de_lc rfl rfl nd (dp_any rfl (de_nm (pv 0))) (blkOk_by (own := [("item", 1)]) (N := nn_fits_heap) (sc := defScope st_fits_heap) (by decide +kernel)) (by decide) (fun _ _ _ _ _ => pg_name (i := 1) nd rfl (Or.inl rfl)) (fun _ _ _ _ _ => dpts_nil) (fun _ _ _ _ _ => (de_or (de_cmp rfl (hu65 hr) (de_nm (pv 1)) (de_cst pe_non fun _ _ => .non) (nomark _)) (pe_one (de_trim (de_callN (ok_is_cell T tb lam) (hr.mono (by decide)) (by rfl) T.D_is_cell.m T.D_is_cell.F.kp T.D_is_cell.b (da_cons (de_nm (pv 0)) (da_cons (de_nm (pv 1)) da_nil)))))))) da_nil)))))
theorem ok_check_heap (T : Top P w K mg) (tb : List (Addr × Str)) (lam : Nat → Addr → HO → Addr → HO → Prop) : FnOk P w K mg base (L2N.CX P w) 7 T.D_check_heap.a T.D_check_heap.u pp_check_heap (spF (c0 K tb lam mg) 1 f_check_heap) := by
  refine fn_ok rfl T.D_check_heap.F sc_check_heap rfl fun cdv A outer s H E hr => ?_
  have nd := sc_check_heap.nd
  have tk : L2N.Takes (cxOf (L2N.CX P w) P w K mg base nn_check_heap "check_heap" (defScope st_check_heap) T.D_check_heap.a cdv A outer s H E) (fun cls d _ H => ((c0 K tb lam mg).to E).W cls d H) := L2N.takes_of rfl rfl rfl rfl
  exact (ds_one (ds_if (dt_not (dt_val rfl (de_trim (de_call tk (ok_fits_heap T tb lam) (hr.mono (by decide)) (by rfl) T.D_fits_heap.m T.D_fits_heap.F.kp T.D_fits_heap.b (da_cons (de_nm (pv 0)) da_nil))))) (ds_one (ds_raise rfl tk T.C_InvalidHeap.m (L2N.pmk_own PySem.F.excBase_ValueError T.C_InvalidHeap.x T.C_InvalidHeap.m T.C_InvalidHeap.k (raises_own T.C_InvalidHeap.s T.C_InvalidHeap.t) (by rfl)))) ds_nil))
theorem ok_check_roots (T : Top P w K mg) (tb : List (Addr × Str)) (lam : Nat → Addr → HO → Addr → HO → Prop) : FnOk P w K mg base (L2N.CX P w) 5 T.D_check_roots.a T.D_check_roots.u pp_check_roots (spF (c0 K tb lam mg) 2 f_check_roots) := by
  refine fn_ok rfl T.D_check_roots.F sc_check_roots rfl fun cdv A outer s H E hr => ?_
  have nd := sc_check_roots.nd
  have tk : L2N.Takes (cxOf (L2N.CX P w) P w K mg base nn_check_roots "check_roots" (defScope st_check_roots) T.D_check_roots.a cdv A outer s H E) (fun cls d _ H => ((c0 K tb lam mg).to E).W cls d H) := L2N.takes_of rfl rfl rfl rfl
  exact (ds_one (ds_if (dt_not (dt_val rfl (de_trim (de_call tk (ok_are_words T tb lam) (hr.mono (by decide)) (by rfl) T.D_are_words.m T.D_are_words.F.kp T.D_are_words.b (da_cons (de_nm (pv 0)) (da_cons (de_nm (pv 1)) da_nil)))))) (ds_one (ds_raise rfl tk T.C_InvalidRoots.m (L2N.pmk_own PySem.F.excBase_ValueError T.C_InvalidRoots.x T.C_InvalidRoots.m T.C_InvalidRoots.k (raises_own T.C_InvalidRoots.s T.C_InvalidRoots.t) (by rfl)))) ds_nil))
theorem ok_addresses_in (T : Top P w K mg) (tb : List (Addr × Str)) (lam : Nat → Addr → HO → Addr → HO → Prop) : FnOk P w K mg base (L2N.CX P w) 1 T.D_addresses_in.a T.D_addresses_in.u pp_addresses_in (spF (c0 K tb lam mg) 1 f_addresses_in) := by
  refine fn_ok rfl T.D_addresses_in.F sc_addresses_in rfl fun cdv A outer s H E hr => ?_
  have nd := sc_addresses_in.nd
  have tk : L2N.Takes (cxOf (L2N.CX P w) P w K mg base nn_addresses_in "addresses_in" (defScope st_addresses_in) T.D_addresses_in.a cdv A outer s H E) (fun cls d _ H => ((c0 K tb lam mg).to E).W cls d H) := L2N.takes_of rfl rfl rfl rfl
  exact (ds_one (ds_ret (de_lc rfl rfl nd (dp_any rfl (de_nm (pv 0))) (blkOk_by (own := [("word", 1)]) (N := nn_addresses_in) (sc := defScope st_addresses_in) (by decide +kernel)) (by decide) (fun _ _ _ _ _ => pg_name (i := 1) nd rfl (Or.inl rfl)) (fun _ _ _ _ _ => (pts_one (dt_cmp rfl (hu65 hr) (de_callTy (cr_ty rfl) (by rfl) T.n_type (by decide +kernel) (da_cons (de_nm (pv 1)) da_nil)) (de_gty (by rfl) T.n_int (by decide +kernel)) (nomark _)))) (fun _ _ _ _ _ => (de_nm (pv 1))))))
theorem ok_reached_from (T : Top P w K mg) (tb : List (Addr × Str)) (lam : Nat → Addr → HO → Addr → HO → Prop) : FnOk P w K mg base (L2N.CX P w) 8 T.D_reached_from.a T.D_reached_from.u pp_reached_from (spF (c0 K tb lam mg) 2 f_reached_from) := by
  refine fn_ok rfl T.D_reached_from.F sc_reached_from rfl fun cdv A outer s H E hr => ?_
  have nd := sc_reached_from.nd
  have tk : L2N.Takes (cxOf (L2N.CX P w) P w K mg base nn_reached_from "reached_from" (defScope st_reached_from) T.D_reached_from.a cdv A outer s H E) (fun cls d _ H => ((c0 K tb lam mg).to E).W cls d H) := L2N.takes_of rfl rfl rfl rfl
  exact (ds_cons (ds_expr (de_trim (de_call tk (ok_check_heap T tb lam) (hr.mono (by decide)) (by rfl) T.D_check_heap.m T.D_check_heap.F.kp T.D_check_heap.b (da_cons (de_nm (pv 0)) da_nil))))
      (ds_cons (ds_expr (de_trim (de_call tk (ok_check_roots T tb lam) (hr.mono (by decide)) (by rfl) T.D_check_roots.m T.D_check_roots.F.kp T.D_check_roots.b (da_cons (de_nm (pv 0)) (da_cons (de_nm (pv 1)) da_nil)))))
      (ds_cons (ds_set (ps_asg (de_dk0 rfl) (dg_nm (pg_name (i := 2) nd rfl (Or.inl rfl)))))
      (ds_cons (ds_set (ps_asg (de_call tk (ok_addresses_in T tb lam) (hr.mono (by decide)) (by rfl) T.D_addresses_in.m T.D_addresses_in.F.kp T.D_addresses_in.b (da_cons (de_nm (pv 1)) da_nil)) (dg_nm (pg_name (i := 3) nd rfl (Or.inl rfl)))))
      (ds_cons (ds_while (n := 100000) (passes_of rfl) (dt_val rfl (de_nm (pv 3))) (dss_trimW (ds_cons (ds_set (ps_asg (de_meth0 rfl PySem.F.plainAttrs_list PySem.F.slot_list_pop PySem.F.type_list_pop (mr_pop rfl) (de_nm (pv 3))) (dg_nm (pg_name (i := 4) nd rfl (Or.inl rfl)))))
      (ds_one (ds_if (dt_cmp rfl (hu65 hr) (de_nm (pv 4)) (de_nm (pv 2)) (by rfl)) (ds_cons (ds_put rfl (hu1 hr) (de_nm (pv 2)) (de_nm (pv 4)) (de_cst pe_bl fun _ _ => .bl _))
      (ds_one (ds_expr (de_meth rfl PySem.F.plainAttrs_list PySem.F.slot_list_extend PySem.F.type_list_extend (mr_extend rfl) (de_nm (pv 3)) (da_cons (de_call tk (ok_addresses_in T tb lam) (hr.mono (by decide)) (by rfl) T.D_addresses_in.m T.D_addresses_in.F.kp T.D_addresses_in.b (da_cons (de_item rfl (hu1 hr) (de_item rfl (hu1 hr) (de_nm (pv 0)) (de_nm (pv 4))) (de_cst pe_int fun _ _ => .int _)) da_nil)) da_nil))))) ds_nil)))))
      (ds_one (ds_ret (de_callB (PyK.cr_sortID rfl rfl) (by rfl) T.n_sorted (by decide +kernel) (da_cons (de_nm (pv 2)) da_nil)))))))))
theorem ok_counts_in (T : Top P w K mg) (tb : List (Addr × Str)) (lam : Nat → Addr → HO → Addr → HO → Prop) : FnOk P w K mg base (L2N.CX P w) 8 T.D_counts_in.a T.D_counts_in.u pp_counts_in (spF (c0 K tb lam mg) 2 f_counts_in) := by
  refine fn_ok rfl T.D_counts_in.F sc_counts_in rfl fun cdv A outer s H E hr => ?_
  have nd := sc_counts_in.nd
  have tk : L2N.Takes (cxOf (L2N.CX P w) P w K mg base nn_counts_in "counts_in" (defScope st_counts_in) T.D_counts_in.a cdv A outer s H E) (fun cls d _ H => ((c0 K tb lam mg).to E).W cls d H) := L2N.takes_of rfl rfl rfl rfl
  exact (ds_cons (ds_expr (de_trim (de_call tk (ok_check_heap T tb lam) (hr.mono (by decide)) (by rfl) T.D_check_heap.m T.D_check_heap.F.kp T.D_check_heap.b (da_cons (de_nm (pv 0)) da_nil))))
      (ds_cons (ds_expr (de_trim (de_call tk (ok_check_roots T tb lam) (hr.mono (by decide)) (by rfl) T.D_check_roots.m T.D_check_roots.F.kp T.D_check_roots.b (da_cons (de_nm (pv 0)) (da_cons (de_nm (pv 1)) da_nil)))))
      (ds_cons (ds_set (ps_asg (de_bin rfl (de_lst (da_cons (de_cst pe_int fun _ _ => .int _) da_nil)) (de_callB (cr_len rfl) (by rfl) T.n_len PySem.boot_len (da_cons (de_nm (pv 0)) da_nil))) (dg_nm (pg_name (i := 2) nd rfl (Or.inl rfl)))))
      (ds_cons (ds_for (n := 100000) (passes_of rfl) rfl (dp_any rfl (de_bin rfl (de_lst (da_cons (de_nm (pv 1)) da_nil)) (de_lc rfl rfl nd (dp_any rfl (de_nm (pv 0))) (blkOk_by (own := [("cell", 6)]) (N := nn_counts_in) (sc := defScope st_counts_in) (by decide +kernel)) (by decide) (fun _ _ _ _ _ => pg_name (i := 6) nd rfl (Or.inl rfl)) (fun _ _ _ _ _ => (pts_one (dt_cmp rfl (hu65 hr) (de_nm (pv 6)) (de_cst pe_non fun _ _ => .non) (nomark _)))) (fun _ _ _ _ _ => (de_item rfl (hu1 hr) (de_nm (pv 6)) (de_cst pe_int fun _ _ => .int _)))))) (dg_nm (pg_name (i := 3) nd rfl (Or.inl rfl))) (dss_trimW (ds_one (ds_for (n := 100000) (passes_of rfl) rfl (dp_any rfl (de_call tk (ok_addresses_in T tb lam) (hr.mono (by decide)) (by rfl) T.D_addresses_in.m T.D_addresses_in.F.kp T.D_addresses_in.b (da_cons (de_nm (pv 3)) da_nil))) (dg_nm (pg_name (i := 4) nd rfl (Or.inl rfl))) (dss_trimW (ds_one (ds_put rfl (hu1 hr) (de_nm (pv 2)) (de_nm (pv 4)) (de_bin rfl (de_item rfl (hu1 hr) (de_nm (pv 2)) (de_nm (pv 4))) (de_cst pe_int fun _ _ => .int _)))))))))
      (ds_cons (ds_set (ps_asg (de_lst da_nil) (dg_nm (pg_name (i := 5) nd rfl (Or.inl rfl)))))
      (ds_cons (ds_for (n := 100000) (passes_of rfl) rfl (PyK.dp_zipM rfl (by rfl) T.n_zip (da_cons (de_nm (pv 0)) (da_cons (de_nm (pv 2)) da_nil))) (dg_tup rfl rfl (dgs_cons (dg_nm (pg_name (i := 6) nd rfl (Or.inl rfl))) (dgs_cons (dg_nm (pg_name (i := 7) nd rfl (Or.inl rfl))) dgs_nil))) (dss_trimW (ds_one (ds_if (dt_cmp rfl (hu65 hr) (de_nm (pv 6)) (de_cst pe_non fun _ _ => .non) (nomark _)) (ds_one (ds_expr (de_meth rfl PySem.F.plainAttrs_list PySem.F.slot_list_append PySem.F.type_list_append (mr_append rfl) (de_nm (pv 5)) (da_cons (de_cst pe_non fun _ _ => .non) da_nil)))) (ds_one (ds_expr (de_meth rfl PySem.F.plainAttrs_list PySem.F.slot_list_append PySem.F.type_list_append (mr_append rfl) (de_nm (pv 5)) (da_cons (de_nm (pv 7)) da_nil))))))))
      (ds_one (ds_ret (de_callTy (cr_tuple rfl) (by rfl) T.n_tuple (by decide +kernel) (da_cons (de_nm (pv 5)) da_nil))))))))))
theorem ok_is_heap (T : Top P w K mg) (tb : List (Addr × Str)) (lam : Nat → Addr → HO → Addr → HO → Prop) : FnOk P w K mg base (L2N.CX P w) 7 T.D_is_heap.a T.D_is_heap.u pp_is_heap (spF (c0 K tb lam mg) 1 f_is_heap) := by
  refine fn_ok rfl T.D_is_heap.F sc_is_heap rfl fun cdv A outer s H E hr => ?_
  have nd := sc_is_heap.nd
  have tk : L2N.Takes (cxOf (L2N.CX P w) P w K mg base nn_is_heap "is_heap" (defScope st_is_heap) T.D_is_heap.a cdv A outer s H E) (fun cls d _ H => ((c0 K tb lam mg).to E).W cls d H) := L2N.takes_of rfl rfl rfl rfl
  exact (ds_one (ds_ret (de_trim (de_call tk (ok_fits_heap T tb lam) (hr.mono (by decide)) (by rfl) T.D_fits_heap.m T.D_fits_heap.F.kp T.D_fits_heap.b (da_cons (de_nm (pv 0)) da_nil)))))
theorem ok_are_roots (T : Top P w K mg) (tb : List (Addr × Str)) (lam : Nat → Addr → HO → Addr → HO → Prop) : FnOk P w K mg base (L2N.CX P w) 8 T.D_are_roots.a T.D_are_roots.u pp_are_roots (spF (c0 K tb lam mg) 2 f_are_roots) := by
  refine fn_ok rfl T.D_are_roots.F sc_are_roots rfl fun cdv A outer s H E hr => ?_
  have nd := sc_are_roots.nd
  have tk : L2N.Takes (cxOf (L2N.CX P w) P w K mg base nn_are_roots "are_roots" (defScope st_are_roots) T.D_are_roots.a cdv A outer s H E) (fun cls d _ H => ((c0 K tb lam mg).to E).W cls d H) := L2N.takes_of rfl rfl rfl rfl
  exact (ds_cons (ds_expr (de_trim (de_call tk (ok_check_heap T tb lam) (hr.mono (by decide)) (by rfl) T.D_check_heap.m T.D_check_heap.F.kp T.D_check_heap.b (da_cons (de_nm (pv 0)) da_nil))))
      (ds_one (ds_ret (de_trim (de_call tk (ok_are_words T tb lam) (hr.mono (by decide)) (by rfl) T.D_are_words.m T.D_are_words.F.kp T.D_are_words.b (da_cons (de_nm (pv 0)) (da_cons (de_nm (pv 1)) da_nil)))))))
theorem ok__law_bent (T : Top P w K mg) (tb : List (Addr × Str)) (lam : Nat → Addr → HO → Addr → HO → Prop) : FnOk P w K mg base (L2N.CX P w) 3 T.D__law_bent.a T.D__law_bent.u pp__law_bent (spF (c0 K tb lam mg) 2 f__law_bent) := by
  refine fn_ok rfl T.D__law_bent.F sc__law_bent rfl fun cdv A outer s H E hr => ?_
  have nd := sc__law_bent.nd
  have tk : L2N.Takes (cxOf (L2N.CX P w) P w K mg base nn__law_bent "_law_bent" (defScope st__law_bent) T.D__law_bent.a cdv A outer s H E) (fun cls d _ H => ((c0 K tb lam mg).to E).W cls d H) := L2N.takes_of rfl rfl rfl rfl
  exact (ds_cons (PyK.ds_par (i := 2) (j := 3) rfl nd rfl rfl (by decide) rfl rfl (da_cons (de_call tk (ok__law_roll T tb lam) (hr.mono (by decide)) (by rfl) T.D__law_roll.m T.D__law_roll.F.kp T.D__law_roll.b (da_cons (de_nm (pv 0)) (da_cons (de_callB (cr_len rfl) (by rfl) T.n_len PySem.boot_len (da_cons (de_nm (pv 1)) da_nil)) da_nil))) (da_cons (de_call tk (ok__law_some T tb lam) (hr.mono (by decide)) (by rfl) T.D__law_some.m T.D__law_some.F.kp T.D__law_some.b (da_cons (de_nm (pv 0)) (da_cons (de_lst (da_cons (de_cst pe_non fun _ _ => .non) (da_cons (de_cst pe_bl fun _ _ => .bl _) (da_cons (de_neg rfl (de_cst pe_int fun _ _ => .int _)) (da_cons (de_callB (cr_len rfl) (by rfl) T.n_len PySem.boot_len (da_cons (de_nm (pv 1)) da_nil)) (da_cons (de_cst pe_int fun _ _ => .int _) (da_cons (de_cst pe_str fun _ _ => .str _) (da_cons (de_tup (da_cons (de_cst pe_str fun _ _ => .str _) (da_cons (de_cst pe_bl fun _ _ => .bl _) da_nil))) (da_cons (de_tup (da_cons (de_cst pe_str fun _ _ => .str _) (da_cons (de_cst pe_int fun _ _ => .int _) da_nil))) (da_cons (de_tup (da_cons (de_cst pe_str fun _ _ => .str _) (da_cons (de_bin rfl (de_bin rfl (de_cst pe_int fun _ _ => .int _) (de_cst pe_int fun _ _ => .int _)) (de_cst pe_int fun _ _ => .int _)) da_nil))) (da_cons (de_lst (da_cons (de_cst pe_int fun _ _ => .int _) da_nil)) (da_cons (de_tup (da_cons (de_cst pe_int fun _ _ => .int _) da_nil)) (da_cons (de_tup (da_cons (de_cst pe_str fun _ _ => .str _) da_nil)) da_nil))))))))))))) da_nil))) da_nil)))
      (ds_cons (ds_set (ps_asg (de_ifE (dt_cmp rfl (hu65 hr) (de_item rfl (hu1 hr) (de_nm (pv 1)) (de_nm (pv 2))) (de_cst pe_non fun _ _ => .non) (nomark _)) (de_item rfl (hu1 hr) (de_nm (pv 1)) (de_nm (pv 2))) (de_tup (da_cons (de_tup (da_cons (de_cst pe_str fun _ _ => .str _) da_nil)) (da_cons (de_tup da_nil) da_nil)))) (dg_tup rfl rfl (dgs_cons (dg_nm (pg_name (i := 4) nd rfl (Or.inl rfl))) (dgs_cons (dg_nm (pg_name (i := 5) nd rfl (Or.inl rfl))) dgs_nil)))))
      (ds_cons (ds_set (ps_asg (de_lst (da_cons (de_tup (da_cons (de_nm (pv 4)) (da_cons (de_bin rfl (de_nm (pv 5)) (de_tup (da_cons (de_nm (pv 3)) da_nil))) da_nil))) (da_cons (de_tup (da_cons (de_nm (pv 4)) (da_cons (de_callTy (cr_list rfl) (by rfl) T.n_list (by decide +kernel) (da_cons (de_nm (pv 5)) da_nil)) da_nil))) (da_cons (de_tup (da_cons (de_callTy (cr_list rfl) (by rfl) T.n_list (by decide +kernel) (da_cons (de_nm (pv 4)) da_nil)) (da_cons (de_nm (pv 5)) da_nil))) (da_cons (de_tup (da_cons (de_tup da_nil) (da_cons (de_nm (pv 5)) da_nil))) (da_cons (de_tup (da_cons (de_tup (da_cons (de_nm (pv 3)) da_nil)) (da_cons (de_nm (pv 5)) da_nil))) (da_cons (de_tup (da_cons (de_nm (pv 4)) da_nil)) (da_cons (de_nm (pv 3)) da_nil)))))))) (dg_nm (pg_name (i := 6) nd rfl (Or.inl rfl)))))
      (ds_cons (ds_set (ps_asg (de_bin rfl (de_nm (pv 6)) (de_lst (da_cons (de_tup (da_cons (de_bin rfl (de_nm (pv 4)) (de_tup (da_cons (de_nm (pv 3)) da_nil))) (da_cons (de_nm (pv 5)) da_nil))) (da_cons (de_tup (da_cons (de_nm (pv 4)) (da_cons (de_bin rfl (de_nm (pv 5)) (de_bin rfl (de_tup (da_cons (de_cst pe_int fun _ _ => .int _) da_nil)) (de_cst pe_int fun _ _ => .int _))) da_nil))) (da_cons (de_tup (da_cons (de_nm (pv 4)) (da_cons (de_tup da_nil) da_nil))) (da_cons (de_cst pe_non fun _ _ => .non) da_nil)))))) (dg_nm (pg_name (i := 6) nd rfl (Or.inl rfl)))))
      (ds_cons (ds_set (ps_asg (de_bin rfl (de_bin rfl (de_slice rfl (de_nm (pv 1)) dp_none (dp_some (de_nm (pv 2)))) (de_tup (da_cons (de_call tk (ok__law_some T tb lam) (hr.mono (by decide)) (by rfl) T.D__law_some.m T.D__law_some.F.kp T.D__law_some.b (da_cons (de_nm (pv 0)) (da_cons (de_nm (pv 6)) da_nil))) da_nil))) (de_slice rfl (de_nm (pv 1)) (dp_some (de_bin rfl (de_nm (pv 2)) (de_cst pe_int fun _ _ => .int _))) dp_none)) (dg_nm (pg_name (i := 7) nd rfl (Or.inl rfl)))))
      (ds_one (ds_ret (de_call tk (ok__law_some T tb lam) (hr.mono (by decide)) (by rfl) T.D__law_some.m T.D__law_some.F.kp T.D__law_some.b (da_cons (de_nm (pv 0)) (da_cons (de_lst (da_cons (de_nm (pv 7)) (da_cons (de_nm (pv 7)) (da_cons (de_nm (pv 7)) (da_cons (de_nm (pv 7)) (da_cons (de_callTy (cr_list rfl) (by rfl) T.n_list (by decide +kernel) (da_cons (de_nm (pv 1)) da_nil)) (da_cons (de_slice rfl (de_nm (pv 1)) dp_none (dp_some (de_nm (pv 2)))) (da_cons (de_bin rfl (de_nm (pv 1)) (de_bin rfl (de_tup (da_cons (de_cst pe_non fun _ _ => .non) da_nil)) (de_call tk (ok__law_some T tb lam) (hr.mono (by decide)) (by rfl) T.D__law_some.m T.D__law_some.F.kp T.D__law_some.b (da_cons (de_nm (pv 0)) (da_cons (de_lst (da_cons (de_cst pe_int fun _ _ => .int _) (da_cons (de_cst pe_int fun _ _ => .int _) (da_cons (de_cst pe_int fun _ _ => .int _) da_nil)))) da_nil))))) (da_cons (de_nm (pv 3)) da_nil))))))))) da_nil))))))))))
theorem ok__law_is_whole (T : Top P w K mg) (tb : List (Addr × Str)) (lam : Nat → Addr → HO → Addr → HO → Prop) : FnOk P w K mg base (L2N.CX P w) 1 T.D__law_is_whole.a T.D__law_is_whole.u pp__law_is_whole (spF (c0 K tb lam mg) 3 f__law_is_whole) := by
  refine fn_ok rfl T.D__law_is_whole.F sc__law_is_whole rfl fun cdv A outer s H E hr => ?_
  have nd := sc__law_is_whole.nd
  have tk : L2N.Takes (cxOf (L2N.CX P w) P w K mg base nn__law_is_whole "_law_is_whole" (defScope st__law_is_whole) T.D__law_is_whole.a cdv A outer s H E) (fun cls d _ H => ((c0 K tb lam mg).to E).W cls d H) := L2N.takes_of rfl rfl rfl rfl
  exact (ds_one (ds_ret (de_and (de_callB (PyK.cr_isi rfl) (by rfl) T.n_isinstance (by decide +kernel) (da_cons (de_nm (pv 0)) (da_cons (de_gty (by rfl) T.n_int (by decide +kernel)) da_nil))) (de_and (de_not (de_callB (PyK.cr_isi rfl) (by rfl) T.n_isinstance (by decide +kernel) (da_cons (de_nm (pv 0)) (da_cons (de_gty (by rfl) T.n_bool (by decide +kernel)) da_nil)))) (pe_one (de_chain rfl (hu65 hr) (de_nm (pv 1)) (de_nm (pv 0)) (de_nm (pv 2))))))))
theorem ok__law_is_word (T : Top P w K mg) (tb : List (Addr × Str)) (lam : Nat → Addr → HO → Addr → HO → Prop) : FnOk P w K mg base (L2N.CX P w) 2 T.D__law_is_word.a T.D__law_is_word.u pp__law_is_word (spF (c0 K tb lam mg) 2 f__law_is_word) := by
  refine fn_ok rfl T.D__law_is_word.F sc__law_is_word rfl fun cdv A outer s H E hr => ?_
  have nd := sc__law_is_word.nd
  have tk : L2N.Takes (cxOf (L2N.CX P w) P w K mg base nn__law_is_word "_law_is_word" (defScope st__law_is_word) T.D__law_is_word.a cdv A outer s H E) (fun cls d _ H => ((c0 K tb lam mg).to E).W cls d H) := L2N.takes_of rfl rfl rfl rfl
  exact (ds_cons (ds_if (dt_val rfl (de_callB (PyK.cr_isi rfl) (by rfl) T.n_isinstance (by decide +kernel) (da_cons (de_nm (pv 1)) (da_cons (de_gty (by rfl) T.n_tuple (by decide +kernel)) da_nil)))) (ds_one (ds_ret (de_and (de_cmp rfl (hu65 hr) (de_callB (cr_len rfl) (by rfl) T.n_len PySem.boot_len (da_cons (de_nm (pv 1)) da_nil)) (de_cst pe_int fun _ _ => .int _) (nomark _)) (de_and (de_cmp rfl (hu65 hr) (de_item rfl (hu1 hr) (de_nm (pv 1)) (de_cst pe_int fun _ _ => .int _)) (de_cst pe_str fun _ _ => .str _) (nomark _)) (pe_one (de_trim (de_call tk (ok__law_is_whole T tb lam) (hr.mono (by decide)) (by rfl) T.D__law_is_whole.m T.D__law_is_whole.F.kp T.D__law_is_whole.b (da_cons (de_item rfl (hu1 hr) (de_nm (pv 1)) (de_cst pe_int fun _ _ => .int _)) (da_cons (de_neg rfl (de_bin rfl (de_cst pe_int fun _ _ => .int _) (de_cst pe_int fun _ _ => .int _))) (da_cons (de_bin rfl (de_cst pe_int fun _ _ => .int _) (de_cst pe_int fun _ _ => .int _)) da_nil)))))))))) ds_nil)
      (ds_one (ds_ret (de_or (de_cmp rfl (hu65 hr) (de_nm (pv 1)) (de_cst pe_non fun _ _ => .non) (nomark _)) (pe_one (de_and (de_trim (de_call tk (ok__law_is_whole T tb lam) (hr.mono (by decide)) (by rfl) T.D__law_is_whole.m T.D__law_is_whole.F.kp T.D__law_is_whole.b (da_cons (de_nm (pv 1)) (da_cons (de_cst pe_int fun _ _ => .int _) (da_cons (de_bin rfl (de_callB (cr_len rfl) (by rfl) T.n_len PySem.boot_len (da_cons (de_nm (pv 0)) da_nil)) (de_cst pe_int fun _ _ => .int _)) da_nil))))) (pe_one (de_cmp rfl (hu65 hr) (de_item rfl (hu1 hr) (de_nm (pv 0)) (de_nm (pv 1))) (de_cst pe_non fun _ _ => .non) (nomark _)))))))))
theorem ok__law_are_words (T : Top P w K mg) (tb : List (Addr × Str)) (lam : Nat → Addr → HO → Addr → HO → Prop) : FnOk P w K mg base (L2N.CX P w) 3 T.D__law_are_words.a T.D__law_are_words.u pp__law_are_words (spF (c0 K tb lam mg) 2 f__law_are_words) := by
  refine fn_ok rfl T.D__law_are_words.F sc__law_are_words rfl fun cdv A outer s H E hr => ?_
  have nd := sc__law_are_words.nd
  have tk : L2N.Takes (cxOf (L2N.CX P w) P w K mg base nn__law_are_words "_law_are_words" (defScope st__law_are_words) T.D__law_are_words.a cdv A outer s H E) (fun cls d _ H => ((c0 K tb lam mg).to E).W cls d H) := L2N.takes_of rfl rfl rfl rfl
  exact (ds_cons (ds_if (PW.pt (dw_or (dt_not (dt_val rfl (de_callB (PyK.cr_isi rfl) (by rfl) T.n_isinstance (by decide +kernel) (da_cons (de_nm (pv 1)) (da_cons (de_gty (by rfl) T.n_tuple (by decide +kernel)) da_nil))))) (dw_or1 (dt_cmp rfl (hu65 hr) (de_callB (cr_len rfl) (by rfl) T.n_len PySem.boot_len (da_cons (de_nm (pv 1)) da_nil)) (de_cst pe_int fun _ _ => .int _) (nomark _))))) (ds_one (ds_ret (de_cst pe_bl fun _ _ => .bl _))) ds_nil)
      (ds_one (ds_ret (de_cmp rfl (hu65 hr) (de_lc rfl rfl nd (dp_any rfl (de_nm (pv 1))) (blkOk_by (own := [("_law_word_here", 2)]) (N := nn__law_are_words) (sc := defScope st__law_are_words) (by decide +kernel)) (by decide) (fun _ _ _ _ _ => pg_name (i := 2) nd rfl (Or.inl rfl)) (fun _ _ _ _ _ => (pts_one (dt_not (dt_val rfl (de_trim (de_callN (ok__law_is_word T tb lam) (hr.mono (by decide)) (by rfl) T.D__law_is_word.m T.D__law_is_word.F.kp T.D__law_is_word.b (da_cons (de_nm (pv 0)) (da_cons (de_nm (pv 2)) da_nil)))))))) (fun _ _ _ _ _ => (de_nm (pv 2)))) (de_lst da_nil) (nomark _)))))
theorem ok__law_is_heap (T : Top P w K mg) (tb : List (Addr × Str)) (lam : Nat → Addr → HO → Addr → HO → Prop) : FnOk P w K mg base (L2N.CX P w) 4 T.D__law_is_heap.a T.D__law_is_heap.u pp__law_is_heap (spF (c0 K tb lam mg) 1 f__law_is_heap) := by
  refine fn_ok rfl T.D__law_is_heap.F sc__law_is_heap rfl fun cdv A outer s H E hr => ?_
  have nd := sc__law_is_heap.nd
  have tk : L2N.Takes (cxOf (L2N.CX P w) P w K mg base nn__law_is_heap "_law_is_heap" (defScope st__law_is_heap) T.D__law_is_heap.a cdv A outer s H E) (fun cls d _ H => ((c0 K tb lam mg).to E).W cls d H) := L2N.takes_of rfl rfl rfl rfl
  exact (ds_cons (ds_if (PW.pt (dw_or (dt_not (dt_val rfl (de_callB (PyK.cr_isi rfl) (by rfl) T.n_isinstance (by decide +kernel) (da_cons (de_nm (pv 0)) (da_cons (de_gty (by rfl) T.n_tuple (by decide +kernel)) da_nil))))) (dw_or1 (dt_cmp rfl (hu65 hr) (de_callB (cr_len rfl) (by rfl) T.n_len PySem.boot_len (da_cons (de_nm (pv 0)) da_nil)) (de_cst pe_int fun _ _ => .int _) (nomark _))))) (ds_one (ds_ret (de_cst pe_bl fun _ _ => .bl _))) ds_nil)
      (ds_cons (ds_for (n := 100000) (passes_of rfl) rfl (dp_any rfl (de_nm (pv 0))) (dg_nm (pg_name (i := 1) nd rfl (Or.inl rfl))) (dss_trimW (ds_one (ds_if (dt_cmp rfl (hu65 hr) (de_nm (pv 1)) (de_cst pe_non fun _ _ => .non) (nomark _)) (ds_cons (ds_if (PW.pt (dw_or (dt_not (dt_val rfl (de_callB (PyK.cr_isi rfl) (by rfl) T.n_isinstance (by decide +kernel) (da_cons (de_nm (pv 1)) (da_cons (de_gty (by rfl) T.n_tuple (by decide +kernel)) da_nil))))) (dw_or (dt_cmp rfl (hu65 hr) (de_callB (cr_len rfl) (by rfl) T.n_len PySem.boot_len (da_cons (de_nm (pv 1)) da_nil)) (de_cst pe_int fun _ _ => .int _) (nomark _)) (dw_or1 (dt_not (dt_val rfl (de_callB (PyK.cr_isi rfl) (by rfl) T.n_isinstance (by decide +kernel) (da_cons (de_item rfl (hu1 hr) (de_nm (pv 1)) (de_cst pe_int fun _ _ => .int _)) (da_cons (de_gty (by rfl) T.n_tuple (by decide +kernel)) da_nil))))))))) (ds_one (ds_ret (de_cst pe_bl fun _ _ => .bl _))) ds_nil)
      (ds_one (ds_if (PW.pt (dw_or (dt_cmp rfl (hu65 hr) (de_callB (cr_len rfl) (by rfl) T.n_len PySem.boot_len (da_cons (de_item rfl (hu1 hr) (de_nm (pv 1)) (de_cst pe_int fun _ _ => .int _)) da_nil)) (de_cst pe_int fun _ _ => .int _) (nomark _)) (dw_or (dt_not (dt_val rfl (de_callB (PyK.cr_isi rfl) (by rfl) T.n_isinstance (by decide +kernel) (da_cons (de_item rfl (hu1 hr) (de_item rfl (hu1 hr) (de_nm (pv 1)) (de_cst pe_int fun _ _ => .int _)) (de_cst pe_int fun _ _ => .int _)) (da_cons (de_gty (by rfl) T.n_str (by decide +kernel)) da_nil))))) (dw_or1 (dt_not (dt_val rfl (de_trim (de_call tk (ok__law_are_words T tb lam) (hr.mono (by decide)) (by rfl) T.D__law_are_words.m T.D__law_are_words.F.kp T.D__law_are_words.b (da_cons (de_nm (pv 0)) (da_cons (de_item rfl (hu1 hr) (de_nm (pv 1)) (de_cst pe_int fun _ _ => .int _)) da_nil)))))))))) (ds_one (ds_ret (de_cst pe_bl fun _ _ => .bl _))) ds_nil))) ds_nil))))
      (ds_one (ds_ret (de_cst pe_bl fun _ _ => .bl _)))))
theorem ok__law_truly (T : Top P w K mg) (tb : List (Addr × Str)) (lam : Nat → Addr → HO → Addr → HO → Prop) : FnOk P w K mg base (L2N.CX P w) 1 T.D__law_truly.a T.D__law_truly.u pp__law_truly (spF (c0 K tb lam mg) 2 f__law_truly) := by
  refine fn_ok rfl T.D__law_truly.F sc__law_truly rfl fun cdv A outer s H E hr => ?_
  have nd := sc__law_truly.nd
  have tk : L2N.Takes (cxOf (L2N.CX P w) P w K mg base nn__law_truly "_law_truly" (defScope st__law_truly) T.D__law_truly.a cdv A outer s H E) (fun cls d _ H => ((c0 K tb lam mg).to E).W cls d H) := L2N.takes_of rfl rfl rfl rfl
  exact (ds_one (ds_ret (de_and (de_callB (PyK.cr_isi rfl) (by rfl) T.n_isinstance (by decide +kernel) (da_cons (de_nm (pv 0)) (da_cons (de_gty (by rfl) T.n_bool (by decide +kernel)) da_nil))) (pe_one (de_cmp rfl (hu65 hr) (de_nm (pv 0)) (de_nm (pv 1)) (nomark _))))))
theorem hot__law_names (T : Top P w K mg) {tb : List (Addr × Str)} {lam : Nat → Addr → HO → Addr → HO → Prop} {sub : Str → Bool} {cdv : Value} {A : Around} {outer : List Env} {s : Shared} {H : Hp} {p : Addr × Obj} {C0 : Addr} {z : Option (Addr × Str)} {cls : Str}
    (hot : Hot1 A p) (cl : ExcC K C0) (zc : Zc (.ref C0) (z.map (·.1)) p.2) (fl : ∃ vs, p.2.data = .fields vs) (hX : XfC K C0) (hn : ∀ dx f, z = some (dx, f) → f = "limit") (hk_InvalidClearing : PySem.W.kitOne K (.ref C0) (.ref T.C_InvalidClearing.a) = some (sub "InvalidClearing")) (hk_InvalidAddress : PySem.W.kitOne K (.ref C0) (.ref T.C_InvalidAddress.a) = some (sub "InvalidAddress")) (hk_InvalidRoots : PySem.W.kitOne K (.ref C0) (.ref T.C_InvalidRoots.a) = some (sub "InvalidRoots")) (hk_InvalidHeap : PySem.W.kitOne K (.ref C0) (.ref T.C_InvalidHeap.a) = some (sub "InvalidHeap")) (hk_InvalidNumber : PySem.W.kitOne K (.ref C0) (.ref T.C_InvalidNumber.a) = some (sub "InvalidNumber")) (hk_InvalidProgram : PySem.W.kitOne K (.ref C0) (.ref T.C_InvalidProgram.a) = some (sub "InvalidProgram")) (hk_InvalidTree : PySem.W.kitOne K (.ref C0) (.ref T.C_InvalidTree.a) = some (sub "InvalidTree")) (hk_TooMany : PySem.W.kitOne K (.ref C0) (.ref T.C_TooMany.a) = some (sub "TooMany")) (hk_ValueError : PySem.W.kitOne K (.ref C0) (.type "ValueError") = some (sub "ValueError"))
    (hr : RoomH 0 (A.deeper (envOfC "_law_names" (defScope st__law_names) s.heap.objs.size T.D__law_names.a cdv))) :
    PSs (cxH C8.CX0 P w K mg base nn__law_names "_law_names" (defScope st__law_names) T.D__law_names.a cdv A outer s H C8.E0 p) (defBody st__law_names) (sS (cH K tb lam mg p z cls) (d__law_names sub)) := by
  have nd := sc__law_names.nd
  have hp : p ∈ (cxH C8.CX0 P w K mg base nn__law_names "_law_names" (defScope st__law_names) T.D__law_names.a cdv A outer s H C8.E0 p).pn := List.mem_singleton.mpr rfl
  have hE : ExAt (cxH C8.CX0 P w K mg base nn__law_names "_law_names" (defScope st__law_names) T.D__law_names.a cdv A outer s H C8.E0 p) (cH K tb lam mg p z cls) p C0 z cls := ⟨fun _ _ _ h => h, hp, cl, zc, fl⟩
  exact (ds_cons (ds_set (ps_asg (de_lst (da_cons (de_isex rfl hE (by rfl) T.n_isinstance (by rfl) T.C_InvalidHeap.m hk_InvalidHeap (de_nm (pv 0))) (da_cons (de_isex rfl hE (by rfl) T.n_isinstance (by rfl) T.C_InvalidRoots.m hk_InvalidRoots (de_nm (pv 0))) (da_cons (de_isex rfl hE (by rfl) T.n_isinstance (by rfl) T.C_InvalidAddress.m hk_InvalidAddress (de_nm (pv 0))) (da_cons (de_isex rfl hE (by rfl) T.n_isinstance (by rfl) T.C_InvalidClearing.m hk_InvalidClearing (de_nm (pv 0))) da_nil))))) (dg_nm (pg_name (i := 1) nd rfl (Or.inl rfl)))))
      (ds_cons (ds_set (ps_asg (de_bin rfl (de_nm (pv 1)) (de_lst (da_cons (de_isex rfl hE (by rfl) T.n_isinstance (by rfl) T.C_InvalidTree.m hk_InvalidTree (de_nm (pv 0))) (da_cons (de_isex rfl hE (by rfl) T.n_isinstance (by rfl) T.C_InvalidProgram.m hk_InvalidProgram (de_nm (pv 0))) (da_cons (de_isex rfl hE (by rfl) T.n_isinstance (by rfl) T.C_InvalidNumber.m hk_InvalidNumber (de_nm (pv 0))) da_nil))))) (dg_nm (pg_name (i := 1) nd rfl (Or.inl rfl)))))
      (ds_cons (ds_set (ps_asg (de_bin rfl (de_nm (pv 1)) (de_lst (da_cons (de_isex rfl hE (by rfl) T.n_isinstance (by rfl) T.C_TooMany.m hk_TooMany (de_nm (pv 0))) (da_cons (de_isexT rfl hE (by rfl) T.n_isinstance (by rfl) T.n_ValueError (by decide +kernel) hk_ValueError (de_nm (pv 0))) da_nil)))) (dg_nm (pg_name (i := 1) nd rfl (Or.inl rfl)))))
      (ds_cons (ds_set (ps_asg (de_cst pe_str fun _ _ => .str _) (dg_nm (pg_name (i := 2) nd rfl (Or.inl rfl)))))
      (ds_one (ds_ret (de_join rfl (de_cst pe_str fun _ _ => .str _) (de_lcR rfl nd (stays_pin hp hot) (dp_zipR hp rfl rfl (by rfl) T.n_zip (da_cons (de_split (de_nm (pv 2)) (de_cst pe_str fun _ _ => .str _)) (da_cons (de_nm (pv 1)) da_nil))) (blkOk_by (own := [("_law_label", 3), ("_law_good", 4)]) (N := nn__law_names) (sc := defScope st__law_names) (by decide +kernel)) (by decide) (fun _ _ _ _ _ _ _ I f => pg_two hp hot I f (pgs_cons (pg_name (i := 3) nd rfl (Or.inl rfl)) (pgs_cons (pg_name (i := 4) nd rfl (Or.inl rfl)) pgs_nil))) (fun _ _ _ _ _ _ _ _ _ => (pts_one (dt_val rfl (de_nm (pv 4))))) (fun _ _ _ _ _ _ _ _ _ => PE.imp (de_nm (pv 3)) fun _ _ _ h => h.2)))))))))
theorem ok__law_right (T : Top P w K mg) (tb : List (Addr × Str)) (lam : Nat → Addr → HO → Addr → HO → Prop) (EA : EAll T base tb) (LL : Lams T base tb) : FnOk P w K mg base (L2N.CX P w) 11 T.D__law_right.a T.D__law_right.u pp__law_right (spF (c0 K tb lam mg) 3 f__law_right) := by
  refine fn_okL (fl := flds) (W := fun _ _ _ => False) T.D__law_right.F sc__law_right rfl fun cdv A outer s H E hr hcd => ⟨(lam__law_right s.heap.objs.size), ?_⟩
  have nd := sc__law_right.nd
  have LA : LamAt base mg tb (cxOf (L2N.CX P w) P w K mg base nn__law_right "_law_right" (defScope st__law_right) T.D__law_right.a cdv A outer s H E).env.code qv__law_right := hcd ▸ LL.la__law_right
  have tk : L2N.Takes (cxOf (L2N.CX P w) P w K mg base nn__law_right "_law_right" (defScope st__law_right) T.D__law_right.a cdv A outer s H E) (fun cls d _ H => E cls d H) := L2N.takes_of rfl rfl rfl rfl
  have hLS : ∀ n, (bd__law_right n).isSome = true → LOk (LS__law_right n) ∧ LamX.LamS (cxOf (L2N.CX P w) P w K mg base nn__law_right "_law_right" (defScope st__law_right) T.D__law_right.a cdv A outer s H E).env.scope (LS__law_right n).scope ∧ ∀ (q : Str) (clos : List (Str × Addr)) (pm cv ctv : Value), bindArgs (PySem.W.kla_fn "<lambda>" q (LS__law_right n).params (LS__law_right n).body (LS__law_right n).scope clos pm cv ctv) ⟨[], []⟩ = pure [] := fun n h => match n, h with
    | 0, _ => ⟨⟨rfl, rfl, rfl, by decide +kernel⟩, LamX.lamS_by (sc := defScope st__law_right) (by decide +kernel), fun _ _ _ _ _ => rfl⟩
    | 1, _ => ⟨⟨rfl, rfl, rfl, by decide +kernel⟩, LamX.lamS_by (sc := defScope st__law_right) (by decide +kernel), fun _ _ _ _ _ => rfl⟩
    | 2, _ => ⟨⟨rfl, rfl, rfl, by decide +kernel⟩, LamX.lamS_by (sc := defScope st__law_right) (by decide +kernel), fun _ _ _ _ _ => rfl⟩
    | _ + 3, h => by cases h
  have hbody : ∀ (n : Nat) (f : Den D), bd__law_right n = some f → ∀ (A1 : Around) (outer1 : List Env) (s1 : Shared) (H1 : Hp) (E1 : XK) (f0 b0 : Addr), Room 8 (A1.deeper (lEnv (qv__law_right ++ "<lambda>") (LS__law_right n) (cloFrom (cxOf (L2N.CX P w) P w K mg base nn__law_right "_law_right" (defScope st__law_right) T.D__law_right.a cdv A outer s H E).env.cells (LS__law_right n).scope.names []) s1.heap.objs.size f0 b0)) →
      PE (lCx P w K mg base nn__law_right (qv__law_right ++ "<lambda>") (LS__law_right n) (cloFrom (cxOf (L2N.CX P w) P w K mg base nn__law_right "_law_right" (defScope st__law_right) T.D__law_right.a cdv A outer s H E).env.cells (LS__law_right n).scope.names []) f0 b0 A1 outer1 s1 H1 E1) (LS__law_right n).body (sE ⟨k0x K tb (lam__law_right s.heap.objs.size), mg, flds, E1⟩ f) := fun n f e => match n, e with
    | 0, rfl => fun A1 outer1 s1 H1 E1 f0 b0 hr => by
      have tk : L2N.Takes (lCx P w K mg base nn__law_right (qv__law_right ++ "<lambda>") (LS__law_right 0) (cloFrom (cxOf (L2N.CX P w) P w K mg base nn__law_right "_law_right" (defScope st__law_right) T.D__law_right.a cdv A outer s H E).env.cells (LS__law_right 0).scope.names []) f0 b0 A1 outer1 s1 H1 E1) (fun cls d _ H => E1 cls d H) := L2N.takes_of rfl rfl rfl rfl
      exact (de_trim (de_call tk (ok_reached_from T tb (lam__law_right s.heap.objs.size)) (hr.mono (by decide)) (by rfl) T.D_reached_from.m T.D_reached_from.F.kp T.D_reached_from.b (da_cons (de_nm (pv 8)) (da_cons (de_cst pe_non fun _ _ => .non) da_nil))))
    | 1, rfl => fun A1 outer1 s1 H1 E1 f0 b0 hr => by
      have tk : L2N.Takes (lCx P w K mg base nn__law_right (qv__law_right ++ "<lambda>") (LS__law_right 1) (cloFrom (cxOf (L2N.CX P w) P w K mg base nn__law_right "_law_right" (defScope st__law_right) T.D__law_right.a cdv A outer s H E).env.cells (LS__law_right 1).scope.names []) f0 b0 A1 outer1 s1 H1 E1) (fun cls d _ H => E1 cls d H) := L2N.takes_of rfl rfl rfl rfl
      exact (de_trim (de_call tk (ok_counts_in T tb (lam__law_right s.heap.objs.size)) (hr.mono (by decide)) (by rfl) T.D_counts_in.m T.D_counts_in.F.kp T.D_counts_in.b (da_cons (de_nm (pv 8)) (da_cons (de_cst pe_non fun _ _ => .non) da_nil))))
    | 2, rfl => fun A1 outer1 s1 H1 E1 f0 b0 hr => by
      have tk : L2N.Takes (lCx P w K mg base nn__law_right (qv__law_right ++ "<lambda>") (LS__law_right 2) (cloFrom (cxOf (L2N.CX P w) P w K mg base nn__law_right "_law_right" (defScope st__law_right) T.D__law_right.a cdv A outer s H E).env.cells (LS__law_right 2).scope.names []) f0 b0 A1 outer1 s1 H1 E1) (fun cls d _ H => E1 cls d H) := L2N.takes_of rfl rfl rfl rfl
      exact (de_trim (de_call tk (ok_counts_in T tb (lam__law_right s.heap.objs.size)) (hr.mono (by decide)) (by rfl) T.D_counts_in.m T.D_counts_in.F.kp T.D_counts_in.b (da_cons (de_nm (pv 1)) (da_cons (de_nm (pv 10)) da_nil))))
    | _ + 3, e => by cases e
  have ERRB : ∀ {sl : List Nat} {scope : Scope} {pins0 : List (Addr × Obj)} {g0 : L2.St} {s0 : Shared} {H0 : Hp} {C0 : Addr} {cl0 : List (Str × Addr)} {fp : List Addr} (I0 : L2.Inv (cxOf (L2N.CX P w) P w K mg base nn__law_right "_law_right" (defScope st__law_right) T.D__law_right.a cdv A outer s H E) pins0 g0 H0 s0) (F0 : ∀ b ∈ fp, FpOk (cxOf (L2N.CX P w) P w K mg base nn__law_right "_law_right" (defScope st__law_right) T.D__law_right.a cdv A outer s H E) pins0 H0 b) {fe : Den D} {e : Expr} {p pos : Pos}, PE ((cxOf (L2N.CX P w) P w K mg base nn__law_right "_law_right" (defScope st__law_right) T.D__law_right.a cdv A outer s H E).blk s0 H0 scope (compEnvC scope cl0 C0 (cxOf (L2N.CX P w) P w K mg base nn__law_right "_law_right" (defScope st__law_right) T.D__law_right.a cdv A outer s H E).env) fp) e (sE ⟨k0x K tb (lam__law_right s.heap.objs.size), mg, flds, E⟩ fe) → Gl ((cxOf (L2N.CX P w) P w K mg base nn__law_right "_law_right" (defScope st__law_right) T.D__law_right.a cdv A outer s H E).blk s0 H0 scope (compEnvC scope cl0 C0 (cxOf (L2N.CX P w) P w K mg base nn__law_right "_law_right" (defScope st__law_right) T.D__law_right.a cdv A outer s H E).env) fp) "_law_error" → (starEach [e] ((cxOf (L2N.CX P w) P w K mg base nn__law_right "_law_right" (defScope st__law_right) T.D__law_right.a cdv A outer s H E).blk s0 H0 scope (compEnvC scope cl0 C0 (cxOf (L2N.CX P w) P w K mg base nn__law_right "_law_right" (defScope st__law_right) T.D__law_right.a cdv A outer s H E).env) fp).env = (false, eval e ((cxOf (L2N.CX P w) P w K mg base nn__law_right "_law_right" (defScope st__law_right) T.D__law_right.a cdv A outer s H E).blk s0 H0 scope (compEnvC scope cl0 C0 (cxOf (L2N.CX P w) P w K mg base nn__law_right "_law_right" (defScope st__law_right) T.D__law_right.a cdv A outer s H E).env) fp).env) :: starEach [] ((cxOf (L2N.CX P w) P w K mg base nn__law_right "_law_right" (defScope st__law_right) T.D__law_right.a cdv A outer s H E).blk s0 H0 scope (compEnvC scope cl0 C0 (cxOf (L2N.CX P w) P w K mg base nn__law_right "_law_right" (defScope st__law_right) T.D__law_right.a cdv A outer s H E).env) fp).env) →
      PE ((cxOf (L2N.CX P w) P w K mg base nn__law_right "_law_right" (defScope st__law_right) T.D__law_right.a cdv A outer s H E).blk s0 H0 scope (compEnvC scope cl0 C0 (cxOf (L2N.CX P w) P w K mg base nn__law_right "_law_right" (defScope st__law_right) T.D__law_right.a cdv A outer s H E).env) fp) (.Call (.Name "_law_error" p) [e] [] pos) (fun r H Q => L2.wipe r sl = L2.wipe g0 sl ∧ sE ⟨k0x K tb (lam__law_right s.heap.objs.size), mg, flds, E⟩ (errC known nn__law_names.length dnm sl bd__law_right fe) r H Q) := fun {sl scope pins0 g0 s0 H0 C0 cl0 fp} I0 F0 {fe e p pos} he hg hst =>
    de_errB (kl := 8) I0 F0 rfl rfl rfl rfl rfl EA hLS hbody (hr.mono (by decide)) (by decide) hg he (by decide) hst
  have ERR : ∀ {fe : Den D} {e : Expr} {p pos : Pos}, PE (cxOf (L2N.CX P w) P w K mg base nn__law_right "_law_right" (defScope st__law_right) T.D__law_right.a cdv A outer s H E) e (sE ⟨k0x K tb (lam__law_right s.heap.objs.size), mg, flds, E⟩ fe) → (starEach [e] (cxOf (L2N.CX P w) P w K mg base nn__law_right "_law_right" (defScope st__law_right) T.D__law_right.a cdv A outer s H E).env = (false, eval e (cxOf (L2N.CX P w) P w K mg base nn__law_right "_law_right" (defScope st__law_right) T.D__law_right.a cdv A outer s H E).env) :: starEach [] (cxOf (L2N.CX P w) P w K mg base nn__law_right "_law_right" (defScope st__law_right) T.D__law_right.a cdv A outer s H E).env) → PE (cxOf (L2N.CX P w) P w K mg base nn__law_right "_law_right" (defScope st__law_right) T.D__law_right.a cdv A outer s H E) (.Call (.Name "_law_error" p) [e] [] pos) (sE ⟨k0x K tb (lam__law_right s.heap.objs.size), mg, flds, E⟩ (errC known nn__law_names.length dnm [] bd__law_right fe)) := fun {fe e p pos} he hst =>
    de_errD (kl := 8) rfl rfl rfl rfl rfl EA hLS hbody (hr.mono (by decide)) (by decide) (by rfl) he (by decide) hst
  exact (ds_cons (ds_set (ps_asg (de_callB (PyK.cr_sortID rfl rfl) (by rfl) T.n_sorted (by decide +kernel) (da_cons (de_trim (de_call tk (ok__law_reached T tb (lam__law_right s.heap.objs.size)) (hr.mono (by decide)) (by rfl) T.D__law_reached.m T.D__law_reached.F.kp T.D__law_reached.b (da_cons (de_nm (pv 1)) (da_cons (de_nm (pv 2)) (da_cons (de_cst pe_non fun _ _ => .non) da_nil))))) da_nil)) (dg_nm (pg_name (i := 3) nd rfl (Or.inl rfl)))))
      (ds_cons (ds_if (dt_cmp rfl (hu65 hr) (de_trim (de_call tk (ok_reached_from T tb (lam__law_right s.heap.objs.size)) (hr.mono (by decide)) (by rfl) T.D_reached_from.m T.D_reached_from.F.kp T.D_reached_from.b (da_cons (de_nm (pv 1)) (da_cons (de_nm (pv 2)) da_nil)))) (de_nm (pv 3)) (nomark _)) dss_stuck ds_nil)
      (ds_cons (ds_set (ps_asg (de_call tk (ok__law_led T tb (lam__law_right s.heap.objs.size)) (hr.mono (by decide)) (by rfl) T.D__law_led.m T.D__law_led.F.kp T.D__law_led.b (da_cons (de_nm (pv 2)) da_nil)) (dg_nm (pg_name (i := 4) nd rfl (Or.inr rfl)))))
      (ds_cons (ds_for (n := 100000) (passes_of rfl) rfl (dp_any rfl (de_nm (pv 1))) (dg_nm (pg_name (i := 5) nd rfl (Or.inl rfl))) (ds_one (ds_set (ps_asg (de_bin rfl (de_nm (pv 4)) (de_call tk (ok__law_led T tb (lam__law_right s.heap.objs.size)) (hr.mono (by decide)) (by rfl) T.D__law_led.m T.D__law_led.F.kp T.D__law_led.b (da_cons (de_ifE (dt_cmp rfl (hu65 hr) (de_nm (pv 5)) (de_cst pe_non fun _ _ => .non) (nomark _)) (de_item rfl (hu1 hr) (de_nm (pv 5)) (de_cst pe_int fun _ _ => .int _)) (de_tup da_nil)) da_nil))) (dg_nm (pg_name (i := 4) nd rfl (Or.inr rfl)))))))
      (ds_cons (ds_set (ps_asg (de_callTy (cr_tuple rfl) (by rfl) T.n_tuple (by decide +kernel) (da_cons (de_lc rfl rfl nd (PyK.dp_enumT rfl (by rfl) T.n_enumerate (da_cons (de_nm (pv 1)) da_nil)) (blkOk_by (own := [("_law_at", 11), ("_law_cell", 5)]) (N := nn__law_right) (sc := defScope st__law_right) (by decide +kernel)) (by decide) (fun _ _ _ _ _ => pg_tup rfl (pgs_cons (pg_name (i := 11) nd rfl (Or.inl rfl)) (pgs_cons (pg_name (i := 5) nd rfl (Or.inl rfl)) pgs_nil))) (fun _ _ _ _ _ => dpts_nil) (fun _ _ _ _ _ => (de_ifE (dt_cmp rfl (hu65 hr) (de_nm (pv 5)) (de_cst pe_non fun _ _ => .non) (nomark _)) (de_cst pe_non fun _ _ => .non) (de_meth rfl PySem.F.plainAttrs_list PySem.F.slot_list_count PySem.F.type_list_count (PyK.mr_count rfl) (de_nm (pv 4)) (da_cons (de_nm (pv 11)) da_nil))))) da_nil)) (dg_nm (pg_name (i := 6) nd rfl (Or.inl rfl)))))
      (ds_cons (ds_if (PW.pt (dw_or (dt_cmp rfl (hu65 hr) (de_trim (de_call tk (ok_counts_in T tb (lam__law_right s.heap.objs.size)) (hr.mono (by decide)) (by rfl) T.D_counts_in.m T.D_counts_in.F.kp T.D_counts_in.b (da_cons (de_nm (pv 1)) (da_cons (de_nm (pv 2)) da_nil)))) (de_nm (pv 6)) (nomark _)) (dw_or (dt_cmp rfl (hu65 hr) (de_trim (de_call tk (ok_is_heap T tb (lam__law_right s.heap.objs.size)) (hr.mono (by decide)) (by rfl) T.D_is_heap.m T.D_is_heap.F.kp T.D_is_heap.b (da_cons (de_nm (pv 1)) da_nil))) (de_cst pe_bl fun _ _ => .bl _) (nomark _)) (dw_or1 (dt_cmp rfl (hu65 hr) (de_trim (de_call tk (ok_are_roots T tb (lam__law_right s.heap.objs.size)) (hr.mono (by decide)) (by rfl) T.D_are_roots.m T.D_are_roots.F.kp T.D_are_roots.b (da_cons (de_nm (pv 1)) (da_cons (de_nm (pv 2)) da_nil)))) (de_cst pe_bl fun _ _ => .bl _) (nomark _)))))) dss_stuck ds_nil)
      (ds_cons (ds_for (n := 100000) (passes_of rfl) rfl (dp_rng1 (by rfl) T.n_range (da_cons (de_cst pe_int fun _ _ => .int _) da_nil)) (dg_nm (pg_name (i := 7) nd rfl (Or.inl rfl))) (dss_trimW (ds_cons (ds_set (ps_asg (de_trim (de_call tk (ok__law_bent T tb (lam__law_right s.heap.objs.size)) (hr.mono (by decide)) (by rfl) T.D__law_bent.m T.D__law_bent.F.kp T.D__law_bent.b (da_cons (de_nm (pv 0)) (da_cons (de_nm (pv 1)) da_nil)))) (dg_nm (pg_name (i := 8) nd rfl (Or.inr rfl)))))
      (ds_cons (ds_set (ps_asg (de_trim (de_call tk (ok__law_is_heap T tb (lam__law_right s.heap.objs.size)) (hr.mono (by decide)) (by rfl) T.D__law_is_heap.m T.D__law_is_heap.F.kp T.D__law_is_heap.b (da_cons (de_nm (pv 8)) da_nil))) (dg_nm (pg_name (i := 9) nd rfl (Or.inl rfl)))))
      (ds_cons (ds_if (dt_not (dt_val rfl (de_trim (de_call tk (ok__law_truly T tb (lam__law_right s.heap.objs.size)) (hr.mono (by decide)) (by rfl) T.D__law_truly.m T.D__law_truly.F.kp T.D__law_truly.b (da_cons (de_trim (de_call tk (ok_is_heap T tb (lam__law_right s.heap.objs.size)) (hr.mono (by decide)) (by rfl) T.D_is_heap.m T.D_is_heap.F.kp T.D_is_heap.b (da_cons (de_nm (pv 8)) da_nil))) (da_cons (de_nm (pv 9)) da_nil)))))) dss_stuck ds_nil)
      (ds_one (ds_if (PW.pt (dw_and (dt_not (dt_val rfl (de_nm (pv 9)))) (dw_and1 (dt_cmp rfl (hu65 hr) (de_lst (da_cons (de_trim (ERR (de_lamN rfl rfl rfl LA (LamX.lamS_by (sc := defScope st__law_right) (by decide +kernel)) rfl rfl (n := 0)) (by rfl))) (da_cons (de_trim (ERR (de_lamN rfl rfl rfl LA (LamX.lamS_by (sc := defScope st__law_right) (by decide +kernel)) rfl rfl (n := 1)) (by rfl))) da_nil))) (de_bin rfl (de_lst (da_cons (de_cst pe_str fun _ _ => .str _) da_nil)) (de_cst pe_int fun _ _ => .int _)) (nomark _))))) dss_stuck ds_nil)))))))
      (ds_cons (ds_for (n := 100000) (passes_of rfl) rfl (dp_any rfl (de_lst (da_cons (de_cst pe_non fun _ _ => .non) (da_cons (de_cst pe_int fun _ _ => .int _) (da_cons (de_lst da_nil) (da_cons (de_lst (da_cons (de_cst pe_int fun _ _ => .int _) da_nil)) (da_cons (de_tup (da_cons (de_cst pe_bl fun _ _ => .bl _) da_nil)) (da_cons (de_tup (da_cons (de_neg rfl (de_cst pe_int fun _ _ => .int _)) da_nil)) (da_cons (de_tup (da_cons (de_callB (cr_len rfl) (by rfl) T.n_len PySem.boot_len (da_cons (de_nm (pv 1)) da_nil)) da_nil)) (da_cons (de_tup (da_cons (de_cst pe_str fun _ _ => .str _) da_nil)) (da_cons (de_tup (da_cons (de_tup (da_cons (de_cst pe_str fun _ _ => .str _) (da_cons (de_cst pe_str fun _ _ => .str _) da_nil))) da_nil)) (da_cons (de_bin rfl (de_tup (da_cons (de_cst pe_non fun _ _ => .non) da_nil)) (de_cst pe_int fun _ _ => .int _)) (da_cons (de_tup (da_cons (de_tup (da_cons (de_cst pe_int fun _ _ => .int _) da_nil)) da_nil)) da_nil))))))))))))) (dg_nm (pg_name (i := 10) nd rfl (Or.inr rfl))) (dss_trimW (ds_one (ds_if (PW.pt (dw_or (dt_cmp rfl (hu65 hr) (de_trim (de_call tk (ok_are_roots T tb (lam__law_right s.heap.objs.size)) (hr.mono (by decide)) (by rfl) T.D_are_roots.m T.D_are_roots.F.kp T.D_are_roots.b (da_cons (de_nm (pv 1)) (da_cons (de_nm (pv 10)) da_nil)))) (de_cst pe_bl fun _ _ => .bl _) (nomark _)) (dw_or1 (dt_cmp rfl (hu65 hr) (de_trim (ERR (de_lamN rfl rfl rfl LA (LamX.lamS_by (sc := defScope st__law_right) (by decide +kernel)) rfl rfl (n := 2)) (by rfl))) (de_cst pe_str fun _ _ => .str _) (nomark _))))) dss_stuck ds_nil))))
      (ds_one (ds_ret (de_cst pe_bl fun _ _ => .bl _)))))))))))
theorem ok__law_roots (T : Top P w K mg) (tb : List (Addr × Str)) (lam : Nat → Addr → HO → Addr → HO → Prop) : FnOk P w K mg base (L2N.CX P w) 4 T.D__law_roots.a T.D__law_roots.u pp__law_roots (spF (c0 K tb lam mg) 2 f__law_roots) := by
  refine fn_ok rfl T.D__law_roots.F sc__law_roots rfl fun cdv A outer s H E hr => ?_
  have nd := sc__law_roots.nd
  have tk : L2N.Takes (cxOf (L2N.CX P w) P w K mg base nn__law_roots "_law_roots" (defScope st__law_roots) T.D__law_roots.a cdv A outer s H E) (fun cls d _ H => ((c0 K tb lam mg).to E).W cls d H) := L2N.takes_of rfl rfl rfl rfl
  exact (ds_cons (ds_set (ps_asg (de_lc rfl rfl nd (dp_rng1 (by rfl) T.n_range (da_cons (de_callB (cr_len rfl) (by rfl) T.n_len PySem.boot_len (da_cons (de_nm (pv 1)) da_nil)) da_nil)) (blkOk_by (own := [("_law_place", 3)]) (N := nn__law_roots) (sc := defScope st__law_roots) (by decide +kernel)) (by decide) (fun _ _ _ _ _ => pg_name (i := 3) nd rfl (Or.inl rfl)) (fun _ _ _ _ _ => (pts_one (dt_cmp rfl (hu65 hr) (de_item rfl (hu1 hr) (de_nm (pv 1)) (de_nm (pv 3))) (de_cst pe_non fun _ _ => .non) (nomark _)))) (fun _ _ _ _ _ => (de_nm (pv 3)))) (dg_nm (pg_name (i := 2) nd rfl (Or.inr rfl)))))
      (ds_one (ds_ret (de_callTy (cr_tuple rfl) (by rfl) T.n_tuple (by decide +kernel) (da_cons (de_lc rfl rfl nd (dp_rng1 (by rfl) T.n_range (da_cons (de_call tk (ok__law_some T tb lam) (hr.mono (by decide)) (by rfl) T.D__law_some.m T.D__law_some.F.kp T.D__law_some.b (da_cons (de_nm (pv 0)) (da_cons (de_lst (da_cons (de_cst pe_int fun _ _ => .int _) (da_cons (de_cst pe_int fun _ _ => .int _) (da_cons (de_cst pe_int fun _ _ => .int _) (da_cons (de_cst pe_int fun _ _ => .int _) (da_cons (de_cst pe_int fun _ _ => .int _) da_nil)))))) da_nil))) da_nil)) (blkOk_by (own := [("_law_turn", 4)]) (N := nn__law_roots) (sc := defScope st__law_roots) (by decide +kernel)) (by decide) (fun _ _ _ _ _ => pg_name (i := 4) nd rfl (Or.inl rfl)) (fun _ _ _ _ _ => dpts_nil) (fun _ _ _ _ _ => (de_trim (de_callN (ok__law_word T tb lam) (hr.mono (by decide)) (by rfl) T.D__law_word.m T.D__law_word.F.kp T.D__law_word.b (da_cons (de_nm (pv 0)) (da_cons (de_nm (pv 2)) da_nil)))))) da_nil)))))
theorem ok_law (T : Top P w K mg) (tb : List (Addr × Str)) (EA : EAll T base tb) (LL : Lams T base tb) (CUP : FnOk P w K mg base (L2N.CX P w) 1 T.D__law_cup.a T.D__law_cup.u pp__law_cup (spCup K tb)) :
    FnOk P w K mg base (L2N.CX P w) 12 T.D_law.a T.D_law.u pp_law (spLaw K tb fun ns => runsTo d_law 3 (cupOf ns).1 (cupOf ns).2) := by
  refine fn_mixed (W := fun c => c.K.f = K ∧ c.K.T = tb) (t0 := tCup K tb 0 1) T.D_law.F sc_law rfl (fun vs H Q E h => by obtain ⟨a, ns, rfl, _⟩ := h; rfl) (fun cdv A outer s H E hr hcd => ⟨⟨k0x K tb (lam_law s.heap.objs.size), mg, flds, E⟩, ⟨rfl, rfl⟩, ps_cup CUP (hr.mono (by decide)) (by rfl) T.D__law_cup.m T.D__law_cup.F.kp T.D__law_cup.b (pv 0) (pg_name (i := 1) sc_law.nd rfl (Or.inl rfl)), ?_⟩) (fun c vs H Q E hW h => law_sp rfl hW.1 hW.2 h)
  have nd := sc_law.nd
  have LA : LamAt base mg tb (cxOf (L2N.CX P w) P w K mg base nn_law "law" (defScope st_law) T.D_law.a cdv A outer s H E).env.code qv_law := hcd ▸ LL.la_law
  have tk : L2N.Takes (cxOf (L2N.CX P w) P w K mg base nn_law "law" (defScope st_law) T.D_law.a cdv A outer s H E) (fun cls d _ H => E cls d H) := L2N.takes_of rfl rfl rfl rfl
  have hLS : ∀ n, (bd_law n).isSome = true → LOk (LS_law n) ∧ LamX.LamS (cxOf (L2N.CX P w) P w K mg base nn_law "law" (defScope st_law) T.D_law.a cdv A outer s H E).env.scope (LS_law n).scope ∧ ∀ (q : Str) (clos : List (Str × Addr)) (pm cv ctv : Value), bindArgs (PySem.W.kla_fn "<lambda>" q (LS_law n).params (LS_law n).body (LS_law n).scope clos pm cv ctv) ⟨[], []⟩ = pure [] := fun n h => match n, h with

    | _ + 0, h => by cases h
  have hbody : ∀ (n : Nat) (f : Den D), bd_law n = some f → ∀ (A1 : Around) (outer1 : List Env) (s1 : Shared) (H1 : Hp) (E1 : XK) (f0 b0 : Addr), Room 0 (A1.deeper (lEnv (qv_law ++ "<lambda>") (LS_law n) (cloFrom (cxOf (L2N.CX P w) P w K mg base nn_law "law" (defScope st_law) T.D_law.a cdv A outer s H E).env.cells (LS_law n).scope.names []) s1.heap.objs.size f0 b0)) →
      PE (lCx P w K mg base nn_law (qv_law ++ "<lambda>") (LS_law n) (cloFrom (cxOf (L2N.CX P w) P w K mg base nn_law "law" (defScope st_law) T.D_law.a cdv A outer s H E).env.cells (LS_law n).scope.names []) f0 b0 A1 outer1 s1 H1 E1) (LS_law n).body (sE ⟨k0x K tb (lam_law s.heap.objs.size), mg, flds, E1⟩ f) := fun n f e => match n, e with

    | _ + 0, e => by cases e
  exact (ds_cons (ds_for (n := 100000) (passes_of rfl) rfl (dp_rng1 (by rfl) T.n_range (da_cons (de_cst pe_int fun _ _ => .int _) da_nil)) (dg_nm (pg_name (i := 2) nd rfl (Or.inl rfl))) (ds_cons (ds_set (ps_asg (de_call tk (ok__law_heap T tb (lam_law s.heap.objs.size)) (hr.mono (by decide)) (by rfl) T.D__law_heap.m T.D__law_heap.F.kp T.D__law_heap.b (da_cons (de_nm (pv 1)) da_nil)) (dg_nm (pg_name (i := 3) nd rfl (Or.inl rfl)))))
      (ds_one (ds_trim (ds_if (dt_not (dt_val rfl (de_call tk (ok__law_right T tb (lam_law s.heap.objs.size) EA LL) (hr.mono (by decide)) (by rfl) T.D__law_right.m T.D__law_right.F.kp T.D__law_right.b (da_cons (de_nm (pv 1)) (da_cons (de_nm (pv 3)) (da_cons (de_call tk (ok__law_roots T tb (lam_law s.heap.objs.size)) (hr.mono (by decide)) (by rfl) T.D__law_roots.m T.D__law_roots.F.kp T.D__law_roots.b (da_cons (de_nm (pv 1)) (da_cons (de_nm (pv 3)) da_nil))) da_nil)))))) dss_stuck ds_nil)))))
      (ds_cons (ds_set (ps_asg (de_tup (da_cons (de_tup (da_cons (de_tup (da_cons (de_cst pe_str fun _ _ => .str _) da_nil)) (da_cons (de_tup (da_cons (de_cst pe_int fun _ _ => .int _) da_nil)) da_nil))) (da_cons (de_tup (da_cons (de_tup (da_cons (de_cst pe_str fun _ _ => .str _) da_nil)) (da_cons (de_tup (da_cons (de_cst pe_int fun _ _ => .int _) da_nil)) da_nil))) (da_cons (de_tup (da_cons (de_tup (da_cons (de_cst pe_str fun _ _ => .str _) da_nil)) (da_cons (de_tup (da_cons (de_cst pe_int fun _ _ => .int _) da_nil)) da_nil))) (da_cons (de_cst pe_non fun _ _ => .non) (da_cons (de_tup (da_cons (de_tup (da_cons (de_cst pe_str fun _ _ => .str _) da_nil)) (da_cons (de_tup (da_cons (de_cst pe_int fun _ _ => .int _) (da_cons (de_cst pe_int fun _ _ => .int _) da_nil))) da_nil))) da_nil)))))) (dg_nm (pg_name (i := 4) nd rfl (Or.inl rfl)))))
      (ds_cons (ds_trim (ds_if (PW.pt (dw_or (dt_not (dt_val rfl (de_call tk (ok__law_right T tb (lam_law s.heap.objs.size) EA LL) (hr.mono (by decide)) (by rfl) T.D__law_right.m T.D__law_right.F.kp T.D__law_right.b (da_cons (de_nm (pv 1)) (da_cons (de_nm (pv 4)) (da_cons (de_tup (da_cons (de_cst pe_int fun _ _ => .int _) da_nil)) da_nil)))))) (dw_or1 (dt_cmp rfl (hu65 hr) (de_lst (da_cons (de_call tk (ok_is_heap T tb (lam_law s.heap.objs.size)) (hr.mono (by decide)) (by rfl) T.D_is_heap.m T.D_is_heap.F.kp T.D_is_heap.b (da_cons (de_tup da_nil) da_nil)) (da_cons (de_call tk (ok_is_heap T tb (lam_law s.heap.objs.size)) (hr.mono (by decide)) (by rfl) T.D_is_heap.m T.D_is_heap.F.kp T.D_is_heap.b (da_cons (de_tup (da_cons (de_tup (da_cons (de_tup (da_cons (de_cst pe_str fun _ _ => .str _) da_nil)) (da_cons (de_tup (da_cons (de_cst pe_int fun _ _ => .int _) da_nil)) da_nil))) da_nil)) da_nil)) (da_cons (de_call tk (ok_are_roots T tb (lam_law s.heap.objs.size)) (hr.mono (by decide)) (by rfl) T.D_are_roots.m T.D_are_roots.F.kp T.D_are_roots.b (da_cons (de_nm (pv 4)) (da_cons (de_tup (da_cons (de_cst pe_int fun _ _ => .int _) da_nil)) da_nil))) (da_cons (de_call tk (ok_are_roots T tb (lam_law s.heap.objs.size)) (hr.mono (by decide)) (by rfl) T.D_are_roots.m T.D_are_roots.F.kp T.D_are_roots.b (da_cons (de_nm (pv 4)) (da_cons (de_tup (da_cons (de_cst pe_int fun _ _ => .int _) (da_cons (de_cst pe_non fun _ _ => .non) da_nil))) da_nil))) da_nil))))) (de_lst (da_cons (de_cst pe_bl fun _ _ => .bl _) (da_cons (de_cst pe_bl fun _ _ => .bl _) (da_cons (de_cst pe_bl fun _ _ => .bl _) (da_cons (de_cst pe_bl fun _ _ => .bl _) da_nil))))) (nomark _))))) dss_stuck ds_nil))
      (ds_cons (ds_trim (ds_if (dt_cmp rfl (hu65 hr) (de_lst (da_cons (de_call tk (ok_reached_from T tb (lam_law s.heap.objs.size)) (hr.mono (by decide)) (by rfl) T.D_reached_from.m T.D_reached_from.F.kp T.D_reached_from.b (da_cons (de_nm (pv 4)) (da_cons (de_tup (da_cons (de_cst pe_int fun _ _ => .int _) da_nil)) da_nil))) (da_cons (de_call tk (ok_reached_from T tb (lam_law s.heap.objs.size)) (hr.mono (by decide)) (by rfl) T.D_reached_from.m T.D_reached_from.F.kp T.D_reached_from.b (da_cons (de_nm (pv 4)) (da_cons (de_tup da_nil) da_nil))) (da_cons (de_call tk (ok_reached_from T tb (lam_law s.heap.objs.size)) (hr.mono (by decide)) (by rfl) T.D_reached_from.m T.D_reached_from.F.kp T.D_reached_from.b (da_cons (de_nm (pv 4)) (da_cons (de_tup (da_cons (de_cst pe_int fun _ _ => .int _) da_nil)) da_nil))) da_nil)))) (de_lst (da_cons (de_lst (da_cons (de_cst pe_int fun _ _ => .int _) (da_cons (de_cst pe_int fun _ _ => .int _) (da_cons (de_cst pe_int fun _ _ => .int _) da_nil)))) (da_cons (de_lst da_nil) (da_cons (de_lst (da_cons (de_cst pe_int fun _ _ => .int _) (da_cons (de_cst pe_int fun _ _ => .int _) (da_cons (de_cst pe_int fun _ _ => .int _) (da_cons (de_cst pe_int fun _ _ => .int _) da_nil))))) da_nil)))) (nomark _)) dss_stuck ds_nil))
      (ds_one (ds_ret (de_and (de_cmp rfl (hu65 hr) (de_call tk (ok_counts_in T tb (lam_law s.heap.objs.size)) (hr.mono (by decide)) (by rfl) T.D_counts_in.m T.D_counts_in.F.kp T.D_counts_in.b (da_cons (de_nm (pv 4)) (da_cons (de_tup (da_cons (de_cst pe_int fun _ _ => .int _) da_nil)) da_nil))) (de_tup (da_cons (de_cst pe_int fun _ _ => .int _) (da_cons (de_cst pe_int fun _ _ => .int _) (da_cons (de_cst pe_int fun _ _ => .int _) (da_cons (de_cst pe_non fun _ _ => .non) (da_cons (de_cst pe_int fun _ _ => .int _) da_nil)))))) (nomark _)) (de_and (de_cmp rfl (hu65 hr) (de_call tk (ok_counts_in T tb (lam_law s.heap.objs.size)) (hr.mono (by decide)) (by rfl) T.D_counts_in.m T.D_counts_in.F.kp T.D_counts_in.b (da_cons (de_nm (pv 4)) (da_cons (de_tup da_nil) da_nil))) (de_tup (da_cons (de_cst pe_int fun _ _ => .int _) (da_cons (de_cst pe_int fun _ _ => .int _) (da_cons (de_cst pe_int fun _ _ => .int _) (da_cons (de_cst pe_non fun _ _ => .non) (da_cons (de_cst pe_int fun _ _ => .int _) da_nil)))))) (nomark _)) (pe_one (de_cmp rfl (hu65 hr) (de_call tk (ok_counts_in T tb (lam_law s.heap.objs.size)) (hr.mono (by decide)) (by rfl) T.D_counts_in.m T.D_counts_in.F.kp T.D_counts_in.b (da_cons (de_tup da_nil) (da_cons (de_tup da_nil) da_nil))) (de_tup da_nil) (nomark _)))))))))))
end
end Py

-- PyQ0
set_option maxRecDepth 100000
set_option maxHeartbeats 4000000
noncomputable section
namespace PyQ
open PySem PySem.Spec PyProof.Rows L2 PyD PyM PyK
/-! ### each form where it meets its names and its store -/
section
variable {f h j : Den D} {hs : Den (List D)} {t u : Den Bool} {a b : SDen} {r : DEnv} {M : Sto} {tg : TDen} {n i k : Nat} {d : D} {F : FDen} {op' : D → D → Sto → Option (D × Sto)} {op : D → D → Sto → Option (D × Sto)} {o1 : D → Sto → Option (D × Sto)} {oS : List D → Sto → Option (D × Sto)}
theorem bindD_ap {α β : Type} {f : Den α} {g : α → Den β} : bindD f g r M = (match f r M with
  | none => none
  | some (.ex x, M1) => some (.ex x, M1)
  | some (.ok a, M1) => g a r M1) := rfl
theorem liftD_ap {α β : Type} {op : α → Sto → Option (β × Sto)} {a : α} : liftD op a r M = (match op a M with
  | none => none
  | some (x, M1) => some (.ok x, M1)) := rfl
theorem bindS_ap {α : Type} {f : Den α} {k : α → SDen} : bindS f k r M = (match f r M with
  | none => none
  | some (.ex x, M1) => some (.ex x, r, M1)
  | some (.ok a, M1) => k a r M1) := rfl
theorem nmD_ap : nmD i r M = (match r[i]? with | some (some d) => some (.ok d, M) | _ => none) := rfl
theorem cstD_ap : cstD d r M = some (.ok d, M) := rfl
theorem nilD_ap : nilD r M = some (.ok [], M) := rfl
theorem consD_ap : consD f hs r M = (bindD f fun a => bindD hs fun as => liftD (fun p : D × List D => fun M => some (p.1 :: p.2, M)) (a, as)) r M := rfl
theorem op2_ap : op2 op f h r M = (bindD f fun a => bindD h fun b => liftD (fun p : D × D => op p.1 p.2) (a, b)) r M := rfl
theorem op1_ap : op1 o1 f r M = (bindD f fun a => liftD o1 a) r M := rfl
theorem opS_ap : opS oS hs r M = (bindD hs fun a => liftD oS a) r M := rfl
theorem callE_ap : callE n F hs r M = (bindD hs fun ds _ M => if ds.length = n then F ds M else none) r M := rfl
theorem callN_ap : callN n F hs r M = (bindD hs fun ds _ M => if ds.length = n then (match F ds M with
    | some (.ok d, M') => some (.ok d, M')
    | _ => none) else none) r M := rfl
theorem andE_ap : andE f h r M = (bindD f fun a => match a with
  | .bl true => h
  | .bl false => fun _ M => some (.ok (.bl false), M)
  | _ => fun _ _ => none) r M := rfl
theorem orE_ap : orE f h r M = (bindD f fun a => match a with
  | .bl true => fun _ M => some (.ok (.bl true), M)
  | .bl false => h
  | _ => fun _ _ => none) r M := rfl
theorem notE_ap : notE f r M = (bindD f fun a => match a with
  | .bl b => fun _ M => some (.ok (.bl (!b)), M)
  | _ => fun _ _ => none) r M := rfl
theorem ifE_ap : ifE t f h r M = (bindD t fun b => if b = true then f else h) r M := rfl
theorem testD_ap : testD f r M = (bindD f fun a => liftD truD a) r M := rfl
theorem btestD_ap : btestD f r M = (bindD f fun a => liftD blD a) r M := rfl
theorem notT_ap : notT t r M = (bindD t fun b => liftD (fun b M => some (!b, M)) b) r M := rfl
theorem andT_ap : andT t u r M = (bindD t fun b => if b = true then u else fun _ M => some (.ok false, M)) r M := rfl
theorem orT_ap : orT t u r M = (bindD t fun b => if b = true then fun _ M => some (.ok true, M) else u) r M := rfl
theorem chainE_ap : chainE op op' f h j r M = (bindD f fun a => bindD h fun b => bindD (liftD (fun p : D × D => op p.1 p.2) (a, b)) fun z => match z with
  | .bl true => bindD j fun e => liftD (fun p : D × D => op' p.1 p.2) (b, e)
  | .bl false => fun _ M => some (.ok (.bl false), M)
  | _ => fun _ _ => none) r M := rfl
theorem seqS_ap : seqS a b r M = (match a r M with
  | none => none
  | some (.nx, r1, M1) => b r1 M1
  | some (fl, r1, M1) => some (fl, r1, M1)) := rfl
theorem retS_ap : retS f r M = (bindS f fun d r M => some (.rt d, r, M)) r M := rfl
theorem exprS_ap : exprS f r M = (bindS f fun _ r M => some (.nx, r, M)) r M := rfl
theorem setS_ap : setS f tg r M = (bindS f fun d r M => match tg d r M with
  | some (r1, M1) => some (.nx, r1, M1)
  | none => none) r M := rfl
theorem ifS_ap : ifS t a b r M = (bindS t fun z => if z = true then a else b) r M := rfl
theorem skipS_ap : skipS r M = some (.nx, r, M) := rfl
theorem nmT_ap : nmT i d r M = some (r.set i (some d), M) := rfl
theorem parS_ap : parS i k hs r M = (bindS hs fun ds r M => match ds with
  | [a, b] => some (.nx, (r.set i (some a)).set k (some b), M)
  | _ => none) r M := rfl
theorem putS_ap : putS f h j r M = (bindS j fun v => bindS f fun o => bindS h fun k r M => match putD o k v M with
  | some M' => some (.nx, r, M')
  | none => none) r M := rfl
end
end PyQ

-- PyQ1
set_option maxRecDepth 100000
set_option maxHeartbeats 4000000
noncomputable section
namespace PyQ
open PySem PySem.Spec PyProof.Rows L2 PyD PyM PyK
/-! ### what is worked out for any data: trims, walks, loops -/
section
theorem keepM_app {k : Nat} : ∀ {M : Sto} (X : Sto), M.all (okCell k) = true → keepM k M.length (M ++ X) = some M
  | [], X, _ => by cases X <;> rfl
  | c :: M, X, h => by
    rw [List.all_cons, Bool.and_eq_true] at h
    show keepM k (M.length + 1) (c :: (M ++ X)) = _
    unfold keepM
    rw [h.1]
    dsimp only
    rw [keepM_app X h.2]
mutual
theorem okR_mono {k k' : Nat} (hk : k ≤ k') : ∀ {d : D}, okR k d = true → okR k' d = true
  | .lst i, h => by
    unfold okR at h ⊢
    exact decide_eq_true (Nat.lt_of_lt_of_le (of_decide_eq_true h) hk)
  | .dic i, h => by
    unfold okR at h ⊢
    exact decide_eq_true (Nat.lt_of_lt_of_le (of_decide_eq_true h) hk)
  | .tup ds, h => by unfold okR at h ⊢; exact okRL_mono hk h
  | .ktup ds, h => by unfold okR at h ⊢; exact okRL_mono hk h
  | .exn _ ds, h => by unfold okR at h ⊢; exact okRL_mono hk h
  | .non, _ => rfl
  | .bl _, _ => rfl
  | .int _, _ => rfl
  | .str _, _ => rfl
  | .ty _, _ => rfl
  | .fn _, _ => rfl
theorem okRL_mono {k k' : Nat} (hk : k ≤ k') : ∀ {ds : List D}, okRL k ds = true → okRL k' ds = true
  | [], _ => rfl
  | d :: ds, h => by
    unfold okRL at h ⊢
    rw [Bool.and_eq_true] at h ⊢
    exact ⟨okR_mono hk h.1, okRL_mono hk h.2⟩
end
theorem okRL_iff {k : Nat} : ∀ {ds : List D}, okRL k ds = true ↔ ∀ d ∈ ds, okR k d = true
  | [] => ⟨(fun _ d h => by cases h), (fun _ => rfl)⟩
  | d :: ds => by
    unfold okRL
    rw [Bool.and_eq_true, okRL_iff, List.forall_mem_cons]
theorem all_mono {κ : Type} {k k' : Nat} (hk : k ≤ k') {l : List (κ × D)} (h : (l.all fun p => okR k p.2) = true) : (l.all fun p => okR k' p.2) = true :=
  List.all_eq_true.mpr fun p hp => okR_mono hk (List.all_eq_true.mp h p hp)
theorem okCell_mono {k k' : Nat} (hk : k ≤ k') {c : Cell} (h : okCell k c = true) : okCell k' c = true := by
  cases c with
  | lst ds => exact okRL_mono hk h
  | dk kvs => exact all_mono hk h
  | dt kvs => exact all_mono hk h
  | ob c kvs => exact all_mono hk h
  | dead => rfl
def WF (M : Sto) : Prop := M.all (okCell M.length) = true
theorem WF.up {M : Sto} (h : WF M) {k : Nat} (hk : M.length ≤ k) : M.all (okCell k) = true := List.all_eq_true.mpr fun c hc => okCell_mono hk (List.all_eq_true.mp h c hc)
theorem WF.app {M X : Sto} (h : WF M) (hx : X.all (okCell (M.length + X.length)) = true) : WF (M ++ X) := by
  unfold WF
  rw [List.all_append, List.length_append, Bool.and_eq_true]
  exact ⟨h.up (Nat.le_add_right _ _), hx⟩
theorem WF.add {M : Sto} {c : Cell} (h : WF M) (hc : okCell (M.length + 1) c = true) : WF (M ++ [c]) := h.app (by
  rw [List.all_cons, List.all_nil, Bool.and_true]
  exact hc)
theorem WF.addL {M : Sto} {ds : List D} (h : WF M) (hc : okRL M.length ds = true) : WF (M ++ [.lst ds]) := h.add (okRL_mono (Nat.le_succ _) hc)
variable {f : Den D} {b : SDen} {r r' : DEnv} {M M1 M2 X : Sto} {d : D} {x : Ex}
theorem trimE_is (h : f r M = some (.ok d, M1 ++ X)) (hl : M1.length = M.length) (hw : M1.all (okCell M.length) = true) (hd : okR M.length d = true) : trimE f r M = some (.ok d, M1) := by
  unfold trimE
  rw [h]
  dsimp only
  split
  · rename_i z
    have z := Nat.le_of_ble_eq_true z
    rw [List.length_append, hl] at z
    have : X = [] := List.eq_nil_of_length_eq_zero (by omega)
    rw [this, List.append_nil]
  · rw [hd]
    dsimp only
    rw [show keepM M.length M.length (M1 ++ X) = some M1 from by rw [← hl]; exact keepM_app X (by rw [hl]; exact hw)]
theorem trimE_one (h : f r M = some (.ok d, M ++ X)) (hw : WF M) (hd : okR M.length d = true) : trimE f r M = some (.ok d, M) := trimE_is h rfl hw hd
theorem trimE_same (h : f r M = some (.ok d, M)) : trimE f r M = some (.ok d, M) := by
  unfold trimE
  rw [h]
  dsimp only
  rw [Nat.ble_eq.mpr (Nat.le_refl _)]
theorem trimE_new (h : f r M = some (.ok d, M2)) (hd : okR M.length d = false) : trimE f r M = some (.ok d, M2) := by
  unfold trimE
  rw [h]
  dsimp only
  split
  · rfl
  · rw [hd]
theorem trimE_ex (h : f r M = some (.ex x, M2)) : trimE f r M = some (.ex x, M2) := by
  unfold trimE
  rw [h]
theorem trimW_is (h : b r M = some (.nx, r', M1 ++ X)) (hl : M1.length = M.length) (hw : M1.all (okCell M.length) = true) : ∃ r2, trimW b r M = some (.nx, r2, M1) ∧ (r2 = r' ∨ r2 = cleanEnv M.length r') := by
  unfold trimW
  rw [h]
  dsimp only
  split
  · rename_i z
    have z := Nat.le_of_ble_eq_true z
    rw [List.length_append, hl] at z
    have : X = [] := List.eq_nil_of_length_eq_zero (by omega)
    rw [this, List.append_nil]
    exact ⟨r', rfl, .inl rfl⟩
  · rw [show keepM M.length M.length (M1 ++ X) = some M1 from by rw [← hl]; exact keepM_app X (by rw [hl]; exact hw)]
    exact ⟨_, rfl, .inr rfl⟩
theorem trimW_rt {v : D} (h : b r M = some (.rt v, r', M2)) : trimW b r M = some (.rt v, r', M2) := by
  unfold trimW
  rw [h]
/-! cells -/
theorem get_new {c : Cell} : sGet (M ++ [c]) M.length = some c := by rw [sGet_eq, List.getElem?_append_right (Nat.le_refl _), Nat.sub_self]; rfl
theorem get_old {i : Nat} (h : i < M.length) : sGet (M ++ X) i = sGet M i := by rw [sGet_eq, sGet_eq, List.getElem?_append_left h]
theorem get_some {i : Nat} {c : Cell} (h : sGet M i = some c) : sGet (M ++ X) i = some c := by
  rw [get_old]
  · exact h
  · rw [sGet_eq] at h; exact (List.getElem?_eq_some_iff.mp h).1
theorem set_new {c c' : Cell} : (M ++ [c]).set M.length c' = M ++ [c'] := by
  rw [List.set_append_right _ _ (Nat.le_refl _), Nat.sub_self]
  rfl
/-! ### comprehensions that change nothing but their list -/
theorem compL_pure {s : Src} {items : List D} {elt : Den D} {ifs : Den Bool} {g : D → D} {p : D → Bool} {slot : Nat}
    (hs : ∀ (j : Nat) (c : Cell), nextI s j (M ++ [c]) = some (items[j]?))
    (hi : ∀ y ∈ items, ∀ acc : List D, okRL M.length acc = true → ifs (r.set slot (some y)) (M ++ [.lst acc]) = some (.ok (p y), M ++ [.lst acc]))
    (he : ∀ y ∈ items, p y = true → ∀ acc : List D, okRL M.length acc = true → elt (r.set slot (some y)) (M ++ [.lst acc]) = some (.ok (g y), M ++ [.lst acc]) ∧ okR M.length (g y) = true) :
    ∀ (rest : List D) (n i : Nat) (acc : List D), items.drop i = rest → rest.length < n → acc.length + rest.length < 100000 → okRL M.length acc = true →
      compL (nextI s) (.one slot) ifs elt M.length n i r (M ++ [.lst acc]) = some (M ++ [.lst (acc ++ (rest.filter p).map g)])
  | [], n + 1, i, acc, hr, hn, ha, hk => by
    unfold compL
    rw [hs, show items[i]? = none from List.getElem?_eq_none_iff.mpr (List.drop_eq_nil_iff.mp hr)]
    simp
  | y :: ys, n + 1, i, acc, hr, hn, ha, hk => by
    have hy : items[i]? = some y := by
      have z := congrArg (fun l : List D => l[0]?) hr
      simpa using z
    have hd : items.drop (i + 1) = ys := by
      have z := congrArg (List.drop 1) hr
      rw [List.drop_drop] at z
      simpa [Nat.add_comm] using z
    have hm : y ∈ items := List.mem_of_getElem? hy
    unfold compL
    rw [hs, hy]
    dsimp only [setC]
    rw [hi y hm acc hk]
    simp only [List.length_cons] at hn ha
    cases hp : p y with
    | true =>
      obtain ⟨e1, e2⟩ := he y hm hp acc hk
      dsimp only
      rw [e1]
      dsimp only
      rw [get_new]
      dsimp only
      rw [if_pos (by omega), set_new, compL_pure hs hi he ys n (i + 1) (acc ++ [g y]) hd (by omega) (by simp; omega) (okRL_iff.mpr fun z hz => by
        rcases List.mem_append.mp hz with q | q
        · exact okRL_iff.mp hk z q
        · rw [List.mem_singleton.mp q]; exact e2)]
      simp [List.filter_cons, hp, List.append_assoc]
    | false =>
      dsimp only
      rw [compL_pure hs hi he ys n (i + 1) acc hd (by omega) (by omega) hk]
      simp [List.filter_cons, hp]
  | _, 0, _, _, _, hn, _, _ => absurd hn (Nat.not_lt_zero _)
/-- the whole of it -/
theorem compE_pure {src : Den Src} {vs : List Nat} {s : Src} {items : List D} {elt : Den D} {ifs : Den Bool} {g : D → D} {p : D → Bool} {slot : Nat} {n : Nat} (h0 : src r M = some (.ok s, M))
    (hs : ∀ (j : Nat) (c : Cell), nextI s j (M ++ [c]) = some (items[j]?))
    (hi : ∀ y ∈ items, ∀ acc : List D, okRL M.length acc = true → ifs ((wipeD r vs).set slot (some y)) (M ++ [.lst acc]) = some (.ok (p y), M ++ [.lst acc]))
    (he : ∀ y ∈ items, p y = true → ∀ acc : List D, okRL M.length acc = true → elt ((wipeD r vs).set slot (some y)) (M ++ [.lst acc]) = some (.ok (g y), M ++ [.lst acc]) ∧ okR M.length (g y) = true)
    (hn : items.length < n) (h1 : items.length < 100000) : compE src vs (.one slot) ifs elt n r M = some (.ok (.lst M.length), M ++ [.lst ((items.filter p).map g)]) := by
  unfold compE
  rw [h0]
  dsimp only
  rw [sApp_eq, compL_pure hs hi he items n 0 [] rfl hn (by simpa using h1) rfl, List.nil_append]
theorem next_tup {ds : List D} {j : Nat} : nextI (.seq (.tup ds)) j M = some (ds[j]?) := rfl
theorem next_lst {k : Nat} {ds : List D} {j : Nat} (h : sGet M k = some (.lst ds)) : nextI (.seq (.lst k)) j M = some (ds[j]?) := by
  simp only [nextI, itemsD, h, Option.map_some]
/-! ### loops -/
theorem forL_run {nxt : Nat → Sto → Option (Option D)} {t : TDen} {m : Nat} (P : Nat → DEnv → Sto → Prop) (hstop : ∀ r M, P m r M → nxt m M = some none)
    (hstep : ∀ i r M, i < m → P i r M → ∃ d r1 M1 r2 M2, nxt i M = some (some d) ∧ t d r M = some (r1, M1) ∧ b r1 M1 = some (.nx, r2, M2) ∧ P (i + 1) r2 M2) :
    ∀ (n i : Nat) (r : DEnv) (M : Sto), i ≤ m → m - i < n → P i r M → ∃ r' M', forL nxt t b n i r M = some (.nx, r', M') ∧ P m r' M'
  | 0, i, r, M, _, hn, _ => absurd hn (Nat.not_lt_zero _)
  | n + 1, i, r, M, hi, hn, hp => by
    unfold forL
    by_cases e : i = m
    · subst e
      rw [hstop r M hp]
      exact ⟨r, M, rfl, hp⟩
    · obtain ⟨d, r1, M1, r2, M2, h1, h2, h3, h4⟩ := hstep i r M (by omega) hp
      rw [h1]
      dsimp only
      rw [h2]
      dsimp only
      rw [h3]
      dsimp only
      exact forL_run P hstop hstep n (i + 1) r2 M2 (by omega) (by omega) h4
/-- a loop whose body may give back a value -/
theorem forL_ret {nxt : Nat → Sto → Option (Option D)} {t : TDen} {m : Nat} (P : Nat → DEnv → Sto → Prop) (Rt : D → Sto → Prop) (hstop : ∀ r M, P m r M → nxt m M = some none)
    (hstep : ∀ i r M, i < m → P i r M → ∃ d r1 M1, nxt i M = some (some d) ∧ t d r M = some (r1, M1) ∧ ((∃ r2 M2, b r1 M1 = some (.nx, r2, M2) ∧ P (i + 1) r2 M2) ∨ ∃ v r2 M2, b r1 M1 = some (.rt v, r2, M2) ∧ Rt v M2)) :
    ∀ (n i : Nat) (r : DEnv) (M : Sto), i ≤ m → m - i < n → P i r M → (∃ r' M', forL nxt t b n i r M = some (.nx, r', M') ∧ P m r' M') ∨ ∃ v r' M', forL nxt t b n i r M = some (.rt v, r', M') ∧ Rt v M'
  | 0, i, r, M, _, hn, _ => absurd hn (Nat.not_lt_zero _)
  | n + 1, i, r, M, hi, hn, hp => by
    unfold forL
    by_cases e : i = m
    · subst e
      rw [hstop r M hp]
      exact .inl ⟨r, M, rfl, hp⟩
    · obtain ⟨d, r1, M1, h1, h2, h3⟩ := hstep i r M (by omega) hp
      rw [h1]
      dsimp only
      rw [h2]
      dsimp only
      rcases h3 with ⟨r2, M2, h3, h4⟩ | ⟨v, r2, M2, h3, h4⟩
      · rw [h3]
        dsimp only
        exact forL_ret P Rt hstop hstep n (i + 1) r2 M2 (by omega) (by omega) h4
      · rw [h3]
        exact .inr ⟨v, r2, M2, rfl, h4⟩
theorem compL_run {nxt : Nat → Sto → Option (Option D)} {ct : CT} {ifs : Den Bool} {elt : Den D} {id m : Nat} (P : Nat → Sto → Prop) (hstop : ∀ M, P m M → nxt m M = some none)
    (hstep : ∀ i M, i < m → P i M → ∃ d r1 M1 e M2 acc, nxt i M = some (some d) ∧ setC ct d r = some r1 ∧ ifs r1 M = some (.ok true, M1) ∧ elt r1 M1 = some (.ok e, M2) ∧ sGet M2 id = some (.lst acc) ∧ acc.length < 100000 ∧ P (i + 1) (M2.set id (.lst (acc ++ [e])))) :
    ∀ (n i : Nat) (M : Sto), i ≤ m → m - i < n → P i M → ∃ M', compL nxt ct ifs elt id n i r M = some M' ∧ P m M'
  | 0, i, M, _, hn, _ => absurd hn (Nat.not_lt_zero _)
  | n + 1, i, M, hi, hn, hp => by
    unfold compL
    by_cases e : i = m
    · subst e
      rw [hstop M hp]
      exact ⟨M, rfl, hp⟩
    · obtain ⟨d, r1, M1, e, M2, acc, h1, h2, h3, h4, h5, h6, h7⟩ := hstep i M (by omega) hp
      rw [h1]
      dsimp only
      rw [h2]
      dsimp only
      rw [h3]
      dsimp only
      rw [h4]
      dsimp only
      rw [h5]
      dsimp only
      rw [if_pos h6]
      exact compL_run P hstop hstep n (i + 1) _ (by omega) (by omega) h7
/-- a while loop by a measure -/
theorem whileS_run {t : Den Bool} (P : Nat → DEnv → Sto → Prop) (Q : DEnv → Sto → Prop)
    (hstep : ∀ k r M, P k r M → (∃ M1, t r M = some (.ok false, M1) ∧ Q r M1) ∨ ∃ M1 r2 M2 k2, t r M = some (.ok true, M1) ∧ b r M1 = some (.nx, r2, M2) ∧ k2 < k ∧ P k2 r2 M2) :
    ∀ (n k : Nat) (r : DEnv) (M : Sto), k < n → P k r M → ∃ r' M', whileS t b n r M = some (.nx, r', M') ∧ Q r' M'
  | 0, k, r, M, hn, _ => absurd hn (Nat.not_lt_zero _)
  | n + 1, k, r, M, hn, hp => by
    unfold whileS bindS
    rcases hstep k r M hp with ⟨M1, h1, hq⟩ | ⟨M1, r2, M2, k2, h1, h2, h3, h4⟩
    · rw [h1]
      exact ⟨r, M1, rfl, hq⟩
    · rw [h1]
      dsimp only
      rw [if_pos rfl, h2]
      dsimp only
      exact whileS_run P Q hstep n k2 r2 M2 (by omega) h4
end
end PyQ

-- PyQ2
set_option maxRecDepth 100000
set_option maxHeartbeats 4000000
noncomputable section
namespace Py
open PySem PySem.Spec PyProof.Rows L2 PyD PyL PyH L2H HotX PyM PyK PyQ
/-! ### which data are heaps -/
/-- data that can be looked at: lists that stand in the store, tuples, plain ones -/
def okv (M : Sto) : D → Prop
  | .lst i => ∃ ds, sGet M i = some (.lst ds)
  | .non => True
  | .bl _ => True
  | .int _ => True
  | .str _ => True
  | .tup _ => True
  | _ => False
theorem okv.app {M X : Sto} {d : D} (h : okv M d) : okv (M ++ X) d := by
  cases d <;> first | exact h | skip
  obtain ⟨ds, e⟩ := h
  exact ⟨ds, get_some e⟩
def inB (lo hi i : Int) : Bool := decide (lo ≤ i) && decide (i ≤ hi)
def tupB (lo hi : Int) : D → Bool
  | .tup ds => inB lo hi ds.length
  | _ => false
def intB (lo hi : Int) : D → Bool
  | .int i => inB lo hi i
  | _ => false
def nonB : D → Bool
  | .non => true
  | _ => false
def strB : D → Bool
  | .str _ => true
  | _ => false
def addrB (cells : List D) : D → Bool
  | .int i => decide (0 ≤ i) && (decide (i < cells.length) && !(nonB (cells.getD i.toNat .non)))
  | _ => false
def numB : D → Bool
  | .tup [.str z, x] => sbeq z "num" && intB (-1000000000000) 1000000000000 x
  | _ => false
def wordB (cells : List D) (w : D) : Bool := nonB w || (addrB cells w || numB w)
def wordsB (cells : List D) : D → Bool
  | .tup ws => decide (ws.length ≤ 12) && ws.all (wordB cells)
  | _ => false
def labelB : D → Bool
  | .tup (.str _ :: _) => true
  | _ => false
def cellB (cells : List D) : D → Bool
  | .non => true
  | .tup [l, ws] => labelB l && wordsB cells ws
  | _ => false
def heapB : D → Bool
  | .tup cells => decide (cells.length ≤ 1000) && cells.all (cellB cells)
  | _ => false
/-- words that can be looked at -/
def okw (M : Sto) (w : D) : Prop := okv M w ∧ ∀ ds, w = .tup ds → ∀ a b, ds = [a, b] → (∃ z, a = .str z) ∧ okv M b
def oks (M : Sto) (ws : D) : Prop := okv M ws ∧ ∀ ds, ws = .tup ds → ∀ w ∈ ds, okw M w
def okc (M : Sto) (c : D) : Prop := okv M c ∧ ∀ ds, c = .tup ds → ∀ a b, ds = [a, b] → (okv M a ∧ ∀ es, a = .tup es → ∀ x ∈ es, okv M x) ∧ oks M b
def okh (M : Sto) (v : D) : Prop := okv M v ∧ ∀ ds, v = .tup ds → ds.length < 3000 ∧ ∀ c ∈ ds, okc M c
theorem okw.app {M X : Sto} {d : D} (h : okw M d) : okw (M ++ X) d := ⟨h.1.app, fun ds e a b e2 => ⟨(h.2 ds e a b e2).1, (h.2 ds e a b e2).2.app⟩⟩
theorem oks.app {M X : Sto} {d : D} (h : oks M d) : oks (M ++ X) d := ⟨h.1.app, fun ds e w hw => (h.2 ds e w hw).app⟩
theorem okc.app {M X : Sto} {d : D} (h : okc M d) : okc (M ++ X) d := ⟨h.1.app, fun ds e a b e2 => ⟨⟨(h.2 ds e a b e2).1.1.app, fun es e3 x hx => ((h.2 ds e a b e2).1.2 es e3 x hx).app⟩, (h.2 ds e a b e2).2.app⟩⟩
theorem okh.app {M X : Sto} {d : D} (h : okh M d) : okh (M ++ X) d := ⟨h.1.app, fun ds e => ⟨(h.2 ds e).1, fun c hc => ((h.2 ds e).2 c hc).app⟩⟩
theorem q_tuple_of {v : D} {lo hi : Int} {M : Sto} (hv : okv M v) : f_is_tuple_of [v, .int lo, .int hi] M = some (.ok (.bl (tupB lo hi v)), M) := by
  cases v <;> first | (exact hv.elim) | skip
  case lst i =>
    obtain ⟨ds, e⟩ := hv
    simp [bindD_ap, bindS_ap, liftD_ap, f_is_tuple_of, bodyF, d_is_tuple_of, retS_ap, andE_ap, op2_ap, opS_ap, consD_ap, nilD_ap, nmD_ap, cstD_ap, tyOfD, cmpD, isD, e, tupB]
  case tup ds =>
    by_cases h1 : lo ≤ (ds.length : Int)
    · simp [bindD_ap, bindS_ap, liftD_ap, f_is_tuple_of, bodyF, d_is_tuple_of, retS_ap, andE_ap, op2_ap, opS_ap, consD_ap, nilD_ap, nmD_ap, cstD_ap, tyOfD, cmpD, isD, chainE_ap, lenD, leF, leD, tupB, inB, h1]
    · simp [bindD_ap, bindS_ap, liftD_ap, f_is_tuple_of, bodyF, d_is_tuple_of, retS_ap, andE_ap, op2_ap, opS_ap, consD_ap, nilD_ap, nmD_ap, cstD_ap, tyOfD, cmpD, isD, chainE_ap, lenD, leF, leD, tupB, inB, h1]
  all_goals simp [bindD_ap, bindS_ap, liftD_ap, f_is_tuple_of, bodyF, d_is_tuple_of, retS_ap, andE_ap, op2_ap, opS_ap, consD_ap, nilD_ap, nmD_ap, cstD_ap, tyOfD, cmpD, isD, tupB]
theorem q_integer {v : D} {lo hi : Int} {M : Sto} (hv : okv M v) : f_is_integer [v, .int lo, .int hi] M = some (.ok (.bl (intB lo hi v)), M) := by
  cases v <;> first | (exact hv.elim) | skip
  case lst i =>
    obtain ⟨ds, e⟩ := hv
    simp [bindD_ap, bindS_ap, liftD_ap, f_is_integer, bodyF, d_is_integer, retS_ap, andE_ap, op2_ap, opS_ap, consD_ap, nilD_ap, nmD_ap, cstD_ap, tyOfD, cmpD, isD, e, intB]
  case int i =>
    by_cases h1 : lo ≤ i
    · simp [bindD_ap, bindS_ap, liftD_ap, f_is_integer, bodyF, d_is_integer, retS_ap, andE_ap, op2_ap, opS_ap, consD_ap, nilD_ap, nmD_ap, cstD_ap, tyOfD, cmpD, isD, chainE_ap, leF, leD, intB, inB, h1]
    · simp [bindD_ap, bindS_ap, liftD_ap, f_is_integer, bodyF, d_is_integer, retS_ap, andE_ap, op2_ap, opS_ap, consD_ap, nilD_ap, nmD_ap, cstD_ap, tyOfD, cmpD, isD, chainE_ap, leF, leD, intB, inB, h1]
  all_goals simp [bindD_ap, bindS_ap, liftD_ap, f_is_integer, bodyF, d_is_integer, retS_ap, andE_ap, op2_ap, opS_ap, consD_ap, nilD_ap, nmD_ap, cstD_ap, tyOfD, cmpD, isD, intB]
theorem q_number {v : D} {M : Sto} (hv : okv M v) : f_is_number [v] M = some (.ok (.bl (intB (-1000000000000) 1000000000000 v)), M) := by
  have h := trimE_same (r := [some v]) (f := callE 3 f_is_integer (consD (nmD 0) (consD (op1 negD (cstD (.int 1000000000000))) (consD (cstD (.int 1000000000000)) nilD)))) (M := M) (d := .bl (intB (-1000000000000) 1000000000000 v)) (by
    simp [bindD_ap, bindS_ap, liftD_ap, callE_ap, consD_ap, nmD_ap, op1_ap, cstD_ap, negD, nilD_ap, q_integer hv])
  simp [bindD_ap, bindS_ap, liftD_ap, f_is_number, bodyF, d_is_number, retS_ap, h]
theorem q_index {v : D} {cells : List D} {M : Sto} (hv : okv M v) : f_is_index_of [v, .tup cells] M = some (.ok (.bl (match v with | .int i => decide (0 ≤ i) && decide (i < cells.length) | _ => false)), M) := by
  cases v <;> first | (exact hv.elim) | skip
  case lst i =>
    obtain ⟨ds, e⟩ := hv
    simp [bindD_ap, bindS_ap, liftD_ap, f_is_index_of, bodyF, d_is_index_of, retS_ap, andE_ap, op2_ap, opS_ap, consD_ap, nilD_ap, nmD_ap, cstD_ap, tyOfD, cmpD, isD, e]
  case int i =>
    by_cases h1 : 0 ≤ i
    · simp [bindD_ap, bindS_ap, liftD_ap, f_is_index_of, bodyF, d_is_index_of, retS_ap, andE_ap, op2_ap, opS_ap, consD_ap, nilD_ap, nmD_ap, cstD_ap, tyOfD, cmpD, isD, chainE_ap, leF, leD, ltF, ltD, lenD, h1]
    · simp [bindD_ap, bindS_ap, liftD_ap, f_is_index_of, bodyF, d_is_index_of, retS_ap, andE_ap, op2_ap, opS_ap, consD_ap, nilD_ap, nmD_ap, cstD_ap, tyOfD, cmpD, isD, chainE_ap, leF, leD, ltF, ltD, lenD, h1]
  all_goals simp [bindD_ap, bindS_ap, liftD_ap, f_is_index_of, bodyF, d_is_index_of, retS_ap, andE_ap, op2_ap, opS_ap, consD_ap, nilD_ap, nmD_ap, cstD_ap, tyOfD, cmpD, isD]
/-- the item at an address -/
theorem atI_nat {cells : List D} {i : Int} (h0 : 0 ≤ i) (h1 : i < cells.length) : atI cells i = some (cells.getD i.toNat .non) := by
  unfold atI ixN
  rw [if_pos h0, if_pos h1]
  have : i.toNat < cells.length := by omega
  simp [List.getD, List.getElem?_eq_getElem this]
theorem is_non {d : D} {M : Sto} : isD true d .non M = some (.bl (!nonB d), M) := by cases d <;> rfl
theorem is_nonT {d : D} {M : Sto} : isD false d .non M = some (.bl (nonB d), M) := by cases d <;> rfl
theorem q_address {v : D} {cells : List D} {M : Sto} (hv : okv M v) : f_is_address [.tup cells, v] M = some (.ok (.bl (addrB cells v)), M) := by
  have h := trimE_same (r := [some (.tup cells), some v]) (f := callE 2 f_is_index_of (consD (nmD 1) (consD (nmD 0) nilD))) (M := M) (d := .bl (match v with | .int i => decide (0 ≤ i) && decide (i < cells.length) | _ => false)) (by
    simp [bindD_ap, bindS_ap, liftD_ap, callE_ap, consD_ap, nmD_ap, nilD_ap, q_index hv])
  have e : addrB cells v = match v with | .int i => decide (0 ≤ i) && (decide (i < cells.length) && !(nonB (cells.getD i.toNat .non))) | _ => false := by cases v <;> rfl
  rw [e]
  cases v <;> first | (exact hv.elim) | skip
  case int i =>
    by_cases h0 : 0 ≤ i
    · by_cases h1 : i < cells.length
      · simp [bindD_ap, bindS_ap, liftD_ap, f_is_address, bodyF, d_is_address, retS_ap, andE_ap, op2_ap, nmD_ap, cstD_ap, h, h0, h1, itemD, ixD, atI_nat h0 h1, cmpD, is_non]
      · simp [bindD_ap, bindS_ap, liftD_ap, f_is_address, bodyF, d_is_address, retS_ap, andE_ap, h, h0, h1]
    · simp [bindD_ap, bindS_ap, liftD_ap, f_is_address, bodyF, d_is_address, retS_ap, andE_ap, h, h0]
  all_goals simp [bindD_ap, bindS_ap, liftD_ap, f_is_address, bodyF, d_is_address, retS_ap, andE_ap, h]
end Py

-- PyQ3
set_option maxRecDepth 100000
set_option maxHeartbeats 4000000
noncomputable section
namespace Py
open PySem PySem.Spec PyProof.Rows L2 PyD PyL PyH L2H HotX PyM PyK PyQ
theorem okv_bl {M : Sto} {b : Bool} : okv M (.bl b) := trivial
theorem len2 {ds : List D} (h : (2 : Int) ≤ ds.length) (h2 : (ds.length : Int) ≤ 2) : ∃ a b, ds = [a, b] := by
  match ds with
  | [a, b] => exact ⟨a, b, rfl⟩
  | [] => simp at h
  | [_] => simp at h
  | _ :: _ :: _ :: _ => simp at h2; omega
theorem tup2_iff {ds : List D} : tupB 2 2 (.tup ds) = true ↔ ∃ a b, ds = [a, b] := by
  unfold tupB inB
  rw [Bool.and_eq_true, decide_eq_true_iff, decide_eq_true_iff]
  constructor
  · exact fun h => len2 h.1 h.2
  · rintro ⟨a, b, rfl⟩
    simp
theorem numB_no {ds : List D} (h : tupB 2 2 (.tup ds) = false) : numB (.tup ds) = false := by
  cases e : numB (.tup ds) with
  | false => rfl
  | true =>
    exfalso
    unfold numB at e
    split at e
    · rename_i z x e2
      cases e2
      simp [tupB, inB] at h
    · cases e
theorem q_word {w : D} {cells : List D} {M : Sto} (hw : okw M w) : f_is_heap_word [.tup cells, w] M = some (.ok (.bl (wordB cells w)), M) := by
  have h1 := trimE_same (r := [some (.tup cells), some w]) (f := callE 2 f_is_address (consD (nmD 0) (consD (nmD 1) nilD))) (M := M) (d := .bl (addrB cells w)) (by
    simp [bindD_ap, bindS_ap, liftD_ap, callE_ap, consD_ap, nmD_ap, nilD_ap, q_address hw.1])
  have h2 := trimE_same (r := [some (.tup cells), some w]) (f := callE 3 f_is_tuple_of (consD (nmD 1) (consD (cstD (.int 2)) (consD (cstD (.int 2)) nilD)))) (M := M) (d := .bl (tupB 2 2 w)) (by
    simp [bindD_ap, bindS_ap, liftD_ap, callE_ap, consD_ap, nmD_ap, nilD_ap, cstD_ap, q_tuple_of hw.1])
  unfold wordB
  cases hn : nonB w with
  | true =>
    simp [bindD_ap, bindS_ap, liftD_ap, f_is_heap_word, bodyF, d_is_heap_word, seqS_ap, ifS_ap, retS_ap, orT_ap, btestD_ap, testD_ap, op2_ap, nmD_ap, cstD_ap, cmpD, is_nonT, hn, blD]
  | false =>
    cases ha : addrB cells w with
    | true =>
      simp [bindD_ap, bindS_ap, liftD_ap, f_is_heap_word, bodyF, d_is_heap_word, seqS_ap, ifS_ap, retS_ap, orT_ap, btestD_ap, testD_ap, op2_ap, nmD_ap, cstD_ap, cmpD, is_nonT, hn, blD, h1, ha, truD]
    | false =>
      cases ht : tupB 2 2 w with
      | false =>
        have e : numB w = false := by
          cases w <;> first | rfl | exact numB_no ht
        simp [bindD_ap, bindS_ap, liftD_ap, f_is_heap_word, bodyF, d_is_heap_word, seqS_ap, ifS_ap, retS_ap, orT_ap, btestD_ap, testD_ap, op2_ap, nmD_ap, cstD_ap, cmpD, is_nonT, hn, blD, h1, ha, truD, skipS_ap, andE_ap, h2, ht, e]
      | true =>
        cases w <;> first | (cases ht; done) | skip
        rename_i ds
        obtain ⟨a, b, rfl⟩ := tup2_iff.mp ht
        obtain ⟨⟨z, rfl⟩, hb⟩ := hw.2 _ rfl a b rfl
        have h3 := trimE_same (r := [some (.tup cells), some (.tup [.str z, b])]) (f := callE 1 f_is_number (consD (op2 itemD (nmD 1) (cstD (.int 1))) nilD)) (M := M) (d := .bl (intB (-1000000000000) 1000000000000 b)) (by
          have e1 : atI [D.str z, b] 1 = some b := by rfl
          simp [bindD_ap, bindS_ap, liftD_ap, callE_ap, consD_ap, nmD_ap, nilD_ap, op2_ap, cstD_ap, itemD, ixD, e1, q_number hb])
        have e0 : atI [D.str z, b] 0 = some (.str z) := by rfl
        cases hz : sbeq z "num" <;>
          simp [bindD_ap, bindS_ap, liftD_ap, f_is_heap_word, bodyF, d_is_heap_word, seqS_ap, ifS_ap, retS_ap, orT_ap, btestD_ap, testD_ap, op2_ap, opS_ap, consD_ap, nilD_ap, nmD_ap, cstD_ap, cmpD, is_nonT, hn, blD, h1, ha, truD, skipS_ap, andE_ap, h2, ht, itemD, ixD, e0, tyOfD, isD, eqF, xorB, hz, h3, numB]
/-- all of some bools -/
theorem bls_map {α : Type} (p : α → Bool) : ∀ l : List α, blsD (l.map fun x => D.bl (p x)) = some (l.map p)
  | [] => rfl
  | x :: l => by simp [blsD, bls_map p l]
theorem all_map {α : Type} (p : α → Bool) (l : List α) : (l.map p).all id = l.all p := by
  rw [List.all_map]
  rfl
theorem filter_yes {α : Type} (l : List α) : l.filter (fun _ => true) = l := by simp
theorem q_words {v : D} {cells : List D} {M : Sto} (hM : WF M) (hv : oks M v) : ∃ X, f_are_words [.tup cells, v] M = some (.ok (.bl (wordsB cells v)), M ++ X) := by
  have h1 := trimE_same (r := [some (.tup cells), some v, none]) (f := callE 3 f_is_tuple_of (consD (nmD 1) (consD (cstD (.int 0)) (consD (cstD (.int 12)) nilD)))) (M := M) (d := .bl (tupB 0 12 v)) (by
    simp [bindD_ap, bindS_ap, liftD_ap, callE_ap, consD_ap, nmD_ap, nilD_ap, cstD_ap, q_tuple_of hv.1])
  cases ht : tupB 0 12 v with
  | false =>
    have e : wordsB cells v = false := by
      cases v <;> first | rfl | skip
      rename_i wl
      simp only [tupB, inB, Bool.and_eq_false_iff, decide_eq_false_iff_not] at ht
      have : ¬ wl.length ≤ 12 := fun hh => by rcases ht with q | q <;> omega
      simp [wordsB, this]
    exact ⟨[], by simp [bindD_ap, bindS_ap, liftD_ap, f_are_words, bodyF, d_are_words, retS_ap, andE_ap, h1, ht, e]⟩
  | true =>
    cases v <;> first | (cases ht; done) | skip
    rename_i ws
    have hl : ws.length ≤ 12 := by
      simp only [tupB, inB, Bool.and_eq_true, decide_eq_true_iff] at ht
      omega
    have hc := compE_pure (src := anySrc (nmD 1)) (vs := [2]) (slot := 2) (n := 100000) (r := [some (.tup cells), some (.tup ws), none]) (M := M) (s := .seq (.tup ws)) (items := ws) (ifs := yesT) (p := fun _ => true) (g := fun w => .bl (wordB cells w))
      (elt := trimE (callN 2 f_is_heap_word (consD (nmD 0) (consD (nmD 2) nilD)))) (by simp [bindD_ap, bindS_ap, liftD_ap, anySrc, nmD_ap, itemsD]) (fun _ _ => next_tup) (fun _ _ _ _ => rfl) (fun w hw _ acc hk => ⟨trimE_same (by
        have z := q_word (cells := cells) (M := M ++ [.lst acc]) (hv.2 _ rfl w hw).app
        simp [bindD_ap, bindS_ap, liftD_ap, callN_ap, consD_ap, nmD_ap, nilD_ap, wipeD, z]), rfl⟩) (by omega) (by omega)
    rw [filter_yes] at hc
    refine ⟨[.lst (ws.map fun w => .bl (wordB cells w))], ?_⟩
    simp only [bindD_ap, bindS_ap, liftD_ap, f_are_words, bodyF, d_are_words, retS_ap, andE_ap, h1, ht, opS_ap, consD_ap, hc, nilD_ap, allD, lstOf, get_new, bls_map, List.map_cons, List.map_nil, List.length_cons, List.length_nil, List.replicate, List.cons_append, List.nil_append, Option.map_some, all_map]
    simp [wordsB, hl]
theorem q_begins {v : D} {M : Sto} (hv : okv M v) (h2 : ∀ es, v = .tup es → ∀ x ∈ es, okv M x) : f_begins_with_word [v] M = some (.ok (.bl (labelB v)), M) := by
  cases v <;> first | (exact hv.elim) | skip
  case lst i =>
    obtain ⟨ds, e⟩ := hv
    simp [bindD_ap, bindS_ap, liftD_ap, f_begins_with_word, bodyF, d_begins_with_word, retS_ap, andE_ap, op2_ap, opS_ap, consD_ap, nilD_ap, nmD_ap, cstD_ap, tyOfD, cmpD, isD, e, labelB]
  case tup ds =>
    match ds, h2 with
    | [], _ => simp [bindD_ap, bindS_ap, liftD_ap, f_begins_with_word, bodyF, d_begins_with_word, retS_ap, andE_ap, op2_ap, opS_ap, consD_ap, nilD_ap, nmD_ap, cstD_ap, tyOfD, cmpD, isD, lenD, gtD, labelB]
    | x :: xs, h2 =>
      have e0 : atI (x :: xs) 0 = some x := by unfold atI ixN; rw [if_pos (by decide), if_pos (by simp)]; rfl
      have hx : okv M x := h2 _ rfl x (List.mem_cons_self)
      have hp : (0 : Int) < (x :: xs).length := by simp
      cases x <;> first | (exact hx.elim) | skip
      case lst i =>
        obtain ⟨ds, e⟩ := hx
        simp [bindD_ap, bindS_ap, liftD_ap, f_begins_with_word, bodyF, d_begins_with_word, retS_ap, andE_ap, op2_ap, opS_ap, consD_ap, nilD_ap, nmD_ap, cstD_ap, tyOfD, cmpD, isD, lenD, gtD, labelB, itemD, ixD, e0, e, hp]
        try omega
      all_goals
        simp [bindD_ap, bindS_ap, liftD_ap, f_begins_with_word, bodyF, d_begins_with_word, retS_ap, andE_ap, op2_ap, opS_ap, consD_ap, nilD_ap, nmD_ap, cstD_ap, tyOfD, cmpD, isD, lenD, gtD, labelB, itemD, ixD, e0, hp]
        try omega
  all_goals simp [bindD_ap, bindS_ap, liftD_ap, f_begins_with_word, bodyF, d_begins_with_word, retS_ap, andE_ap, op2_ap, opS_ap, consD_ap, nilD_ap, nmD_ap, cstD_ap, tyOfD, cmpD, isD, labelB]
theorem cellB_no {cells ds : List D} (h : tupB 2 2 (.tup ds) = false) : cellB cells (.tup ds) = false := by
  cases e : cellB cells (.tup ds) with
  | false => rfl
  | true =>
    exfalso
    unfold cellB at e
    split at e
    · rename_i e2; cases e2
    · rename_i z x e2
      cases e2
      simp [tupB, inB] at h
    · cases e
theorem q_cell {v : D} {cells : List D} {M : Sto} (hM : WF M) (hv : okc M v) (hn : nonB v = false) : ∃ X, f_is_cell [.tup cells, v] M = some (.ok (.bl (cellB cells v)), M ++ X) := by
  have h1 := trimE_same (r := [some (.tup cells), some v]) (f := callE 3 f_is_tuple_of (consD (nmD 1) (consD (cstD (.int 2)) (consD (cstD (.int 2)) nilD)))) (M := M) (d := .bl (tupB 2 2 v)) (by
    simp [bindD_ap, bindS_ap, liftD_ap, callE_ap, consD_ap, nmD_ap, nilD_ap, cstD_ap, q_tuple_of hv.1])
  cases ht : tupB 2 2 v with
  | false =>
    have e : cellB cells v = false := by
      cases v <;> first | (cases hn; done) | rfl | exact cellB_no ht
    exact ⟨[], by simp [bindD_ap, bindS_ap, liftD_ap, f_is_cell, bodyF, d_is_cell, retS_ap, andE_ap, h1, ht, e]⟩
  | true =>
    cases v <;> first | (cases ht; done) | skip
    rename_i ds
    obtain ⟨a, b, rfl⟩ := tup2_iff.mp ht
    obtain ⟨⟨ha, ha2⟩, hb⟩ := hv.2 _ rfl a b rfl
    have e0 : atI [a, b] 0 = some a := rfl
    have e1 : atI [a, b] 1 = some b := rfl
    have h2 := trimE_same (r := [some (.tup cells), some (.tup [a, b])]) (f := callE 1 f_begins_with_word (consD (op2 itemD (nmD 1) (cstD (.int 0))) nilD)) (M := M) (d := .bl (labelB a)) (by
      simp [bindD_ap, bindS_ap, liftD_ap, callE_ap, consD_ap, nmD_ap, nilD_ap, op2_ap, cstD_ap, itemD, ixD, e0, q_begins ha ha2])
    obtain ⟨X, hX⟩ := q_words (cells := cells) hM hb
    have h3 := trimE_one (r := [some (.tup cells), some (.tup [a, b])]) (f := callE 2 f_are_words (consD (nmD 0) (consD (op2 itemD (nmD 1) (cstD (.int 1))) nilD))) (M := M) (d := .bl (wordsB cells b)) (X := X) (by
      simp [bindD_ap, bindS_ap, liftD_ap, callE_ap, consD_ap, nmD_ap, nilD_ap, op2_ap, cstD_ap, itemD, ixD, e1, hX]) hM rfl
    refine ⟨[], ?_⟩
    cases hl : labelB a <;> simp [bindD_ap, bindS_ap, liftD_ap, f_is_cell, bodyF, d_is_cell, retS_ap, andE_ap, h1, ht, h2, h3, hl, cellB]
theorem q_fits {v : D} {M : Sto} (hM : WF M) (hv : okh M v) : ∃ X, f_fits_heap [v] M = some (.ok (.bl (heapB v)), M ++ X) := by
  have h1 := trimE_same (r := [some v, none]) (f := callE 3 f_is_tuple_of (consD (nmD 0) (consD (cstD (.int 0)) (consD (cstD (.int 1000)) nilD)))) (M := M) (d := .bl (tupB 0 1000 v)) (by
    simp [bindD_ap, bindS_ap, liftD_ap, callE_ap, consD_ap, nmD_ap, nilD_ap, cstD_ap, q_tuple_of hv.1])
  cases ht : tupB 0 1000 v with
  | false =>
    have e : heapB v = false := by
      cases v <;> first | rfl | skip
      rename_i wl
      simp only [tupB, inB, Bool.and_eq_false_iff, decide_eq_false_iff_not] at ht
      have : ¬ wl.length ≤ 1000 := fun hh => by rcases ht with q | q <;> omega
      simp [heapB, this]
    exact ⟨[], by simp [bindD_ap, bindS_ap, liftD_ap, f_fits_heap, bodyF, d_fits_heap, seqS_ap, ifS_ap, notT_ap, testD_ap, truD, cstD_ap, retS_ap, h1, ht, e]⟩
  | true =>
    cases v <;> first | (cases ht; done) | skip
    rename_i cs
    have hl : cs.length ≤ 1000 := by
      simp only [tupB, inB, Bool.and_eq_true, decide_eq_true_iff] at ht
      omega
    have hc := compE_pure (src := anySrc (nmD 0)) (vs := [1]) (slot := 1) (n := 100000) (r := [some (.tup cs), none]) (M := M) (s := .seq (.tup cs)) (items := cs) (ifs := yesT) (p := fun _ => true) (g := fun c => .bl (cellB cs c))
      (elt := orE (op2 (cmpD .Is) (nmD 1) (cstD .non)) (trimE (callN 2 f_is_cell (consD (nmD 0) (consD (nmD 1) nilD))))) (by simp [bindD_ap, bindS_ap, liftD_ap, anySrc, nmD_ap, itemsD]) (fun _ _ => next_tup) (fun _ _ _ _ => rfl) (fun c hc _ acc hk => ⟨by
        cases hn : nonB c with
        | true =>
          have : cellB cs c = true := by cases c <;> first | (cases hn; done) | rfl
          simp [bindD_ap, bindS_ap, liftD_ap, orE_ap, op2_ap, nmD_ap, cstD_ap, cmpD, is_nonT, wipeD, hn, this]
        | false =>
          obtain ⟨X, hX⟩ := q_cell (cells := cs) (M := M ++ [.lst acc]) (hM.addL hk) ((hv.2 _ rfl).2 c hc).app hn
          have h3 := trimE_one (r := [some (.tup cs), some c]) (f := callN 2 f_is_cell (consD (nmD 0) (consD (nmD 1) nilD))) (M := M ++ [.lst acc]) (d := .bl (cellB cs c)) (X := X) (by
            simp [bindD_ap, bindS_ap, liftD_ap, callN_ap, consD_ap, nmD_ap, nilD_ap, hX]) (hM.addL hk) rfl
          simp [bindD_ap, bindS_ap, liftD_ap, orE_ap, op2_ap, nmD_ap, cstD_ap, cmpD, is_nonT, wipeD, hn, h3], rfl⟩) (by omega) (by omega)
    rw [filter_yes] at hc
    refine ⟨[.lst (cs.map fun c => .bl (cellB cs c))], ?_⟩
    simp only [bindD_ap, bindS_ap, liftD_ap, f_fits_heap, bodyF, d_fits_heap, seqS_ap, ifS_ap, notT_ap, testD_ap, truD, skipS_ap, retS_ap, h1, ht, opS_ap, consD_ap, hc, nilD_ap, allD, lstOf, get_new, bls_map, List.map_cons, List.map_nil, List.length_cons, List.length_nil, List.replicate, List.cons_append, List.nil_append, Option.map_some, all_map]
    simp [heapB, hl, skipS_ap, retS_ap, bindS_ap, bindD_ap, opS_ap, consD_ap, hc, nilD_ap, liftD_ap, allD, lstOf, get_new, bls_map, all_map]
end Py

-- PyQ4
set_option maxRecDepth 100000
set_option maxHeartbeats 4000000
noncomputable section
namespace PyQ
open PySem PySem.Spec PyProof.Rows L2 PyD PyM PyK
/-! ### data as they are compared -/
structure PyV (M : Sto) (k : Nat) (d : D) (p : PyData) : Prop where
  to : ∀ n, k ≤ n → toPy M n d = some p
  lay : p.canLay0 = true
  dp : p.depth ≤ k
structure PyS (M : Sto) (k : Nat) (ds : List D) (ps : List PyData) : Prop where
  to : ∀ n, k ≤ n → toPys M n ds = some ps
  lay : PyData.canLayAll0 ps = true
  dp : PyData.depthAll ps ≤ k
section
variable {M X : Sto} {k k' : Nat} {d : D} {p q : PyData} {ds : List D} {ps : List PyData}
theorem PyV.mono (h : PyV M k d p) (hk : k ≤ k') : PyV M k' d p := ⟨fun n hn => h.to n (Nat.le_trans hk hn), h.lay, Nat.le_trans h.dp hk⟩
theorem PyS.mono (h : PyS M k ds ps) (hk : k ≤ k') : PyS M k' ds ps := ⟨fun n hn => h.to n (Nat.le_trans hk hn), h.lay, Nat.le_trans h.dp hk⟩
theorem PyV.non : PyV M 1 .non .none := ⟨fun n hn => by cases n with | zero => omega | succ n => rfl, rfl, Nat.zero_le _⟩
theorem PyV.bl (b : Bool) : PyV M 1 (.bl b) (.bool b) := ⟨fun n hn => by cases n with | zero => omega | succ n => rfl, rfl, Nat.zero_le _⟩
theorem PyV.int (i : Int) : PyV M 1 (.int i) (.int i) := ⟨fun n hn => by cases n with | zero => omega | succ n => rfl, rfl, Nat.zero_le _⟩
theorem PyV.str (x : Str) (hx : (PyData.str x).canLay0 = true) : PyV M 1 (.str x) (.str x) := ⟨fun n hn => by cases n with | zero => omega | succ n => rfl, hx, Nat.zero_le _⟩
theorem PyS.nil : PyS M 0 [] [] := ⟨fun n hn => by cases n <;> rfl, rfl, Nat.zero_le _⟩
theorem PyS.cons (h : PyV M k d p) (t : PyS M k ds ps) : PyS M (k + 1) (d :: ds) (p :: ps) := ⟨fun n hn => by
  cases n with
  | zero => omega
  | succ n =>
    show (match toPy M n d, toPys M n ds with
      | some p, some ps => some (p :: ps)
      | _, _ => none) = _
    rw [h.to n (by omega), t.to n (by omega)], by simp only [PyData.canLayAll0, h.lay, t.lay, Bool.and_self], by
  have a := h.dp
  have b := t.dp
  simp only [PyData.depthAll]
  omega⟩
theorem PyS.tup (t : PyS M k ds ps) : PyV M (k + 1) (.tup ds) (.tuple ps) := ⟨fun n hn => by
  cases n with
  | zero => omega
  | succ n =>
    show (toPys M n ds).map PyData.tuple = _
    rw [t.to n (by omega)]
    rfl, t.lay, by
  have b := t.dp
  simp only [PyData.depth]
  omega⟩
theorem PyS.lst {i : Nat} (h : sGet M i = some (.lst ds)) (t : PyS M k ds ps) : PyV M (k + 1) (.lst i) (.list ps) := ⟨fun n hn => by
  cases n with
  | zero => omega
  | succ n =>
    show (match (sGet M i) with
      | some (.lst ds) => (toPys M n ds).map PyData.list
      | _ => none) = _
    rw [h]
    dsimp only
    rw [t.to n (by omega)]
    rfl, t.lay, by
  have b := t.dp
  simp only [PyData.depth]
  omega⟩
mutual
theorem toPy_app {M X : Sto} : ∀ (n : Nat) {d : D} {p : PyData}, toPy M n d = some p → toPy (M ++ X) n d = some p
  | 0, _, _, h => by cases h
  | n + 1, .non, _, h => h
  | n + 1, .bl _, _, h => h
  | n + 1, .int _, _, h => h
  | n + 1, .str _, _, h => h
  | n + 1, .ty _, _, h => by cases h
  | n + 1, .dic _, _, h => by cases h
  | n + 1, .fn _, _, h => by cases h
  | n + 1, .exn _ _, _, h => by cases h
  | n + 1, .tup ds, _, h => by
    obtain ⟨ps, e1, e2⟩ := map_some (show (toPys M n ds).map PyData.tuple = _ from h)
    show (toPys (M ++ X) n ds).map PyData.tuple = _
    rw [toPys_app n e1]
    exact congrArg some e2
  | n + 1, .ktup ds, _, h => by
    obtain ⟨ps, e1, e2⟩ := map_some (show (toPys M n ds).map PyData.tuple = _ from h)
    show (toPys (M ++ X) n ds).map PyData.tuple = _
    rw [toPys_app n e1]
    exact congrArg some e2
  | n + 1, .lst i, _, h => by
    have h : (match (sGet M i) with
      | some (.lst ds) => (toPys M n ds).map PyData.list
      | _ => none) = some _ := h
    split at h
    · rename_i ds e
      obtain ⟨ps, e1, e2⟩ := map_some h
      show (match (sGet (M ++ X) i) with
        | some (.lst ds) => (toPys (M ++ X) n ds).map PyData.list
        | _ => none) = some _
      rw [get_some e]
      dsimp only
      rw [toPys_app n e1]
      exact congrArg some e2
    · cases h
theorem toPys_app {M X : Sto} : ∀ (n : Nat) {ds : List D} {ps : List PyData}, toPys M n ds = some ps → toPys (M ++ X) n ds = some ps
  | 0, [], _, h => h
  | n + 1, [], _, h => h
  | 0, _ :: _, _, h => by cases h
  | n + 1, d :: ds, _, h => by
    have h : (match toPy M n d, toPys M n ds with
      | some p, some ps => some (p :: ps)
      | _, _ => none) = some _ := h
    show (match toPy (M ++ X) n d, toPys (M ++ X) n ds with
      | some p, some ps => some (p :: ps)
      | _, _ => none) = some _
    split at h
    · rename_i p ps e1 e2
      rw [toPy_app n e1, toPys_app n e2]
      exact h
    · cases h
end
theorem PyV.app (h : PyV M k d p) : PyV (M ++ X) k d p := ⟨fun n hn => toPy_app n (h.to n hn), h.lay, h.dp⟩
theorem PyS.app (h : PyS M k ds ps) : PyS (M ++ X) k ds ps := ⟨fun n hn => toPys_app n (h.to n hn), h.lay, h.dp⟩
theorem PyV.shp (h : PyV M k d p) (hk : k ≤ 64) : shp p = true := by
  show (p.canLay0 && decide (p.depth ≤ 64)) = true
  rw [h.lay, decide_eq_true (Nat.le_trans h.dp hk)]
  rfl
theorem eqD_is {a b : D} {neg : Bool} (h : PyV M k a p) (t : PyV M k' b q) (hk : k ≤ 64) (hk' : k' ≤ 64) : eqD neg a b M = some (.bl (if neg then !PyData.eqv p q else PyData.eqv p q), M) := by
  unfold eqD
  rw [h.to 200 (by omega), t.to 200 (by omega)]
  dsimp only
  rw [h.shp hk, t.shp hk']
  rfl
theorem pys_all {α : Type} {f : α → D} {g : α → PyData} {j : Nat} : ∀ l : List α, (∀ x ∈ l, PyV M j (f x) (g x)) → PyS M (j + l.length) (l.map f) (l.map g)
  | [], _ => PyS.nil.mono (Nat.zero_le _)
  | x :: l, h => (PyS.cons ((h x (List.mem_cons_self)).mono (Nat.le_add_right j l.length)) (pys_all l fun y hy => h y (List.mem_cons_of_mem _ hy))).mono (by simp only [List.length_cons]; omega)
theorem pys_ints (l : List Int) : PyS M (1 + l.length) (l.map D.int) (l.map PyData.int) := pys_all l fun x _ => .int x
mutual
theorem eqv_refl : ∀ p : PyData, p.canLay0 = true → PyData.eqv p p = true
  | .none, _ => rfl
  | .bool b, _ => by simp [PyData.eqv]
  | .int i, _ => by simp [PyData.eqv]
  | .str x, _ => by
    simp only [PyData.eqv]
    exact beq_self_eq_true x
  | .list xs, h => by
    simp only [PyData.eqv]
    exact eqvAll_refl xs h
  | .tuple xs, h => by
    simp only [PyData.eqv]
    exact eqvAll_refl xs h
  | .dict _, h => by cases h
theorem eqvAll_refl : ∀ ps : List PyData, PyData.canLayAll0 ps = true → PyData.eqvAll ps ps = true
  | [], _ => by simp [PyData.eqvAll]
  | p :: ps, h => by
    simp only [PyData.canLayAll0, Bool.and_eq_true] at h
    simp only [PyData.eqvAll, eqv_refl p h.1, eqvAll_refl ps h.2, Bool.and_self]
end
theorem eqv_nil : PyData.eqv (.list ps) (.list []) = ps.isEmpty := by
  cases ps <;> simp [PyData.eqv, PyData.eqvAll]
/-- the same data compared -/
theorem eqD_same {a b : D} {neg : Bool} (h : PyV M k a p) (t : PyV M k' b p) (hk : k ≤ 64) (hk' : k' ≤ 64) : eqD neg a b M = some (.bl (!neg), M) := by
  rw [eqD_is h t hk hk', eqv_refl p h.lay]
  cases neg <;> rfl
end
end PyQ

-- PyQ5
set_option maxRecDepth 100000
set_option maxHeartbeats 4000000
noncomputable section
namespace Py
open PySem PySem.Spec PyProof.Rows L2 PyD PyL PyH L2H HotX PyM PyK PyQ
/-! ### the law's own words for heaps -/
theorem kit_int_int : kitB "int" "int" = some true := by decide +kernel
theorem kit_bool_int : kitB "bool" "int" = some true := by decide +kernel
theorem kit_non_int : kitB "NoneType" "int" = some false := by decide +kernel
theorem kit_str_int : kitB "str" "int" = some false := by decide +kernel
theorem kit_tup_int : kitB "tuple" "int" = some false := by decide +kernel
theorem kit_lst_int : kitB "list" "int" = some false := by decide +kernel
theorem kit_int_bool : kitB "int" "bool" = some false := by decide +kernel
theorem kit_bool_bool : kitB "bool" "bool" = some true := by decide +kernel
theorem kit_non_tup : kitB "NoneType" "tuple" = some false := by decide +kernel
theorem kit_bool_tup : kitB "bool" "tuple" = some false := by decide +kernel
theorem kit_int_tup : kitB "int" "tuple" = some false := by decide +kernel
theorem kit_str_tup : kitB "str" "tuple" = some false := by decide +kernel
theorem kit_tup_tup : kitB "tuple" "tuple" = some true := by decide +kernel
theorem kit_lst_tup : kitB "list" "tuple" = some false := by decide +kernel
theorem kit_non_str : kitB "NoneType" "str" = some false := by decide +kernel
theorem kit_bool_str : kitB "bool" "str" = some false := by decide +kernel
theorem kit_int_str : kitB "int" "str" = some false := by decide +kernel
theorem kit_str_str : kitB "str" "str" = some true := by decide +kernel
theorem kit_tup_str : kitB "tuple" "str" = some false := by decide +kernel
theorem kit_lst_str : kitB "list" "str" = some false := by decide +kernel
def isTupB : D → Bool
  | .tup _ => true
  | _ => false
def isIntB : D → Bool
  | .int _ => true
  | .bl _ => true
  | _ => false
theorem isi_tup {d : D} {M : Sto} (h : okv M d) : isiD [d, .ty "tuple"] M = some (.bl (isTupB d), M) := by
  cases d <;> first | (exact h.elim) | skip
  case lst i =>
    obtain ⟨ds, e⟩ := h
    simp [isiD, tyOfD, e, kit_lst_tup, isTupB]
  all_goals simp [isiD, tyOfD, kit_non_tup, kit_bool_tup, kit_int_tup, kit_str_tup, kit_tup_tup, isTupB]
theorem isi_str {d : D} {M : Sto} (h : okv M d) : isiD [d, .ty "str"] M = some (.bl (strB d), M) := by
  cases d <;> first | (exact h.elim) | skip
  case lst i =>
    obtain ⟨ds, e⟩ := h
    simp [isiD, tyOfD, e, kit_lst_str, strB]
  all_goals simp [isiD, tyOfD, kit_non_str, kit_bool_str, kit_int_str, kit_str_str, kit_tup_str, strB]
theorem isi_int {d : D} {M : Sto} (h : okv M d) : isiD [d, .ty "int"] M = some (.bl (isIntB d), M) := by
  cases d <;> first | (exact h.elim) | skip
  case lst i =>
    obtain ⟨ds, e⟩ := h
    simp [isiD, tyOfD, e, kit_lst_int, isIntB]
  all_goals simp [isiD, tyOfD, kit_non_int, kit_bool_int, kit_int_int, kit_str_int, kit_tup_int, isIntB]
theorem trimW_same {b : SDen} {r r' : DEnv} {M : Sto} (h : b r M = some (.nx, r', M)) : trimW b r M = some (.nx, r', M) := by
  unfold trimW
  rw [h]
  dsimp only
  rw [Nat.ble_eq.mpr (Nat.le_refl _)]
theorem q_whole {v : D} {lo hi : Int} {M : Sto} (hv : okv M v) : f__law_is_whole [v, .int lo, .int hi] M = some (.ok (.bl (intB lo hi v)), M) := by
  have h1 := isi_int hv
  cases v <;> first | (exact hv.elim) | skip
  case int i =>
    by_cases h2 : lo ≤ i
    · simp [bindD_ap, bindS_ap, liftD_ap, f__law_is_whole, bodyF, d__law_is_whole, retS_ap, andE_ap, notE_ap, opS_ap, consD_ap, nilD_ap, nmD_ap, cstD_ap, h1, isIntB, isiD, tyOfD, kit_int_int, kit_int_bool, chainE_ap, cmpD, leF, leD, intB, inB, h2]
    · simp [bindD_ap, bindS_ap, liftD_ap, f__law_is_whole, bodyF, d__law_is_whole, retS_ap, andE_ap, notE_ap, opS_ap, consD_ap, nilD_ap, nmD_ap, cstD_ap, h1, isIntB, isiD, tyOfD, kit_int_int, kit_int_bool, chainE_ap, cmpD, leF, leD, intB, inB, h2]
  case bl b =>
    simp [bindD_ap, bindS_ap, liftD_ap, f__law_is_whole, bodyF, d__law_is_whole, retS_ap, andE_ap, notE_ap, opS_ap, consD_ap, nilD_ap, nmD_ap, cstD_ap, h1, isIntB, isiD, tyOfD, kit_bool_int, kit_bool_bool, intB]
  all_goals simp [bindD_ap, bindS_ap, liftD_ap, f__law_is_whole, bodyF, d__law_is_whole, retS_ap, andE_ap, opS_ap, consD_ap, nilD_ap, nmD_ap, cstD_ap, h1, isIntB, intB]
theorem len_eq2 {ds : List D} {M : Sto} : eqF false (.int ds.length) (.int 2) M = some (.bl (tupB 2 2 (.tup ds)), M) := by
  have : tupB 2 2 (.tup ds) = decide ((ds.length : Int) = 2) := by
    unfold tupB inB
    by_cases h : (ds.length : Int) = 2
    · simp [h]
    · rw [decide_eq_false h]
      by_cases h2 : (2 : Int) ≤ ds.length
      · have : ¬ (ds.length : Int) ≤ 2 := by omega
        simp [this]
      · simp [h2]
  rw [this]
  rfl
theorem q_lword {w : D} {cells : List D} {M : Sto} (hw : okw M w) : f__law_is_word [.tup cells, w] M = some (.ok (.bl (wordB cells w)), M) := by
  have h0 := isi_tup hw.1
  cases hT : isTupB w with
  | true =>
    cases w <;> first | (cases hT; done) | skip
    rename_i ds
    have e : wordB cells (.tup ds) = numB (.tup ds) := rfl
    rw [e]
    cases ht : tupB 2 2 (.tup ds) with
    | false =>
      simp [bindD_ap, bindS_ap, liftD_ap, f__law_is_word, bodyF, d__law_is_word, seqS_ap, ifS_ap, testD_ap, opS_ap, consD_ap, nilD_ap, nmD_ap, cstD_ap, h0, hT, truD, retS_ap, andE_ap, op2_ap, lenD, cmpD, len_eq2, ht, numB_no ht]
    | true =>
      obtain ⟨a, b, rfl⟩ := tup2_iff.mp ht
      obtain ⟨⟨z, rfl⟩, hb⟩ := hw.2 _ rfl a b rfl
      have e0 : atI [D.str z, b] 0 = some (.str z) := by rfl
      have e1 : atI [D.str z, b] 1 = some b := by rfl
      have h3 := trimE_same (r := [some (.tup cells), some (.tup [.str z, b])]) (f := callE 3 f__law_is_whole (consD (op2 itemD (nmD 1) (cstD (.int 1))) (consD (op1 negD (op2 (binD .Pow) (cstD (.int 10)) (cstD (.int 12)))) (consD (op2 (binD .Pow) (cstD (.int 10)) (cstD (.int 12))) nilD)))) (M := M) (d := .bl (intB (-1000000000000) 1000000000000 b)) (by
        have p12 : ((10 : Int) ^ (12 : Int).toNat) = 1000000000000 := by decide
        simp [bindD_ap, liftD_ap, callE_ap, consD_ap, nmD_ap, nilD_ap, op2_ap, op1_ap, cstD_ap, itemD, ixD, e1, binD, powD, p12, negD, q_whole hb])
      have h4 := len_eq2 (ds := [D.str z, b]) (M := M)
      rw [ht] at h4
      cases hz : sbeq z "num" <;>
        simp [bindD_ap, bindS_ap, liftD_ap, f__law_is_word, bodyF, d__law_is_word, seqS_ap, ifS_ap, testD_ap, opS_ap, consD_ap, nilD_ap, nmD_ap, cstD_ap, h0, hT, truD, retS_ap, andE_ap, op2_ap, lenD, cmpD, itemD, ixD, e0, eqF, xorB, hz, h3, numB]
  | false =>
    have h3 := trimE_same (r := [some (.tup cells), some w]) (f := callE 3 f__law_is_whole (consD (nmD 1) (consD (cstD (.int 0)) (consD (op2 (binD .Sub) (opS lenD (consD (nmD 0) nilD)) (cstD (.int 1))) nilD)))) (M := M) (d := .bl (intB 0 ((cells.length : Int) - 1) w)) (by
      simp [bindD_ap, liftD_ap, callE_ap, consD_ap, nmD_ap, nilD_ap, op2_ap, opS_ap, cstD_ap, lenD, binD, subD, q_whole hw.1])
    have e2 : wordB cells w = (nonB w || addrB cells w) := by
      unfold wordB
      cases w <;> first | (cases hT; done) | simp [numB]
    rw [e2]
    cases hn : nonB w with
    | true => simp [bindD_ap, bindS_ap, liftD_ap, f__law_is_word, bodyF, d__law_is_word, seqS_ap, ifS_ap, testD_ap, opS_ap, consD_ap, nilD_ap, nmD_ap, cstD_ap, h0, hT, truD, skipS_ap, retS_ap, orE_ap, op2_ap, cmpD, is_nonT, hn]
    | false =>
      cases hi : intB 0 ((cells.length : Int) - 1) w with
      | false =>
        have e3 : addrB cells w = false := by
          cases w <;> first | rfl | skip
          rename_i i
          simp only [intB, inB, Bool.and_eq_false_iff, decide_eq_false_iff_not] at hi
          rcases hi with q | q
          · simp [addrB, q]
          · have : ¬ i < cells.length := by omega
            simp [addrB, this]
        simp [bindD_ap, bindS_ap, liftD_ap, f__law_is_word, bodyF, d__law_is_word, seqS_ap, ifS_ap, testD_ap, opS_ap, consD_ap, nilD_ap, nmD_ap, cstD_ap, h0, hT, truD, skipS_ap, retS_ap, orE_ap, andE_ap, op2_ap, cmpD, is_nonT, hn, h3, hi, e3]
      | true =>
        cases w <;> first | (cases hi; done) | skip
        rename_i i
        simp only [intB, inB, Bool.and_eq_true, decide_eq_true_iff] at hi
        have i1 : i < cells.length := by omega
        have e3 : addrB cells (.int i) = !(nonB (cells.getD i.toNat .non)) := by simp [addrB, hi.1, i1]
        have h5 : intB 0 ((cells.length : Int) - 1) (.int i) = true := by simp [intB, inB, hi.1, hi.2]
        rw [h5] at h3
        simp [bindD_ap, bindS_ap, liftD_ap, f__law_is_word, bodyF, d__law_is_word, seqS_ap, ifS_ap, testD_ap, opS_ap, consD_ap, nilD_ap, nmD_ap, cstD_ap, h0, hT, truD, skipS_ap, retS_ap, orE_ap, andE_ap, op2_ap, cmpD, is_nonT, hn, h3, itemD, ixD, atI_nat hi.1 i1, is_non, e3]
/-- words that can be compared -/
def pyw (M : Sto) (w : D) : Prop := ∃ p, PyV M 6 w p
def pys (M : Sto) (ws : D) : Prop := ∀ ds, ws = .tup ds → okRL M.length ds = true ∧ ∀ w ∈ ds, pyw M w
theorem pyw_list {M : Sto} : ∀ {ds : List D}, (∀ w ∈ ds, pyw M w) → ∃ ps : List PyData, PyS M (6 + ds.length) ds ps ∧ ps.length = ds.length
  | [], _ => ⟨[], PyS.nil.mono (Nat.zero_le _), rfl⟩
  | d :: ds, h => by
    obtain ⟨p, hp⟩ := h d (List.mem_cons_self)
    obtain ⟨ps, hs, hl⟩ := pyw_list (ds := ds) fun w hw => h w (List.mem_cons_of_mem _ hw)
    exact ⟨p :: ps, (PyS.cons (hp.mono (Nat.le_add_right _ _)) hs).mono (by simp only [List.length_cons]; omega), by simp only [List.length_cons, hl]⟩
theorem eqF_lst {M : Sto} {a b : Nat} {neg : Bool} : eqF neg (.lst a) (.lst b) M = eqD neg (.lst a) (.lst b) M := rfl
theorem q_lwords {v : D} {cells : List D} {M : Sto} (hM : WF M) (hv : oks M v) (hp : pys M v) : ∃ X, f__law_are_words [.tup cells, v] M = some (.ok (.bl (wordsB cells v)), M ++ X) := by
  have h0 := isi_tup hv.1
  cases hT : isTupB v with
  | false =>
    have e : wordsB cells v = false := by cases v <;> first | (cases hT; done) | rfl
    exact ⟨[], by simp [bindD_ap, bindS_ap, liftD_ap, f__law_are_words, bodyF, d__law_are_words, seqS_ap, ifS_ap, orT_ap, notT_ap, testD_ap, opS_ap, consD_ap, nilD_ap, nmD_ap, cstD_ap, h0, hT, truD, retS_ap, e]⟩
  | true =>
    cases v <;> first | (cases hT; done) | skip
    rename_i ws
    by_cases hl : (12 : Int) < ws.length
    · have e : wordsB cells (.tup ws) = false := by
        have : ¬ ws.length ≤ 12 := by omega
        simp [wordsB, this]
      refine ⟨[], ?_⟩
      simp [bindD_ap, bindS_ap, liftD_ap, f__law_are_words, bodyF, d__law_are_words, seqS_ap, ifS_ap, orT_ap, notT_ap, testD_ap, btestD_ap, op2_ap, opS_ap, consD_ap, nilD_ap, nmD_ap, cstD_ap, h0, hT, truD, retS_ap, e, lenD, cmpD, gtD, blD, hl]
    · obtain ⟨hk0, hpy⟩ := hp _ rfl
      have hc := compE_pure (src := anySrc (nmD 1)) (vs := [2]) (slot := 2) (n := 100000) (r := [some (.tup cells), some (.tup ws), none]) (M := M) (s := .seq (.tup ws)) (items := ws) (p := fun w => !wordB cells w) (g := fun w => w)
        (ifs := notT (testD (trimE (callN 2 f__law_is_word (consD (nmD 0) (consD (nmD 2) nilD)))))) (elt := nmD 2) (by simp [anySrc, bindD, nmD, itemsD]) (fun _ _ => next_tup) (fun w hw acc hk => by
          have h3 := trimE_same (r := [some (.tup cells), some (.tup ws), some w]) (f := callN 2 f__law_is_word (consD (nmD 0) (consD (nmD 2) nilD))) (M := M ++ [.lst acc]) (d := .bl (wordB cells w)) (by
            simp [bindD_ap, liftD_ap, callN_ap, consD_ap, nmD_ap, nilD_ap, q_lword (cells := cells) (M := M ++ [.lst acc]) (hv.2 _ rfl w hw).app])
          simp [wipeD, bindD_ap, liftD_ap, notT_ap, testD_ap, h3, truD]) (fun w hw _ acc hk => ⟨by simp [wipeD, nmD_ap], okRL_iff.mp hk0 w hw⟩) (by omega) (by omega)
      have em : (ws.filter fun w => !wordB cells w).map (fun w => w) = ws.filter fun w => !wordB cells w := by simp
      rw [em] at hc
      obtain ⟨ps, hs, hlen⟩ := pyw_list (M := M) (ds := ws.filter fun w => !wordB cells w) fun w hw => hpy w (List.mem_filter.mp hw).1
      have lf : (ws.filter fun w => !wordB cells w).length ≤ 12 := Nat.le_trans (List.length_filter_le _ _) (by omega)
      have g1 : sGet (M ++ [Cell.lst (ws.filter fun w => !wordB cells w)] ++ [.lst []]) M.length = some (.lst (ws.filter fun w => !wordB cells w)) := get_some get_new
      have g2 : sGet (M ++ [Cell.lst (ws.filter fun w => !wordB cells w)] ++ [.lst []]) (M.length + 1) = some (.lst []) := by
        have z := get_new (M := M ++ [Cell.lst (ws.filter fun w => !wordB cells w)]) (c := .lst [])
        rw [List.length_append] at z
        exact z
      have he := eqD_is (neg := false) (PyS.lst g1 (hs.app (X := [Cell.lst (ws.filter fun w => !wordB cells w)])).app) (PyS.lst g2 PyS.nil) (by omega) (by omega)
      rw [eqv_nil] at he
      have ee : ps.isEmpty = wordsB cells (.tup ws) := by
        have z : ps.isEmpty = (ws.filter fun w => !wordB cells w).isEmpty := by
          cases ps <;> cases hq : (ws.filter fun w => !wordB cells w) <;> first | rfl | (rw [hq] at hlen; simp at hlen)
        have hl' : ws.length ≤ 12 := by omega
        rw [z, Bool.eq_iff_iff, List.isEmpty_iff, List.filter_eq_nil_iff]
        simp [wordsB, hl']
      rw [ee] at he
      refine ⟨[.lst (ws.filter fun w => !wordB cells w), .lst []], ?_⟩
      simp [bindD_ap, bindS_ap, liftD_ap, f__law_are_words, bodyF, d__law_are_words, seqS_ap, ifS_ap, orT_ap, notT_ap, testD_ap, btestD_ap, op2_ap, opS_ap, consD_ap, nilD_ap, nmD_ap, cstD_ap, h0, hT, truD, retS_ap, lenD, cmpD, gtD, blD, hl, skipS_ap, hc, lstD, sApp_eq, eqF_lst]
      simp at he
      rw [he]
end Py

-- PyQ6
set_option maxRecDepth 100000
set_option maxHeartbeats 4000000
noncomputable section
namespace Py
open PySem PySem.Spec PyProof.Rows L2 PyD PyL PyH L2H HotX PyM PyK PyQ
def pyc (M : Sto) (c : D) : Prop := ∀ ds, c = .tup ds → ∀ a b, ds = [a, b] → pys M b
def pyh (M : Sto) (v : D) : Prop := ∀ ds, v = .tup ds → ∀ c ∈ ds, pyc M c
theorem trimW_rt1 {b : SDen} {r r' : DEnv} {M M2 : Sto} {v : D} (h : b r M = some (.rt v, r', M2)) : trimW b r M = some (.rt v, r', M2) := trimW_rt h
/-- a turn of the law's walk -/
abbrev turnB : SDen := (ifS (btestD (op2 (cmpD .IsNot) (nmD 1) (cstD .non))) (seqS (ifS (orT (notT (testD (opS PyK.isiD (consD (nmD 1) (consD (cstD (.ty "tuple")) nilD))))) (orT (btestD (op2 (cmpD .NotEq) (opS lenD (consD (nmD 1) nilD)) (cstD (.int 2)))) (notT (testD (opS PyK.isiD (consD (op2 itemD (nmD 1) (cstD (.int 0))) (consD (cstD (.ty "tuple")) nilD))))))) (retS (cstD (.bl false))) skipS)
    (ifS (orT (btestD (op2 (cmpD .Eq) (opS lenD (consD (op2 itemD (nmD 1) (cstD (.int 0))) nilD)) (cstD (.int 0)))) (orT (notT (testD (opS PyK.isiD (consD (op2 itemD (op2 itemD (nmD 1) (cstD (.int 0))) (cstD (.int 0))) (consD (cstD (.ty "str")) nilD))))) (notT (testD (trimE (callE 2 f__law_are_words (consD (nmD 0) (consD (op2 itemD (nmD 1) (cstD (.int 1))) nilD)))))))) (retS (cstD (.bl false))) skipS)) skipS)
theorem len_ne2 {ds : List D} {M : Sto} : eqF true (.int ds.length) (.int 2) M = some (.bl (!tupB 2 2 (.tup ds)), M) := by
  have z := len_eq2 (ds := ds) (M := M)
  have e1 : eqF false (.int (ds.length : Int)) (.int 2) M = some (.bl (decide ((ds.length : Int) = 2)), M) := rfl
  rw [e1] at z
  have z2 : decide ((ds.length : Int) = 2) = tupB 2 2 (.tup ds) := by
    have := congrArg (fun o : Option (D × Sto) => o.map (·.1)) z
    simpa using this
  show some (D.bl (!decide ((ds.length : Int) = 2)), M) = _
  rw [z2]
theorem q_turn {c : D} {cells : List D} {M : Sto} (hM : WF M) (hc : okc M c) (hp : pyc M c) :
    (cellB cells c = true ∧ turnB [some (.tup cells), some c] M = some (.nx, [some (.tup cells), some c], M)) ∨ (cellB cells c = false ∧ turnB [some (.tup cells), some c] M = some (.rt (.bl false), [some (.tup cells), some c], M)) := by
  cases hn : nonB c with
  | true =>
    left
    refine ⟨by cases c <;> first | (cases hn; done) | rfl, ?_⟩
    simp [bindD_ap, bindS_ap, liftD_ap, turnB, ifS_ap, btestD_ap, op2_ap, nmD_ap, cstD_ap, cmpD, is_non, hn, blD, skipS_ap]
  | false =>
    have h0 := isi_tup hc.1
    cases hT : isTupB c with
    | false =>
      right
      refine ⟨by cases c <;> first | (cases hT; done) | (cases hn; done) | rfl, ?_⟩
      simp [bindD_ap, bindS_ap, liftD_ap, turnB, seqS_ap, ifS_ap, btestD_ap, testD_ap, notT_ap, orT_ap, op2_ap, opS_ap, consD_ap, nilD_ap, nmD_ap, cstD_ap, cmpD, is_non, hn, blD, truD, h0, hT, retS_ap]
    | true =>
      cases c <;> first | (cases hT; done) | skip
      rename_i ds
      cases ht : tupB 2 2 (.tup ds) with
      | false =>
        right
        refine ⟨cellB_no ht, ?_⟩
        simp [bindD_ap, bindS_ap, liftD_ap, turnB, seqS_ap, ifS_ap, btestD_ap, testD_ap, notT_ap, orT_ap, op2_ap, opS_ap, consD_ap, nilD_ap, nmD_ap, cstD_ap, cmpD, is_non, hn, blD, truD, h0, hT, retS_ap, lenD, len_ne2, ht]
      | true =>
        obtain ⟨a, b, rfl⟩ := tup2_iff.mp ht
        obtain ⟨⟨ha, ha2⟩, hb⟩ := hc.2 _ rfl a b rfl
        have e0 : atI [a, b] 0 = some a := rfl
        have e1 : atI [a, b] 1 = some b := rfl
        have n2 := len_ne2 (ds := [a, b]) (M := M)
        rw [ht] at n2
        have h1 := isi_tup ha
        cases hA : isTupB a with
        | false =>
          right
          refine ⟨by cases a <;> first | (cases hA; done) | rfl, ?_⟩
          simp [bindD_ap, bindS_ap, liftD_ap, turnB, seqS_ap, ifS_ap, btestD_ap, testD_ap, notT_ap, orT_ap, op2_ap, opS_ap, consD_ap, nilD_ap, nmD_ap, cstD_ap, cmpD, is_non, hn, blD, truD, h0, hT, retS_ap, lenD, itemD, ixD, e0, h1, hA, eqF, xorB]
        | true =>
          cases a <;> first | (cases hA; done) | skip
          rename_i es
          match es, ha2 with
          | [], _ =>
            right
            refine ⟨rfl, ?_⟩
            simp [bindD_ap, bindS_ap, liftD_ap, turnB, seqS_ap, ifS_ap, btestD_ap, testD_ap, notT_ap, orT_ap, op2_ap, opS_ap, consD_ap, nilD_ap, nmD_ap, cstD_ap, cmpD, is_non, hn, blD, truD, h0, hT, retS_ap, lenD, itemD, ixD, e0, h1, hA, eqF, xorB, skipS_ap]
          | x :: xs, ha2 =>
            have hx : okv M x := ha2 _ rfl x (List.mem_cons_self)
            have hs := isi_str hx
            have ex : atI (x :: xs) 0 = some x := by unfold atI ixN; rw [if_pos (by decide), if_pos (by simp)]; rfl
            have hz : ¬ ((xs.length : Int) + 1 = 0) := by omega
            cases hS : strB x with
            | false =>
              right
              refine ⟨by cases x <;> first | (cases hS; done) | rfl, ?_⟩
              simp [bindD_ap, bindS_ap, liftD_ap, turnB, seqS_ap, ifS_ap, btestD_ap, testD_ap, notT_ap, orT_ap, op2_ap, opS_ap, consD_ap, nilD_ap, nmD_ap, cstD_ap, cmpD, is_non, hn, blD, truD, h0, hT, retS_ap, lenD, itemD, ixD, e0, h1, hA, eqF, xorB, skipS_ap, ex, hs, hS, hz]
            | true =>
              obtain ⟨X, hX⟩ := q_lwords (cells := cells) hM hb (hp _ rfl _ _ rfl)
              have h3 := trimE_one (r := [some (.tup cells), some (.tup [.tup (x :: xs), b])]) (f := callE 2 f__law_are_words (consD (nmD 0) (consD (op2 itemD (nmD 1) (cstD (.int 1))) nilD))) (M := M) (d := .bl (wordsB cells b)) (X := X) (by
                simp [bindD_ap, liftD_ap, callE_ap, consD_ap, nmD_ap, nilD_ap, op2_ap, cstD_ap, itemD, ixD, e1, hX]) hM rfl
              have ec : cellB cells (.tup [.tup (x :: xs), b]) = wordsB cells b := by
                cases x <;> first | (cases hS; done) | (simp [cellB, labelB])
              cases hw : wordsB cells b with
              | false =>
                right
                refine ⟨by rw [ec, hw], ?_⟩
                simp [bindD_ap, bindS_ap, liftD_ap, turnB, seqS_ap, ifS_ap, btestD_ap, testD_ap, notT_ap, orT_ap, op2_ap, opS_ap, consD_ap, nilD_ap, nmD_ap, cstD_ap, cmpD, is_non, hn, blD, truD, h0, hT, retS_ap, lenD, itemD, ixD, e0, h1, hA, eqF, xorB, skipS_ap, ex, hs, hS, hz, h3, hw]
              | true =>
                left
                refine ⟨by rw [ec, hw], ?_⟩
                simp [bindD_ap, bindS_ap, liftD_ap, turnB, seqS_ap, ifS_ap, btestD_ap, testD_ap, notT_ap, orT_ap, op2_ap, opS_ap, consD_ap, nilD_ap, nmD_ap, cstD_ap, cmpD, is_non, hn, blD, truD, h0, hT, retS_ap, lenD, itemD, ixD, e0, h1, hA, eqF, xorB, skipS_ap, ex, hs, hS, hz, h3, hw]
theorem q_lheap {v : D} {M : Sto} (hM : WF M) (hv : okh M v) (hp : pyh M v) : f__law_is_heap [v] M = some (.ok (.bl (heapB v)), M) := by
  have h0 := isi_tup hv.1
  cases hT : isTupB v with
  | false =>
    have e : heapB v = false := by cases v <;> first | (cases hT; done) | rfl
    simp [bindD_ap, bindS_ap, liftD_ap, f__law_is_heap, bodyF, d__law_is_heap, seqS_ap, ifS_ap, orT_ap, notT_ap, testD_ap, opS_ap, consD_ap, nilD_ap, nmD_ap, cstD_ap, h0, hT, truD, retS_ap, e]
  | true =>
    cases v <;> first | (cases hT; done) | skip
    rename_i cs
    by_cases hl : (1000 : Int) < cs.length
    · have e : heapB (.tup cs) = false := by
        have : ¬ cs.length ≤ 1000 := by omega
        simp [heapB, this]
      simp [bindD_ap, bindS_ap, liftD_ap, f__law_is_heap, bodyF, d__law_is_heap, seqS_ap, ifS_ap, orT_ap, notT_ap, testD_ap, btestD_ap, op2_ap, opS_ap, consD_ap, nilD_ap, nmD_ap, cstD_ap, h0, hT, truD, retS_ap, e, lenD, cmpD, gtD, blD, hl]
    · have hl2 : cs.length ≤ 1000 := by omega
      have step := forL_ret (nxt := nextI (.seq (.tup cs))) (t := nmT 1) (b := trimW turnB) (m := cs.length) (fun i r M' => M' = M ∧ (∃ x, r = [some (.tup cs), x]) ∧ ∀ c ∈ cs.take i, cellB cs c = true) (fun d M' => d = .bl false ∧ M' = M ∧ ∃ c ∈ cs, cellB cs c = false)
        (fun r M' _ => by rw [next_tup, List.getElem?_eq_none (Nat.le_refl _)]) (fun i r M' hi hP => by
          obtain ⟨rfl, ⟨x, rfl⟩, ha⟩ := hP
          refine ⟨cs[i], [some (.tup cs), some cs[i]], M', by rw [next_tup, List.getElem?_eq_getElem hi], rfl, ?_⟩
          have hm : cs[i] ∈ cs := List.getElem_mem hi
          rcases q_turn (cells := cs) hM ((hv.2 _ rfl).2 _ hm) (hp _ rfl _ hm) with ⟨h1, h2⟩ | ⟨h1, h2⟩
          · refine .inl ⟨_, _, trimW_same h2, rfl, ⟨_, rfl⟩, fun c hc => ?_⟩
            rw [List.take_succ, List.getElem?_eq_getElem hi] at hc
            rcases List.mem_append.mp hc with q | q
            · exact ha c q
            · simp at q
              rw [q]
              exact h1
          · exact .inr ⟨_, _, _, trimW_rt h2, rfl, rfl, _, hm, h1⟩) 100000 0 [some (.tup cs), none] M (Nat.zero_le _) (by omega) ⟨rfl, ⟨none, rfl⟩, fun c hc => by simp at hc⟩
      have src : anySrc (nmD 0) [some (.tup cs), none] M = some (.ok (.seq (.tup cs)), M) := by simp [anySrc, bindD, nmD, itemsD]
      have fS : forS (anySrc (nmD 0)) (nmT 1) (trimW turnB) 100000 [some (.tup cs), none] M = forL (nextI (.seq (.tup cs))) (nmT 1) (trimW turnB) 100000 0 [some (.tup cs), none] M := by
        unfold forS
        rw [src]
      rcases step with ⟨r', M', e, rfl, _, ha⟩ | ⟨d, r', M', e, rfl, rfl, c, hc, hcb⟩
      · rw [List.take_length] at ha
        have eh : heapB (.tup cs) = true := by
          have z : cs.all (cellB cs) = true := List.all_eq_true.mpr ha
          simp [heapB, hl2, z]
        rw [e] at fS
        simp only [turnB] at fS
        simp [bindD_ap, bindS_ap, liftD_ap, f__law_is_heap, bodyF, d__law_is_heap, seqS_ap, ifS_ap, orT_ap, notT_ap, testD_ap, btestD_ap, op2_ap, opS_ap, consD_ap, nilD_ap, nmD_ap, cstD_ap, h0, hT, truD, retS_ap, lenD, cmpD, gtD, blD, hl, skipS_ap, eh]
        simp only [cmpD] at fS
        rw [fS]
      · have eh : heapB (.tup cs) = false := by
          have z : cs.all (cellB cs) = false := by
            rw [List.all_eq_false]
            exact ⟨c, hc, by rw [hcb]; exact Bool.false_ne_true⟩
          simp [heapB, z]
        rw [e] at fS
        simp only [turnB] at fS
        simp [bindD_ap, bindS_ap, liftD_ap, f__law_is_heap, bodyF, d__law_is_heap, seqS_ap, ifS_ap, orT_ap, notT_ap, testD_ap, btestD_ap, op2_ap, opS_ap, consD_ap, nilD_ap, nmD_ap, cstD_ap, h0, hT, truD, retS_ap, lenD, cmpD, gtD, blD, hl, skipS_ap, eh]
        simp only [cmpD] at fS
        rw [fS]
end Py

-- PyQ7
set_option maxRecDepth 100000
set_option maxHeartbeats 4000000
noncomputable section
namespace Py
open PySem PySem.Spec PyProof.Rows L2 PyD PyL PyH L2H HotX PyM PyK PyQ
/-! ### what is raised -/
theorem q_check_heap {v : D} {M : Sto} (hM : WF M) (hv : okh M v) : f_check_heap [v] M = some (if heapB v then .ok .non else .ex ⟨"InvalidHeap", none⟩, M) := by
  obtain ⟨X, hX⟩ := q_fits hM hv
  have h3 := trimE_one (r := [some v]) (f := callE 1 f_fits_heap (consD (nmD 0) nilD)) (M := M) (d := .bl (heapB v)) (X := X) (by
    simp [bindD_ap, liftD_ap, callE_ap, consD_ap, nmD_ap, nilD_ap, hX]) hM rfl
  cases hb : heapB v <;> simp [bindD_ap, bindS_ap, liftD_ap, f_check_heap, bodyF, d_check_heap, ifS_ap, notT_ap, testD_ap, h3, hb, truD, raiseS, skipS_ap]
theorem q_check_roots {v : D} {cells : List D} {M : Sto} (hM : WF M) (hv : oks M v) : f_check_roots [.tup cells, v] M = some (if wordsB cells v then .ok .non else .ex ⟨"InvalidRoots", none⟩, M) := by
  obtain ⟨X, hX⟩ := q_words (cells := cells) hM hv
  have h3 := trimE_one (r := [some (.tup cells), some v]) (f := callE 2 f_are_words (consD (nmD 0) (consD (nmD 1) nilD))) (M := M) (d := .bl (wordsB cells v)) (X := X) (by
    simp [bindD_ap, liftD_ap, callE_ap, consD_ap, nmD_ap, nilD_ap, hX]) hM rfl
  cases hb : wordsB cells v <;> simp [bindD_ap, bindS_ap, liftD_ap, f_check_roots, bodyF, d_check_roots, ifS_ap, notT_ap, testD_ap, h3, hb, truD, raiseS, skipS_ap]
theorem q_is_heap {v : D} {M : Sto} (hM : WF M) (hv : okh M v) : f_is_heap [v] M = some (.ok (.bl (heapB v)), M) := by
  obtain ⟨X, hX⟩ := q_fits hM hv
  have h3 := trimE_one (r := [some v]) (f := callE 1 f_fits_heap (consD (nmD 0) nilD)) (M := M) (d := .bl (heapB v)) (X := X) (by
    simp [bindD_ap, liftD_ap, callE_ap, consD_ap, nmD_ap, nilD_ap, hX]) hM rfl
  simp [bindD_ap, bindS_ap, f_is_heap, bodyF, d_is_heap, retS_ap, h3]
/-- the call of check_heap, in any frame -/
theorem q_ch {v : D} {M : Sto} {r : DEnv} (hM : WF M) (hv : okh M v) (hr : r[0]? = some (some v)) : trimE (callE 1 f_check_heap (consD (nmD 0) nilD)) r M = some (if heapB v then .ok .non else .ex ⟨"InvalidHeap", none⟩, M) := by
  have e : callE 1 f_check_heap (consD (nmD 0) nilD) r M = some (if heapB v then .ok .non else .ex ⟨"InvalidHeap", none⟩, M) := by
    simp [bindD_ap, liftD_ap, callE_ap, consD_ap, nmD_ap, nilD_ap, hr, q_check_heap hM hv]
  cases hb : heapB v with
  | true => rw [hb] at e; exact trimE_same e
  | false => rw [hb] at e; exact trimE_ex e
theorem q_cr {v : D} {cells : List D} {M : Sto} {r : DEnv} (hM : WF M) (hv : oks M v) (h0 : r[0]? = some (some (.tup cells))) (h1 : r[1]? = some (some v)) : trimE (callE 2 f_check_roots (consD (nmD 0) (consD (nmD 1) nilD))) r M = some (if wordsB cells v then .ok .non else .ex ⟨"InvalidRoots", none⟩, M) := by
  have e : callE 2 f_check_roots (consD (nmD 0) (consD (nmD 1) nilD)) r M = some (if wordsB cells v then .ok .non else .ex ⟨"InvalidRoots", none⟩, M) := by
    simp [bindD_ap, liftD_ap, callE_ap, consD_ap, nmD_ap, nilD_ap, h0, h1, q_check_roots (cells := cells) hM hv]
  cases hb : wordsB cells v with
  | true => rw [hb] at e; exact trimE_same e
  | false => rw [hb] at e; exact trimE_ex e
theorem q_are_roots {v : D} {cells : List D} {M : Sto} (hM : WF M) (hh : okh M (.tup cells)) (hb : heapB (.tup cells) = true) (hv : oks M v) : f_are_roots [.tup cells, v] M = some (.ok (.bl (wordsB cells v)), M) := by
  have h1 := q_ch (r := [some (.tup cells), some v]) hM hh rfl
  rw [hb] at h1
  obtain ⟨X, hX⟩ := q_words (cells := cells) hM hv
  have h3 := trimE_one (r := [some (.tup cells), some v]) (f := callE 2 f_are_words (consD (nmD 0) (consD (nmD 1) nilD))) (M := M) (d := .bl (wordsB cells v)) (X := X) (by
    simp [bindD_ap, liftD_ap, callE_ap, consD_ap, nmD_ap, nilD_ap, hX]) hM rfl
  simp [bindD_ap, bindS_ap, f_are_roots, bodyF, d_are_roots, seqS_ap, exprS_ap, h1, retS_ap, h3]
theorem q_reached_no {v w : D} {M : Sto} (hM : WF M) (hv : okh M v) (hb : heapB v = false) : f_reached_from [v, w] M = some (.ex ⟨"InvalidHeap", none⟩, M) := by
  have h1 := q_ch (r := [some v, some w, none, none, none]) hM hv rfl
  rw [hb] at h1
  simp [bindD_ap, bindS_ap, f_reached_from, bodyF, d_reached_from, seqS_ap, exprS_ap, h1]
theorem q_counts_no {v w : D} {M : Sto} (hM : WF M) (hv : okh M v) (hb : heapB v = false) : f_counts_in [v, w] M = some (.ex ⟨"InvalidHeap", none⟩, M) := by
  have h1 := q_ch (r := [some v, some w, none, none, none, none, none, none]) hM hv rfl
  rw [hb] at h1
  simp [bindD_ap, bindS_ap, f_counts_in, bodyF, d_counts_in, seqS_ap, exprS_ap, h1]
theorem q_counts_roots {v : D} {cells : List D} {M : Sto} (hM : WF M) (hh : okh M (.tup cells)) (hb : heapB (.tup cells) = true) (hv : oks M v) (hw : wordsB cells v = false) : f_counts_in [.tup cells, v] M = some (.ex ⟨"InvalidRoots", none⟩, M) := by
  have h1 := q_ch (r := [some (.tup cells), some v, none, none, none, none, none, none]) hM hh rfl
  rw [hb] at h1
  have h2 := q_cr (r := [some (.tup cells), some v, none, none, none, none, none, none]) (cells := cells) hM hv rfl rfl
  rw [hw] at h2
  simp [bindD_ap, bindS_ap, f_counts_in, bodyF, d_counts_in, seqS_ap, exprS_ap, h1, h2]
/-! ### the names of what is raised -/
theorem get_at {M L : Sto} {k : Nat} : sGet (M ++ L) (M.length + k) = L[k]? := by
  rw [sGet_eq, List.getElem?_append_right (Nat.le_add_right _ _), Nat.add_sub_cancel_left]
theorem get_at0 {M L : Sto} : sGet (M ++ L) M.length = L[0]? := get_at (k := 0)
theorem compL_zip {xs : List D} {bs : List Bool} {r : DEnv} {a b : Nat} {M : Sto} (hr : r.length = 5) (hl : xs.length = bs.length) (hn : xs.length < 1000) (ha : sGet M a = some (.lst xs)) (hb : sGet M b = some (.lst (bs.map .bl))) :
    ∀ (n i : Nat) (acc : List D), bs.length - i < n → i ≤ bs.length → acc.length + bs.length < 10000 + i → compL (nextI (.zip (.lst a) (.lst b))) (.many [3, 4]) (testD (nmD 4)) (nmD 3) M.length n i r (M ++ [.lst acc]) =
      some (M ++ [.lst (acc ++ (((xs.zip bs).drop i).filter (·.2)).map (·.1))])
  | 0, i, acc, h, _, _ => absurd h (Nat.not_lt_zero _)
  | n + 1, i, acc, h, hi, hc => by
    have nx : nextI (.zip (.lst a) (.lst b)) i (M ++ [.lst acc]) = some (match xs[i]?, (bs.map D.bl)[i]? with
      | some x, some y => some (.tup [x, y])
      | _, _ => none) := by
      simp only [nextI, itemsD, get_some ha, get_some hb] <;> rfl
    unfold compL
    rw [nx]
    by_cases e : i = bs.length
    · subst e
      rw [show xs[bs.length]? = none from List.getElem?_eq_none (by omega)]
      simp [List.drop_eq_nil_of_le, hl]
    · have hi2 : i < bs.length := by omega
      have hx : xs[i]? = some xs[i] := List.getElem?_eq_getElem (by omega)
      have hy : (bs.map D.bl)[i]? = some (.bl bs[i]) := by rw [List.getElem?_map, List.getElem?_eq_getElem hi2]; rfl
      rw [hx, hy]
      have hd : (xs.zip bs).drop i = (xs[i], bs[i]) :: (xs.zip bs).drop (i + 1) := by
        rw [List.drop_eq_getElem_cons (by simp; omega)]
        simp
      dsimp only [setC, setCs]
      have g4 : ((r.set 3 (some xs[i])).set 4 (some (.bl bs[i])))[4]? = some (some (.bl bs[i])) := List.getElem?_set_self (by simp [hr])
      have g3 : ((r.set 3 (some xs[i])).set 4 (some (.bl bs[i])))[3]? = some (some xs[i]) := by
        rw [List.getElem?_set_ne (by decide)]
        exact List.getElem?_set_self (by simp [hr])
      have t : testD (nmD 4) ((r.set 3 (some xs[i])).set 4 (some (.bl bs[i]))) (M ++ [.lst acc]) = some (.ok bs[i], M ++ [.lst acc]) := by
        simp [testD_ap, bindD_ap, liftD_ap, nmD_ap, g4, truD]
      rw [t]
      cases hb2 : bs[i] with
      | true =>
        have t2 : nmD 3 ((r.set 3 (some xs[i])).set 4 (some (.bl true))) (M ++ [.lst acc]) = some (.ok xs[i], M ++ [.lst acc]) := by
          rw [hb2] at g3
          simp [nmD_ap, g3]
        dsimp only
        rw [t2]
        dsimp only
        rw [get_new]
        dsimp only
        rw [if_pos (by omega), set_new, compL_zip hr hl hn ha hb n (i + 1) (acc ++ [xs[i]]) (by omega) hi2 (by simp; omega), hd]
        simp [hb2]
      | false =>
        dsimp only
        rw [compL_zip hr hl hn ha hb n (i + 1) acc (by omega) hi2 (by omega), hd]
        simp [hb2]
def labelsT : Str := "heap roots address clearing tree program number many value"
def nmBs (cls : Str) : List Bool := [sub0 cls "InvalidHeap", sub0 cls "InvalidRoots", sub0 cls "InvalidAddress", sub0 cls "InvalidClearing", sub0 cls "InvalidTree", sub0 cls "InvalidProgram", sub0 cls "InvalidNumber", sub0 cls "TooMany", sub0 cls "ValueError"]
def nmSs : List D := (Txt.split labelsT " ").map D.str
theorem nmSs_len : nmSs.length = 9 := by kernel_rfl
theorem strs_of_map : ∀ l : List Str, strsD (l.map D.str) = some l
  | [] => rfl
  | x :: l => by simp [strsD, strs_of_map l]
def nmR (cls : Str) : List Str := (((Txt.split labelsT " ").zip (nmBs cls)).filter (·.2)).map (·.1)
theorem nmR_map (cls : Str) : ((nmSs.zip (nmBs cls)).filter (·.2)).map (·.1) = (nmR cls).map D.str := by
  unfold nmR nmSs
  rw [List.zip_map_left, List.filter_map, List.map_map, List.map_map]
  rfl
theorem nmSplit : Txt.split labelsT " " = Txt.split ("heap roots address clearing tree program number many value" : Str) " " := rfl
/-- the store that the names leave -/
def nmX (cls : Str) : List Cell := [.lst (((nmBs cls).take 4).map D.bl), .lst ((((nmBs cls).drop 4).take 3).map D.bl), .lst (((nmBs cls).take 7).map D.bl), .lst (((nmBs cls).drop 7).map D.bl), .lst ((nmBs cls).map D.bl), .lst nmSs, .lst ((nmR cls).map D.str)]
theorem q_names {cls : Str} {as : List D} {M : Sto} {z : Str} (hz : Txt.join " " (nmR cls) = z) (hs : ((nmR cls).map (·.length)).sum + (nmR cls).length * 1 ≤ 16777216) :
    bodyF nn__law_names.length (dnm cls) [.exn cls as] M = some (.ok (.str z), M ++ nmX cls) := by
  have hc : ∀ M2 : Sto, ∀ a b : Nat, sGet M2 a = some (.lst nmSs) → sGet M2 b = some (.lst ((nmBs cls).map .bl)) → ∀ r : DEnv, r.length = 5 → compL (nextI (.zip (.lst a) (.lst b))) (.many [3, 4]) (testD (nmD 4)) (nmD 3) M2.length 100000 0 r (M2 ++ [.lst []]) = some (M2 ++ [.lst ((nmR cls).map D.str)]) := fun M2 a b ha hb r hr => by
    have z := compL_zip (xs := nmSs) (bs := nmBs cls) (r := r) (a := a) (b := b) (M := M2) hr (by rw [nmSs_len]; rfl) (by rw [nmSs_len]; omega) ha hb 100000 0 [] (by show 9 - 0 < 100000; omega) (Nat.zero_le _) (by show 0 + 9 < 10000 + 0; omega)
    rw [z, List.nil_append, List.drop_zero, nmR_map]
  have g5 : ∀ L : List Cell, (M ++ L).length = M.length + L.length := fun L => List.length_append
  have c := hc (M ++ (nmX cls).take 6) (M.length + 5) (M.length + 4) (by rw [get_at]; rfl) (by rw [get_at]; rfl) [some (.exn cls as), some (.lst (M.length + 4)), some (.str labelsT), none, none] rfl
  rw [g5, show ((nmX cls).take 6).length = 6 from rfl] at c
  have cE : compE (zipSrcL (consD (splitE (nmD 2) (cstD (.str " "))) (consD (nmD 1) nilD))) [3, 4] (.many [3, 4]) (testD (nmD 4)) (nmD 3) 100000 [some (.exn cls as), some (.lst (M.length + 4)), some (.str labelsT), none, none] (M ++ (nmX cls).take 5) =
      some (.ok (.lst (M.length + 6)), M ++ nmX cls) := by
    have s1 : splitE (nmD 2) (cstD (.str " ")) [some (.exn cls as), some (.lst (M.length + 4)), some (.str labelsT), none, none] (M ++ (nmX cls).take 5) = some (.ok (.lst (M.length + 5)), M ++ (nmX cls).take 6) := by
      have l1 : ((((" " : Str).length == 0) = false) ∧ labelsT.length ≤ 90000) := by decide +kernel
      simp only [splitE, bindD_ap, nmD_ap, cstD_ap, List.getElem?_cons_succ, List.getElem?_cons_zero]
      rw [if_pos l1, sApp_eq, List.append_assoc, g5]
      rfl
    have s2 : zipSrcL (consD (splitE (nmD 2) (cstD (.str " "))) (consD (nmD 1) nilD)) [some (.exn cls as), some (.lst (M.length + 4)), some (.str labelsT), none, none] (M ++ (nmX cls).take 5) = some (.ok (.zip (.lst (M.length + 5)) (.lst (M.length + 4))), M ++ (nmX cls).take 6) := by
      have i1 : itemsD (.lst (M.length + 5)) (M ++ (nmX cls).take 6) = some nmSs := by
        unfold itemsD
        dsimp only
        rw [get_at]
        rfl
      have i2 : itemsD (.lst (M.length + 4)) (M ++ (nmX cls).take 6) = some ((nmBs cls).map D.bl) := by
        unfold itemsD
        dsimp only
        rw [get_at]
        rfl
      simp only [zipSrcL, bindD_ap, consD_ap, s1, nmD_ap, nilD_ap, liftD_ap, List.getElem?_cons_succ, List.getElem?_cons_zero, i1, i2]
      rfl
    unfold compE
    rw [s2]
    dsimp only
    rw [g5, show ((nmX cls).take 6).length = 6 from rfl, sApp_eq]
    show (match compL _ _ _ _ _ _ _ [some (.exn cls as), some (.lst (M.length + 4)), some (.str labelsT), none, none] _ with
      | some M2 => _
      | none => _) = _
    rw [c]
    dsimp only
    rw [List.append_assoc]
    rfl
  have pre : ∀ k : SDen, seqS (setS (opS lstD (consD (op1 (isExD (sub0 cls "InvalidHeap")) (nmD 0)) (consD (op1 (isExD (sub0 cls "InvalidRoots")) (nmD 0)) (consD (op1 (isExD (sub0 cls "InvalidAddress")) (nmD 0)) (consD (op1 (isExD (sub0 cls "InvalidClearing")) (nmD 0)) nilD))))) (nmT 1))
    (seqS (setS (op2 (binD .Add) (nmD 1) (opS lstD (consD (op1 (isExD (sub0 cls "InvalidTree")) (nmD 0)) (consD (op1 (isExD (sub0 cls "InvalidProgram")) (nmD 0)) (consD (op1 (isExD (sub0 cls "InvalidNumber")) (nmD 0)) nilD))))) (nmT 1))
    (seqS (setS (op2 (binD .Add) (nmD 1) (opS lstD (consD (op1 (isExD (sub0 cls "TooMany")) (nmD 0)) (consD (op1 (isExD (sub0 cls "ValueError")) (nmD 0)) nilD)))) (nmT 1)) k)) [some (.exn cls as), none, none, none, none] M = k [some (.exn cls as), some (.lst (M.length + 4)), none, none, none] (M ++ (nmX cls).take 5) := fun k => by
    have a1 : sGet (M ++ (nmX cls).take 2) M.length = some (.lst (((nmBs cls).take 4).map D.bl)) := get_at0
    have a2 : sGet (M ++ (nmX cls).take 2) (M.length + 1) = some (.lst ((((nmBs cls).drop 4).take 3).map D.bl)) := get_at
    have a3 : sGet (M ++ (nmX cls).take 4) (M.length + 2) = some (.lst (((nmBs cls).take 7).map D.bl)) := get_at
    have a4 : sGet (M ++ (nmX cls).take 4) (M.length + 3) = some (.lst (((nmBs cls).drop 7).map D.bl)) := get_at
    have b1 : M ++ [Cell.lst [.bl (sub0 cls "InvalidHeap"), .bl (sub0 cls "InvalidRoots"), .bl (sub0 cls "InvalidAddress"), .bl (sub0 cls "InvalidClearing")]] = M ++ (nmX cls).take 1 := rfl
    have b2 : M ++ (nmX cls).take 1 ++ [Cell.lst [.bl (sub0 cls "InvalidTree"), .bl (sub0 cls "InvalidProgram"), .bl (sub0 cls "InvalidNumber")]] = M ++ (nmX cls).take 2 := by rw [List.append_assoc]; rfl
    have b3 : M ++ (nmX cls).take 2 ++ [Cell.lst (((nmBs cls).take 4).map D.bl ++ (((nmBs cls).drop 4).take 3).map D.bl)] = M ++ (nmX cls).take 3 := by rw [List.append_assoc]; rfl
    have b4 : M ++ (nmX cls).take 3 ++ [Cell.lst [.bl (sub0 cls "TooMany"), .bl (sub0 cls "ValueError")]] = M ++ (nmX cls).take 4 := by rw [List.append_assoc]; rfl
    have b5 : M ++ (nmX cls).take 4 ++ [Cell.lst (((nmBs cls).take 7).map D.bl ++ ((nmBs cls).drop 7).map D.bl)] = M ++ (nmX cls).take 5 := by rw [List.append_assoc]; rfl
    have l1 : (M ++ (nmX cls).take 1).length = M.length + 1 := g5 _
    have l2 : (M ++ (nmX cls).take 2).length = M.length + 2 := g5 _
    have l3 : (M ++ (nmX cls).take 3).length = M.length + 3 := g5 _
    have l4 : (M ++ (nmX cls).take 4).length = M.length + 4 := g5 _
    have q7 : ((((nmBs cls).take 4).map D.bl).length + ((((nmBs cls).drop 4).take 3).map D.bl).length ≤ 100000) := by show 4 + 3 ≤ 100000; omega
    have q9 : ((((nmBs cls).take 7).map D.bl).length + (((nmBs cls).drop 7).map D.bl).length ≤ 100000) := by show 7 + 2 ≤ 100000; omega
    simp only [seqS_ap, setS_ap, bindS_ap, opS_ap, bindD_ap, consD_ap, op1_ap, nmD_ap, liftD_ap, nilD_ap, isExD, lstD, List.getElem?_cons_zero, sApp_eq, nmT_ap, List.length_cons, List.length_nil, Nat.reduceAdd, Nat.reduceLeDiff, if_true, b1, op2_ap, List.set_cons_succ, List.set_cons_zero, List.getElem?_cons_succ, l1, b2, binD, addD, a1, a2, if_pos q7, l2, b3, l3, b4, a3, a4, if_pos q9, l4, b5]
  unfold bodyF dnm d__law_names
  show (match (seqS _ (seqS _ (seqS _ (seqS _ _)))) [some (.exn cls as), none, none, none, none] M with
    | some (.rt d, _, M') => some (Res.ok d, M')
    | some (.nx, _, M') => some (Res.ok D.non, M')
    | some (.ex x, _, M') => some (Res.ex x, M')
    | _ => none) = _
  rw [pre]
  have jn : joinE (cstD (.str " ")) (compE (zipSrcL (consD (splitE (nmD 2) (cstD (.str " "))) (consD (nmD 1) nilD))) [3, 4] (.many [3, 4]) (testD (nmD 4)) (nmD 3) 100000) [some (.exn cls as), some (.lst (M.length + 4)), some (.str labelsT), none, none] (M ++ (nmX cls).take 5) = some (.ok (.str z), M ++ nmX cls) := by
    have ls : lstOf (.lst (M.length + 6)) (M ++ nmX cls) = some ((nmR cls).map D.str) := by
      unfold lstOf
      dsimp only
      rw [get_at]
      rfl
    have one : (" " : Str).length = 1 := by decide +kernel
    simp only [joinE, bindD_ap, cstD_ap, cE, ls, strs_of_map, one, if_pos hs, hz]
  simp only [seqS_ap, setS_ap, bindS_ap, cstD_ap, nmT_ap, List.set_cons_succ, List.set_cons_zero, retS_ap]
  rw [show (("heap roots address clearing tree program number many value" : Str)) = labelsT from rfl, jn]
end Py

-- PyQ8
set_option maxRecDepth 100000
set_option maxHeartbeats 4000000
noncomputable section
namespace Py
open PySem PySem.Spec PyProof.Rows L2 PyD PyL PyH L2H HotX PyM PyK PyQ
/-! ### the words for what is raised -/
theorem noEx_bl : ∀ l : List Bool, noExs (l.map D.bl) = true
  | [] => rfl
  | b :: l => by simp [noExs, noEx, noEx_bl l]
theorem noEx_str : ∀ l : List Str, noExs (l.map D.str) = true
  | [] => rfl
  | b :: l => by simp [noExs, noEx, noEx_str l]
theorem ok_bl {k : Nat} (l : List Bool) : okRL k (l.map D.bl) = true := okRL_iff.mpr fun d h => by
  obtain ⟨b, _, rfl⟩ := List.mem_map.mp h
  rfl
theorem ok_str {k : Nat} (l : List Str) : okRL k (l.map D.str) = true := okRL_iff.mpr fun d h => by
  obtain ⟨b, _, rfl⟩ := List.mem_map.mp h
  rfl
theorem ok_int {k : Nat} (l : List Int) : okRL k (l.map D.int) = true := okRL_iff.mpr fun d h => by
  obtain ⟨b, _, rfl⟩ := List.mem_map.mp h
  rfl
theorem noExM_nm {M : Sto} {cls : Str} (h : noExM M = true) : noExM (M ++ nmX cls) = true := by
  unfold noExM at h ⊢
  rw [List.all_append, h]
  simp only [nmX, List.all_cons, List.all_nil, noExC, noEx_bl, noEx_str, nmSs, Bool.and_self, Bool.and_true]
theorem q_err {cls z : Str} {n : Nat} {f : Den D} {r : DEnv} {M : Sto} (hb : bd__law_right n = some f) (h : f r M = some (.ex ⟨cls, none⟩, M)) (hk : hasS known cls = true) (hz : Txt.join " " (nmR cls) = z) (hs : ((nmR cls).map (·.length)).sum + (nmR cls).length * 1 ≤ 16777216) (hM : WF M) (hx : noExM M = true) :
    trimE (errC known nn__law_names.length dnm [] bd__law_right (lamD n)) r M = some (.ok (.str z), M) := by
  have e : errC known nn__law_names.length dnm [] bd__law_right (lamD n) r M = some (.ok (.str z), M ++ nmX cls) := by
    have e1 : errC known nn__law_names.length dnm [] bd__law_right (lamD n) r M = (match bd__law_right n with
      | some f => errE known (fun cls => bodyF nn__law_names.length (dnm cls)) f r M
      | none => none) := rfl
    rw [e1, hb]
    dsimp only
    unfold errE
    rw [h]
    dsimp only
    rw [if_pos hk, q_names hz hs]
    dsimp only
    rw [if_pos (noExM_nm hx)]
  exact trimE_one e hM rfl
theorem nm_heap : Txt.join " " (nmR "InvalidHeap") = ("heap value" : Str) := by kernel_rfl
theorem nm_roots : Txt.join " " (nmR "InvalidRoots") = ("roots value" : Str) := by kernel_rfl
theorem nm_heapL : ((nmR "InvalidHeap").map (·.length)).sum + (nmR "InvalidHeap").length * 1 ≤ 16777216 := by decide +kernel
theorem nm_rootsL : ((nmR "InvalidRoots").map (·.length)).sum + (nmR "InvalidRoots").length * 1 ≤ 16777216 := by decide +kernel
theorem q_err0 {r : DEnv} {M : Sto} {v : D} (h8 : r[8]? = some (some v)) (hM : WF M) (hx : noExM M = true) (hv : okh M v) (hb : heapB v = false) : trimE (errC known nn__law_names.length dnm [] bd__law_right (lamD 0)) r M = some (.ok (.str "heap value"), M) :=
  q_err (n := 0) rfl (trimE_ex (by simp [bindD_ap, liftD_ap, callE_ap, consD_ap, nmD_ap, cstD_ap, nilD_ap, h8, q_reached_no hM hv hb])) (by kernel_rfl) nm_heap nm_heapL hM hx
theorem q_err1 {r : DEnv} {M : Sto} {v : D} (h8 : r[8]? = some (some v)) (hM : WF M) (hx : noExM M = true) (hv : okh M v) (hb : heapB v = false) : trimE (errC known nn__law_names.length dnm [] bd__law_right (lamD 1)) r M = some (.ok (.str "heap value"), M) :=
  q_err (n := 1) rfl (trimE_ex (by simp [bindD_ap, liftD_ap, callE_ap, consD_ap, nmD_ap, cstD_ap, nilD_ap, h8, q_counts_no hM hv hb])) (by kernel_rfl) nm_heap nm_heapL hM hx
theorem q_err2 {r : DEnv} {M : Sto} {v : D} {cells : List D} (h1 : r[1]? = some (some (.tup cells))) (h10 : r[10]? = some (some v)) (hM : WF M) (hx : noExM M = true) (hh : okh M (.tup cells)) (hb : heapB (.tup cells) = true) (hv : oks M v) (hw : wordsB cells v = false) :
    trimE (errC known nn__law_names.length dnm [] bd__law_right (lamD 2)) r M = some (.ok (.str "roots value"), M) :=
  q_err (n := 2) rfl (trimE_ex (by simp [bindD_ap, liftD_ap, callE_ap, consD_ap, nmD_ap, nilD_ap, h1, h10, q_counts_roots hM hh hb hv hw])) (by kernel_rfl) nm_roots nm_rootsL hM hx
theorem q_truly {a : Bool} {M : Sto} : f__law_truly [.bl a, .bl a] M = some (.ok (.bl true), M) := by
  have e : eqF false (.bl a) (.bl a) M = eqD false (.bl a) (.bl a) M := rfl
  have e2 := eqD_same (neg := false) (PyV.bl (M := M) a) (PyV.bl a) (by omega) (by omega)
  simp [bindD_ap, bindS_ap, liftD_ap, f__law_truly, bodyF, d__law_truly, retS_ap, andE_ap, opS_ap, consD_ap, nmD_ap, cstD_ap, nilD_ap, isiD, tyOfD, kit_bool_bool, op2_ap, cmpD, e]
  simp at e2
  rw [e2]
/-! ### the heaps that are drawn -/
/-- a word of a drawn heap -/
inductive Wd where
  | non | num (i : Int) | ad (n : Nat)
def Wd.d : Wd → D
  | .non => .non
  | .num i => .tup [.str "num", .int i]
  | .ad n => .int n
structure Cl where
  lab : Str
  ws : List Wd
def Cl.d (c : Cl) : D := .tup [.tup [.str c.lab], .tup (c.ws.map Wd.d)]
def clD : Option Cl → D
  | none => .non
  | some c => c.d
abbrev Hpd := List (Option Cl)
def hpD (h : Hpd) : D := .tup (h.map clD)
def Wd.ok (h : Hpd) : Wd → Prop
  | .non => True
  | .num i => -1000000000000 ≤ i ∧ i ≤ 1000000000000
  | .ad n => ∃ c, h[n]? = some (some c)
def wsOk (h : Hpd) (ws : List Wd) : Prop := ws.length ≤ 3 ∧ ∀ w ∈ ws, w.ok h
def hpOk (h : Hpd) : Prop := h.length ≤ 9 ∧ ∀ c, some c ∈ h → wsOk h c.ws
def adr : List Wd → List Nat
  | [] => []
  | .ad n :: ws => n :: adr ws
  | _ :: ws => adr ws
theorem mem_adr {n : Nat} : ∀ {ws : List Wd}, n ∈ adr ws ↔ .ad n ∈ ws
  | [] => by simp [adr]
  | .non :: ws => by simp [adr, mem_adr]
  | .num i :: ws => by simp [adr, mem_adr]
  | .ad m :: ws => by simp [adr, mem_adr]
theorem adr_len : ∀ ws : List Wd, (adr ws).length ≤ ws.length
  | [] => Nat.le_refl _
  | .non :: ws => Nat.le_succ_of_le (adr_len ws)
  | .num i :: ws => Nat.le_succ_of_le (adr_len ws)
  | .ad m :: ws => Nat.succ_le_succ (adr_len ws)
theorem wd_okv (M : Sto) (w : Wd) : okw M w.d := by
  cases w with
  | non => exact ⟨trivial, fun ds e => by cases e⟩
  | num i => exact ⟨trivial, fun ds e a b e2 => by cases e; cases e2; exact ⟨⟨_, rfl⟩, trivial⟩⟩
  | ad n => exact ⟨trivial, fun ds e => by cases e⟩
theorem ws_oks (M : Sto) (ws : List Wd) : oks M (.tup (ws.map Wd.d)) := ⟨trivial, fun ds e w hw => by
  cases e
  obtain ⟨x, _, rfl⟩ := List.mem_map.mp hw
  exact wd_okv M x⟩
theorem cl_okc (M : Sto) (c : Option Cl) : okc M (clD c) := by
  cases c with
  | none => exact ⟨trivial, fun ds e => by cases e⟩
  | some c => exact ⟨trivial, fun ds e a b e2 => by
      cases e
      cases e2
      exact ⟨⟨trivial, fun es e3 x hx => by
        cases e3
        rw [List.mem_singleton.mp hx]
        trivial⟩, ws_oks M c.ws⟩⟩
theorem hp_okh (M : Sto) {h : Hpd} (hl : h.length < 3000) : okh M (hpD h) := ⟨trivial, fun ds e => by
  cases e
  exact ⟨by rw [List.length_map]; exact hl, fun c hc => by
    obtain ⟨x, _, rfl⟩ := List.mem_map.mp hc
    exact cl_okc M x⟩⟩
theorem nonB_cl (c : Option Cl) : nonB (clD c) = c.isNone := by cases c <;> rfl
theorem getD_cl {h : Hpd} {n : Nat} : (h.map clD).getD n .non = clD (h.getD n none) := by
  rw [List.getD_eq_getElem?_getD, List.getD_eq_getElem?_getD, List.getElem?_map]
  cases h[n]? <;> rfl
theorem wd_wordB {h : Hpd} {w : Wd} (hw : w.ok h) : wordB (h.map clD) w.d = true := by
  cases w with
  | non => rfl
  | num i =>
    have : numB (Wd.num i).d = true := by
      show (sbeq "num" "num" && intB _ _ (.int i)) = true
      rw [sbeq_iff.mpr rfl]
      simp [intB, inB, hw.1, hw.2]
    unfold wordB
    rw [this]
    simp
  | ad n =>
    obtain ⟨c, e⟩ := hw
    have hl : n < h.length := (List.getElem?_eq_some_iff.mp e).1
    have e2 : h.getD n none = some c := by rw [List.getD_eq_getElem?_getD, e]; rfl
    have : addrB (h.map clD) (Wd.ad n).d = true := by
      show (decide ((0 : Int) ≤ (n : Int)) && (decide ((n : Int) < ((h.map clD).length : Int)) && !(nonB ((h.map clD).getD (n : Int).toNat .non)))) = true
      rw [Int.toNat_natCast, getD_cl, e2, List.length_map]
      simp [hl, clD, Cl.d, nonB]
    unfold wordB
    rw [this]
    simp
theorem ws_wordsB {h : Hpd} {ws : List Wd} (hw : wsOk h ws) : wordsB (h.map clD) (.tup (ws.map Wd.d)) = true := by
  have z : (ws.map Wd.d).all (wordB (h.map clD)) = true := List.all_eq_true.mpr fun x hx => by
    obtain ⟨w, hm, rfl⟩ := List.mem_map.mp hx
    exact wd_wordB (hw.2 w hm)
  have := hw.1
  have l : (ws.map Wd.d).length ≤ 12 := by rw [List.length_map]; omega
  show (decide _ && _) = true
  rw [z, decide_eq_true l]
  rfl
theorem hp_heapB {h : Hpd} (hh : hpOk h) : heapB (hpD h) = true := by
  have z : (h.map clD).all (cellB (h.map clD)) = true := List.all_eq_true.mpr fun x hx => by
    obtain ⟨c, hm, rfl⟩ := List.mem_map.mp hx
    cases c with
    | none => rfl
    | some c =>
      show (labelB (.tup [.str c.lab]) && wordsB (h.map clD) (.tup (c.ws.map Wd.d))) = true
      rw [ws_wordsB (hh.2 c hm)]
      rfl
  have := hh.1
  have l : (h.map clD).length ≤ 1000 := by rw [List.length_map]; omega
  show (decide _ && _) = true
  rw [z, decide_eq_true l]
  rfl
/-! ### the addresses among words -/
def isAd : D → Bool
  | .int _ => true
  | _ => false
theorem filter_ad : ∀ ws : List Wd, ((ws.map Wd.d).filter isAd) = (adr ws).map fun n : Nat => D.int n
  | [] => rfl
  | .non :: ws => by
    rw [List.map_cons, List.filter_cons_of_neg (by simp [Wd.d, isAd]), filter_ad ws]
    rfl
  | .num i :: ws => by
    rw [List.map_cons, List.filter_cons_of_neg (by simp [Wd.d, isAd]), filter_ad ws]
    rfl
  | .ad n :: ws => by
    rw [List.map_cons, List.filter_cons_of_pos (by simp [Wd.d, isAd]), filter_ad ws]
    rfl
abbrev adrD (ws : List Wd) : List D := (adr ws).map fun n : Nat => D.int n
theorem q_led {ws : List Wd} {M : Sto} (hl : ws.length ≤ 1000) : f__law_led [.tup (ws.map Wd.d)] M = some (.ok (.lst M.length), M ++ [.lst (adrD ws)]) := by
  have hc := compE_pure (src := anySrc (nmD 0)) (vs := [1]) (slot := 1) (n := 100000) (r := [some (.tup (ws.map Wd.d)), none]) (M := M) (s := .seq (.tup (ws.map Wd.d))) (items := ws.map Wd.d) (p := isAd) (g := fun w => w)
    (ifs := testD (opS PyK.isiD (consD (nmD 1) (consD (cstD (.ty "int")) nilD)))) (elt := nmD 1) (by simp [anySrc, bindD, nmD, itemsD]) (fun _ _ => next_tup) (fun w hw acc hk => by
      obtain ⟨x, _, rfl⟩ := List.mem_map.mp hw
      have z := isi_int (M := M ++ [.lst acc]) (wd_okv (M ++ [.lst acc]) x).1
      have e : isIntB x.d = isAd x.d := by cases x <;> rfl
      rw [e] at z
      simp [wipeD, bindD_ap, liftD_ap, testD_ap, opS_ap, consD_ap, nmD_ap, cstD_ap, nilD_ap, z, truD]) (fun w hw _ acc hk => ⟨by simp [wipeD, nmD_ap], by
      obtain ⟨x, _, rfl⟩ := List.mem_map.mp hw
      cases x <;> rfl⟩) (by rw [List.length_map]; omega) (by rw [List.length_map]; omega)
  rw [List.map_id', filter_ad] at hc
  simp only [f__law_led, bodyF, d__law_led, retS_ap, bindS_ap, List.map_cons, List.map_nil, List.length_cons, List.length_nil, List.replicate, List.cons_append, List.nil_append, hc]
theorem q_adin {ws : List Wd} {M : Sto} (hl : ws.length ≤ 1000) : f_addresses_in [.tup (ws.map Wd.d)] M = some (.ok (.lst M.length), M ++ [.lst (adrD ws)]) := by
  have hc := compE_pure (src := anySrc (nmD 0)) (vs := [1]) (slot := 1) (n := 100000) (r := [some (.tup (ws.map Wd.d)), none]) (M := M) (s := .seq (.tup (ws.map Wd.d))) (items := ws.map Wd.d) (p := isAd) (g := fun w => w)
    (ifs := btestD (op2 (cmpD .Is) (opS tyOfD (consD (nmD 1) nilD)) (cstD (.ty "int")))) (elt := nmD 1) (by simp [anySrc, bindD, nmD, itemsD]) (fun _ _ => next_tup) (fun w hw acc hk => by
      obtain ⟨x, _, rfl⟩ := List.mem_map.mp hw
      cases x <;> simp [wipeD, bindD_ap, liftD_ap, btestD_ap, op2_ap, opS_ap, consD_ap, nmD_ap, cstD_ap, nilD_ap, Wd.d, tyOfD, cmpD, isD, blD, isAd]) (fun w hw _ acc hk => ⟨by simp [wipeD, nmD_ap], by
      obtain ⟨x, _, rfl⟩ := List.mem_map.mp hw
      cases x <;> rfl⟩) (by rw [List.length_map]; omega) (by rw [List.length_map]; omega)
  rw [List.map_id', filter_ad] at hc
  simp only [f_addresses_in, bodyF, d_addresses_in, retS_ap, bindS_ap, List.map_cons, List.map_nil, List.length_cons, List.length_nil, List.replicate, List.cons_append, List.nil_append, hc]
end Py

-- PyQ9
set_option maxRecDepth 100000
set_option maxHeartbeats 4000000
noncomputable section
namespace Py
open PySem PySem.Spec PyProof.Rows L2 PyD PyL PyH L2H HotX PyM PyK PyQ
/-! ### what is reached -/
def kids (h : Hpd) (n : Nat) : List Nat := match h[n]? with
  | some (some c) => adr c.ws
  | _ => []
inductive Rch (h : Hpd) (ns : List Nat) : Nat → Prop
  | base {n : Nat} : n ∈ ns → Rch h ns n
  | step {n m : Nat} : Rch h ns n → m ∈ kids h n → Rch h ns m
/-- addresses of cells -/
def isC (h : Hpd) (n : Nat) : Prop := ∃ c, h[n]? = some (some c)
theorem isC.lt {h : Hpd} {n : Nat} (c : isC h n) : n < h.length := by
  obtain ⟨c, e⟩ := c
  exact (List.getElem?_eq_some_iff.mp e).1
theorem kids_C {h : Hpd} (hh : hpOk h) {n m : Nat} (hm : m ∈ kids h n) : isC h m := by
  unfold kids at hm
  split at hm
  · rename_i c e
    exact (hh.2 c (List.mem_of_getElem? e)).2 _ (mem_adr.mp hm)
  · cases hm
theorem kids_len {h : Hpd} (hh : hpOk h) (n : Nat) : (kids h n).length ≤ 3 := by
  unfold kids
  split
  · rename_i c e
    exact Nat.le_trans (adr_len _) (hh.2 c (List.mem_of_getElem? e)).1
  · exact Nat.zero_le _
theorem Rch.C {h : Hpd} (hh : hpOk h) {ns : List Nat} (hn : ∀ n ∈ ns, isC h n) {n : Nat} (r : Rch h ns n) : isC h n := by
  cases r with
  | base h1 => exact hn n h1
  | step r1 h2 => exact kids_C hh h2
theorem few : ∀ {k : Nat} {l : List Nat}, l.Nodup → (∀ n ∈ l, n < k) → l.length ≤ k
  | 0, [], _, _ => Nat.le_refl _
  | 0, x :: _, _, h => absurd (h x (List.mem_cons_self)) (Nat.not_lt_zero _)
  | k + 1, l, nd, h => by
    by_cases hk : k ∈ l
    · have z := few (k := k) (l := l.erase k) (nd.erase k) fun n hn => by
        have a := (List.Nodup.mem_erase_iff nd).mp hn
        have b := h n a.2
        have c := a.1
        omega
      rw [List.length_erase_of_mem hk] at z
      omega
    · have z := few (k := k) (l := l) nd fun n hn => by
        have b := h n hn
        have c : n ≠ k := fun e => hk (e ▸ hn)
        omega
      omega
abbrev intsN (l : List Nat) : List D := l.map fun n : Nat => D.int n
theorem pys_nats {M : Sto} (l : List Nat) : PyS M (1 + l.length) (intsN l) (l.map fun n : Nat => PyData.int n) := pys_all l fun n _ => .int n
theorem any_nat (l : List Nat) (n : Nat) : ((l.map fun n : Nat => PyData.int n).any fun z => PyData.eqv z (.int n)) = decide (n ∈ l) := by
  rw [List.any_map, Bool.eq_iff_iff, List.any_eq_true, decide_eq_true_iff]
  constructor
  · rintro ⟨x, hx, e⟩
    have e : ((x : Int) == (n : Int)) = true := by simpa [PyData.eqv] using e
    have := eq_of_beq e
    have : x = n := by omega
    rw [← this]
    exact hx
  · intro hn
    exact ⟨n, hn, by simp [PyData.eqv]⟩
/-- whether an int is not among those of a list -/
theorem notin_is {M : Sto} {k n : Nat} {l : List Nat} (h : sGet M k = some (.lst (intsN l))) (hl : l.length ≤ 60) : inF true (.int n) (.lst k) M = some (.bl (!decide (n ∈ l)), M) := by
  have h1 := PyS.lst h (pys_nats l)
  have h2 := PyV.int (M := M) n
  have e : inF true (.int n) (.lst k) M = inD true (.int n) (.lst k) M := rfl
  rw [e]
  unfold inD
  dsimp only
  rw [h2.to 200 (by omega), h1.to 200 (by omega)]
  dsimp only
  rw [h2.shp (by omega), h1.shp (by omega), any_nat]
  rfl
/-! cells without lists within -/
def flatC (c : Cell) : Prop := ∀ k, okCell k c = true ∧ pureC c = true
def flat : Sto → Prop
  | [] => True
  | c :: X => flatC c ∧ flat X
theorem flat.app : ∀ {X Y : Sto}, flat X → flat Y → flat (X ++ Y)
  | [], _, _, h => h
  | _ :: _, _, a, b => ⟨a.1, flat.app a.2 b⟩
theorem pure_int : ∀ l : List Int, pureDs (l.map D.int) = true
  | [] => rfl
  | i :: l => by simp [pureDs, pureD, pure_int l]
theorem flatC_int (l : List Int) : flatC (.lst (l.map D.int)) := fun _ => ⟨ok_int l, pure_int l⟩
theorem flatC_nat (l : List Nat) : flatC (.lst (intsN l)) := by
  have e : intsN l = (l.map fun n : Nat => (n : Int)).map D.int := by rw [List.map_map]; rfl
  rw [e]
  exact flatC_int _
def addN (l : List Nat) (n : Nat) : List Nat := if n ∈ l then l else l ++ [n]
def addAll (l : List Nat) (ns : List Nat) : List Nat := ns.foldl addN l
theorem addN_nd {l : List Nat} {n : Nat} (h : l.Nodup) : (addN l n).Nodup := by
  unfold addN
  split
  · exact h
  · rename_i hn
    exact List.nodup_append.mpr ⟨h, by simp, fun a ha b hb => by
      rw [List.mem_singleton.mp hb]
      intro e
      exact hn (e ▸ ha)⟩
theorem mem_addN {l : List Nat} {n m : Nat} : m ∈ addN l n ↔ m ∈ l ∨ m = n := by
  unfold addN
  split
  · rename_i hn
    exact ⟨.inl, fun h => h.elim id fun e => e ▸ hn⟩
  · simp
theorem addN_len {l : List Nat} {n : Nat} : (addN l n).length ≤ l.length + 1 := by
  unfold addN
  split
  · omega
  · simp
/-- the law's way of putting one to those found -/
abbrev putB : SDen := setS (op2 (binD .Add) (nmD 3) (op2 (binD .Mult) (opS lstD (consD (nmD 5) nilD)) (opS intD (consD (op2 (cmpD .NotIn) (nmD 5) (nmD 3)) nilD)))) (nmT 3)
theorem q_put {r : DEnv} {M : Sto} {k n : Nat} {l : List Nat} (h3 : r[3]? = some (some (.lst k))) (h5 : r[5]? = some (some (.int n))) (hk : sGet M k = some (.lst (intsN l))) (hl : l.length ≤ 60) :
    ∃ X k2, putB r M = some (.nx, r.set 3 (some (.lst k2)), M ++ X) ∧ sGet (M ++ X) k2 = some (.lst (intsN (addN l n))) ∧ flat X := by
  have e1 := notin_is (n := n) (get_some (X := [Cell.lst [.int n]]) hk) hl
  have len1 : (M ++ [Cell.lst [.int n]]).length = M.length + 1 := by simp
  by_cases hn : n ∈ l
  · have g1 : sGet (M ++ [Cell.lst [.int n]]) M.length = some (.lst [.int n]) := get_new
    have g2 : sGet (M ++ [Cell.lst [.int n], .lst []]) k = some (.lst (intsN l)) := get_some hk
    have g3 : sGet (M ++ [Cell.lst [.int n], .lst []]) (M.length + 1) = some (.lst []) := get_at
    refine ⟨[.lst [.int n], .lst [], .lst (intsN l)], M.length + 2, ?_, ?_, flatC_int [(n : Int)], flatC_int [], flatC_nat l, trivial⟩
    · simp [hn] at e1
      simp [putB, setS_ap, bindS_ap, op2_ap, opS_ap, bindD_ap, liftD_ap, consD_ap, nilD_ap, nmD_ap, h3, h5, lstD, sApp_eq, cmpD, e1, PyD.intD, binD, mulD, g1, len1, addD, g2, g3, nmT_ap]
      rw [if_pos (by omega)]
    · rw [get_at]
      simp [addN, hn]
  · have g1 : sGet (M ++ [Cell.lst [.int n]]) M.length = some (.lst [.int n]) := get_new
    have g2 : sGet (M ++ [Cell.lst [.int n], .lst [.int n]]) k = some (.lst (intsN l)) := get_some hk
    have g3 : sGet (M ++ [Cell.lst [.int n], .lst [.int n]]) (M.length + 1) = some (.lst [.int n]) := get_at
    refine ⟨[.lst [.int n], .lst [.int n], .lst (intsN l ++ [.int n])], M.length + 2, ?_, ?_, flatC_int [(n : Int)], flatC_int [(n : Int)], by
      have e : intsN (l ++ [n]) = intsN l ++ [D.int n] := List.map_append
      exact e ▸ flatC_nat (l ++ [n]), trivial⟩
    · simp [hn] at e1
      simp [putB, setS_ap, bindS_ap, op2_ap, opS_ap, bindD_ap, liftD_ap, consD_ap, nilD_ap, nmD_ap, h3, h5, lstD, sApp_eq, cmpD, e1, PyD.intD, binD, mulD, g1, len1, addD, g2, g3, nmT_ap]
      rw [if_pos (by omega)]
    · rw [get_at]
      simp [addN, hn]
/-- all of some -/
theorem q_putAll {M0 : Sto} {kk : Nat} {ns : List Nat} {l0 : List Nat} {h rt br at_ : Option D} (hs : sGet M0 kk = some (.lst (intsN ns))) (hb : l0.length + ns.length ≤ 60) :
    ∀ (k : Nat) (x : Option D), sGet M0 k = some (.lst (intsN l0)) → ∃ X k2 x2, forL (nextI (.seq (.lst kk))) (nmT 5) putB 100000 0 [h, rt, br, some (.lst k), at_, x] M0 = some (.nx, [h, rt, br, some (.lst k2), at_, x2], M0 ++ X) ∧ sGet (M0 ++ X) k2 = some (.lst (intsN (addAll l0 ns))) ∧ flat X := by
  intro k x hk
  obtain ⟨r', M', e, X, k2, x2, l, rfl, rfl, h1, h2, h3, h4⟩ := forL_run (nxt := nextI (.seq (.lst kk))) (t := nmT 5) (b := putB) (m := ns.length)
    (fun i r M => ∃ X k2 x2 l, M = M0 ++ X ∧ r = [h, rt, br, some (.lst k2), at_, x2] ∧ sGet M k2 = some (.lst (intsN l)) ∧ l = addAll l0 (ns.take i) ∧ l.length ≤ l0.length + i ∧ flat X)
    (fun r M hp => by
      obtain ⟨X, k2, x2, l, rfl, _⟩ := hp
      rw [next_lst (get_some hs), List.getElem?_eq_none (by simp)])
    (fun i r M hi hp => by
      obtain ⟨X, k2, x2, l, rfl, rfl, h1, h2, h3, h4⟩ := hp
      have hx : (intsN ns)[i]? = some (.int (ns[i] : Nat)) := by simp [List.getElem?_eq_getElem hi]
      obtain ⟨X2, k3, e1, e2, e3⟩ := q_put (r := [h, rt, br, some (.lst k2), at_, some (.int (ns[i] : Nat))]) (n := ns[i]) rfl rfl h1 (by omega)
      refine ⟨.int (ns[i] : Nat), _, _, _, _, by rw [next_lst (get_some hs)]; exact congrArg some hx, rfl, e1, X ++ X2, k3, some (.int (ns[i] : Nat)), addN l ns[i], by rw [List.append_assoc], rfl, e2, ?_, ?_, h4.app e3⟩
      · rw [List.take_succ, List.getElem?_eq_getElem hi, addAll, List.foldl_append, h2]
        rfl
      · have := addN_len (l := l) (n := ns[i])
        omega)
    100000 0 [h, rt, br, some (.lst k), at_, x] M0 (Nat.zero_le _) (by omega) ⟨[], k, x, l0, by simp, rfl, by simpa using hk, rfl, by omega, trivial⟩
  rw [List.take_length] at h2
  exact ⟨X, k2, x2, e, h2 ▸ h1, h4⟩
theorem addAll_nd {ns : List Nat} : ∀ {l : List Nat}, l.Nodup → (addAll l ns).Nodup := by
  induction ns with
  | nil => exact fun h => h
  | cons n ns ih => exact fun h => ih (addN_nd h)
theorem mem_addAll {m : Nat} {ns : List Nat} : ∀ {l : List Nat}, m ∈ addAll l ns ↔ m ∈ l ∨ m ∈ ns := by
  induction ns with
  | nil => intro l; simp [addAll]
  | cons n ns ih =>
    intro l
    show m ∈ addAll (addN l n) ns ↔ _
    rw [ih, mem_addN, List.mem_cons, or_assoc]
theorem addAll_pre {ns : List Nat} : ∀ {l : List Nat}, ∃ x, addAll l ns = l ++ x := by
  induction ns with
  | nil => exact fun {l} => ⟨[], by simp [addAll]⟩
  | cons n ns ih =>
    intro l
    obtain ⟨x, e⟩ := ih (l := addN l n)
    obtain ⟨y, e2⟩ : ∃ y, addN l n = l ++ y := by
      unfold addN
      split
      · exact ⟨[], by simp⟩
      · exact ⟨[n], rfl⟩
    exact ⟨y ++ x, by show addAll (addN l n) ns = _; rw [e, e2, List.append_assoc]⟩
end Py

-- PyQA
set_option maxRecDepth 100000
set_option maxHeartbeats 4000000
noncomputable section
namespace Py
open PySem PySem.Spec PyProof.Rows L2 PyD PyL PyH L2H HotX PyM PyK PyQ
/-! ### the law's walk -/
structure Bfs (h : Hpd) (rs : List Nat) (at_ : Nat) (l : List Nat) : Prop where
  nd : l.Nodup
  rch : ∀ n ∈ l, Rch h rs n
  rt : ∀ n ∈ rs, n ∈ l
  cl : ∀ i n, i < at_ → l[i]? = some n → ∀ m ∈ kids h n, m ∈ l
  le : at_ ≤ l.length
theorem cell_at {h : Hpd} {n : Nat} (c : isC h n) : ∃ c : Cl, h[n]? = some (some c) ∧ kids h n = adr c.ws ∧ atI (h.map clD) (n : Int) = some c.d := by
  obtain ⟨c, e⟩ := c
  have hl := (List.getElem?_eq_some_iff.mp e).1
  refine ⟨c, e, by unfold kids; rw [e], ?_⟩
  have z := atI_nat (cells := h.map clD) (i := (n : Int)) (by omega) (by rw [List.length_map]; omega)
  rw [z, Int.toNat_natCast, getD_cl, List.getD_eq_getElem?_getD, e]
  rfl
theorem Bfs.len {h : Hpd} (hh : hpOk h) {rs : List Nat} (hr : ∀ n ∈ rs, isC h n) {at_ : Nat} {l : List Nat} (b : Bfs h rs at_ l) : l.length ≤ 9 :=
  Nat.le_trans (few b.nd fun n hn => ((b.rch n hn).C hh hr).lt) hh.1
abbrev walkT : Den Bool := btestD (op2 (cmpD .Lt) (nmD 4) (opS lenD (consD (nmD 3) nilD)))
abbrev walkB : SDen := (seqS (forS (anySrc (ifE (btestD (op2 (cmpD .NotEq) (op2 itemD (nmD 3) (nmD 4)) (nmD 2))) (callE 1 f__law_led (consD (op2 itemD (op2 itemD (nmD 0) (op2 itemD (nmD 3) (nmD 4))) (cstD (.int 1))) nilD)) (opS lstD nilD))) (nmT 5) putB 100000)
    (setS (op2 (binD .Add) (nmD 4) (cstD (.int 1))) (nmT 4)))
theorem atI_nats {l : List Nat} {i n : Nat} (e : l[i]? = some n) : atI (intsN l) (i : Int) = some (.int n) := by
  have hl := (List.getElem?_eq_some_iff.mp e).1
  have z := atI_nat (cells := intsN l) (i := (i : Int)) (by omega) (by rw [List.length_map]; omega)
  rw [z, Int.toNat_natCast, List.getD_eq_getElem?_getD, List.getElem?_map, e]
  rfl
theorem ne_non {n : Int} {M : Sto} : eqF true (.int n) .non M = some (.bl true, M) := by
  have e : eqF true (.int n) .non M = eqD true (.int n) .non M := rfl
  rw [e, eqD_is (PyV.int n) PyV.non (by omega) (by omega)]
  rfl
theorem q_walk {h : Hpd} (hh : hpOk h) {rs : List Nat} (hr : ∀ n ∈ rs, isC h n) {rt : Option D} {at_ k : Nat} {l : List Nat} {x : Option D} {M : Sto} (b : Bfs h rs at_ l) (hlt : at_ < l.length) (hk : sGet M k = some (.lst (intsN l))) :
    ∃ X k2 x2 l2, walkB [some (hpD h), rt, some .non, some (.lst k), some (.int at_), x] M = some (.nx, [some (hpD h), rt, some .non, some (.lst k2), some (.int (at_ + 1 : Nat)), x2], M ++ X) ∧ sGet (M ++ X) k2 = some (.lst (intsN l2)) ∧ Bfs h rs (at_ + 1) l2 ∧ flat X := by
  have hn : l[at_]? = some l[at_] := List.getElem?_eq_getElem hlt
  have hm : l[at_] ∈ l := List.getElem_mem hlt
  obtain ⟨c, e1, e2, e3⟩ := cell_at ((b.rch _ hm).C hh hr)
  have w1 : c.ws.length ≤ 3 := (hh.2 c (List.mem_of_getElem? e1)).1
  have i1 : atI (intsN l) (at_ : Int) = some (.int l[at_]) := atI_nats hn
  have led := q_led (ws := c.ws) (M := M) (by omega)
  have src : anySrc (ifE (btestD (op2 (cmpD .NotEq) (op2 itemD (nmD 3) (nmD 4)) (nmD 2))) (callE 1 f__law_led (consD (op2 itemD (op2 itemD (nmD 0) (op2 itemD (nmD 3) (nmD 4))) (cstD (.int 1))) nilD)) (opS lstD nilD)) [some (hpD h), rt, some .non, some (.lst k), some (.int at_), x] M = some (.ok (.seq (.lst M.length)), M ++ [.lst (adrD c.ws)]) := by
    have j1 : atI [D.tup [.str c.lab], .tup (c.ws.map Wd.d)] 1 = some (.tup (c.ws.map Wd.d)) := rfl
    simp [anySrc, bindD_ap, ifE_ap, btestD_ap, liftD_ap, op2_ap, nmD_ap, itemD, ixD, hk, i1, cmpD, ne_non, blD, callE_ap, consD_ap, nilD_ap, cstD_ap, hpD, e3, Cl.d, j1, led, itemsD, get_new]
  have bl := b.len hh hr
  have al := adr_len c.ws
  obtain ⟨X, k2, x2, p1, p2, p3⟩ := q_putAll (M0 := M ++ [.lst (adrD c.ws)]) (kk := M.length) (ns := adr c.ws) (l0 := l) (h := some (hpD h)) (rt := rt) (br := some .non) (at_ := some (.int at_)) get_new (by omega) k x (get_some hk)
  refine ⟨[.lst (adrD c.ws)] ++ X, k2, x2, addAll l (adr c.ws), ?_, by rw [← List.append_assoc]; exact p2, ?_, flat.app (X := [.lst (adrD c.ws)]) ⟨flatC_nat (adr c.ws), trivial⟩ p3⟩
  · have f1 : forS (anySrc (ifE (btestD (op2 (cmpD .NotEq) (op2 itemD (nmD 3) (nmD 4)) (nmD 2))) (callE 1 f__law_led (consD (op2 itemD (op2 itemD (nmD 0) (op2 itemD (nmD 3) (nmD 4))) (cstD (.int 1))) nilD)) (opS lstD nilD))) (nmT 5) putB 100000 [some (hpD h), rt, some .non, some (.lst k), some (.int at_), x] M = some (.nx, [some (hpD h), rt, some .non, some (.lst k2), some (.int at_), x2], M ++ ([.lst (adrD c.ws)] ++ X)) := by
      unfold forS
      rw [src]
      dsimp only
      rw [p1, List.append_assoc]
    unfold walkB
    rw [seqS_ap, f1]
    simp [setS_ap, bindS_ap, op2_ap, bindD_ap, liftD_ap, nmD_ap, cstD_ap, binD, addD, nmT_ap]
  · obtain ⟨y, ey⟩ := addAll_pre (l := l) (ns := adr c.ws)
    refine ⟨addAll_nd b.nd, fun n hn2 => ?_, fun n hn2 => mem_addAll.mpr (.inl (b.rt n hn2)), fun i n hi he m hm2 => ?_, ?_⟩
    · rcases mem_addAll.mp hn2 with q | q
      · exact b.rch n q
      · exact .step (b.rch _ hm) (e2 ▸ q)
    · have hi2 : i < l.length := by omega
      have he2 : l[i]? = some n := by
        rw [ey, List.getElem?_append_left hi2] at he
        exact he
      by_cases hq : i < at_
      · exact mem_addAll.mpr (.inl (b.cl i n hq he2 m hm2))
      · have : i = at_ := by omega
        subst this
        rw [hn] at he2
        cases he2
        rw [e2] at hm2
        exact mem_addAll.mpr (.inr hm2)
    · rw [ey, List.length_append]
      omega
theorem q_bfs {h : Hpd} (hh : hpOk h) {rs : List Wd} (hr : wsOk h rs) {M : Sto} : ∃ X k l, f__law_reached [hpD h, .tup (rs.map Wd.d), .non] M = some (.ok (.lst k), M ++ X) ∧ sGet (M ++ X) k = some (.lst (intsN l)) ∧ l.Nodup ∧ (∀ n, n ∈ l ↔ Rch h (adr rs) n) ∧ flat X := by
  have hrC : ∀ n ∈ adr rs, isC h n := fun n hn => hr.2 _ (mem_adr.mp hn)
  have w1 := hr.1
  have al := adr_len rs
  have led := q_led (ws := rs) (M := M ++ [.lst []]) (by omega)
  have s1 : parS 3 4 (consD (opS lstD nilD) (consD (cstD (.int 0)) nilD)) [some (hpD h), some (.tup (rs.map Wd.d)), some .non, none, none, none] M = some (.nx, [some (hpD h), some (.tup (rs.map Wd.d)), some .non, some (.lst M.length), some (.int 0), none], M ++ [.lst []]) := by
    simp [parS_ap, bindS_ap, consD_ap, bindD_ap, opS_ap, nilD_ap, liftD_ap, cstD_ap, lstD, sApp_eq]
  have src : anySrc (callE 1 f__law_led (consD (nmD 1) nilD)) [some (hpD h), some (.tup (rs.map Wd.d)), some .non, some (.lst M.length), some (.int 0), none] (M ++ [.lst []]) = some (.ok (.seq (.lst (M.length + 1))), M ++ [.lst [], .lst (adrD rs)]) := by
    have g : itemsD (.lst (M.length + 1)) (M ++ [.lst [], .lst (adrD rs)]) = some (adrD rs) := by
      unfold itemsD
      dsimp only
      rw [get_at]
      rfl
    simp [anySrc, bindD_ap, callE_ap, consD_ap, nmD_ap, nilD_ap, liftD_ap, led, g]
  obtain ⟨X, k2, x2, p1, p2, p3⟩ := q_putAll (M0 := M ++ [.lst [], .lst (adrD rs)]) (kk := M.length + 1) (ns := adr rs) (l0 := []) (h := some (hpD h)) (rt := some (.tup (rs.map Wd.d))) (br := some .non) (at_ := some (.int 0)) get_at (by simp; omega) M.length none get_at0
  have b0 : Bfs h (adr rs) 0 (addAll [] (adr rs)) := ⟨addAll_nd List.nodup_nil, fun n hn => by
    rcases mem_addAll.mp hn with q | q
    · cases q
    · exact .base q, fun n hn => mem_addAll.mpr (.inr hn), fun i n hi => absurd hi (Nat.not_lt_zero _), Nat.zero_le _⟩
  obtain ⟨r', M', e, X2, k3, x3, at3, l3, rfl, rfl, h1, b1, h3, hfl⟩ := whileS_run (t := walkT) (b := walkB) (fun m r M2 => ∃ X2 k3 x3 at3 l3, M2 = (M ++ [.lst [], .lst (adrD rs)] ++ X) ++ X2 ∧ r = [some (hpD h), some (.tup (rs.map Wd.d)), some .non, some (.lst k3), some (.int (at3 : Nat)), x3] ∧ sGet M2 k3 = some (.lst (intsN l3)) ∧ Bfs h (adr rs) at3 l3 ∧ m = 10 - at3 ∧ flat X2)
    (fun r M2 => ∃ X2 k3 x3 at3 l3, M2 = (M ++ [.lst [], .lst (adrD rs)] ++ X) ++ X2 ∧ r = [some (hpD h), some (.tup (rs.map Wd.d)), some .non, some (.lst k3), some (.int (at3 : Nat)), x3] ∧ sGet M2 k3 = some (.lst (intsN l3)) ∧ Bfs h (adr rs) at3 l3 ∧ at3 = l3.length ∧ flat X2)
    (fun m r M2 hp => by
      obtain ⟨X2, k3, x3, at3, l3, rfl, rfl, h1, b1, rfl, hfl⟩ := hp
      have t : walkT [some (hpD h), some (.tup (rs.map Wd.d)), some .non, some (.lst k3), some (.int (at3 : Nat)), x3] ((M ++ [.lst [], .lst (adrD rs)] ++ X) ++ X2) = some (.ok (decide ((at3 : Int) < l3.length)), (M ++ [.lst [], .lst (adrD rs)] ++ X) ++ X2) := by
        simp [walkT, btestD_ap, bindD_ap, op2_ap, nmD_ap, opS_ap, consD_ap, nilD_ap, liftD_ap, lenD, h1, cmpD, ltF, ltD, blD, -List.append_assoc]
      by_cases hlt : at3 < l3.length
      · obtain ⟨X4, k4, x4, l4, q1, q2, q3, q4⟩ := q_walk hh hrC (rt := some (.tup (rs.map Wd.d))) (x := x3) b1 hlt h1
        have := b1.len hh hrC
        exact .inr ⟨_, _, _, 10 - (at3 + 1), by rw [t, decide_eq_true (by omega)], q1, by omega, X2 ++ X4, k4, x4, at3 + 1, l4, by rw [List.append_assoc], rfl, q2, q3, rfl, hfl.app q4⟩
      · have := b1.le
        exact .inl ⟨_, by rw [t, decide_eq_false (by omega)], X2, k3, x3, at3, l3, rfl, rfl, h1, b1, by omega, hfl⟩)
    100000 10 [some (hpD h), some (.tup (rs.map Wd.d)), some .non, some (.lst k2), some (.int 0), x2] (M ++ [.lst [], .lst (adrD rs)] ++ X) (by omega) ⟨[], k2, x2, 0, addAll [] (adr rs), by simp, rfl, by simpa using p2, b0, rfl, trivial⟩
  have f1 : forS (anySrc (callE 1 f__law_led (consD (nmD 1) nilD))) (nmT 5) putB 100000 [some (hpD h), some (.tup (rs.map Wd.d)), some .non, some (.lst M.length), some (.int 0), none] (M ++ [.lst []]) = some (.nx, [some (hpD h), some (.tup (rs.map Wd.d)), some .non, some (.lst k2), some (.int 0), x2], M ++ [.lst [], .lst (adrD rs)] ++ X) := by
    unfold forS
    rw [src]
    dsimp only
    rw [p1]
  have all : f__law_reached [hpD h, .tup (rs.map Wd.d), .non] M = some (.ok (.lst k3), M ++ [.lst [], .lst (adrD rs)] ++ X ++ X2) := by
    unfold f__law_reached bodyF d__law_reached
    show (match (seqS _ (seqS _ (seqS _ _))) [some (hpD h), some (.tup (rs.map Wd.d)), some .non, none, none, none] M with
      | some (.rt d, _, M') => some (Res.ok d, M')
      | some (.nx, _, M') => some (Res.ok D.non, M')
      | some (.ex x, _, M') => some (Res.ex x, M')
      | _ => none) = _
    rw [seqS_ap, s1]
    dsimp only
    rw [seqS_ap, f1]
    dsimp only
    unfold walkT walkB putB at e
    rw [seqS_ap, e]
    simp [retS_ap, bindS_ap, nmD_ap]
  have fin : ∀ n, n ∈ l3 ↔ Rch h (adr rs) n := fun n => ⟨b1.rch n, fun r => by
    induction r with
    | base q => exact b1.rt _ q
    | step _ q ih =>
      obtain ⟨i, hi, ei⟩ := List.getElem_of_mem ih
      exact b1.cl i _ (by omega) (by rw [List.getElem?_eq_getElem hi, ei]) _ q⟩
  exact ⟨[.lst [], .lst (adrD rs)] ++ X ++ X2, k3, l3, by rw [all]; simp, by simpa using h1, b1.nd, fin, flat.app (flat.app (X := [.lst [], .lst (adrD rs)]) ⟨flatC_int [], flatC_nat (adr rs), trivial⟩ p3) hfl⟩
end Py

-- PyQC
set_option maxRecDepth 100000
set_option maxHeartbeats 4000000
noncomputable section
namespace Py
open PySem PySem.Spec PyProof.Rows L2 PyD PyL PyH L2H HotX PyM PyK PyQ
/-! ### the program's search -/
theorem okR_wd (k : Nat) (w : Wd) : okR k w.d = true := by cases w <;> rfl
theorem okR_ws (k : Nat) (ws : List Wd) : okR k (.tup (ws.map Wd.d)) = true := okRL_iff.mpr fun d hd => by
  obtain ⟨w, _, rfl⟩ := List.mem_map.mp hd
  exact okR_wd k w
theorem okR_cl (k : Nat) (c : Option Cl) : okR k (clD c) = true := by
  cases c with
  | none => rfl
  | some c =>
    exact okRL_iff.mpr fun d hd => by
      rcases List.mem_cons.mp hd with q | hd
      · rw [q]; rfl
      · rw [List.mem_singleton.mp hd]; exact okR_ws k c.ws
theorem okR_hp (k : Nat) (h : Hpd) : okR k (hpD h) = true := okRL_iff.mpr fun d hd => by
  obtain ⟨c, _, rfl⟩ := List.mem_map.mp hd
  exact okR_cl k c
def kvN (l : List Nat) : List (Key × D) := l.map fun n : Nat => ((.inl (n : Int) : Key), D.bl true)
theorem look_kv (l : List Nat) (n : Nat) : (lookK (kvN l) (.inl (n : Int))).isSome = decide (n ∈ l) := by
  unfold lookK
  rw [Option.isSome_map, Bool.eq_iff_iff, List.find?_isSome, decide_eq_true_iff]
  constructor
  · rintro ⟨p, hp, e⟩
    obtain ⟨x, hx, rfl⟩ := List.mem_map.mp hp
    have e := Sum.inl.inj (of_decide_eq_true e)
    have : x = n := by omega
    exact this ▸ hx
  · intro hn
    exact ⟨_, List.mem_map.mpr ⟨n, hn, rfl⟩, decide_eq_true rfl⟩
theorem put_kv {l : List Nat} {n : Nat} (hn : n ∉ l) : putKD (kvN l) (.inl (n : Int)) (.bl true) = kvN (l ++ [n]) := by
  unfold putKD
  rw [if_neg]
  · simp [kvN]
  · intro z
    simp only [kvN, List.any_map, List.any_eq_true, Function.comp, decide_eq_true_iff, Sum.inl.injEq] at z
    obtain ⟨x, hx, e⟩ := z
    have : x = n := by omega
    exact hn (this ▸ hx)
theorem keys_kv : ∀ l : List Nat, intKeys (kvN l) = some (l.map fun n : Nat => (n : Int))
  | [] => rfl
  | n :: l => by
    show (intKeys (kvN l)).map _ = _
    rw [keys_kv l]
    rfl
theorem flatC_kv (l : List Nat) : flatC (.dk (kvN l)) := fun k => by
  constructor
  · show ((kvN l).all fun p => okR k p.2) = true
    refine List.all_eq_true.mpr fun p hp => ?_
    obtain ⟨n, _, rfl⟩ := List.mem_map.mp hp
    rfl
  · show pureKV (kvN l) = true
    refine List.all_eq_true.mpr fun p hp => ?_
    obtain ⟨n, _, rfl⟩ := List.mem_map.mp hp
    rfl
structure Dfs (h : Hpd) (rs ks ws : List Nat) : Prop where
  nd : ks.Nodup
  rk : ∀ n ∈ ks, Rch h rs n
  wr : ∀ n ∈ ws, Rch h rs n
  rt : ∀ n ∈ rs, n ∈ ks ∨ n ∈ ws
  cl : ∀ n ∈ ks, ∀ m ∈ kids h n, m ∈ ks ∨ m ∈ ws
abbrev dfsB : SDen := (seqS (setS (meth0 popD (nmD 3)) (nmT 4))
    (ifS (btestD (op2 (cmpD .NotIn) (nmD 4) (nmD 2))) (seqS (putS (nmD 2) (nmD 4) (cstD (.bl true)))
    (exprS (methE extendD (nmD 3) (consD (callE 1 f_addresses_in (consD (op2 itemD (op2 itemD (nmD 0) (nmD 4)) (cstD (.int 1))) nilD)) nilD)))) skipS))
theorem set_two {M : Sto} {a b c : Cell} : (M ++ [a, b]).set (M.length + 1) c = M ++ [a, c] := by
  rw [List.set_append_right _ _ (Nat.le_add_right _ _), Nat.add_sub_cancel_left]
  rfl
theorem set_two3 {M : Sto} {a b c d : Cell} : (M ++ [a, b, d]).set (M.length + 1) c = M ++ [a, c, d] := by
  rw [List.set_append_right _ _ (Nat.le_add_right _ _), Nat.add_sub_cancel_left]
  rfl
theorem set_one2 {M : Sto} {a b c : Cell} : (M ++ [a, b]).set M.length c = M ++ [c, b] := by
  rw [List.set_append_right _ _ (Nat.le_refl _), Nat.sub_self]
  rfl
theorem wf_two {M : Sto} (hM : WF M) {ks ws : List Nat} : (M ++ [Cell.dk (kvN ks), .lst (intsN ws)]).all (okCell (M.length + 2)) = true := by
  have a : okCell (M.length + 2) (Cell.dk (kvN ks)) = true := List.all_eq_true.mpr fun p hp => by
    obtain ⟨n, _, rfl⟩ := List.mem_map.mp hp
    rfl
  have b : okCell (M.length + 2) (Cell.lst (intsN ws)) = true := okRL_iff.mpr fun d hd => by
    obtain ⟨n, _, rfl⟩ := List.mem_map.mp hd
    rfl
  rw [List.all_append, hM.up (Nat.le_add_right _ _)]
  simp [a, b]
theorem q_dfsB {h : Hpd} (hh : hpOk h) {rs : List Nat} (hr : ∀ n ∈ rs, isC h n) {rt : List Wd} {ks ws : List Nat} {n : Nat} {x : Option D} {M : Sto} (hM : WF M) (b : Dfs h rs ks (ws ++ [n])) (hl : ws.length ≤ 60) :
    ∃ ks2 ws2, trimW dfsB [some (hpD h), some (.tup (rt.map Wd.d)), some (.dic M.length), some (.lst (M.length + 1)), x] (M ++ [.dk (kvN ks), .lst (intsN (ws ++ [n]))]) =
      some (.nx, [some (hpD h), some (.tup (rt.map Wd.d)), some (.dic M.length), some (.lst (M.length + 1)), some (.int n)], M ++ [.dk (kvN ks2), .lst (intsN ws2)]) ∧ Dfs h rs ks2 ws2 ∧ ws2.length + 4 * (9 - ks2.length) < (ws ++ [n]).length + 4 * (9 - ks.length) := by
  have hn : isC h n := (b.wr n (by simp)).C hh hr
  have g1 : sGet (M ++ [Cell.dk (kvN ks), .lst (intsN (ws ++ [n]))]) (M.length + 1) = some (.lst (intsN (ws ++ [n]))) := get_at
  have lst1 : isLst (.lst (M.length + 1)) (M ++ [Cell.dk (kvN ks), .lst (intsN (ws ++ [n]))]) = true := by
    unfold isLst
    dsimp only
    rw [g1]
  have last : (intsN (ws ++ [n]))[(intsN (ws ++ [n])).length - 1]? = some (.int n) := by simp
  have drp : (intsN (ws ++ [n])).dropLast = intsN ws := by simp [List.dropLast_concat]
  have pop : popD (.lst (M.length + 1)) [] (M ++ [Cell.dk (kvN ks), .lst (intsN (ws ++ [n]))]) = some (.int n, M ++ [Cell.dk (kvN ks), .lst (intsN ws)]) := by
    unfold popD
    dsimp only
    rw [g1]
    dsimp only
    rw [last]
    dsimp only
    rw [drp, set_two]
  have s1 : setS (meth0 popD (nmD 3)) (nmT 4) [some (hpD h), some (.tup (rt.map Wd.d)), some (.dic M.length), some (.lst (M.length + 1)), x] (M ++ [.dk (kvN ks), .lst (intsN (ws ++ [n]))]) = some (.nx, [some (hpD h), some (.tup (rt.map Wd.d)), some (.dic M.length), some (.lst (M.length + 1)), some (.int n)], M ++ [Cell.dk (kvN ks), .lst (intsN ws)]) := by
    simp only [setS_ap, bindS_ap, meth0, bindD_ap, nmD_ap, List.getElem?_cons_succ, List.getElem?_cons_zero, lst1, if_true, pop, nmT_ap, List.set_cons_succ, List.set_cons_zero]
  have g0 : sGet (M ++ [Cell.dk (kvN ks), .lst (intsN ws)]) M.length = some (.dk (kvN ks)) := get_at0
  have t : inF true (.int n) (.dic M.length) (M ++ [Cell.dk (kvN ks), .lst (intsN ws)]) = some (.bl (!decide (n ∈ ks)), M ++ [Cell.dk (kvN ks), .lst (intsN ws)]) := by
    have e : inF true (.int n) (.dic M.length) (M ++ [Cell.dk (kvN ks), .lst (intsN ws)]) = inD true (.int n) (.dic M.length) (M ++ [Cell.dk (kvN ks), .lst (intsN ws)]) := rfl
    rw [e]
    simp only [inD, dicGet, g0, keyD, if_true, look_kv]
  have len2 : ∀ a b : Cell, (M ++ [a, b]).length = M.length + 2 := fun a b => by simp
  have env : ∀ r2, (r2 = [some (hpD h), some (.tup (rt.map Wd.d)), some (.dic M.length), some (.lst (M.length + 1)), some (.int n)] ∨ r2 = cleanEnv (M.length + 2) [some (hpD h), some (.tup (rt.map Wd.d)), some (.dic M.length), some (.lst (M.length + 1)), some (.int (n : Int))]) → r2 = [some (hpD h), some (.tup (rt.map Wd.d)), some (.dic M.length), some (.lst (M.length + 1)), some (.int n)] := fun r2 e => by
    rcases e with e | e
    · exact e
    · rw [e]
      have o1 : okR (M.length + 2) (.dic M.length) = true := by unfold okR; exact decide_eq_true (by omega)
      have o2 : okR (M.length + 2) (.lst (M.length + 1)) = true := by unfold okR; exact decide_eq_true (by omega)
      have o3 : okR (M.length + 2) (.int (n : Int)) = true := rfl
      simp only [cleanEnv, List.map_cons, List.map_nil, okR_hp, okR_ws, o1, o2, o3]
  by_cases hk : n ∈ ks
  · refine ⟨ks, ws, ?_, ⟨b.nd, b.rk, fun m hm => b.wr m (List.mem_append_left _ hm), fun m hm => ?_, fun m hm p hp => ?_⟩, by simp⟩
    · have body : dfsB [some (hpD h), some (.tup (rt.map Wd.d)), some (.dic M.length), some (.lst (M.length + 1)), x] (M ++ [.dk (kvN ks), .lst (intsN (ws ++ [n]))]) = some (.nx, [some (hpD h), some (.tup (rt.map Wd.d)), some (.dic M.length), some (.lst (M.length + 1)), some (.int n)], (M ++ [Cell.dk (kvN ks), .lst (intsN ws)]) ++ []) := by
        unfold dfsB
        rw [seqS_ap, s1]
        simp [ifS_ap, bindS_ap, btestD_ap, bindD_ap, op2_ap, nmD_ap, liftD_ap, cmpD, t, hk, blD, skipS_ap]
      obtain ⟨r2, q1, q2⟩ := trimW_is body (by rw [len2, len2]) (by rw [len2]; exact wf_two hM)
      rw [len2] at q2
      rw [q1, env r2 q2]
    · rcases b.rt m hm with q | q
      · exact .inl q
      · rcases List.mem_append.mp q with q | q
        · exact .inr q
        · rw [List.mem_singleton.mp q]; exact .inl hk
    · rcases b.cl m hm p hp with q | q
      · exact .inl q
      · rcases List.mem_append.mp q with q | q
        · exact .inr q
        · rw [List.mem_singleton.mp q]; exact .inl hk
  · obtain ⟨c, e1, e2, e3⟩ := cell_at hn
    have w1 : c.ws.length ≤ 3 := (hh.2 c (List.mem_of_getElem? e1)).1
    have al := adr_len c.ws
    have kl : ks.length + 1 ≤ 9 := by
      have z := few (l := ks ++ [n]) (k := h.length) (List.nodup_append.mpr ⟨b.nd, by simp, fun a ha c hc e => hk (by rw [List.mem_singleton.mp hc] at e; exact e ▸ ha)⟩) fun m hm => by
        rcases List.mem_append.mp hm with q | q
        · exact ((b.rk m q).C hh hr).lt
        · rw [List.mem_singleton.mp q]; exact hn.lt
      have := hh.1
      simp at z
      omega
    refine ⟨ks ++ [n], ws ++ adr c.ws, ?_, ⟨List.nodup_append.mpr ⟨b.nd, by simp, fun a ha c hc e => hk (by rw [List.mem_singleton.mp hc] at e; exact e ▸ ha)⟩, fun m hm => ?_, fun m hm => ?_, fun m hm => ?_, fun m hm p hp => ?_⟩, by simp; omega⟩
    · have led := q_adin (ws := c.ws) (M := M ++ [Cell.dk (kvN (ks ++ [n])), .lst (intsN ws)]) (by omega)
      rw [len2, List.append_assoc] at led
      have put : putD (.dic M.length) (.int n) (.bl true) (M ++ [Cell.dk (kvN ks), .lst (intsN ws)]) = some (M ++ [Cell.dk (kvN (ks ++ [n])), .lst (intsN ws)]) := by
        have z : (kvN ks).length < 100000 := by simp [kvN]; omega
        simp only [putD, g0, keyD, if_pos z, put_kv hk, set_one2]
      have h1 : sGet (M ++ [Cell.dk (kvN (ks ++ [n])), .lst (intsN ws), .lst (adrD c.ws)]) (M.length + 1) = some (.lst (intsN ws)) := get_at
      have h2 : sGet (M ++ [Cell.dk (kvN (ks ++ [n])), .lst (intsN ws), .lst (adrD c.ws)]) (M.length + 2) = some (.lst (adrD c.ws)) := get_at
      have lst2 : isLst (.lst (M.length + 1)) (M ++ [Cell.dk (kvN (ks ++ [n])), .lst (intsN ws)]) = true := by
        unfold isLst
        dsimp only
        rw [get_at]
        rfl
      have ext : extendD (.lst (M.length + 1)) [.lst (M.length + 2)] (M ++ [Cell.dk (kvN (ks ++ [n])), .lst (intsN ws), .lst (adrD c.ws)]) = some (.non, M ++ [Cell.dk (kvN (ks ++ [n])), .lst (intsN ws ++ adrD c.ws), .lst (adrD c.ws)]) := by
        have z : (intsN ws).length + (adrD c.ws).length ≤ 100000 := by simp; omega
        simp only [extendD, h1, h2, if_pos z, set_two3]
      have j1 : atI [D.tup [.str c.lab], .tup (c.ws.map Wd.d)] 1 = some (.tup (c.ws.map Wd.d)) := rfl
      have body : dfsB [some (hpD h), some (.tup (rt.map Wd.d)), some (.dic M.length), some (.lst (M.length + 1)), x] (M ++ [.dk (kvN ks), .lst (intsN (ws ++ [n]))]) = some (.nx, [some (hpD h), some (.tup (rt.map Wd.d)), some (.dic M.length), some (.lst (M.length + 1)), some (.int n)], (M ++ [Cell.dk (kvN (ks ++ [n])), .lst (intsN (ws ++ adr c.ws))]) ++ [.lst (adrD c.ws)]) := by
        unfold dfsB
        rw [seqS_ap, s1]
        simp only [List.cons_append, List.nil_append] at led
        simp [ifS_ap, bindS_ap, btestD_ap, bindD_ap, op2_ap, nmD_ap, cstD_ap, liftD_ap, cmpD, t, hk, blD, seqS_ap, putS_ap, put, exprS_ap, methE, lst2, consD_ap, callE_ap, nilD_ap, itemD, ixD, hpD, e3, Cl.d, j1, led, ext]
      obtain ⟨r2, q1, q2⟩ := trimW_is body (by rw [len2, len2]) (by rw [len2]; exact wf_two hM)
      rw [len2] at q2
      rw [q1, env r2 q2]
    · rcases List.mem_append.mp hm with q | q
      · exact b.rk m q
      · rw [List.mem_singleton.mp q]; exact b.wr n (by simp)
    · rcases List.mem_append.mp hm with q | q
      · exact b.wr m (List.mem_append_left _ q)
      · exact .step (b.wr n (by simp)) (e2 ▸ q)
    · rcases b.rt m hm with q | q
      · exact .inl (List.mem_append_left _ q)
      · rcases List.mem_append.mp q with q | q
        · exact .inr (List.mem_append_left _ q)
        · exact .inl (List.mem_append_right _ q)
    · rcases List.mem_append.mp hm with q | q
      · rcases b.cl m q p hp with z | z
        · exact .inl (List.mem_append_left _ z)
        · rcases List.mem_append.mp z with z | z
          · exact .inr (List.mem_append_left _ z)
          · exact .inl (List.mem_append_right _ z)
      · rw [List.mem_singleton.mp q] at hp
        exact .inr (List.mem_append_right _ (e2 ▸ hp))
theorem q_dfs {h : Hpd} (hh : hpOk h) {rs : List Wd} (hr : wsOk h rs) {M : Sto} (hM : WF M) : ∃ (X : List Cell) (k : Nat) (l : List Nat), f_reached_from [hpD h, .tup (rs.map Wd.d)] M = some (.ok (.lst k), M ++ X) ∧ sGet (M ++ X) k = some (.lst ((isort (l.map fun n : Nat => (n : Int))).map D.int)) ∧ l.Nodup ∧ (∀ n, n ∈ l ↔ Rch h (adr rs) n) ∧ l.length ≤ 9 ∧ flat X := by
  have hrC : ∀ n ∈ adr rs, isC h n := fun n hn => hr.2 _ (mem_adr.mp hn)
  have w1 := hr.1
  have al := adr_len rs
  have hl := hh.1
  have c1 := q_ch (r := [some (hpD h), some (.tup (rs.map Wd.d)), none, none, none]) hM (hp_okh M (h := h) (by omega)) rfl
  rw [hp_heapB hh] at c1
  have c2 := q_cr (r := [some (hpD h), some (.tup (rs.map Wd.d)), none, none, none]) (cells := h.map clD) hM (ws_oks M rs) rfl rfl
  rw [ws_wordsB hr] at c2
  have led := q_adin (ws := rs) (M := M ++ [.dk []]) (by omega)
  have len1 : (M ++ [Cell.dk []]).length = M.length + 1 := by simp
  rw [len1, List.append_assoc] at led
  simp only [List.cons_append, List.nil_append] at led
  have d0 : Dfs h (adr rs) [] (adr rs) := ⟨List.nodup_nil, (fun n hn => by cases hn), (fun n hn => .base hn), (fun n hn => .inr hn), (fun n hn => by cases hn)⟩
  obtain ⟨r', M', e, ks, x, rfl, rfl, b1⟩ := whileS_run (t := testD (nmD 3)) (b := trimW dfsB) (fun m r M2 => ∃ ks ws x, M2 = M ++ [.dk (kvN ks), .lst (intsN ws)] ∧ r = [some (hpD h), some (.tup (rs.map Wd.d)), some (.dic M.length), some (.lst (M.length + 1)), x] ∧ Dfs h (adr rs) ks ws ∧ m = ws.length + 4 * (9 - ks.length) ∧ m ≤ 39)
    (fun r M2 => ∃ ks x, M2 = M ++ [.dk (kvN ks), .lst []] ∧ r = [some (hpD h), some (.tup (rs.map Wd.d)), some (.dic M.length), some (.lst (M.length + 1)), x] ∧ Dfs h (adr rs) ks [])
    (fun m r M2 hp => by
      obtain ⟨ks, ws, x, rfl, rfl, b1, rfl, h39⟩ := hp
      have g1 : sGet (M ++ [Cell.dk (kvN ks), .lst (intsN ws)]) (M.length + 1) = some (.lst (intsN ws)) := get_at
      have t : testD (nmD 3) [some (hpD h), some (.tup (rs.map Wd.d)), some (.dic M.length), some (.lst (M.length + 1)), x] (M ++ [.dk (kvN ks), .lst (intsN ws)]) = some (.ok (!(intsN ws).isEmpty), M ++ [.dk (kvN ks), .lst (intsN ws)]) := by
        simp only [testD_ap, bindD_ap, nmD_ap, liftD_ap, List.getElem?_cons_succ, List.getElem?_cons_zero, truD, g1]
      rcases List.eq_nil_or_concat ws with e | ⟨w, n, e⟩
      · subst e
        exact .inl ⟨_, t, ks, x, rfl, rfl, b1⟩
      · subst e
        rw [List.concat_eq_append] at *
        have wl : w.length ≤ 60 := by simp at h39; omega
        obtain ⟨ks2, ws2, q1, q2, q3⟩ := q_dfsB hh hrC (rt := rs) (x := x) hM b1 wl
        refine .inr ⟨_, _, _, ws2.length + 4 * (9 - ks2.length), ?_, q1, q3, ks2, ws2, _, rfl, rfl, q2, rfl, by omega⟩
        rw [t]
        simp)
    100000 ((adr rs).length + 4 * (9 - 0)) [some (hpD h), some (.tup (rs.map Wd.d)), some (.dic M.length), some (.lst (M.length + 1)), none] (M ++ [.dk (kvN []), .lst (intsN (adr rs))]) (by omega) ⟨[], adr rs, none, rfl, rfl, d0, rfl, by omega⟩
  have fin : ∀ n, n ∈ ks ↔ Rch h (adr rs) n := fun n => ⟨b1.rk n, fun r => by
    induction r with
    | base q =>
      rcases b1.rt _ q with z | z
      · exact z
      · cases z
    | step _ q ih =>
      rcases b1.cl _ ih _ q with z | z
      · exact z
      · cases z⟩
  have kl : ks.length ≤ 9 := Nat.le_trans (few b1.nd fun n hn => ((b1.rk n hn).C hh hrC).lt) hl
  have so : sortID [.dic M.length] (M ++ [Cell.dk (kvN ks), .lst []]) = some (.lst (M.length + 2), M ++ [Cell.dk (kvN ks), .lst [], .lst ((isort (ks.map fun n : Nat => (n : Int))).map D.int)]) := by
    have g0 : sGet (M ++ [Cell.dk (kvN ks), .lst []]) M.length = some (.dk (kvN ks)) := get_at0
    have z : (ks.map fun n : Nat => (n : Int)).length < 64 := by rw [List.length_map]; omega
    simp only [sortID, g0, keys_kv, if_pos z, sApp_eq, List.append_assoc, List.cons_append, List.nil_append, List.length_append, List.length_cons, List.length_nil]
  refine ⟨[Cell.dk (kvN ks), .lst [], .lst ((isort (ks.map fun n : Nat => (n : Int))).map D.int)], M.length + 2, ks, ?_, get_at, b1.nd, fin, kl, flatC_kv ks, flatC_int [], flatC_int _, trivial⟩
  unfold dfsB at e
  unfold f_reached_from bodyF d_reached_from
  show (match (seqS _ (seqS _ (seqS _ (seqS _ (seqS _ _))))) [some (hpD h), some (.tup (rs.map Wd.d)), none, none, none] M with
    | some (.rt d, _, M') => some (Res.ok d, M')
    | some (.nx, _, M') => some (Res.ok D.non, M')
    | some (.ex x, _, M') => some (Res.ex x, M')
    | _ => none) = _
  have st3 : setS dk0 (nmT 2) [some (hpD h), some (.tup (rs.map Wd.d)), none, none, none] M = some (.nx, [some (hpD h), some (.tup (rs.map Wd.d)), some (.dic M.length), none, none], M ++ [.dk []]) := by
    simp [setS_ap, bindS_ap, dk0, sApp_eq, nmT_ap]
  have st4 : setS (callE 1 f_addresses_in (consD (nmD 1) nilD)) (nmT 3) [some (hpD h), some (.tup (rs.map Wd.d)), some (.dic M.length), none, none] (M ++ [.dk []]) = some (.nx, [some (hpD h), some (.tup (rs.map Wd.d)), some (.dic M.length), some (.lst (M.length + 1)), none], M ++ [.dk (kvN []), .lst (intsN (adr rs))]) := by
    simp [setS_ap, bindS_ap, bindD_ap, callE_ap, consD_ap, nmD_ap, nilD_ap, liftD_ap, led, nmT_ap, kvN]
  rw [seqS_ap, exprS_ap, bindS_ap, c1]
  simp only [if_true]
  rw [seqS_ap, exprS_ap, bindS_ap, c2]
  simp only [if_true]
  rw [seqS_ap, st3]
  dsimp only
  rw [seqS_ap, st4]
  dsimp only
  rw [seqS_ap, e]
  simp [retS_ap, bindS_ap, opS_ap, bindD_ap, consD_ap, nmD_ap, nilD_ap, liftD_ap, so]
end Py

-- PyQD
set_option maxRecDepth 100000
set_option maxHeartbeats 4000000
noncomputable section
namespace Py
open PySem PySem.Spec PyProof.Rows L2 PyD PyL PyH L2H HotX PyM PyK PyQ
/-! ### how often each is named -/
theorem trimW_len {b : SDen} {r r' : DEnv} {M M1 : Sto} (h : b r M = some (.nx, r', M1)) (hl : M1.length = M.length) : trimW b r M = some (.nx, r', M1) := by
  unfold trimW
  rw [h]
  dsimp only
  rw [Nat.ble_eq.mpr (Nat.le_of_eq hl)]
def cellWs : Hpd → List (List Wd)
  | [] => []
  | none :: h => cellWs h
  | some c :: h => c.ws :: cellWs h
def allWs (h : Hpd) (rs : List Wd) : List (List Wd) := rs :: cellWs h
def every (h : Hpd) (rs : List Wd) : List Nat := (allWs h rs).flatMap adr
def cntL (E : List Nat) : Nat → Hpd → List D
  | _, [] => []
  | i, none :: t => .non :: cntL E (i + 1) t
  | i, some _ :: t => .int (E.count i : Nat) :: cntL E (i + 1) t
theorem cntL_len (E : List Nat) : ∀ (i : Nat) (h : Hpd), (cntL E i h).length = h.length
  | _, [] => rfl
  | i, none :: t => by simp [cntL, cntL_len E (i + 1) t]
  | i, some _ :: t => by simp [cntL, cntL_len E (i + 1) t]
theorem cntL_get (E : List Nat) : ∀ (k : Nat) (h : Hpd) (i : Nat), (cntL E k h)[i]? = (h[i]?).map fun c => match c with
    | none => D.non
    | some _ => D.int (E.count (k + i) : Nat)
  | _, [], i => by simp [cntL]
  | k, none :: t, 0 => rfl
  | k, some _ :: t, 0 => rfl
  | k, none :: t, i + 1 => by
    show (cntL E (k + 1) t)[i]? = (t[i]?).map _
    rw [cntL_get E (k + 1) t i, show k + 1 + i = k + (i + 1) from by omega]
  | k, some _ :: t, i + 1 => by
    show (cntL E (k + 1) t)[i]? = (t[i]?).map _
    rw [cntL_get E (k + 1) t i, show k + 1 + i = k + (i + 1) from by omega]
def bump (cs : List Int) (n : Nat) : List Int := cs.set n (cs.getD n 0 + 1)
theorem bump_len {cs : List Int} {n : Nat} : (bump cs n).length = cs.length := List.length_set
theorem bumps_len {l : List Nat} : ∀ {cs : List Int}, (l.foldl bump cs).length = cs.length := by
  induction l with
  | nil => exact fun {cs} => rfl
  | cons n l ih => exact fun {cs} => (ih (cs := bump cs n)).trans bump_len
theorem bumps_get {l : List Nat} : ∀ {cs : List Int} {i : Nat}, i < cs.length → (l.foldl bump cs)[i]? = some (cs.getD i 0 + l.count i) := by
  induction l with
  | nil =>
    intro cs i hi
    simp [List.getD_eq_getElem?_getD, List.getElem?_eq_getElem hi]
  | cons n l ih =>
    intro cs i hi
    show (l.foldl bump (bump cs n))[i]? = _
    rw [ih (by rw [bump_len]; exact hi), List.count_cons]
    unfold bump
    rw [List.getD_eq_getElem?_getD, List.getElem?_set]
    by_cases e : n = i
    · subst e
      simp [hi]
      omega
    · simp [e, List.getD_eq_getElem?_getD]
/-- the store while it counts -/
abbrev cnD (cs : List Int) : List D := cs.map D.int
abbrev wsD (ws : List Wd) : D := .tup (ws.map Wd.d)
def cntX (h : Hpd) (rs : List Wd) (cs : List Int) : List Cell := [.lst [.int 0], .lst (cnD cs), .lst [wsD rs], .lst ((cellWs h).map wsD), .lst ((allWs h rs).map wsD)]
theorem set_cnt {M : Sto} {h : Hpd} {rs : List Wd} {cs cs2 : List Int} {X : List Cell} : (M ++ cntX h rs cs ++ X).set (M.length + 1) (.lst (cnD cs2)) = M ++ cntX h rs cs2 ++ X := by
  rw [List.append_assoc, List.set_append_right _ _ (Nat.le_add_right _ _), Nat.add_sub_cancel_left, List.append_assoc]
  rfl
theorem get_cnt {M : Sto} {h : Hpd} {rs : List Wd} {cs : List Int} {X : List Cell} : sGet (M ++ cntX h rs cs ++ X) (M.length + 1) = some (.lst (cnD cs)) := by
  rw [List.append_assoc, get_at]
  rfl
theorem okR_wss (k : Nat) (l : List (List Wd)) : okRL k (l.map wsD) = true := okRL_iff.mpr fun d hd => by
  obtain ⟨ws, _, rfl⟩ := List.mem_map.mp hd
  exact okR_ws k ws
theorem wf_cnt {M : Sto} (hM : WF M) {h : Hpd} {rs : List Wd} {cs : List Int} : (M ++ cntX h rs cs).all (okCell (M ++ cntX h rs cs).length) = true := by
  rw [List.all_append, hM.up (by rw [List.length_append]; omega), Bool.true_and]
  refine List.all_eq_true.mpr fun c hc => ?_
  simp only [cntX, List.mem_cons, List.not_mem_nil, or_false] at hc
  rcases hc with rfl | rfl | rfl | rfl | rfl
  · rfl
  · exact ok_int cs
  · exact okRL_iff.mpr fun d hd => by rw [List.mem_singleton.mp hd]; exact okR_ws _ rs
  · exact okR_wss _ _
  · exact okR_wss _ _
def c1 (k : Nat) (x : Option D) : Option D := match x with
  | some d => (match okR k d with
    | true => some d
    | false => none)
  | none => none
theorem clean_cons {k : Nat} {x : Option D} {r : DEnv} : cleanEnv k (x :: r) = c1 k x :: cleanEnv k r := rfl
theorem clean_nil {k : Nat} : cleanEnv k [] = [] := rfl
theorem c1_ok {k : Nat} {d : D} (h : okR k d = true) : c1 k (some d) = some d := by
  unfold c1
  dsimp only
  rw [h]
theorem c1_none {k : Nat} : c1 k none = none := rfl
abbrev bumpB : SDen := putS (nmD 2) (nmD 4) (op2 (binD .Add) (op2 itemD (nmD 2) (nmD 4)) (cstD (.int 1)))
abbrev rowB : SDen := forS (anySrc (callE 1 f_addresses_in (consD (nmD 3) nilD))) (nmT 4) (trimW bumpB) 100000
theorem atI_cn {cs : List Int} {n : Nat} (hn : n < cs.length) : atI (cnD cs) (n : Int) = some (.int (cs.getD n 0)) := by
  have z := atI_nat (cells := cnD cs) (i := (n : Int)) (by omega) (by rw [List.length_map]; omega)
  rw [z, Int.toNat_natCast, List.getD_eq_getElem?_getD, List.getElem?_map, List.getD_eq_getElem?_getD, List.getElem?_eq_getElem hn]
  rfl
theorem q_bump {M : Sto} {h : Hpd} {rs : List Wd} {cs : List Int} {X : List Cell} {a b d e f g : Option D} {n : Nat} (hn : n < cs.length) :
    trimW bumpB [a, b, some (.lst (M.length + 1)), d, some (.int n), e, f, g] (M ++ cntX h rs cs ++ X) = some (.nx, [a, b, some (.lst (M.length + 1)), d, some (.int n), e, f, g], M ++ cntX h rs (bump cs n) ++ X) := by
  refine trimW_len ?_ (by simp [cntX])
  have i1 := atI_cn hn
  have ix : ixN (cnD cs).length (n : Int) = some n := by
    unfold ixN
    rw [if_pos (by omega), if_pos (by rw [List.length_map]; omega)]
    simp
  have st : (cnD cs).set n (.int (cs.getD n 0 + 1)) = cnD (bump cs n) := by
    show (cs.map D.int).set n (D.int (cs.getD n 0 + 1)) = (cs.set n (cs.getD n 0 + 1)).map D.int
    rw [List.map_set]
  have put : putD (.lst (M.length + 1)) (.int n) (.int (cs.getD n 0 + 1)) (M ++ cntX h rs cs ++ X) = some (M ++ cntX h rs (bump cs n) ++ X) := by
    simp only [putD, get_cnt, ix, st, set_cnt]
  simp only [bumpB, putS_ap, bindS_ap, op2_ap, bindD_ap, nmD_ap, cstD_ap, liftD_ap, List.getElem?_cons_succ, List.getElem?_cons_zero, itemD, ixD, get_cnt, i1, Option.map_some, binD, addD, put]
theorem q_row {M : Sto} {h : Hpd} {rs : List Wd} {cs : List Int} {a b d : Option D} (hM : WF M) {ws : List Wd} (hw : ws.length ≤ 3) (hc : ∀ n ∈ adr ws, n < cs.length) (ha : ∃ z, a = some z ∧ okR (M.length + 5) z = true) (hb : ∃ z, b = some z ∧ okR (M.length + 5) z = true) :
    ∃ d2, trimW rowB [a, b, some (.lst (M.length + 1)), some (wsD ws), d, none, none, none] (M ++ cntX h rs cs) = some (.nx, [a, b, some (.lst (M.length + 1)), some (wsD ws), d2, none, none, none], M ++ cntX h rs ((adr ws).foldl bump cs)) := by
  have al := adr_len ws
  have len5 : ∀ cs : List Int, (M ++ cntX h rs cs).length = M.length + 5 := fun cs => by simp [cntX]
  have led := q_adin (ws := ws) (M := M ++ cntX h rs cs) (by omega)
  have src : anySrc (callE 1 f_addresses_in (consD (nmD 3) nilD)) [a, b, some (.lst (M.length + 1)), some (wsD ws), d, none, none, none] (M ++ cntX h rs cs) = some (.ok (.seq (.lst (M ++ cntX h rs cs).length)), M ++ cntX h rs cs ++ [.lst (adrD ws)]) := by
    have gi : itemsD (.lst (M ++ cntX h rs cs).length) (M ++ cntX h rs cs ++ [.lst (adrD ws)]) = some (adrD ws) := by
      unfold itemsD
      dsimp only
      rw [get_new]
    simp only [anySrc, bindD_ap, callE_ap, consD_ap, nmD_ap, nilD_ap, liftD_ap, List.getElem?_cons_succ, List.getElem?_cons_zero, List.length_cons, List.length_nil, Nat.zero_add, if_true, wsD, led, gi]
  obtain ⟨r', M', e1, d2, rfl, rfl⟩ := forL_run (nxt := nextI (.seq (.lst (M ++ cntX h rs cs).length))) (t := nmT 4) (b := trimW bumpB) (m := (adr ws).length)
    (fun i r M2 => ∃ d2, M2 = M ++ cntX h rs (((adr ws).take i).foldl bump cs) ++ [.lst (adrD ws)] ∧ r = [a, b, some (.lst (M.length + 1)), some (wsD ws), d2, none, none, none])
    (fun r M2 hp => by
      obtain ⟨d2, rfl, _⟩ := hp
      have z : sGet (M ++ cntX h rs (((adr ws).take (adr ws).length).foldl bump cs) ++ [.lst (adrD ws)]) (M ++ cntX h rs cs).length = some (.lst (adrD ws)) := by
        rw [len5, ← len5 (((adr ws).take (adr ws).length).foldl bump cs)]
        exact get_new
      rw [next_lst z, List.getElem?_eq_none (by simp)])
    (fun i r M2 hi hp => by
      obtain ⟨d2, rfl, rfl⟩ := hp
      have z : sGet (M ++ cntX h rs (((adr ws).take i).foldl bump cs) ++ [.lst (adrD ws)]) (M ++ cntX h rs cs).length = some (.lst (adrD ws)) := by
        rw [len5, ← len5 (((adr ws).take i).foldl bump cs)]
        exact get_new
      have hx : (adrD ws)[i]? = some (.int ((adr ws)[i] : Nat)) := by simp [List.getElem?_eq_getElem hi]
      refine ⟨.int ((adr ws)[i] : Nat), _, _, _, _, by rw [next_lst z]; exact congrArg some hx, rfl, q_bump (n := (adr ws)[i]) (by rw [bumps_len]; exact hc _ (List.getElem_mem hi)), some (.int ((adr ws)[i] : Nat)), ?_, rfl⟩
      rw [List.take_succ, List.getElem?_eq_getElem hi, List.foldl_append]
      rfl)
    100000 0 [a, b, some (.lst (M.length + 1)), some (wsD ws), d, none, none, none] (M ++ cntX h rs cs ++ [.lst (adrD ws)]) (Nat.zero_le _) (by omega) ⟨d, rfl, rfl⟩
  rw [List.take_length] at e1
  have body : rowB [a, b, some (.lst (M.length + 1)), some (wsD ws), d, none, none, none] (M ++ cntX h rs cs) = some (.nx, [a, b, some (.lst (M.length + 1)), some (wsD ws), d2, none, none, none], M ++ cntX h rs ((adr ws).foldl bump cs) ++ [.lst (adrD ws)]) := by
    unfold rowB forS
    rw [src]
    exact e1
  have wf := wf_cnt hM (h := h) (rs := rs) (cs := (adr ws).foldl bump cs)
  rw [len5] at wf
  obtain ⟨r2, q1, q2⟩ := trimW_is body (by rw [len5, len5]) (by rw [len5]; exact wf)
  rcases q2 with q2 | q2
  · exact ⟨d2, by rw [q1, q2]⟩
  · rw [len5] at q2
    obtain ⟨za, rfl, oa⟩ := ha
    obtain ⟨zb, rfl, ob⟩ := hb
    have o2 : okR (M.length + 5) (.lst (M.length + 1)) = true := by unfold okR; exact decide_eq_true (by omega)
    exact ⟨c1 (M.length + 5) d2, by rw [q1, q2, clean_cons, clean_cons, clean_cons, clean_cons, clean_cons, clean_cons, clean_cons, clean_cons, clean_nil, c1_ok oa, c1_ok ob, c1_ok o2, c1_ok (okR_ws _ ws), c1_none]⟩
end Py

-- PyQE
set_option maxRecDepth 100000
set_option maxHeartbeats 4000000
noncomputable section
namespace Py
open PySem PySem.Spec PyProof.Rows L2 PyD PyL PyH L2H HotX PyM PyK PyQ
def gD : D → D
  | .tup [_, w] => w
  | _ => .non
theorem cells_ws : ∀ h : Hpd, ((h.map clD).filter fun c => !nonB c).map gD = (cellWs h).map wsD
  | [] => rfl
  | none :: h => by
    rw [List.map_cons, List.filter_cons_of_neg (by simp [clD, nonB])]
    exact cells_ws h
  | some c :: h => by
    rw [List.map_cons, List.filter_cons_of_pos (by simp [clD, Cl.d, nonB]), List.map_cons, cells_ws h]
    rfl
theorem mem_cellWs {ws : List Wd} : ∀ {h : Hpd}, ws ∈ cellWs h → ∃ c, some c ∈ h ∧ ws = c.ws
  | none :: h, hm => by
    obtain ⟨c, h1, h2⟩ := mem_cellWs (h := h) hm
    exact ⟨c, List.mem_cons_of_mem _ h1, h2⟩
  | some c :: h, hm => by
    rcases List.mem_cons.mp hm with q | q
    · exact ⟨c, List.mem_cons_self, q⟩
    · obtain ⟨c, h1, h2⟩ := mem_cellWs (h := h) q
      exact ⟨c, List.mem_cons_of_mem _ h1, h2⟩
theorem cellWs_len : ∀ h : Hpd, (cellWs h).length ≤ h.length
  | [] => Nat.le_refl _
  | none :: h => Nat.le_succ_of_le (cellWs_len h)
  | some c :: h => Nat.succ_le_succ (cellWs_len h)
theorem allWs_ok {h : Hpd} (hh : hpOk h) {rs : List Wd} (hr : wsOk h rs) {ws : List Wd} (hm : ws ∈ allWs h rs) : wsOk h ws := by
  rcases List.mem_cons.mp hm with q | q
  · rw [q]; exact hr
  · obtain ⟨c, h1, rfl⟩ := mem_cellWs q
    exact hh.2 c h1
abbrev tellB : SDen := ifS (btestD (op2 (cmpD .Is) (nmD 6) (cstD .non))) (exprS (methE appendD (nmD 5) (consD (cstD .non) nilD))) (exprS (methE appendD (nmD 5) (consD (nmD 7) nilD)))
theorem flat_zeros (n : Nat) : (List.replicate n [D.int 0]).flatten = cnD (List.replicate n 0) := by
  induction n with
  | zero => rfl
  | succ n ih =>
    rw [List.replicate_succ, List.flatten_cons, ih, List.replicate_succ]
    rfl
theorem anySrc_lst {f : Den D} {r : DEnv} {M M' : Sto} {a : Nat} {l : List D} (h : f r M = some (.ok (.lst a), M')) (hi : itemsD (.lst a) M' = some l) : anySrc f r M = some (.ok (.seq (.lst a)), M') := by
  unfold anySrc
  rw [bindD_ap, h]
  dsimp only
  rw [hi]
theorem q_countsX {h : Hpd} (hh : hpOk h) {rs : List Wd} (hr : wsOk h rs) {M : Sto} (hM : WF M) : ∃ cs, f_counts_in [hpD h, wsD rs] M = some (.ok (.tup (cntL (every h rs) 0 h)), M ++ (cntX h rs cs ++ [.lst (cntL (every h rs) 0 h)])) := by
  have hl := hh.1
  have w1 := hr.1
  have zl : (List.replicate h.length (0 : Int)).length = h.length := List.length_replicate
  have c1 := q_ch (r := [some (hpD h), some (wsD rs), none, none, none, none, none, none]) hM (hp_okh M (h := h) (by omega)) rfl
  rw [hp_heapB hh] at c1
  have c2 := q_cr (r := [some (hpD h), some (wsD rs), none, none, none, none, none, none]) (cells := h.map clD) hM (ws_oks M rs) rfl rfl
  rw [ws_wordsB hr] at c2
  have st3 : setS (op2 (binD .Mult) (opS lstD (consD (cstD (.int 0)) nilD)) (opS lenD (consD (nmD 0) nilD))) (nmT 2) [some (hpD h), some (wsD rs), none, none, none, none, none, none] M =
      some (.nx, [some (hpD h), some (wsD rs), some (.lst (M.length + 1)), none, none, none, none, none], M ++ [.lst [.int 0], .lst (cnD (List.replicate h.length 0))]) := by
    have g : sGet (M ++ [Cell.lst [.int 0]]) M.length = some (.lst [.int 0]) := get_new
    have b : (0 : Int) ≤ (h.length : Int) ∧ (h.length : Int) ≤ 1000 ∧ 1 * h.length ≤ 100000 := by omega
    simp [setS_ap, bindS_ap, op2_ap, opS_ap, bindD_ap, liftD_ap, consD_ap, nilD_ap, nmD_ap, cstD_ap, lstD, sApp_eq, hpD, lenD, binD, mulD, g, nmT_ap, flat_zeros]
    rw [if_pos (by omega)]
  have src4 : anySrc (op2 (binD .Add) (opS lstD (consD (nmD 1) nilD)) (compE (anySrc (nmD 0)) [6] (.one 6) (btestD (op2 (cmpD .IsNot) (nmD 6) (cstD .non))) (op2 itemD (nmD 6) (cstD (.int 1))) 100000)) [some (hpD h), some (wsD rs), some (.lst (M.length + 1)), none, none, none, none, none] (M ++ [.lst [.int 0], .lst (cnD (List.replicate h.length 0))]) =
      some (.ok (.seq (.lst (M.length + 4))), M ++ cntX h rs (List.replicate h.length 0)) := by
    have hc := compE_pure (src := anySrc (nmD 0)) (vs := [6]) (slot := 6) (n := 100000) (r := [some (hpD h), some (wsD rs), some (.lst (M.length + 1)), none, none, none, none, none]) (M := M ++ [.lst [.int 0], .lst (cnD (List.replicate h.length 0)), .lst [wsD rs]]) (s := .seq (hpD h)) (items := h.map clD) (p := fun c => !nonB c) (g := gD)
      (ifs := btestD (op2 (cmpD .IsNot) (nmD 6) (cstD .non))) (elt := op2 itemD (nmD 6) (cstD (.int 1))) (by simp [anySrc, bindD, nmD, itemsD, hpD]) (fun _ _ => next_tup) (fun c hc acc hk => by
        simp [wipeD, btestD_ap, bindD_ap, op2_ap, nmD_ap, cstD_ap, liftD_ap, cmpD, is_non, blD]) (fun c hc hp acc hk => by
        obtain ⟨x, _, rfl⟩ := List.mem_map.mp hc
        cases x with
        | none => simp [clD, nonB] at hp
        | some x =>
          have j1 : atI [D.tup [.str x.lab], .tup (x.ws.map Wd.d)] 1 = some (.tup (x.ws.map Wd.d)) := rfl
          exact ⟨by simp [wipeD, bindD_ap, op2_ap, nmD_ap, cstD_ap, liftD_ap, itemD, ixD, clD, Cl.d, j1, gD], okR_ws _ x.ws⟩) (by rw [List.length_map]; omega) (by rw [List.length_map]; omega)
    rw [cells_ws] at hc
    have l3 : (M ++ [Cell.lst [.int 0], .lst (cnD (List.replicate h.length 0)), .lst [wsD rs]]).length = M.length + 3 := by simp
    have l2 : (M ++ [Cell.lst [.int 0], .lst (cnD (List.replicate h.length 0))]).length = M.length + 2 := by simp
    have l4 : (M ++ [Cell.lst [.int 0], .lst (cnD (List.replicate h.length 0)), .lst [wsD rs], .lst ((cellWs h).map wsD)]).length = M.length + 4 := by simp
    rw [l3, List.append_assoc] at hc
    simp only [List.cons_append, List.nil_append] at hc
    have o1 : opS lstD (consD (nmD 1) nilD) [some (hpD h), some (wsD rs), some (.lst (M.length + 1)), none, none, none, none, none] (M ++ [.lst [.int 0], .lst (cnD (List.replicate h.length 0))]) = some (.ok (.lst (M.length + 2)), M ++ [.lst [.int 0], .lst (cnD (List.replicate h.length 0)), .lst [wsD rs]]) := by
      simp [opS_ap, bindD_ap, consD_ap, nmD_ap, nilD_ap, liftD_ap, lstD, sApp_eq]
    have a2 : sGet (M ++ [Cell.lst [.int 0], .lst (cnD (List.replicate h.length 0)), .lst [wsD rs], .lst ((cellWs h).map wsD)]) (M.length + 2) = some (.lst [wsD rs]) := get_at
    have a3 : sGet (M ++ [Cell.lst [.int 0], .lst (cnD (List.replicate h.length 0)), .lst [wsD rs], .lst ((cellWs h).map wsD)]) (M.length + 3) = some (.lst ((cellWs h).map wsD)) := get_at
    have cl := cellWs_len h
    have le : [wsD rs].length + ((cellWs h).map wsD).length ≤ 100000 := by simp; omega
    have ad : addD (.lst (M.length + 2)) (.lst (M.length + 3)) (M ++ [Cell.lst [.int 0], .lst (cnD (List.replicate h.length 0)), .lst [wsD rs], .lst ((cellWs h).map wsD)]) = some (.lst (M.length + 4), M ++ cntX h rs (List.replicate h.length 0)) := by
      simp only [addD, a2, a3, if_pos le, sApp_eq, l4, List.append_assoc, List.cons_append, List.nil_append]
      rfl
    have gi : itemsD (.lst (M.length + 4)) (M ++ cntX h rs (List.replicate h.length 0)) = some ((allWs h rs).map wsD) := by
      unfold itemsD
      dsimp only
      rw [get_at]
      rfl
    refine anySrc_lst ?_ gi
    rw [op2_ap, bindD_ap, o1]
    dsimp only
    rw [bindD_ap, hc]
    dsimp only
    rw [liftD_ap]
    dsimp only [binD]
    rw [ad]
  have alen : (allWs h rs).length ≤ 10 := by
    have := cellWs_len h
    simp only [allWs, List.length_cons]
    omega
  have gall : ∀ cs, sGet (M ++ cntX h rs cs) (M.length + 4) = some (.lst ((allWs h rs).map wsD)) := fun cs => by rw [get_at]; rfl
  obtain ⟨r', M', e4, x3, d4, rfl, rfl⟩ := forL_run (nxt := nextI (.seq (.lst (M.length + 4)))) (t := nmT 3) (b := trimW rowB) (m := (allWs h rs).length)
    (fun i r M2 => ∃ x3 d4, M2 = M ++ cntX h rs ((((allWs h rs).take i).flatMap adr).foldl bump (List.replicate h.length 0)) ∧ r = [some (hpD h), some (wsD rs), some (.lst (M.length + 1)), x3, d4, none, none, none])
    (fun r M2 hp => by
      obtain ⟨x3, d4, rfl, _⟩ := hp
      rw [next_lst (gall _), List.getElem?_eq_none (by simp)])
    (fun i r M2 hi hp => by
      obtain ⟨x3, d4, rfl, rfl⟩ := hp
      have hm : (allWs h rs)[i] ∈ allWs h rs := List.getElem_mem hi
      have ok := allWs_ok hh hr hm
      have hx : ((allWs h rs).map wsD)[i]? = some (wsD (allWs h rs)[i]) := by simp [List.getElem?_eq_getElem hi]
      obtain ⟨d2, q⟩ := q_row (h := h) (rs := rs) (cs := (((allWs h rs).take i).flatMap adr).foldl bump (List.replicate h.length 0)) (a := some (hpD h)) (b := some (wsD rs)) (d := d4) hM ok.1 (fun n hn => by
        rw [bumps_len, zl]
        exact (ok.2 _ (mem_adr.mp hn)).elim fun c e => (List.getElem?_eq_some_iff.mp e).1) ⟨_, rfl, okR_hp _ h⟩ ⟨_, rfl, okR_ws _ rs⟩
      refine ⟨wsD (allWs h rs)[i], _, _, _, _, by rw [next_lst (gall _)]; exact congrArg some hx, rfl, q, some (wsD (allWs h rs)[i]), d2, ?_, rfl⟩
      rw [List.take_succ, List.getElem?_eq_getElem hi, List.flatMap_append, List.foldl_append]
      simp)
    100000 0 [some (hpD h), some (wsD rs), some (.lst (M.length + 1)), none, none, none, none, none] (M ++ cntX h rs (List.replicate h.length 0)) (Nat.zero_le _) (by omega) ⟨none, none, rfl, rfl⟩
  rw [List.take_length] at e4
  have st4 : forS (anySrc (op2 (binD .Add) (opS lstD (consD (nmD 1) nilD)) (compE (anySrc (nmD 0)) [6] (.one 6) (btestD (op2 (cmpD .IsNot) (nmD 6) (cstD .non))) (op2 itemD (nmD 6) (cstD (.int 1))) 100000))) (nmT 3) (trimW rowB) 100000 [some (hpD h), some (wsD rs), some (.lst (M.length + 1)), none, none, none, none, none] (M ++ [.lst [.int 0], .lst (cnD (List.replicate h.length 0))]) =
      some (.nx, [some (hpD h), some (wsD rs), some (.lst (M.length + 1)), x3, d4, none, none, none], M ++ cntX h rs ((every h rs).foldl bump (List.replicate h.length 0))) := by
    unfold forS
    rw [src4]
    exact e4
  obtain ⟨cs, hcs⟩ : ∃ cs, cs = (every h rs).foldl bump (List.replicate h.length 0) := ⟨_, rfl⟩
  have csl : cs.length = h.length := by rw [hcs, bumps_len, zl]
  have csg : ∀ i, i < h.length → cs[i]? = some ((every h rs).count i : Int) := fun i hi => by
    rw [hcs, bumps_get (by rw [zl]; exact hi)]
    simp [List.getD_eq_getElem?_getD, hi]
  rw [← hcs] at st4
  have len5 : (M ++ cntX h rs cs).length = M.length + 5 := by simp [cntX]
  have gt : ∀ told : List D, sGet (M ++ cntX h rs cs ++ [.lst told]) (M.length + 5) = some (.lst told) := fun told => by rw [← len5]; exact get_new
  obtain ⟨r', M', e6, x6, x7, rfl, rfl⟩ := forL_run (nxt := nextI (.zipM (hpD h) (.lst (M.length + 1)))) (t := tupT 2 (consT (nmT 6) (consT (nmT 7) nilT))) (b := trimW tellB) (m := h.length)
    (fun i r M2 => ∃ x6 x7, M2 = M ++ cntX h rs cs ++ [.lst ((cntL (every h rs) 0 h).take i)] ∧ r = [some (hpD h), some (wsD rs), some (.lst (M.length + 1)), x3, d4, some (.lst (M.length + 5)), x6, x7])
    (fun r M2 hp => by
      obtain ⟨x6, x7, rfl, _⟩ := hp
      simp only [nextI, itemsD, hpD, get_cnt]
      rw [List.getElem?_eq_none (by simp)]
      simp [csl])
    (fun i r M2 hi hp => by
      obtain ⟨x6, x7, rfl, rfl⟩ := hp
      have hx : (h.map clD)[i]? = some (clD h[i]) := by simp [List.getElem?_eq_getElem hi]
      have hy : (cnD cs)[i]? = some (.int ((every h rs).count i : Nat)) := by rw [List.getElem?_map, csg i hi]; rfl
      have hc : (cntL (every h rs) 0 h)[i]? = some (match h[i] with
        | none => D.non
        | some _ => D.int ((every h rs).count i : Nat)) := by
        rw [cntL_get, List.getElem?_eq_getElem hi, Nat.zero_add]
        rfl
      have isl : isLst (.lst (M.length + 5)) (M ++ cntX h rs cs ++ [.lst ((cntL (every h rs) 0 h).take i)]) = true := by
        unfold isLst
        dsimp only
        rw [gt]
      have tl : ((cntL (every h rs) 0 h).take i).length < 100000 := by rw [List.length_take, cntL_len]; omega
      have ap : ∀ d : D, appendD (.lst (M.length + 5)) [d] (M ++ cntX h rs cs ++ [.lst ((cntL (every h rs) 0 h).take i)]) = some (.non, M ++ cntX h rs cs ++ [.lst ((cntL (every h rs) 0 h).take i ++ [d])]) := fun d => by
        simp only [appendD, gt, if_pos tl]
        rw [← len5, set_new]
      refine ⟨.tup [clD h[i], .int ((every h rs).count i : Nat)], [some (hpD h), some (wsD rs), some (.lst (M.length + 1)), x3, d4, some (.lst (M.length + 5)), some (clD h[i]), some (.int ((every h rs).count i : Nat))], _, [some (hpD h), some (wsD rs), some (.lst (M.length + 1)), x3, d4, some (.lst (M.length + 5)), some (clD h[i]), some (.int ((every h rs).count i : Nat))], M ++ cntX h rs cs ++ [.lst ((cntL (every h rs) 0 h).take (i + 1))], ?_, rfl, ?_, some (clD h[i]), some (.int ((every h rs).count i : Nat)), rfl, rfl⟩
      · simp only [nextI, itemsD, hpD, get_cnt]
        rw [hx, hy]
      · refine trimW_len ?_ (by simp)
        rw [List.take_succ, hc]
        cases hi2 : h[i] with
        | none =>
          simp only [tellB, ifS_ap, bindS_ap, btestD_ap, bindD_ap, op2_ap, nmD_ap, cstD_ap, liftD_ap, List.getElem?_cons_succ, List.getElem?_cons_zero, cmpD, is_nonT, clD, nonB, blD, if_true, exprS_ap, methE, isl, consD_ap, nilD_ap, ap, Option.toList_some]
        | some c =>
          simp only [tellB, ifS_ap, bindS_ap, btestD_ap, bindD_ap, op2_ap, nmD_ap, cstD_ap, liftD_ap, List.getElem?_cons_succ, List.getElem?_cons_zero, cmpD, is_nonT, clD, Cl.d, nonB, blD, if_true, if_false, Bool.false_eq_true, exprS_ap, methE, isl, consD_ap, nilD_ap, ap, Option.toList_some])
    100000 0 [some (hpD h), some (wsD rs), some (.lst (M.length + 1)), x3, d4, some (.lst (M.length + 5)), none, none] (M ++ cntX h rs cs ++ [.lst []]) (Nat.zero_le _) (by omega) ⟨none, none, rfl, rfl⟩
  have full : (cntL (every h rs) 0 h).take h.length = cntL (every h rs) 0 h := List.take_of_length_le (by rw [cntL_len]; exact Nat.le_refl _)
  rw [full] at e6
  have st6 : forS (zipSrcM (consD (nmD 0) (consD (nmD 2) nilD))) (tupT 2 (consT (nmT 6) (consT (nmT 7) nilT))) (trimW tellB) 100000 [some (hpD h), some (wsD rs), some (.lst (M.length + 1)), x3, d4, some (.lst (M.length + 5)), none, none] (M ++ cntX h rs cs ++ [.lst []]) =
      some (.nx, [some (hpD h), some (wsD rs), some (.lst (M.length + 1)), x3, d4, some (.lst (M.length + 5)), x6, x7], M ++ cntX h rs cs ++ [.lst (cntL (every h rs) 0 h)]) := by
    have src : zipSrcM (consD (nmD 0) (consD (nmD 2) nilD)) [some (hpD h), some (wsD rs), some (.lst (M.length + 1)), x3, d4, some (.lst (M.length + 5)), none, none] (M ++ cntX h rs cs ++ [.lst []]) = some (.ok (.zipM (hpD h) (.lst (M.length + 1))), M ++ cntX h rs cs ++ [.lst []]) := by
      have gi : itemsD (.lst (M.length + 1)) (M ++ cntX h rs cs ++ [.lst []]) = some (cnD cs) := by
        unfold itemsD
        dsimp only
        rw [get_cnt]
      simp only [zipSrcM, bindD_ap, consD_ap, nmD_ap, nilD_ap, liftD_ap, List.getElem?_cons_succ, List.getElem?_cons_zero, gi]
      rfl
    unfold forS
    rw [src]
    exact e6
  refine ⟨cs, ?_⟩
  unfold f_counts_in bodyF d_counts_in
  show (match (seqS _ (seqS _ (seqS _ (seqS _ (seqS _ (seqS _ _)))))) [some (hpD h), some (wsD rs), none, none, none, none, none, none] M with
    | some (.rt d, _, M') => some (Res.ok d, M')
    | some (.nx, _, M') => some (Res.ok D.non, M')
    | some (.ex x, _, M') => some (Res.ex x, M')
    | _ => none) = _
  rw [seqS_ap, exprS_ap, bindS_ap, c1]
  simp only [if_true]
  rw [seqS_ap, exprS_ap, bindS_ap, c2]
  simp only [if_true]
  rw [seqS_ap, st3]
  dsimp only
  unfold rowB bumpB at st4
  rw [seqS_ap, st4]
  dsimp only
  have st5 : setS (opS lstD nilD) (nmT 5) [some (hpD h), some (wsD rs), some (.lst (M.length + 1)), x3, d4, none, none, none] (M ++ cntX h rs cs) = some (.nx, [some (hpD h), some (wsD rs), some (.lst (M.length + 1)), x3, d4, some (.lst (M.length + 5)), none, none], M ++ cntX h rs cs ++ [.lst []]) := by
    simp only [setS_ap, bindS_ap, opS_ap, bindD_ap, nilD_ap, liftD_ap, lstD, List.length_nil, Nat.zero_le, if_true, sApp_eq, len5, nmT_ap, List.set_cons_succ, List.set_cons_zero]
  rw [seqS_ap, st5]
  dsimp only
  unfold tellB at st6
  rw [seqS_ap, st6]
  simp only [retS_ap, bindS_ap, opS_ap, bindD_ap, consD_ap, nmD_ap, nilD_ap, liftD_ap, List.getElem?_cons_succ, List.getElem?_cons_zero, tupleD, gt]
  rw [List.append_assoc]
theorem q_counts {h : Hpd} (hh : hpOk h) {rs : List Wd} (hr : wsOk h rs) {M : Sto} (hM : WF M) : ∃ X, f_counts_in [hpD h, wsD rs] M = some (.ok (.tup (cntL (every h rs) 0 h)), M ++ X) := by
  obtain ⟨cs, e⟩ := q_countsX hh hr hM
  exact ⟨_, e⟩
end Py

-- PyQF
set_option maxRecDepth 100000
set_option maxHeartbeats 4000000
noncomputable section
namespace Py
open PySem PySem.Spec PyProof.Rows L2 PyD PyL PyH L2H HotX PyM PyK PyQ
/-! ### the draws -/
abbrev cupC (g c : Int) : Cell := .lst [.int g, .int c]
theorem cup_eval (z : Int) : ∃ r', d__law_cup [none, some (.int z), none] [] = some (.rt (.lst 0), r', [.lst [.int (cup2 z).1, .int (cup2 z).2]]) := by
  by_cases h : (1000000000000000000 : Int) ≤ z
  · refine ⟨[none, some (.int z), some (.int (z / 11))], ?_⟩
    have e : ((10 : Int) ^ (18 : Int).toNat) = 1000000000000000000 := by decide
    have l11 : Nat.log2 11 < 9000 := by decide +kernel
    simp [sGet_eq, sApp_eq, l11, d__law_cup, seqS, setS, bindS, ifE, btestD, op2, bindD, liftD, nmD, cstD, binD, cmpD, powD, geD, nmT, retS, opS, consD, nilD, addD, mulD, modD, PyD.intD, fdivD, lstD, blD, cup2, h, e]
  · refine ⟨[none, some (.int z), some (.int 0)], ?_⟩
    have e : ((10 : Int) ^ (18 : Int).toNat) = 1000000000000000000 := by decide
    have l11 : Nat.log2 11 < 9000 := by decide +kernel
    simp [sGet_eq, sApp_eq, l11, d__law_cup, seqS, setS, bindS, ifE, btestD, op2, bindD, liftD, nmD, cstD, binD, cmpD, powD, geD, nmT, retS, opS, consD, nilD, addD, mulD, modD, PyD.intD, fdivD, lstD, blD, cup2, h, e]
theorem log_small {n : Nat} (h : n < 1000) : n.log2 < 9000 := by
  have := Nat.log2_le_self n
  omega
theorem at0 (x y : D) : atI [x, y] 0 = some x := by kernel_rfl
theorem at1 (x y : D) : atI [x, y] 1 = some y := by kernel_rfl
theorem ix0 : ixN 2 0 = some 0 := by kernel_rfl
theorem ix1 : ixN 2 1 = some 1 := by kernel_rfl
theorem roll_big (g c : Int) (n : Nat) (R : Sto) (hn : 0 < n) (hg : 0 < g) (hb : n < 1000) : f__law_roll [.lst 0, .int n] (cupC g c :: R) = some (.ok (.int (g.fmod n)), cupC (g / n) c :: R) := by
  have h0 : (n : Int) ≠ 0 := by omega
  have h1 := log_small hb
  have h2 : ¬ n = 0 := by omega
  simp [sGet_eq, sApp_eq, f__law_roll, bodyF, d__law_roll, seqS, ifS, setS, putS, putD, bindS, btestD, op2, bindD, liftD, nmD, cstD, itemD, ixD, ixN, binD, cmpD, gtD, nmT, retS, opS, consD, nilD, modD, PyD.intD, fdivD, blD, cupC, at0, at1, ix0, ix1, hg, h0, h1, h2, hn]
theorem roll_small (c : Int) (n : Nat) (R : Sto) (hn : 0 < n) (hb : n < 1000) : ∃ c' z : Int, f__law_roll [.lst 0, .int n] (cupC 0 c :: R) = some (.ok (.int (z.fmod n)), cupC 0 c' :: R) := by
  have h0 : (n : Int) ≠ 0 := by omega
  have h2 : ¬ n = 0 := by omega
  obtain ⟨c1, hc1, h3, h4⟩ : ∃ c1 : Int, (c * 30671 + 7919).fmod 2147483549 = c1 ∧ 0 ≤ c1 ∧ c1 < 2147483549 := ⟨_, rfl, Int.fmod_nonneg_of_pos _ (by decide), Int.fmod_lt_of_pos _ (by decide)⟩
  obtain ⟨z1, hz1⟩ : ∃ z1 : Int, (c1 * (c1 + 131)).fmod 2147483587 = z1 := ⟨_, rfl⟩
  refine ⟨c1, z1 / 709, ?_⟩
  have h5 : -18446744073709551616 < c1 + 131 ∧ c1 + 131 < 18446744073709551616 := ⟨by omega, by omega⟩
  have l709 : Nat.log2 709 < 9000 := by decide +kernel
  simp [sGet_eq, sApp_eq, f__law_roll, bodyF, d__law_roll, seqS, ifS, setS, putS, putD, bindS, btestD, op2, bindD, liftD, nmD, cstD, itemD, ixD, binD, cmpD, gtD, nmT, retS, opS, consD, nilD, modD, PyD.intD, fdivD, blD, cupC, mulD, addD, skipS, at0, at1, ix0, ix1, h0, h2, l709, hc1, h5.1, h5.2, hz1]
theorem roll_eval (g c : Int) (n : Nat) (R : Sto) (hn : 0 < n) (hg : 0 ≤ g) (hb : n < 1000) : ∃ (j : Nat) (g' c' : Int), j < n ∧ 0 ≤ g' ∧ f__law_roll [.lst 0, .int n] (cupC g c :: R) = some (.ok (.int j), cupC g' c' :: R) := by
  have hp : (0 : Int) < n := by omega
  have key : ∀ z : Int, ∃ j : Nat, j < n ∧ z.fmod n = j := fun z => ⟨(z.fmod n).toNat, by have := Int.fmod_lt_of_pos z hp; have := Int.fmod_nonneg_of_pos z hp; omega, by have := Int.fmod_nonneg_of_pos z hp; omega⟩
  by_cases h : 0 < g
  · obtain ⟨j, hj, e⟩ := key g
    refine ⟨j, g / n, c, hj, Int.ediv_nonneg hg (by omega), ?_⟩
    rw [roll_big g c n R hn h hb, e]
  · have e0 : g = 0 := by omega
    subst e0
    obtain ⟨c', z, e1⟩ := roll_small c n R hn hb
    obtain ⟨j, hj, e⟩ := key z
    exact ⟨j, 0, c', hj, Int.le_refl _, by rw [e1, e]⟩
theorem seq_nx {a b : SDen} {r r1 : DEnv} {M M1 : Sto} (h : a r M = some (.nx, r1, M1)) : seqS a b r M = b r1 M1 := by
  unfold seqS
  rw [h]
theorem of_map {x : Option (Fl × DEnv × Sto)} {f : Fl} (h : x.map (·.1) = some f) : ∃ r' M', x = some (f, r', M') := by
  cases x with
  | none => cases h
  | some p =>
    obtain ⟨f', r', M'⟩ := p
    cases h
    exact ⟨r', M', rfl⟩
theorem some_eval {g c : Int} {R : Sto} {k : Nat} {things : List D} (hk : R[k]? = some (.lst things)) (hn : 0 < things.length) (hb : things.length < 1000) (hg : 0 ≤ g) :
    ∃ x ∈ things, ∃ g' c' : Int, 0 ≤ g' ∧ f__law_some [.lst 0, .lst (k + 1)] (cupC g c :: R) = some (.ok x, cupC g' c' :: R) := by
  obtain ⟨j, g', c', hj, hg', e⟩ := roll_eval g c things.length R hn hg hb
  refine ⟨things[j], List.getElem_mem hj, g', c', hg', ?_⟩
  have hj0 : (j : Int) < (things.length : Int) := by omega
  have hj1 : (0 : Int) ≤ j := by omega
  have ei : ixN things.length (j : Int) = some j := by
    unfold ixN
    rw [if_pos hj1, if_pos hj0]
    simp
  simp [sGet_eq, sApp_eq, f__law_some, bodyF, d__law_some, retS, bindS, op2, bindD, nmD, callE, consD, nilD, opS, liftD, lenD, itemD, ixD, atI, hk, e, ei, List.getElem?_eq_getElem hj]
/-- a choice where it stands -/
theorem q_pick {L : Den D} {r : DEnv} {M R' : Sto} {g c : Int} {k : Nat} {things : List D} (h0 : r[0]? = some (some (.lst 0))) (hL : L r M = some (.ok (.lst (k + 1)), cupC g c :: R')) (hk : R'[k]? = some (.lst things)) (hn : 0 < things.length) (hb : things.length < 1000) (hg : 0 ≤ g) :
    ∃ x ∈ things, ∃ g' c' : Int, 0 ≤ g' ∧ callE 2 f__law_some (consD (nmD 0) (consD L nilD)) r M = some (.ok x, cupC g' c' :: R') := by
  obtain ⟨x, hx, g', c', hg', e⟩ := some_eval (g := g) (c := c) hk hn hb hg
  exact ⟨x, hx, g', c', hg', by simp [callE_ap, bindD_ap, consD_ap, nmD_ap, nilD_ap, liftD_ap, h0, hL, e]⟩
abbrev Wr (R : Sto) : Prop := R.all (okCell (R.length + 1)) = true
theorem wf_cup {g c : Int} {R : Sto} : WF (cupC g c :: R) ↔ Wr R := by
  have e : okCell (R.length + 1) (cupC g c) = true := rfl
  unfold WF
  rw [List.all_cons, List.length_cons, e, Bool.true_and]
theorem get_cup {g c : Int} {R : Sto} {k : Nat} : sGet (cupC g c :: R) (k + 1) = R[k]? := by
  rw [sGet_eq]
  rfl
theorem eq_nilL {M : Sto} {a b : Nat} {l : List Nat} (ha : sGet M a = some (.lst (intsN l))) (hb : sGet M b = some (.lst [])) (hl : l.length ≤ 60) : eqF false (.lst a) (.lst b) M = some (.bl (l.isEmpty), M) := by
  rw [eqF_lst, eqD_is (PyS.lst ha (pys_nats l)) (PyS.lst hb PyS.nil) (by omega) (by omega), if_neg (by decide), eqv_nil]
  cases l <;> rfl
theorem eq_ii {i j : Int} {M : Sto} : eqF false (.int i) (.int j) M = some (.bl (decide (i = j)), M) := by
  simp [eqF, xorB]
theorem q_lw {l : List Nat} {k : Nat} {R : Sto} {g c : Int} (hk : R[k]? = some (.lst (intsN l))) (hl : l.length ≤ 60) (hg : 0 ≤ g) :
    ∃ (w : Wd) (g' c' : Int) (X : Sto), 0 ≤ g' ∧ f__law_word [.lst 0, .lst (k + 1)] (cupC g c :: R) = some (.ok w.d, cupC g' c' :: (R ++ X)) ∧ (∀ n, w = .ad n → n ∈ l) ∧ (∀ i, w = .num i → -10 ≤ i ∧ i ≤ 10) := by
  obtain ⟨j, g1, c1, hj, hg1, e1⟩ := roll_eval g c 8 R (by omega) hg (by omega)
  have kl : k < R.length := (List.getElem?_eq_some_iff.mp hk).1
  have hk2 : (R ++ [Cell.lst []])[k]? = some (.lst (intsN l)) := by rw [List.getElem?_append_left kl]; exact hk
  have e2 := eq_nilL (M := cupC g1 c1 :: (R ++ [.lst []])) (a := k + 1) (b := R.length + 1) (l := l) (by rw [get_cup]; exact hk2) (by rw [get_cup, List.getElem?_append_right (Nat.le_refl _), Nat.sub_self]; rfl) hl
  by_cases hj0 : j = 0
  · subst hj0
    exact ⟨.non, g1, c1, [], hg1, by
      simp at e1
      simp [f__law_word, bodyF, d__law_word, seqS_ap, setS_ap, bindS_ap, callE_ap, bindD_ap, consD_ap, nmD_ap, cstD_ap, nilD_ap, liftD_ap, e1, nmT_ap, ifS_ap, orT_ap, btestD_ap, op2_ap, cmpD, eq_ii, blD, retS_ap, Wd.d], (fun n h => by cases h), (fun i h => by cases h)⟩
  · by_cases hE : l = []
    · subst hE
      exact ⟨.non, g1, c1, [.lst []], hg1, by
        simp at e1 e2
        have q0 : ¬ (j : Int) = 0 := by omega
        simp [f__law_word, bodyF, d__law_word, seqS_ap, setS_ap, bindS_ap, callE_ap, bindD_ap, consD_ap, nmD_ap, cstD_ap, nilD_ap, liftD_ap, e1, nmT_ap, ifS_ap, orT_ap, btestD_ap, op2_ap, opS_ap, lstD, sApp_eq, cmpD, eq_ii, hj0, e2, blD, retS_ap, Wd.d], (fun n h => by cases h), (fun i h => by cases h)⟩
    · have hE2 : l.isEmpty = false := by cases l with | nil => exact absurd rfl hE | cons a l => rfl
      rw [hE2] at e2
      by_cases hj1 : j = 1
      · obtain ⟨j2, g2, c2, hj2, hg2, e3⟩ := roll_eval g1 c1 9 (R ++ [.lst []]) (by omega) hg1 (by omega)
        subst hj1
        exact ⟨.num ((j2 : Int) - 4), g2, c2, [.lst []], hg2, by
          simp at e1 e2 e3
          simp [f__law_word, bodyF, d__law_word, seqS_ap, setS_ap, bindS_ap, callE_ap, bindD_ap, consD_ap, nmD_ap, cstD_ap, nilD_ap, liftD_ap, e1, nmT_ap, ifS_ap, orT_ap, btestD_ap, op2_ap, opS_ap, lstD, sApp_eq, cmpD, eq_ii, e2, blD, retS_ap, Wd.d, skipS_ap, ifE_ap, e3, binD, subD, tupD], (fun n h => by cases h), (fun i h => by cases h; omega)⟩
      · obtain ⟨x, hx, g2, c2, hg2, e3⟩ := some_eval (g := g1) (c := c1) (k := k) (R := R ++ [.lst []]) (things := intsN l) hk2 (by rw [List.length_map]; exact List.length_pos_iff.mpr hE) (by rw [List.length_map]; omega) hg1
        obtain ⟨n, hn, rfl⟩ := List.mem_map.mp hx
        exact ⟨.ad n, g2, c2, [.lst []], hg2, by
          simp at e1 e2 e3
          have q0 : ¬ (j : Int) = 0 := by omega
          have q1 : ¬ (j : Int) = 1 := by omega
          simp [f__law_word, bodyF, d__law_word, seqS_ap, setS_ap, bindS_ap, callE_ap, bindD_ap, consD_ap, nmD_ap, cstD_ap, nilD_ap, liftD_ap, e1, nmT_ap, ifS_ap, orT_ap, btestD_ap, op2_ap, opS_ap, lstD, sApp_eq, cmpD, eq_ii, hj0, q1, e2, blD, retS_ap, Wd.d, skipS_ap, ifE_ap, e3], (fun m h => by cases h; exact hn), (fun i h => by cases h)⟩
end Py

-- PyQG
set_option maxRecDepth 100000
set_option maxHeartbeats 4000000
noncomputable section
namespace Py
open PySem PySem.Spec PyProof.Rows L2 PyD PyL PyH L2H HotX PyM PyK PyQ
theorem rng_ap {hs : Den (List D)} {r : DEnv} {M M1 : Sto} {j : Nat} (h : hs r M = some (.ok [.int (j : Nat)], M1)) (hj : j < 1000) : rngSrc1 hs r M = some (.ok (.rng 0 j), M1) := by
  unfold rngSrc1
  rw [bindD_ap, h]
  dsimp only
  rw [if_pos (by omega), Int.toNat_natCast]
theorem next_rng {m i : Nat} {M : Sto} : nextI (.rng 0 m) i M = some ((intsN (List.range m))[i]?) := by
  show some (if i < m then some (D.int (0 + (i : Int))) else none) = _
  rw [List.getElem?_map]
  by_cases h : i < m
  · rw [if_pos h, List.getElem?_range h, Int.zero_add]
    rfl
  · rw [if_neg h, List.getElem?_eq_none (by rw [List.length_range]; omega)]
    rfl
theorem Wr.add {R : Sto} {ds : List D} (h : Wr R) (hd : ∀ k, okRL k ds = true) : Wr (R ++ [.lst ds]) := by
  have z := WF.addL (wf_cup (g := 0) (c := 0).mpr h) (hd _)
  exact wf_cup.mp z
theorem okRL_wd (k : Nat) (ws : List Wd) : okRL k (ws.map Wd.d) = true := okR_ws k ws
theorem pure_ws : ∀ ws : List Wd, pureDs (ws.map Wd.d) = true
  | [] => rfl
  | w :: ws => by
    have e : pureD w.d = true := by cases w <;> rfl
    simp [pureDs, e, pure_ws ws]
theorem flatC_ws (ws : List Wd) : flatC (.lst (ws.map Wd.d)) := fun k => ⟨okRL_wd k ws, pure_ws ws⟩
theorem pure_bl : ∀ l : List Bool, pureDs (l.map D.bl) = true
  | [] => rfl
  | i :: l => by simp [pureDs, pureD, pure_bl l]
theorem flatC_bl (l : List Bool) : flatC (.lst (l.map D.bl)) := fun _ => ⟨ok_bl l, pure_bl l⟩
def good (l : List Nat) (w : Wd) : Prop := (∀ n, w = .ad n → n ∈ l) ∧ (∀ i, w = .num i → -10 ≤ i ∧ i ≤ 10)
abbrev wdE : Den D := trimE (callN 2 f__law_word (consD (nmD 0) (consD (nmD 2) nilD)))
theorem q_wordsC {src : Den Src} {v m k : Nat} {l : List Nat} {r : DEnv} {M R : Sto} {g c : Int} (h0 : r[0]? = some (some (.lst 0))) (h2 : r[2]? = some (some (.lst (k + 1)))) (hv : 2 < v) (hs : src r M = some (.ok (.rng 0 m), cupC g c :: R)) (hk : R[k]? = some (.lst (intsN l))) (hl : l.length ≤ 60) (hm : m ≤ 3) (hR : Wr R) (hg : 0 ≤ g) :
    ∃ (ws : List Wd) (g' c' : Int), 0 ≤ g' ∧ compE src [v] (.one v) yesT wdE 100000 r M = some (.ok (.lst (R.length + 1)), cupC g' c' :: (R ++ [.lst (ws.map Wd.d)])) ∧ ws.length = m ∧ ∀ w ∈ ws, good l w := by
  have kl : k < R.length := (List.getElem?_eq_some_iff.mp hk).1
  obtain ⟨M', e, ws, g', c', rfl, h1, h3, h4⟩ := compL_run (nxt := nextI (.rng 0 m)) (ct := .one v) (ifs := yesT) (elt := wdE) (id := R.length + 1) (m := m) (r := wipeD r [v])
    (fun i M2 => ∃ (ws : List Wd) (g' c' : Int), M2 = cupC g' c' :: (R ++ [.lst (ws.map Wd.d)]) ∧ ws.length = i ∧ 0 ≤ g' ∧ ∀ w ∈ ws, good l w)
    (fun M2 _ => by rw [next_rng, List.getElem?_eq_none (by simp)])
    (fun i M2 hi hp => by
      obtain ⟨ws, g', c', rfl, h1, h3, h4⟩ := hp
      have hk2 : (R ++ [Cell.lst (ws.map Wd.d)])[k]? = some (.lst (intsN l)) := by rw [List.getElem?_append_left kl]; exact hk
      obtain ⟨w, g2, c2, X, hg2, e, w1, w2⟩ := q_lw (g := g') (c := c') hk2 hl h3
      have r0 : ((wipeD r [v]).set v (some (.int (i : Nat))))[0]? = some (some (.lst 0)) := by
        show (((r.set v none).set v _))[0]? = _
        rw [List.getElem?_set_ne (by omega), List.getElem?_set_ne (by omega), h0]
      have r2 : ((wipeD r [v]).set v (some (.int (i : Nat))))[2]? = some (some (.lst (k + 1))) := by
        show (((r.set v none).set v _))[2]? = _
        rw [List.getElem?_set_ne (by omega), List.getElem?_set_ne (by omega), h2]
      have e2 : callN 2 f__law_word (consD (nmD 0) (consD (nmD 2) nilD)) ((wipeD r [v]).set v (some (.int (i : Nat)))) (cupC g' c' :: (R ++ [.lst (ws.map Wd.d)])) = some (.ok w.d, (cupC g2 c2 :: (R ++ [.lst (ws.map Wd.d)])) ++ X) := by
        simp only [callN_ap, bindD_ap, consD_ap, nmD_ap, r0, r2, nilD_ap, liftD_ap, List.length_cons, List.length_nil, if_true, e, List.cons_append]
      have e3 := trimE_is e2 rfl ((wf_cup (g := g2) (c := c2)).mpr (hR.add fun k => okRL_wd k ws)) (okR_wd _ w)
      refine ⟨.int (i : Nat), _, _, w.d, _, ws.map Wd.d, by rw [next_rng, List.getElem?_map, List.getElem?_range hi]; rfl, rfl, rfl, e3, ?_, by rw [List.length_map]; omega, ws ++ [w], g2, c2, ?_, by simp [h1], hg2, fun x hx => ?_⟩
      · rw [get_cup, List.getElem?_append_right (Nat.le_refl _), Nat.sub_self]
        rfl
      · rw [List.set_cons_succ, set_new, List.map_append]
        rfl
      · rcases List.mem_append.mp hx with q | q
        · exact h4 x q
        · rw [List.mem_singleton.mp q]; exact ⟨w1, w2⟩)
    100000 0 (cupC g c :: (R ++ [.lst []])) (Nat.zero_le _) (by omega) ⟨[], g, c, rfl, rfl, hg, (fun w hw => by cases hw)⟩
  refine ⟨ws, g', c', h3, ?_, h1, h4⟩
  unfold compE
  rw [hs]
  dsimp only
  rw [sApp_eq]
  show (match compL _ _ _ _ (R.length + 1) 100000 0 (wipeD r [v]) (cupC g c :: (R ++ [.lst []])) with
    | some M2 => some (Res.ok (D.lst (R.length + 1)), M2)
    | none => none) = _
  rw [e]
/-- as many words as are drawn -/
theorem q_many {L : Den D} {v k : Nat} {l : List Nat} {r : DEnv} {M R : Sto} {g c : Int} {ms : List Nat} (h0 : r[0]? = some (some (.lst 0))) (h2 : r[2]? = some (some (.lst (k + 1)))) (hv : 2 < v) (hL : L r M = some (.ok (.lst (R.length + 1)), cupC g c :: (R ++ [.lst (intsN ms)]))) (hms : ∀ m ∈ ms, m ≤ 3) (hn : 0 < ms.length) (hn2 : ms.length < 1000) (hk : R[k]? = some (.lst (intsN l))) (hl : l.length ≤ 60) (hR : Wr R) (hg : 0 ≤ g) :
    ∃ (ws : List Wd) (g' c' : Int), 0 ≤ g' ∧ opS tupleD (consD (compE (rngSrc1 (consD (callE 2 f__law_some (consD (nmD 0) (consD L nilD))) nilD)) [v] (.one v) yesT wdE 100000) nilD) r M = some (.ok (wsD ws), cupC g' c' :: (R ++ [.lst (intsN ms), .lst (ws.map Wd.d)])) ∧ ws.length ≤ 3 ∧ ∀ w ∈ ws, good l w := by
  have kl : k < R.length := (List.getElem?_eq_some_iff.mp hk).1
  obtain ⟨x, hx, g1, c1, hg1, e1⟩ := q_pick h0 hL (things := intsN ms) (by rw [List.getElem?_append_right (Nat.le_refl _), Nat.sub_self]; rfl) (by rw [List.length_map]; exact hn) (by rw [List.length_map]; exact hn2) hg
  obtain ⟨m, hm, rfl⟩ := List.mem_map.mp hx
  have hm3 := hms m hm
  have s := rng_ap (hs := consD (callE 2 f__law_some (consD (nmD 0) (consD L nilD))) nilD) (r := r) (M := M) (M1 := cupC g1 c1 :: (R ++ [.lst (intsN ms)])) (j := m) (by simp only [consD_ap, bindD_ap, e1, nilD_ap, liftD_ap]) (by omega)
  obtain ⟨ws, g2, c2, hg2, e2, h3, h4⟩ := q_wordsC (l := l) (k := k) h0 h2 hv s (by rw [List.getElem?_append_left kl]; exact hk) hl hm3 (hR.add fun k => (flatC_nat ms k).1) hg1
  refine ⟨ws, g2, c2, hg2, ?_, by omega, h4⟩
  have ge : sGet (cupC g2 c2 :: (R ++ [Cell.lst (intsN ms)] ++ [.lst (ws.map Wd.d)])) ((R ++ [Cell.lst (intsN ms)]).length + 1) = some (.lst (ws.map Wd.d)) := by
    rw [get_cup, List.getElem?_append_right (Nat.le_refl _), Nat.sub_self]
    rfl
  simp only [opS_ap, bindD_ap, consD_ap, e2, nilD_ap, liftD_ap, tupleD, ge]
  rw [List.append_assoc]
  rfl
end Py

-- PyQH
set_option maxRecDepth 100000
set_option maxHeartbeats 4000000
noncomputable section
namespace Py
open PySem PySem.Spec PyProof.Rows L2 PyD PyL PyH L2H HotX PyM PyK PyQ
/-- the cells that are free -/
theorem q_free {g c : Int} {R : Sto} (hR : Wr R) (hg : 0 ≤ g) : ∃ (bs : List Bool) (g' c' : Int), 0 ≤ g' ∧ 1 ≤ bs.length ∧ bs.length ≤ 9 ∧
    compE (rngSrc1 (consD (op2 (binD .Add) (cstD (.int 1)) (callE 2 f__law_roll (consD (nmD 0) (consD (cstD (.int 9)) nilD)))) nilD)) [6] (.one 6) yesT (op2 (cmpD .Eq) (callN 2 f__law_roll (consD (nmD 0) (consD (cstD (.int 5)) nilD))) (cstD (.int 0))) 100000 [some (.lst 0), none, none, none, none, none, none, none] (cupC g c :: R) = some (.ok (.lst (R.length + 1)), cupC g' c' :: (R ++ [.lst (bs.map .bl)])) := by
  obtain ⟨j, g1, c1, hj, hg1, e1⟩ := roll_eval g c 9 R (by omega) hg (by omega)
  have src := rng_ap (hs := consD (op2 (binD .Add) (cstD (.int 1)) (callE 2 f__law_roll (consD (nmD 0) (consD (cstD (.int 9)) nilD)))) nilD) (r := [some (.lst 0), none, none, none, none, none, none, none]) (M := cupC g c :: R) (M1 := cupC g1 c1 :: R) (j := 1 + j) (by
    simp at e1
    simp [consD_ap, bindD_ap, op2_ap, cstD_ap, callE_ap, nmD_ap, nilD_ap, liftD_ap, e1, binD, addD]) (by omega)
  obtain ⟨M', e, bs, g', c', rfl, h1, h3⟩ := compL_run (nxt := nextI (.rng 0 (1 + j))) (ct := .one 6) (ifs := yesT) (elt := op2 (cmpD .Eq) (callN 2 f__law_roll (consD (nmD 0) (consD (cstD (.int 5)) nilD))) (cstD (.int 0))) (id := R.length + 1) (m := 1 + j) (r := wipeD [some (.lst 0), none, none, none, none, none, none, none] [6])
    (fun i M2 => ∃ (bs : List Bool) (g' c' : Int), M2 = cupC g' c' :: (R ++ [.lst (bs.map .bl)]) ∧ bs.length = i ∧ 0 ≤ g')
    (fun M2 _ => by rw [next_rng, List.getElem?_eq_none (by simp)])
    (fun i M2 hi hp => by
      obtain ⟨bs, g', c', rfl, h1, h3⟩ := hp
      obtain ⟨j2, g2, c2, hj2, hg2, e2⟩ := roll_eval g' c' 5 (R ++ [.lst (bs.map .bl)]) (by omega) h3 (by omega)
      refine ⟨.int (i : Nat), _, _, .bl (decide (j2 = 0)), cupC g2 c2 :: (R ++ [.lst (bs.map .bl)]), bs.map .bl, by rw [next_rng, List.getElem?_map, List.getElem?_range hi]; rfl, rfl, rfl, ?_, ?_, by rw [List.length_map]; omega, bs ++ [decide (j2 = 0)], g2, c2, ?_, by simp [h1], hg2⟩
      · simp at e2
        simp [op2_ap, callN_ap, bindD_ap, consD_ap, nmD_ap, cstD_ap, nilD_ap, liftD_ap, wipeD, e2, cmpD, eq_ii]
      · rw [get_cup, List.getElem?_append_right (Nat.le_refl _), Nat.sub_self]
        rfl
      · rw [List.set_cons_succ, set_new, List.map_append]
        rfl)
    100000 0 (cupC g1 c1 :: (R ++ [.lst []])) (Nat.zero_le _) (by omega) ⟨[], g1, c1, rfl, rfl, hg1⟩
  refine ⟨bs, g', c', h3, by omega, by omega, ?_⟩
  unfold compE
  rw [src]
  dsimp only
  rw [sApp_eq]
  show (match compL _ _ _ _ (R.length + 1) 100000 0 _ (cupC g1 c1 :: (R ++ [.lst []])) with
    | some M2 => some (Res.ok (D.lst (R.length + 1)), M2)
    | none => none) = _
  rw [e]
def notFree (bs : List Bool) : List Nat := (List.range bs.length).filter fun n => !bs.getD n true
theorem mem_notFree {bs : List Bool} {n : Nat} : n ∈ notFree bs ↔ bs[n]? = some false := by
  unfold notFree
  rw [List.mem_filter, List.mem_range, List.getD_eq_getElem?_getD]
  constructor
  · rintro ⟨h1, h2⟩
    rw [List.getElem?_eq_getElem h1] at h2 ⊢
    simpa using h2
  · intro h
    refine ⟨(List.getElem?_eq_some_iff.mp h).1, ?_⟩
    rw [h]
    rfl
theorem notFree_len {bs : List Bool} : (notFree bs).length ≤ bs.length := Nat.le_trans (List.length_filter_le _ _) (by rw [List.length_range]; exact Nat.le_refl _)
def natOf : D → Nat
  | .int i => i.toNat
  | _ => 0
theorem q_adds {g c : Int} {R : Sto} {bs : List Bool} {k : Nat} (hk : R[k]? = some (.lst (bs.map .bl))) (hl : bs.length ≤ 9) :
    compE (rngSrc1 (consD (opS lenD (consD (nmD 1) nilD)) nilD)) [6] (.one 6) (notT (testD (op2 itemD (nmD 1) (nmD 6)))) (nmD 6) 100000 [some (.lst 0), some (.lst (k + 1)), none, none, none, none, none, none] (cupC g c :: R) = some (.ok (.lst (R.length + 1)), cupC g c :: (R ++ [.lst (intsN (notFree bs))])) := by
  have g0 : sGet (cupC g c :: R) (k + 1) = some (.lst (bs.map .bl)) := by rw [get_cup]; exact hk
  have src := rng_ap (hs := consD (opS lenD (consD (nmD 1) nilD)) nilD) (r := [some (.lst 0), some (.lst (k + 1)), none, none, none, none, none, none]) (M := cupC g c :: R) (M1 := cupC g c :: R) (j := bs.length) (by
    simp only [consD_ap, bindD_ap, opS_ap, nmD_ap, nilD_ap, liftD_ap, List.getElem?_cons_succ, List.getElem?_cons_zero, lenD, g0, List.length_map]) (by omega)
  have hc := compE_pure (vs := [6]) (slot := 6) (n := 100000) (s := .rng 0 bs.length) (items := intsN (List.range bs.length)) (p := fun d => !bs.getD (natOf d) true) (g := fun d => d)
    (ifs := notT (testD (op2 itemD (nmD 1) (nmD 6)))) (elt := nmD 6) src (fun _ _ => next_rng) (fun d hd acc hk2 => by
      obtain ⟨n, hn, rfl⟩ := List.mem_map.mp hd
      have hn := List.mem_range.mp hn
      have g1 : sGet (cupC g c :: R ++ [.lst acc]) (k + 1) = some (.lst (bs.map .bl)) := get_some g0
      have a1 : atI (bs.map D.bl) ((n : Nat) : Int) = some (.bl (bs.getD n true)) := by
        rw [atI_nat (by omega) (by rw [List.length_map]; omega), Int.toNat_natCast, List.getD_eq_getElem?_getD, List.getElem?_map, List.getD_eq_getElem?_getD, List.getElem?_eq_getElem hn]
        rfl
      have n1 : natOf (.int (n : Nat)) = n := Int.toNat_natCast n
      rw [List.cons_append] at g1
      simp only [wipeD, notT_ap, testD_ap, bindD_ap, op2_ap, nmD_ap, liftD_ap, List.set_cons_succ, List.set_cons_zero, List.getElem?_cons_succ, List.getElem?_cons_zero, itemD, ixD, List.cons_append, g1, a1, Option.map_some, truD, n1]) (fun d hd _ acc hk2 => ⟨by
        simp only [wipeD, nmD_ap, List.set_cons_succ, List.set_cons_zero, List.getElem?_cons_succ, List.getElem?_cons_zero], by
        obtain ⟨n, hn, rfl⟩ := List.mem_map.mp hd
        rfl⟩) (by simp; omega) (by simp; omega)
  rw [hc]
  have e : (((intsN (List.range bs.length)).filter fun d => !bs.getD (natOf d) true).map fun d => d) = intsN (notFree bs) := by
    rw [List.map_id', List.filter_map]
    rfl
  rw [e]
  rfl
end Py

-- PyQI
set_option maxRecDepth 100000
set_option maxHeartbeats 4000000
noncomputable section
namespace Py
open PySem PySem.Spec PyProof.Rows L2 PyD PyL PyH L2H HotX PyM PyK PyQ
theorem tupD0 {M : Sto} : tupD [] M = some (.tup [], M) := rfl
theorem tupD1 {a : D} {M : Sto} : tupD [a] M = some (.tup [a], M) := by simp [tupD]
theorem tupD2 {a b : D} {M : Sto} : tupD [a, b] M = some (.tup [a, b], M) := by simp [tupD]
abbrev ways6 : Den D := opS lstD (consD (cstD (.int 0)) (consD (cstD (.int 1)) (consD (cstD (.int 1)) (consD (cstD (.int 2)) (consD (cstD (.int 2)) (consD (cstD (.int 3)) nilD))))))
abbrev abcL : Den D := opS lstD (consD (cstD (.str "a")) (consD (cstD (.str "b")) (consD (cstD (.str "c")) nilD)))
abbrev layB : SDen := seqS (setS (opS tupleD (consD (compE (rngSrc1 (consD (callE 2 f__law_some (consD (nmD 0) (consD ways6 nilD))) nilD)) [7] (.one 7) yesT wdE 100000) nilD)) (nmT 5))
    (setS (op2 (binD .Add) (nmD 3) (opS tupD (consD (ifE (testD (nmD 4)) (cstD .non) (opS tupD (consD (opS tupD (consD (callE 2 f__law_some (consD (nmD 0) (consD abcL nilD))) nilD)) (consD (nmD 5) nilD)))) nilD))) (nmT 3))
theorem q_lay {g c : Int} {R : Sto} {k k1 : Nat} {l : List Nat} {b : Bool} {h : Hpd} {x5 : Option D} (hk : R[k]? = some (.lst (intsN l))) (hl : l.length ≤ 60) (hR : Wr R) (hg : 0 ≤ g) (hh : h.length ≤ 9) (hk1 : k1 < R.length) :
    ∃ (z : Option Cl) (x4' x5' : Option D) (g' c' : Int), 0 ≤ g' ∧ trimW layB [some (.lst 0), some (.lst (k1 + 1)), some (.lst (k + 1)), some (hpD h), some (.bl b), x5, none, none] (cupC g c :: R) = some (.nx, [some (.lst 0), some (.lst (k1 + 1)), some (.lst (k + 1)), some (hpD (h ++ [z])), x4', x5', none, none], cupC g' c' :: R) ∧
      (b = true → z = none) ∧ (b = false → ∃ c, z = some c) ∧ ∀ c, z = some c → c.ws.length ≤ 3 ∧ ∀ w ∈ c.ws, good l w := by
  have kl : k < R.length := (List.getElem?_eq_some_iff.mp hk).1
  obtain ⟨ws, g1, c1, hg1, e1, w1, w2⟩ := q_many (L := ways6) (v := 7) (ms := [0, 1, 1, 2, 2, 3]) (r := [some (.lst 0), some (.lst (k1 + 1)), some (.lst (k + 1)), some (hpD h), some (.bl b), x5, none, none]) (M := cupC g c :: R) (g := g) (c := c) (R := R) rfl rfl (by omega) (by
    simp only [opS_ap, bindD_ap, consD_ap, cstD_ap, nilD_ap, liftD_ap, lstD, List.length_cons, List.length_nil, sApp_eq]
    rfl) (by intro m hm; simp at hm; omega) (by decide) (by decide) hk hl hR hg
  have s1 : setS (opS tupleD (consD (compE (rngSrc1 (consD (callE 2 f__law_some (consD (nmD 0) (consD ways6 nilD))) nilD)) [7] (.one 7) yesT wdE 100000) nilD)) (nmT 5) [some (.lst 0), some (.lst (k1 + 1)), some (.lst (k + 1)), some (hpD h), some (.bl b), x5, none, none] (cupC g c :: R) =
      some (.nx, [some (.lst 0), some (.lst (k1 + 1)), some (.lst (k + 1)), some (hpD h), some (.bl b), some (wsD ws), none, none], cupC g1 c1 :: (R ++ [.lst (intsN [0, 1, 1, 2, 2, 3]), .lst (ws.map Wd.d)])) := by
    rw [setS_ap, bindS_ap, e1]
    rfl
  have fin : ∀ (z : Option Cl) (g' c' : Int) (X : Sto), layB [some (.lst 0), some (.lst (k1 + 1)), some (.lst (k + 1)), some (hpD h), some (.bl b), x5, none, none] (cupC g c :: R) = some (.nx, [some (.lst 0), some (.lst (k1 + 1)), some (.lst (k + 1)), some (hpD (h ++ [z])), some (.bl b), some (wsD ws), none, none], (cupC g' c' :: R) ++ X) →
      ∃ x4' x5', trimW layB [some (.lst 0), some (.lst (k1 + 1)), some (.lst (k + 1)), some (hpD h), some (.bl b), x5, none, none] (cupC g c :: R) = some (.nx, [some (.lst 0), some (.lst (k1 + 1)), some (.lst (k + 1)), some (hpD (h ++ [z])), x4', x5', none, none], cupC g' c' :: R) := fun z g' c' X e => by
    obtain ⟨r2, e2, hr⟩ := trimW_is e rfl ((wf_cup (g := g') (c := c')).mpr hR)
    rcases hr with rfl | rfl
    · exact ⟨_, _, e2⟩
    · have o0 : okR (cupC g c :: R).length (.lst 0) = true := rfl
      have o1 : okR (cupC g c :: R).length (.lst (k1 + 1)) = true := decide_eq_true (by rw [List.length_cons]; omega)
      have o2 : okR (cupC g c :: R).length (.lst (k + 1)) = true := decide_eq_true (by rw [List.length_cons]; omega)
      have o3 := okR_hp (cupC g c :: R).length (h ++ [z])
      rw [clean_cons, clean_cons, clean_cons, clean_cons, clean_cons, clean_cons, clean_cons, clean_cons, clean_nil, c1_ok o0, c1_ok o1, c1_ok o2, c1_ok o3, c1_none] at e2
      exact ⟨_, _, e2⟩
  have hd : ∀ z : Option Cl, addD (hpD h) (.tup [clD z]) = fun M => some (hpD (h ++ [z]), M) := fun z => by
    funext M
    have : (h.map clD).length + [clD z].length ≤ 100000 := by rw [List.length_map]; simp; omega
    simp only [addD, hpD, if_pos this, List.map_append]
    rfl
  cases b with
  | true =>
    obtain ⟨x4, x5', e2⟩ := fin none g1 c1 [.lst (intsN [0, 1, 1, 2, 2, 3]), .lst (ws.map Wd.d)] (by
      unfold layB
      rw [seqS_ap, s1]
      have := hd none
      simp only [clD] at this
      simp only [setS_ap, bindS_ap, op2_ap, bindD_ap, nmD_ap, List.getElem?_cons_succ, List.getElem?_cons_zero, opS_ap, consD_ap, ifE_ap, testD_ap, liftD_ap, truD, if_true, cstD_ap, nilD_ap, tupD1, tupD2, binD, this, nmT_ap, List.set_cons_succ, List.set_cons_zero]
      rfl)
    exact ⟨none, x4, x5', g1, c1, hg1, e2, (fun _ => rfl), (fun h => by cases h), (fun c h => by cases h)⟩
  | false =>
    obtain ⟨x, hx, g2, c2, hg2, e3⟩ := q_pick (L := abcL) (r := [some (.lst 0), some (.lst (k1 + 1)), some (.lst (k + 1)), some (hpD h), some (.bl false), some (wsD ws), none, none]) (M := cupC g1 c1 :: (R ++ [.lst (intsN [0, 1, 1, 2, 2, 3]), .lst (ws.map Wd.d)])) (R' := R ++ [.lst (intsN [0, 1, 1, 2, 2, 3]), .lst (ws.map Wd.d)] ++ [.lst [.str "a", .str "b", .str "c"]]) (k := (R ++ [Cell.lst (intsN [0, 1, 1, 2, 2, 3]), .lst (ws.map Wd.d)]).length) (things := [.str "a", .str "b", .str "c"]) (g := g1) (c := c1) rfl (by
      simp only [opS_ap, bindD_ap, consD_ap, cstD_ap, nilD_ap, liftD_ap, lstD, List.length_cons, List.length_nil, sApp_eq]
      rfl) (by rw [List.getElem?_append_right (Nat.le_refl _), Nat.sub_self]; rfl) (by decide) (by decide) hg1
    obtain ⟨s, rfl⟩ : ∃ s, x = .str s := by
      simp at hx
      rcases hx with rfl | rfl | rfl <;> exact ⟨_, rfl⟩
    obtain ⟨x4, x5', e2⟩ := fin (some ⟨s, ws⟩) g2 c2 [.lst (intsN [0, 1, 1, 2, 2, 3]), .lst (ws.map Wd.d), .lst [.str "a", .str "b", .str "c"]] (by
      unfold layB
      rw [seqS_ap, s1]
      have := hd (some ⟨s, ws⟩)
      simp only [clD, Cl.d] at this
      simp only [setS_ap, bindS_ap, op2_ap, bindD_ap, nmD_ap, List.getElem?_cons_succ, List.getElem?_cons_zero, opS_ap, consD_ap, ifE_ap, testD_ap, liftD_ap, truD, if_false, Bool.false_eq_true, e3, cstD_ap, nilD_ap, tupD1, tupD2, binD, this, nmT_ap, List.set_cons_succ, List.set_cons_zero]
      rw [List.append_assoc]
      rfl)
    exact ⟨some ⟨s, ws⟩, x4, x5', g2, c2, hg2, e2, (fun h => by cases h), (fun _ => ⟨_, rfl⟩), (fun c h => by cases h; exact ⟨w1, w2⟩)⟩
end Py

-- PyQJ
set_option maxRecDepth 100000
set_option maxHeartbeats 4000000
noncomputable section
namespace Py
open PySem PySem.Spec PyProof.Rows L2 PyD PyL PyH L2H HotX PyM PyK PyQ
theorem q_heap {g c : Int} {R : Sto} (hR : Wr R) (hg : 0 ≤ g) : ∃ (h : Hpd) (g' c' : Int) (X : Sto), 0 ≤ g' ∧ f__law_heap [.lst 0] (cupC g c :: R) = some (.ok (hpD h), cupC g' c' :: (R ++ X)) ∧ hpOk h ∧ 1 ≤ h.length ∧ flat X := by
  obtain ⟨bs, g1, c1, hg1, hl1, hl9, e1⟩ := q_free hR hg (c := c)
  have kb : (R ++ [Cell.lst (bs.map .bl)])[R.length]? = some (.lst (bs.map .bl)) := by rw [List.getElem?_append_right (Nat.le_refl _), Nat.sub_self]; rfl
  have e2 := q_adds (g := g1) (c := c1) kb hl9
  have nl := notFree_len (bs := bs)
  have len1 : (R ++ [Cell.lst (bs.map .bl)]).length = R.length + 1 := by simp
  rw [len1, List.append_assoc] at e2
  simp only [List.cons_append, List.nil_append] at e2
  obtain ⟨R2, hR2⟩ : ∃ R2, R2 = R ++ [Cell.lst (bs.map .bl), .lst (intsN (notFree bs))] := ⟨_, rfl⟩
  have W2 : Wr R2 := by
    have := (hR.add fun k => (flatC_bl bs k).1).add fun k => (flatC_nat (notFree bs) k).1
    rw [List.append_assoc] at this
    rw [hR2]
    exact this
  rw [← hR2] at e2
  have k1 : R2[R.length]? = some (.lst (bs.map .bl)) := by rw [hR2, List.getElem?_append_right (Nat.le_refl _), Nat.sub_self]; rfl
  have k2 : R2[R.length + 1]? = some (.lst (intsN (notFree bs))) := by rw [hR2, List.getElem?_append_right (by omega), show R.length + 1 - R.length = 1 by omega]; rfl
  have l2 : R.length < R2.length := by rw [hR2]; simp
  have s1 : setS (compE (rngSrc1 (consD (op2 (binD .Add) (cstD (.int 1)) (callE 2 f__law_roll (consD (nmD 0) (consD (cstD (.int 9)) nilD)))) nilD)) [6] (.one 6) yesT (op2 (cmpD .Eq) (callN 2 f__law_roll (consD (nmD 0) (consD (cstD (.int 5)) nilD))) (cstD (.int 0))) 100000) (nmT 1) [some (.lst 0), none, none, none, none, none, none, none] (cupC g c :: R) =
      some (.nx, [some (.lst 0), some (.lst (R.length + 1)), none, none, none, none, none, none], cupC g1 c1 :: (R ++ [.lst (bs.map .bl)])) := by
    rw [setS_ap, bindS_ap, e1]
    rfl
  have s2 : setS (opS tupD (consD (compE (rngSrc1 (consD (opS lenD (consD (nmD 1) nilD)) nilD)) [6] (.one 6) (notT (testD (op2 itemD (nmD 1) (nmD 6)))) (nmD 6) 100000) (consD (opS tupD nilD) nilD))) (tupT 2 (consT (nmT 2) (consT (nmT 3) nilT))) [some (.lst 0), some (.lst (R.length + 1)), none, none, none, none, none, none] (cupC g1 c1 :: (R ++ [.lst (bs.map .bl)])) =
      some (.nx, [some (.lst 0), some (.lst (R.length + 1)), some (.lst (R.length + 1 + 1)), some (.tup []), none, none, none, none], cupC g1 c1 :: R2) := by
    simp only [setS_ap, bindS_ap, opS_ap, bindD_ap, consD_ap, e2, nilD_ap, liftD_ap, tupD0, tupD2]
    rfl
  have gk : ∀ (g c : Int), sGet (cupC g c :: R2) (R.length + 1) = some (.lst (bs.map .bl)) := fun g c => by rw [get_cup]; exact k1
  obtain ⟨r', M', e3, h, g3, c3, x4, x5, rfl, rfl, p1, p2, p3, p4⟩ := forL_run (nxt := nextI (.seq (.lst (R.length + 1)))) (t := nmT 4) (b := trimW layB) (m := bs.length)
    (fun i r M2 => ∃ (h : Hpd) (g' c' : Int) (x4 x5 : Option D), M2 = cupC g' c' :: R2 ∧ r = [some (.lst 0), some (.lst (R.length + 1)), some (.lst (R.length + 1 + 1)), some (hpD h), x4, x5, none, none] ∧ h.length = i ∧ 0 ≤ g' ∧ (∀ j, j < i → bs[j]? = some false → ∃ c, h[j]? = some (some c)) ∧ ∀ c, some c ∈ h → c.ws.length ≤ 3 ∧ ∀ w ∈ c.ws, good (notFree bs) w)
    (fun r M2 hp => by
      obtain ⟨h, g', c', x4, x5, rfl, _⟩ := hp
      rw [next_lst (gk _ _), List.getElem?_eq_none (by simp)])
    (fun i r M2 hi hp => by
      obtain ⟨h, g', c', x4, x5, rfl, rfl, p1, p2, p3, p4⟩ := hp
      have hx : (bs.map D.bl)[i]? = some (.bl bs[i]) := by simp [List.getElem?_eq_getElem hi]
      obtain ⟨z, x4', x5', g2, c2, hg2, q1, q2, q3, q4⟩ := q_lay (g := g') (c := c') (b := bs[i]) (h := h) (x5 := x5) k2 (by omega) W2 p2 (by omega) l2
      refine ⟨.bl bs[i], _, _, _, _, by rw [next_lst (gk _ _)]; exact congrArg some hx, rfl, q1, h ++ [z], g2, c2, x4', x5', rfl, rfl, by simp [p1], hg2, fun j hj hb => ?_, fun c hc => ?_⟩
      · by_cases e : j < h.length
        · rw [List.getElem?_append_left e]
          exact p3 j (by omega) hb
        · have : j = h.length := by omega
          subst this
          rw [List.getElem?_append_right (Nat.le_refl _), Nat.sub_self]
          subst p1
          rw [List.getElem?_eq_getElem hi] at hb
          obtain ⟨c, rfl⟩ := q3 (Option.some.inj hb)
          exact ⟨c, rfl⟩
      · rcases List.mem_append.mp hc with q | q
        · exact p4 c q
        · exact q4 c (List.mem_singleton.mp q).symm)
    100000 0 [some (.lst 0), some (.lst (R.length + 1)), some (.lst (R.length + 1 + 1)), some (.tup []), none, none, none, none] (cupC g1 c1 :: R2) (Nat.zero_le _) (by omega) ⟨[], g1, c1, none, none, rfl, rfl, rfl, hg1, (fun j hj => absurd hj (Nat.not_lt_zero _)), (fun c hc => by cases hc)⟩
  have s3 : forS (anySrc (nmD 1)) (nmT 4) (trimW layB) 100000 [some (.lst 0), some (.lst (R.length + 1)), some (.lst (R.length + 1 + 1)), some (.tup []), none, none, none, none] (cupC g1 c1 :: R2) = some (.nx, [some (.lst 0), some (.lst (R.length + 1)), some (.lst (R.length + 1 + 1)), some (hpD h), x4, x5, none, none], cupC g3 c3 :: R2) := by
    have src : anySrc (nmD 1) [some (.lst 0), some (.lst (R.length + 1)), some (.lst (R.length + 1 + 1)), some (.tup []), none, none, none, none] (cupC g1 c1 :: R2) = some (.ok (.seq (.lst (R.length + 1))), cupC g1 c1 :: R2) := anySrc_lst rfl (l := bs.map D.bl) (by
      unfold itemsD
      dsimp only
      rw [gk])
    unfold forS
    rw [src]
    exact e3
  refine ⟨h, g3, c3, [Cell.lst (bs.map .bl), .lst (intsN (notFree bs))], p2, ?_, ⟨by omega, fun c hc => ⟨(p4 c hc).1, fun w hw => ?_⟩⟩, by omega, flatC_bl bs, flatC_nat _, trivial⟩
  · unfold f__law_heap bodyF d__law_heap
    show (match (seqS _ (seqS _ (seqS _ _))) [some (.lst 0), none, none, none, none, none, none, none] (cupC g c :: R) with
      | some (.rt d, _, M') => some (Res.ok d, M')
      | some (.nx, _, M') => some (Res.ok D.non, M')
      | some (.ex x, _, M') => some (Res.ex x, M')
      | _ => none) = _
    rw [seqS_ap, s1]
    dsimp only
    rw [seqS_ap, s2]
    dsimp only
    unfold layB ways6 abcL wdE at s3
    rw [seqS_ap, s3]
    simp only [retS_ap, bindS_ap, nmD_ap, List.getElem?_cons_succ, List.getElem?_cons_zero, hR2]
  · obtain ⟨a1, a2⟩ := (p4 c hc).2 w hw
    cases w with
    | non => trivial
    | num i =>
      have := a2 i rfl
      exact ⟨by omega, by omega⟩
    | ad n =>
      have hb := mem_notFree.mp (a1 n rfl)
      exact p3 n (List.getElem?_eq_some_iff.mp hb).1 hb
theorem set_ap {f : Den D} {tg : TDen} {r r1 : DEnv} {M M1 M2 : Sto} {d : D} (h : f r M = some (.ok d, M1)) (ht : tg d r M1 = some (r1, M2)) : setS f tg r M = some (.nx, r1, M2) := by
  unfold setS bindS
  rw [h]
  dsimp only
  rw [ht]
theorem ret_ap {f : Den D} {r : DEnv} {M M1 : Sto} {d : D} (h : f r M = some (.ok d, M1)) : retS f r M = some (.rt d, r, M1) := by
  unfold retS bindS
  rw [h]
theorem body_ap {n : Nat} {b : SDen} {ds : List D} {r r' : DEnv} {M M1 : Sto} {d : D} (hr : ds.map some ++ List.replicate (n - ds.length) none = r) (h : b r M = some (.rt d, r', M1)) : bodyF n b ds M = some (.ok d, M1) := by
  unfold bodyF
  rw [hr, h]
abbrev ways5 : Den D := opS lstD (consD (cstD (.int 0)) (consD (cstD (.int 1)) (consD (cstD (.int 1)) (consD (cstD (.int 2)) (consD (cstD (.int 3)) nilD)))))
def addsOf (h : Hpd) : List Nat := (List.range h.length).filter fun n => !nonB (clD (h.getD n none))
theorem q_roots {g c : Int} {R : Sto} {h : Hpd} (hh : hpOk h) (hR : Wr R) (hg : 0 ≤ g) : ∃ (rs : List Wd) (g' c' : Int) (X : Sto), 0 ≤ g' ∧ f__law_roots [.lst 0, hpD h] (cupC g c :: R) = some (.ok (wsD rs), cupC g' c' :: (R ++ X)) ∧ wsOk h rs ∧ flat X := by
  have hl := hh.1
  have src := rng_ap (hs := consD (opS lenD (consD (nmD 1) nilD)) nilD) (r := [some (.lst 0), some (hpD h), none, none, none]) (M := cupC g c :: R) (M1 := cupC g c :: R) (j := h.length) (by
    simp only [consD_ap, bindD_ap, opS_ap, nmD_ap, nilD_ap, liftD_ap, List.getElem?_cons_succ, List.getElem?_cons_zero, lenD, hpD, List.length_map]) (by omega)
  have hc := compE_pure (vs := [3]) (slot := 3) (n := 100000) (s := .rng 0 h.length) (items := intsN (List.range h.length)) (p := fun d => !nonB (clD (h.getD (natOf d) none))) (g := fun d => d)
    (ifs := btestD (op2 (cmpD .IsNot) (op2 itemD (nmD 1) (nmD 3)) (cstD .non))) (elt := nmD 3) src (fun _ _ => next_rng) (fun d hd acc hk2 => by
      obtain ⟨n, hn, rfl⟩ := List.mem_map.mp hd
      have hn := List.mem_range.mp hn
      have a1 : atI (h.map clD) ((n : Nat) : Int) = some (clD (h.getD n none)) := by
        rw [atI_nat (by omega) (by rw [List.length_map]; omega), Int.toNat_natCast, getD_cl]
      have n1 : natOf (.int (n : Nat)) = n := Int.toNat_natCast n
      simp only [wipeD, btestD_ap, bindD_ap, op2_ap, nmD_ap, liftD_ap, List.set_cons_succ, List.set_cons_zero, List.getElem?_cons_succ, List.getElem?_cons_zero, hpD, itemD, ixD, a1, Option.map_some, cstD_ap, cmpD, is_non, blD, n1]) (fun d hd _ acc hk2 => ⟨by
        simp only [wipeD, nmD_ap, List.set_cons_succ, List.set_cons_zero, List.getElem?_cons_succ, List.getElem?_cons_zero], by
        obtain ⟨n, hn, rfl⟩ := List.mem_map.mp hd
        rfl⟩) (by simp; omega) (by simp; omega)
  have e : (((intsN (List.range h.length)).filter fun d => !nonB (clD (h.getD (natOf d) none))).map fun d => d) = intsN (addsOf h) := by
    rw [List.map_id', List.filter_map]
    rfl
  rw [e] at hc
  have al : (addsOf h).length ≤ 60 := Nat.le_trans (List.length_filter_le _ _) (by rw [List.length_range]; omega)
  obtain ⟨R2, hR2⟩ : ∃ R2, R2 = R ++ [Cell.lst (intsN (addsOf h))] := ⟨_, rfl⟩
  have W2 : Wr R2 := by
    rw [hR2]
    exact hR.add fun k => (flatC_nat (addsOf h) k).1
  have k2 : R2[R.length]? = some (.lst (intsN (addsOf h))) := by rw [hR2, List.getElem?_append_right (Nat.le_refl _), Nat.sub_self]; rfl
  have s1 : setS (compE (rngSrc1 (consD (opS lenD (consD (nmD 1) nilD)) nilD)) [3] (.one 3) (btestD (op2 (cmpD .IsNot) (op2 itemD (nmD 1) (nmD 3)) (cstD .non))) (nmD 3) 100000) (nmT 2) [some (.lst 0), some (hpD h), none, none, none] (cupC g c :: R) = some (.nx, [some (.lst 0), some (hpD h), some (.lst (R.length + 1)), none, none], cupC g c :: R2) := by
    refine set_ap hc ?_
    rw [hR2]
    rfl
  obtain ⟨ws, g1, c1, hg1, e1, w1, w2⟩ := q_many (L := ways5) (v := 4) (ms := [0, 1, 1, 2, 3]) (r := [some (.lst 0), some (hpD h), some (.lst (R.length + 1)), none, none]) (M := cupC g c :: R2) (g := g) (c := c) (R := R2) rfl rfl (by omega) (by
    simp only [opS_ap, bindD_ap, consD_ap, cstD_ap, nilD_ap, liftD_ap, lstD, List.length_cons, List.length_nil, sApp_eq]
    rfl) (by intro m hm; simp at hm; omega) (by decide) (by decide) k2 al W2 hg
  refine ⟨ws, g1, c1, [Cell.lst (intsN (addsOf h)), .lst (intsN [0, 1, 1, 2, 3]), .lst (ws.map Wd.d)], hg1, ?_, ⟨w1, fun w hw => ?_⟩, flatC_nat _, flatC_nat _, flatC_ws ws, trivial⟩
  · refine body_ap (r := [some (.lst 0), some (hpD h), none, none, none]) (r' := [some (.lst 0), some (hpD h), some (.lst (R.length + 1)), none, none]) rfl ?_
    unfold d__law_roots
    rw [seq_nx s1, hR2]
    have e2 := ret_ap e1
    rw [hR2] at e2
    simp only [List.append_assoc, List.cons_append, List.nil_append] at e2
    exact e2
  · obtain ⟨a1, a2⟩ := w2 w hw
    cases w with
    | non => trivial
    | num i =>
      have := a2 i rfl
      exact ⟨by omega, by omega⟩
    | ad n =>
      have hm := List.mem_filter.mp (a1 n rfl)
      have hn := List.mem_range.mp hm.1
      have z := hm.2
      rw [List.getD_eq_getElem?_getD, List.getElem?_eq_getElem hn] at z
      show ∃ c, h[n]? = some (some c)
      rw [List.getElem?_eq_getElem hn]
      cases e : h[n] with
      | none => rw [e] at z; cases z
      | some c => exact ⟨c, rfl⟩
end Py

-- PyQL
set_option maxRecDepth 100000
set_option maxHeartbeats 4000000
noncomputable section
namespace Py
open PySem PySem.Spec PyProof.Rows L2 PyD PyL PyH L2H HotX PyM PyK PyQ
/-! ### what is bent: what can be said of it -/
def oddsD (n a : Nat) : List D := [.non, .bl true, .int (-1), .int n, .int 0, .str "0", .tup [.str "num", .bl true], .tup [.str "num", .int 5], .tup [.str "num", .int 1000000000001], .lst a, .tup [.int 0], .tup [.str "num"]]
structure GO (M : Sto) (x : D) : Prop where
  ok : okR M.length x = true
  w : okw M x
  pw : pyw M x
  c : okc M x
  pc : pyc M x
  h : okh M x
  ph : pyh M x
structure GC (M : Sto) (y : D) : Prop where
  c : okc M y
  pc : pyc M y
structure GV (M : Sto) (v : D) : Prop where
  h : okh M v
  ph : pyh M v
def Ei (k : Nat) (MX : Sto) (P : Sto → D → Prop) (d : D) : Prop := (∀ M, P M d) ∨ (okR k d = false ∧ P MX d)
theorem Ei.map {k : Nat} {MX : Sto} {P Q : Sto → D → Prop} {d : D} {f : D → D} (e : Ei k MX P d) (h : ∀ M, P M d → Q M (f d)) (ho : okR k d = false → okR k (f d) = false) : Ei k MX Q (f d) := by
  rcases e with z | ⟨z1, z2⟩
  · exact .inl fun M => h M (z M)
  · exact .inr ⟨ho z1, h MX z2⟩
theorem ok_mem {k : Nat} {ds : List D} {d : D} (hm : d ∈ ds) (h : okR k d = false) : okRL k ds = false := by
  cases e : okRL k ds with
  | false => rfl
  | true => rw [okRL_iff.mp e d hm] at h; cases h
theorem lay_num : (PyData.str ("num" : Str)).canLay0 = true := by kernel_rfl
theorem lay_0 : (PyData.str ("0" : Str)).canLay0 = true := by kernel_rfl
theorem pv_num {M : Sto} : PyV M 1 (.str "num") (.str "num") := .str _ lay_num
theorem okc_str {M : Sto} {s : Str} : okc M (.str s) := ⟨trivial, fun ds e => by cases e⟩
theorem okc_int {M : Sto} {i : Int} : okc M (.int i) := ⟨trivial, fun ds e => by cases e⟩
theorem okc_bl {M : Sto} {i : Bool} : okc M (.bl i) := ⟨trivial, fun ds e => by cases e⟩
theorem okc_non {M : Sto} : okc M .non := ⟨trivial, fun ds e => by cases e⟩
theorem pyc_str {M : Sto} {s : Str} : pyc M (.str s) := fun ds e => by cases e
theorem pyc_int {M : Sto} {i : Int} : pyc M (.int i) := fun ds e => by cases e
theorem pyc_bl {M : Sto} {i : Bool} : pyc M (.bl i) := fun ds e => by cases e
theorem pyc_non {M : Sto} : pyc M .non := fun ds e => by cases e
theorem oks_bl {M : Sto} {b : Bool} : oks M (.bl b) := ⟨trivial, fun ds e => by cases e⟩
theorem oks_int {M : Sto} {b : Int} : oks M (.int b) := ⟨trivial, fun ds e => by cases e⟩
/-- plain ones -/
theorem go_plain {M : Sto} {x : D} (o : okR M.length x = true) (v : okv M x) (ht : ∀ ds, x ≠ .tup ds) (hp : pyw M x) : GO M x :=
  ⟨o, ⟨v, fun ds e => absurd e (ht ds)⟩, hp, ⟨v, fun ds e => absurd e (ht ds)⟩, fun ds e => absurd e (ht ds), ⟨v, fun ds e => absurd e (ht ds)⟩, fun ds e => absurd e (ht ds)⟩
theorem go_pair {M : Sto} {b : D} (o : okR M.length b = true) (v : okv M b) (hb : oks M b) (cb : okc M b) (pb : pyc M b) (ht : ∀ ds, b ≠ .tup ds) (hp : pyw M (.tup [.str "num", b])) : GO M (.tup [.str "num", b]) where
  ok := okRL_iff.mpr fun d hd => by
    rcases List.mem_cons.mp hd with rfl | hd
    · rfl
    · rw [List.mem_singleton.mp hd]; exact o
  w := ⟨trivial, fun ds e a b' e2 => by cases e; cases e2; exact ⟨⟨_, rfl⟩, v⟩⟩
  pw := hp
  c := ⟨trivial, fun ds e a b' e2 => by cases e; cases e2; exact ⟨⟨trivial, fun es e3 => by cases e3⟩, hb⟩⟩
  pc := fun ds e a b' e2 => by cases e; cases e2; exact fun ds e3 => absurd e3 (ht ds)
  h := ⟨trivial, fun ds e => by
    cases e
    exact ⟨by simp, fun c hc => by
      rcases List.mem_cons.mp hc with rfl | hc
      · exact okc_str
      · rw [List.mem_singleton.mp hc]; exact cb⟩⟩
  ph := fun ds e => by
    cases e
    intro c hc
    rcases List.mem_cons.mp hc with rfl | hc
    · exact pyc_str
    · rw [List.mem_singleton.mp hc]; exact pb
theorem go_one {M : Sto} {b : D} (o : okR M.length b = true) (cb : okc M b) (pb : pyc M b) (hp : pyw M (.tup [b])) : GO M (.tup [b]) where
  ok := okRL_iff.mpr fun d hd => by rw [List.mem_singleton.mp hd]; exact o
  w := ⟨trivial, fun ds e a b' e2 => by cases e; cases e2⟩
  pw := hp
  c := ⟨trivial, fun ds e a b' e2 => by cases e; cases e2⟩
  pc := fun ds e a b' e2 => by cases e; cases e2
  h := ⟨trivial, fun ds e => by
    cases e
    exact ⟨by simp, fun c hc => by rw [List.mem_singleton.mp hc]; exact cb⟩⟩
  ph := fun ds e => by
    cases e
    intro c hc
    rw [List.mem_singleton.mp hc]; exact pb
theorem py_pair {M : Sto} {b : D} {p : PyData} (h : PyV M 1 b p) : pyw M (.tup [.str "num", b]) := ⟨_, (PyS.tup (PyS.cons (pv_num.mono (by omega)) ((PyS.cons h (PyS.nil.mono (by omega))).mono (Nat.le_refl 2)))).mono (by omega)⟩
theorem py_one {M : Sto} {b : D} {p : PyData} (h : PyV M 1 b p) : pyw M (.tup [b]) := ⟨_, (PyS.tup (PyS.cons h (PyS.nil.mono (by omega)))).mono (by omega)⟩
theorem odds_good {n k : Nat} {MX : Sto} (hg : sGet MX k = some (.lst [.int 0])) {x : D} (hx : x ∈ oddsD n k) : Ei k MX GO x := by
  simp only [oddsD, List.mem_cons, List.not_mem_nil, or_false] at hx
  rcases hx with rfl | rfl | rfl | rfl | rfl | rfl | rfl | rfl | rfl | rfl | rfl | rfl
  · exact .inl fun M => go_plain rfl trivial (fun ds e => by cases e) ⟨_, PyV.non.mono (by omega)⟩
  · exact .inl fun M => go_plain rfl trivial (fun ds e => by cases e) ⟨_, (PyV.bl true).mono (by omega)⟩
  · exact .inl fun M => go_plain rfl trivial (fun ds e => by cases e) ⟨_, (PyV.int _).mono (by omega)⟩
  · exact .inl fun M => go_plain rfl trivial (fun ds e => by cases e) ⟨_, (PyV.int _).mono (by omega)⟩
  · exact .inl fun M => go_plain rfl trivial (fun ds e => by cases e) ⟨_, (PyV.int _).mono (by omega)⟩
  · exact .inl fun M => go_plain rfl trivial (fun ds e => by cases e) ⟨_, (PyV.str _ lay_0).mono (by omega)⟩
  · exact .inl fun M => go_pair rfl trivial oks_bl okc_bl pyc_bl (fun ds e => by cases e) (py_pair (PyV.bl true))
  · exact .inl fun M => go_pair rfl trivial oks_int okc_int pyc_int (fun ds e => by cases e) (py_pair (PyV.int _))
  · exact .inl fun M => go_pair rfl trivial oks_int okc_int pyc_int (fun ds e => by cases e) (py_pair (PyV.int _))
  · refine .inr ⟨decide_eq_false (Nat.lt_irrefl _), go_plain (decide_eq_true ?_) ⟨_, hg⟩ (fun ds e => by cases e) ⟨_, (PyS.lst hg (PyS.cons (PyV.int 0) (PyS.nil.mono (by omega)))).mono (by omega)⟩⟩
    rw [sGet_eq] at hg
    exact (List.getElem?_eq_some_iff.mp hg).1
  · exact .inl fun M => go_one rfl okc_int pyc_int (py_one (PyV.int _))
  · exact .inl fun M => go_one rfl okc_str pyc_str (py_one pv_num)
theorem wd_py (M : Sto) (w : Wd) : pyw M w.d := by
  cases w with
  | non => exact ⟨_, PyV.non.mono (by omega)⟩
  | num i => exact py_pair (PyV.int i)
  | ad n => exact ⟨_, (PyV.int _).mono (by omega)⟩
theorem ws_pys (M : Sto) (ws : List Wd) : pys M (wsD ws) := fun ds e => by
  cases e
  exact ⟨okRL_wd _ ws, fun w hw => by
    obtain ⟨x, _, rfl⟩ := List.mem_map.mp hw
    exact wd_py M x⟩
theorem cl_pyc (M : Sto) (c : Option Cl) : pyc M (clD c) := by
  cases c with
  | none => exact pyc_non
  | some c =>
    intro ds e a b e2
    cases e
    cases e2
    exact ws_pys M c.ws
/-- a cell: a label and words -/
theorem gc_cell {M : Sto} {a b : D} (h1 : okv M a) (h2 : ∀ es, a = .tup es → ∀ x ∈ es, okv M x) (h3 : oks M b) (h4 : pys M b) : GC M (.tup [a, b]) :=
  ⟨⟨trivial, fun ds e a b e2 => by cases e; cases e2; exact ⟨⟨h1, h2⟩, h3⟩⟩, fun ds e a b e2 => by cases e; cases e2; exact h4⟩
theorem lab_ok {M : Sto} {s : Str} : ∀ es, D.tup [.str s] = .tup es → ∀ x ∈ es, okv M x := fun es e x hx => by
  cases e
  rw [List.mem_singleton.mp hx]
  trivial
theorem oks_app {M : Sto} {ws : List Wd} {xs : List D} (h : ∀ x ∈ xs, okw M x) : oks M (.tup (ws.map Wd.d ++ xs)) := ⟨trivial, fun ds e w hw => by
  cases e
  rcases List.mem_append.mp hw with q | q
  · obtain ⟨x, _, rfl⟩ := List.mem_map.mp q
    exact wd_okv M x
  · exact h w q⟩
theorem pys_app {M : Sto} {ws : List Wd} {xs : List D} (ho : okRL M.length xs = true) (h : ∀ x ∈ xs, pyw M x) : pys M (.tup (ws.map Wd.d ++ xs)) := fun ds e => by
  cases e
  refine ⟨okRL_iff.mpr fun d hd => ?_, fun w hw => ?_⟩
  · rcases List.mem_append.mp hd with q | q
    · exact okRL_iff.mp (okRL_wd _ ws) d q
    · exact okRL_iff.mp ho d q
  · rcases List.mem_append.mp hw with q | q
    · obtain ⟨x, _, rfl⟩ := List.mem_map.mp q
      exact wd_py M x
    · exact h w q
def cellsD (lab : Str) (ws : List Wd) (x : D) (a b : Nat) : List D :=
  [.tup [.tup [.str lab], .tup (ws.map Wd.d ++ [x])], .tup [.tup [.str lab], .lst a], .tup [.lst b, wsD ws], .tup [.tup [], wsD ws], .tup [.tup [x], wsD ws], .tup [.tup [.str lab]], x,
    .tup [.tup [.str lab, x], wsD ws], .tup [.tup [.str lab], .tup (ws.map Wd.d ++ List.replicate 12 (.int 0))], .tup [.tup [.str lab], .tup []], .non]
theorem cells_good {lab : Str} {ws : List Wd} {x : D} {a b k : Nat} {MX : Sto} (hx : Ei k MX GO x) (ha : k ≤ a) (hb : k ≤ b) (ga : ∃ ds, sGet MX a = some (.lst ds)) (gb : ∃ ds, sGet MX b = some (.lst ds)) {y : D} (hy : y ∈ cellsD lab ws x a b) : Ei k MX GC y := by
  simp only [cellsD, List.mem_cons, List.not_mem_nil, or_false] at hy
  rcases hy with rfl | rfl | rfl | rfl | rfl | rfl | rfl | rfl | rfl | rfl | rfl
  · refine hx.map (f := fun x => .tup [.tup [.str lab], .tup (ws.map Wd.d ++ [x])]) (fun M g => gc_cell trivial lab_ok (oks_app fun z hz => ?_) (pys_app (okRL_iff.mpr fun z hz => ?_) fun z hz => ?_)) fun ho => ok_mem (d := .tup (ws.map Wd.d ++ [x])) (by simp) (ok_mem (d := x) (by simp) ho)
    · rw [List.mem_singleton.mp hz]; exact g.w
    · rw [List.mem_singleton.mp hz]; exact g.ok
    · rw [List.mem_singleton.mp hz]; exact g.pw
  · exact .inr ⟨ok_mem (d := .lst a) (by simp) (decide_eq_false (by omega)), gc_cell trivial lab_ok ⟨ga, fun ds e => by cases e⟩ fun ds e => by cases e⟩
  · exact .inr ⟨ok_mem (d := .lst b) (by simp) (decide_eq_false (by omega)), gc_cell gb (fun es e => by cases e) (ws_oks MX ws) (ws_pys MX ws)⟩
  · exact .inl fun M => gc_cell trivial (fun es e x hx => by cases e; cases hx) (ws_oks M ws) (ws_pys M ws)
  · exact hx.map (f := fun x => .tup [.tup [x], wsD ws]) (fun M g => gc_cell trivial (fun es e z hz => by
      cases e
      rw [List.mem_singleton.mp hz]
      exact g.w.1) (ws_oks M ws) (ws_pys M ws)) fun ho => ok_mem (d := .tup [x]) (by simp) (ok_mem (d := x) (by simp) ho)
  · exact .inl fun M => ⟨⟨trivial, fun ds e a b e2 => by cases e; cases e2⟩, fun ds e a b e2 => by cases e; cases e2⟩
  · exact hx.map (f := fun x => x) (fun M g => ⟨g.c, g.pc⟩) fun ho => ho
  · exact hx.map (f := fun x => .tup [.tup [.str lab, x], wsD ws]) (fun M g => gc_cell trivial (fun es e z hz => by
      cases e
      rcases List.mem_cons.mp hz with rfl | hz
      · trivial
      · rw [List.mem_singleton.mp hz]
        exact g.w.1) (ws_oks M ws) (ws_pys M ws)) fun ho => ok_mem (d := .tup [.str lab, x]) (by simp) (ok_mem (d := x) (by simp) ho)
  · exact .inl fun M => gc_cell trivial lab_ok (oks_app fun z hz => by
      rw [(List.mem_replicate.mp hz).2]
      exact ⟨trivial, fun ds e => by cases e⟩) (pys_app (okRL_iff.mpr fun z hz => by rw [(List.mem_replicate.mp hz).2]; rfl) fun z hz => by
      rw [(List.mem_replicate.mp hz).2]
      exact ⟨_, (PyV.int _).mono (by omega)⟩)
  · exact .inl fun M => gc_cell trivial lab_ok ⟨trivial, fun ds e w hw => by cases e; cases hw⟩ fun ds e => by cases e; exact ⟨rfl, fun w hw => by cases hw⟩
  · exact .inl fun M => ⟨okc_non, pyc_non⟩
theorem gv_tup {M : Sto} {ds : List D} (hl : ds.length < 3000) (h : ∀ c ∈ ds, GC M c) : GV M (.tup ds) :=
  ⟨⟨trivial, fun ds e => by cases e; exact ⟨hl, fun c hc => (h c hc).c⟩⟩, fun ds e c hc => by cases e; exact (h c hc).pc⟩
theorem gc_cl {M : Sto} {c : Option Cl} : GC M (clD c) := ⟨cl_okc M c, cl_pyc M c⟩
theorem gc_non {M : Sto} : GC M .non := ⟨okc_non, pyc_non⟩
theorem cut_mem {ds : List D} {lo hi : Option Int} {d : D} (h : d ∈ cutDs ds lo hi) : d ∈ ds := List.mem_of_mem_drop (List.mem_of_mem_take h)
theorem cut_len {ds : List D} {lo hi : Option Int} : (cutDs ds lo hi).length ≤ ds.length := by
  unfold cutDs
  rw [List.length_take, List.length_drop]
  omega
theorem other_good {h : Hpd} (hh : h.length ≤ 9) {y : D} {k : Nat} {MX : Sto} {a b a' b' : Option Int} (hy : Ei k MX GC y) : Ei k MX GV (.tup (cutDs (h.map clD) a b ++ [y] ++ cutDs (h.map clD) a' b')) := by
  refine hy.map (f := fun y => .tup (cutDs (h.map clD) a b ++ [y] ++ cutDs (h.map clD) a' b')) (fun M g => gv_tup ?_ fun c hc => ?_) fun ho => ok_mem (d := y) (by simp) ho
  · have l1 := cut_len (ds := h.map clD) (lo := a) (hi := b)
    have l2 := cut_len (ds := h.map clD) (lo := a') (hi := b')
    simp only [List.length_append, List.length_cons, List.length_nil, List.length_map] at *
    omega
  · rcases List.mem_append.mp hc with q | q
    · rcases List.mem_append.mp q with q | q
      · obtain ⟨z, _, rfl⟩ := List.mem_map.mp (cut_mem q)
        exact gc_cl
      · rw [List.mem_singleton.mp q]; exact g
    · obtain ⟨z, _, rfl⟩ := List.mem_map.mp (cut_mem q)
      exact gc_cl
theorem head_good {h : Hpd} (hh : h.length ≤ 9) {k : Nat} {MX : Sto} {a b : Option Int} : Ei k MX GV (.tup (cutDs (h.map clD) a b)) := .inl fun M => gv_tup (by
  have l1 := cut_len (ds := h.map clD) (lo := a) (hi := b)
  rw [List.length_map] at l1
  omega) fun c hc => by
  obtain ⟨z, _, rfl⟩ := List.mem_map.mp (cut_mem hc)
  exact gc_cl
theorem more_good {h : Hpd} (hh : h.length ≤ 9) {k n : Nat} {MX : Sto} (hn : n ≤ 1000) : Ei k MX GV (.tup (h.map clD ++ List.replicate n .non)) := .inl fun M => gv_tup (by
  rw [List.length_append, List.length_map, List.length_replicate]
  omega) fun c hc => by
  rcases List.mem_append.mp hc with q | q
  · obtain ⟨z, _, rfl⟩ := List.mem_map.mp q
    exact gc_cl
  · rw [(List.mem_replicate.mp q).2]
    exact gc_non
end Py

-- PyQM
set_option maxRecDepth 100000
set_option maxHeartbeats 4000000
noncomputable section
namespace Py
open PySem PySem.Spec PyProof.Rows L2 PyD PyL PyH L2H HotX PyM PyK PyQ
structure OKP (k : Nat) (d : D) : Prop where
  o : okR k d = true
  p : pureD d = true
theorem pureDs_iff : ∀ {ds : List D}, pureDs ds = true ↔ ∀ d ∈ ds, pureD d = true
  | [] => ⟨(fun _ d h => by cases h), (fun _ => rfl)⟩
  | d :: ds => by
    unfold pureDs
    rw [Bool.and_eq_true, pureDs_iff, List.forall_mem_cons]
theorem OKP.tup {k : Nat} {ds : List D} (h : ∀ d ∈ ds, OKP k d) : OKP k (.tup ds) := ⟨okRL_iff.mpr fun d hd => (h d hd).o, by
  unfold pureD
  exact pureDs_iff.mpr fun d hd => (h d hd).p⟩
theorem OKP.lst {k i : Nat} (h : i < k) : OKP k (.lst i) := ⟨decide_eq_true h, rfl⟩
theorem OKP.wd {k : Nat} {w : Wd} : OKP k w.d := ⟨okR_wd k w, by cases w <;> rfl⟩
theorem OKP.ws {k : Nat} {ws : List Wd} : OKP k (wsD ws) := .tup fun d hd => by
  obtain ⟨w, _, rfl⟩ := List.mem_map.mp hd
  exact .wd
theorem OKP.cl {k : Nat} {c : Option Cl} : OKP k (clD c) := by
  cases c with
  | none => exact ⟨rfl, rfl⟩
  | some c =>
    refine .tup fun d hd => ?_
    rcases List.mem_cons.mp hd with rfl | hd
    · exact ⟨rfl, rfl⟩
    · rw [List.mem_singleton.mp hd]; exact .ws
theorem OKP.hp {k : Nat} {h : Hpd} : OKP k (hpD h) := .tup fun d hd => by
  obtain ⟨w, _, rfl⟩ := List.mem_map.mp hd
  exact .cl
def okpC (k : Nat) (c : Cell) : Prop := okCell k c = true ∧ pureC c = true
theorem okp_cell {k : Nat} {ds : List D} (h : ∀ d ∈ ds, OKP k d) : okpC k (.lst ds) := ⟨okRL_iff.mpr fun d hd => (h d hd).o, pureDs_iff.mpr fun d hd => (h d hd).p⟩
theorem all2 {k : Nat} {a b : D} (h1 : OKP k a) (h2 : OKP k b) : ∀ d ∈ [a, b], OKP k d := fun d hd => by
  rcases List.mem_cons.mp hd with rfl | hd
  · exact h1
  · rw [List.mem_singleton.mp hd]; exact h2
theorem all1 {k : Nat} {a : D} (h1 : OKP k a) : ∀ d ∈ [a], OKP k d := fun d hd => by rw [List.mem_singleton.mp hd]; exact h1
theorem all_app {k : Nat} {a b : List D} (h1 : ∀ d ∈ a, OKP k d) (h2 : ∀ d ∈ b, OKP k d) : ∀ d ∈ a ++ b, OKP k d := fun d hd => (List.mem_append.mp hd).elim (h1 d) (h2 d)
theorem all_ws {k : Nat} {ws : List Wd} : ∀ d ∈ ws.map Wd.d, OKP k d := fun d hd => by
  obtain ⟨w, _, rfl⟩ := List.mem_map.mp hd
  exact .wd
theorem all_cl {k : Nat} {h : Hpd} : ∀ d ∈ h.map clD, OKP k d := fun d hd => by
  obtain ⟨w, _, rfl⟩ := List.mem_map.mp hd
  exact .cl
theorem odds_okp {n k K : Nat} (hk : k < K) : ∀ x ∈ oddsD n k, OKP K x := fun x hx => by
  simp only [oddsD, List.mem_cons, List.not_mem_nil, or_false] at hx
  rcases hx with rfl | rfl | rfl | rfl | rfl | rfl | rfl | rfl | rfl | rfl | rfl | rfl <;> first | exact ⟨rfl, rfl⟩ | exact .lst hk
theorem cells_okp {lab : Str} {ws : List Wd} {x : D} {a b K : Nat} (ha : a < K) (hb : b < K) (hx : OKP K x) : ∀ y ∈ cellsD lab ws x a b, OKP K y := fun y hy => by
  have hs : OKP K (.str lab) := ⟨rfl, rfl⟩
  have hl : OKP K (.tup [.str lab]) := .tup (all1 hs)
  simp only [cellsD, List.mem_cons, List.not_mem_nil, or_false] at hy
  rcases hy with rfl | rfl | rfl | rfl | rfl | rfl | rfl | rfl | rfl | rfl | rfl
  · exact .tup (all2 hl (.tup (all_app all_ws (all1 hx))))
  · exact .tup (all2 hl (.lst ha))
  · exact .tup (all2 (.lst hb) .ws)
  · exact .tup (all2 ⟨rfl, rfl⟩ .ws)
  · exact .tup (all2 (.tup (all1 hx)) .ws)
  · exact .tup (all1 hl)
  · exact hx
  · exact .tup (all2 (.tup (all2 hs hx)) .ws)
  · refine .tup (all2 hl (.tup (all_app all_ws fun z hz => ?_)))
    rw [(List.mem_replicate.mp hz).2]
    exact ⟨rfl, rfl⟩
  · exact .tup (all2 hl ⟨rfl, rfl⟩)
  · exact ⟨rfl, rfl⟩
def otherD (h : Hpd) (j : Nat) (y : D) : D := .tup (cutDs (h.map clD) none (some (j : Int)) ++ [y] ++ cutDs (h.map clD) (some ((j : Int) + 1)) none)
def lastD (h : Hpd) (j m a : Nat) (x y : D) : List D := [otherD h j y, otherD h j y, otherD h j y, otherD h j y, .lst a, .tup (cutDs (h.map clD) none (some (j : Int))), .tup (h.map clD ++ List.replicate m .non), x]
theorem other_okp {h : Hpd} {j K : Nat} {y : D} (hy : OKP K y) : OKP K (otherD h j y) := .tup (all_app (all_app (fun d hd => all_cl d (cut_mem hd)) (all1 hy)) fun d hd => all_cl d (cut_mem hd))
theorem last_okp {h : Hpd} {j m a K : Nat} {x y : D} (ha : a < K) (hx : OKP K x) (hy : OKP K y) : ∀ v ∈ lastD h j m a x y, OKP K v := fun v hv => by
  simp only [lastD, List.mem_cons, List.not_mem_nil, or_false] at hv
  rcases hv with rfl | rfl | rfl | rfl | rfl | rfl | rfl | rfl
  · exact other_okp hy
  · exact other_okp hy
  · exact other_okp hy
  · exact other_okp hy
  · exact .lst ha
  · exact .tup fun d hd => all_cl d (cut_mem hd)
  · refine .tup (all_app all_cl fun z hz => ?_)
    rw [(List.mem_replicate.mp hz).2]
    exact ⟨rfl, rfl⟩
  · exact hx
theorem last_good {h : Hpd} (hh : h.length ≤ 9) {j m a k : Nat} {x y : D} {MX : Sto} (hm : m ≤ 1000) (ha : k ≤ a) (ga : ∃ ds, sGet MX a = some (.lst ds)) (hx : Ei k MX GO x) (hy : Ei k MX GC y) {v : D} (hv : v ∈ lastD h j m a x y) : Ei k MX GV v := by
  simp only [lastD, List.mem_cons, List.not_mem_nil, or_false] at hv
  rcases hv with rfl | rfl | rfl | rfl | rfl | rfl | rfl | rfl
  · exact other_good hh hy
  · exact other_good hh hy
  · exact other_good hh hy
  · exact other_good hh hy
  · exact .inr ⟨decide_eq_false (by omega), ⟨ga, fun ds e => by cases e⟩, fun ds e => by cases e⟩
  · exact head_good hh
  · exact more_good hh hm
  · exact hx.map (f := fun x => x) (fun M g => ⟨g.h, g.ph⟩) fun ho => ho
def bentX (n : Nat) (h : Hpd) (x : D) (lab : Str) (ws : List Wd) (z8 : List D) : Sto := [.lst [.int 0], .lst (oddsD h.length (n + 1)), .lst (ws.map Wd.d), .lst [.str lab], .lst ((cellsD lab ws x (n + 3) (n + 4)).take 7), .lst ((cellsD lab ws x (n + 3) (n + 4)).drop 7), .lst (cellsD lab ws x (n + 3) (n + 4)), .lst (h.map clD), .lst [.int 1, .int 991, .int 1000], .lst z8]
theorem bentX_okp {n j m : Nat} {h : Hpd} {x y : D} {lab : Str} {ws : List Wd} (hx : x ∈ oddsD h.length (n + 1)) (hy : y ∈ cellsD lab ws x (n + 3) (n + 4)) : ∀ c ∈ bentX n h x lab ws (lastD h j m (n + 8) x y), okpC (n + 11) c := fun c hc => by
  have px := odds_okp (K := n + 11) (by omega) x hx
  have pc := cells_okp (lab := lab) (ws := ws) (a := n + 3) (b := n + 4) (K := n + 11) (by omega) (by omega) px
  have py := pc y hy
  simp only [bentX, List.mem_cons, List.not_mem_nil, or_false] at hc
  rcases hc with rfl | rfl | rfl | rfl | rfl | rfl | rfl | rfl | rfl | rfl
  · exact ⟨rfl, rfl⟩
  · exact okp_cell (odds_okp (by omega))
  · exact okp_cell all_ws
  · exact ⟨rfl, rfl⟩
  · exact okp_cell fun d hd => pc d (List.mem_of_mem_take hd)
  · exact okp_cell fun d hd => pc d (List.mem_of_mem_drop hd)
  · exact okp_cell pc
  · exact okp_cell all_cl
  · exact ⟨rfl, rfl⟩
  · exact okp_cell (last_okp (by omega) px py)
end Py

-- PyQN
set_option maxRecDepth 100000
set_option maxHeartbeats 4000000
noncomputable section
namespace Py
open PySem PySem.Spec PyProof.Rows L2 PyD PyL PyH L2H HotX PyM PyK PyQ
section
variable {r : DEnv} {M : Sto} {f : Den D} {l u : Den (Option Int)} {hs : Den (List D)} {a b : D} {x : D} {X : Den D}
theorem sliceE_ap : sliceE f l u r M = (bindD f fun a => bindD l fun lo => bindD u fun hi => liftD (fun p : D × Option Int × Option Int => slD p.1 p.2.1 p.2.2) (a, lo, hi)) r M := rfl
theorem noPart_ap : noPart r M = some (.ok none, M) := rfl
theorem somePart_ap : somePart f r M = (bindD f fun a => match a with
  | .int i => fun _ M => some (.ok (some i), M)
  | _ => fun _ _ => none) r M := rfl
theorem zeros12 : (List.replicate 12 [D.int 0]).flatten = List.replicate 12 (.int 0) := rfl
theorem flat_non (n : Nat) : (List.replicate n [D.non]).flatten = List.replicate n .non := by
  induction n with
  | zero => rfl
  | succ n ih => rw [List.replicate_succ, List.flatten_cons, ih, List.replicate_succ]; rfl
theorem mul_12 : mulD (.tup [.int 0]) (.int 12) M = some (.tup (List.replicate 12 (.int 0)), M) := by
  simp [mulD]
theorem mul_non {m : Nat} (hm : m = 1 ∨ m = 991 ∨ m = 1000) : mulD (.tup [.non]) (.int m) M = some (.tup (List.replicate m .non), M) := by
  rcases hm with rfl | rfl | rfl
  · rfl
  · have e := flat_non 991
    have : ((991 : Nat) : Int).toNat = 991 := rfl
    simp only [mulD]
    rw [if_neg (by decide), if_pos (by decide), this, e]
  · have e := flat_non 1000
    have : ((1000 : Nat) : Int).toNat = 1000 := rfl
    simp only [mulD]
    rw [if_neg (by decide), if_pos (by decide), this, e]
theorem add_tup {x y : List D} (h : x.length + y.length ≤ 100000) : addD (.tup x) (.tup y) M = some (.tup (x ++ y), M) := by
  simp only [addD, if_pos h]
theorem get_n {g c : Int} {R X : Sto} {k : Nat} : sGet (cupC g c :: (R ++ X)) (R.length + (k + 1)) = X[k]? := by
  rw [← Nat.add_assoc, get_cup, List.getElem?_append_right (Nat.le_add_right _ _), Nat.add_sub_cancel_left]
theorem get_nR {R X : Sto} {k : Nat} : (R ++ X)[R.length + k]? = X[k]? := by
  rw [List.getElem?_append_right (Nat.le_add_right _ _), Nat.add_sub_cancel_left]
end
abbrev odd12 : Den D := opS lstD (consD (cstD .non) (consD (cstD (.bl true)) (consD (op1 negD (cstD (.int 1))) (consD (opS lenD (consD (nmD 1) nilD)) (consD (cstD (.int 0)) (consD (cstD (.str "0")) (consD (opS tupD (consD (cstD (.str "num")) (consD (cstD (.bl true)) nilD))) (consD (opS tupD (consD (cstD (.str "num")) (consD (cstD (.int 5)) nilD))) (consD (opS tupD (consD (cstD (.str "num")) (consD (op2 (binD .Add) (op2 (binD .Pow) (cstD (.int 10)) (cstD (.int 12))) (cstD (.int 1))) nilD))) (consD (opS lstD (consD (cstD (.int 0)) nilD)) (consD (opS tupD (consD (cstD (.int 0)) nilD)) (consD (opS tupD (consD (cstD (.str "num")) nilD)) nilD))))))))))))
abbrev bent1 : SDen := PyK.parS 2 3 (consD (callE 2 f__law_roll (consD (nmD 0) (consD (opS lenD (consD (nmD 1) nilD)) nilD))) (consD (callE 2 f__law_some (consD (nmD 0) (consD odd12 nilD))) nilD))
theorem q_bent1 {g c : Int} {R : Sto} {h : Hpd} (hh : h.length ≤ 9) (h1 : 1 ≤ h.length) (hg : 0 ≤ g) : ∃ (j : Nat) (x : D) (g' c' : Int), j < h.length ∧ x ∈ oddsD h.length (R.length + 1) ∧ 0 ≤ g' ∧
    bent1 [some (.lst 0), some (hpD h), none, none, none, none, none, none] (cupC g c :: R) = some (.nx, [some (.lst 0), some (hpD h), some (.int j), some x, none, none, none, none], cupC g' c' :: (R ++ [.lst [.int 0], .lst (oddsD h.length (R.length + 1))])) := by
  obtain ⟨j, g1, c1, hj, hg1, e1⟩ := roll_eval g c h.length R (by omega) hg (by omega)
  have pw : ((10 : Int) ^ (12 : Int).toNat) = 1000000000000 := by decide
  have L : odd12 [some (.lst 0), some (hpD h), none, none, none, none, none, none] (cupC g1 c1 :: R) = some (.ok (.lst (R.length + 1 + 1)), cupC g1 c1 :: (R ++ [.lst [.int 0], .lst (oddsD h.length (R.length + 1))])) := by
    simp [opS_ap, bindD_ap, consD_ap, cstD_ap, op1_ap, negD, nmD_ap, lenD, hpD, tupD2, tupD1, op2_ap, binD, powD, addD, lstD, sApp_eq, nilD_ap, liftD_ap, oddsD, pw]
  obtain ⟨x, hx, g2, c2, hg2, e2⟩ := q_pick (r := [some (.lst 0), some (hpD h), none, none, none, none, none, none]) rfl L (things := oddsD h.length (R.length + 1)) get_nR (by simp [oddsD]) (by simp [oddsD]) hg1
  refine ⟨j, x, g2, c2, hj, hx, hg2, ?_⟩
  have le : opS lenD (consD (nmD 1) nilD) [some (.lst 0), some (hpD h), none, none, none, none, none, none] (cupC g c :: R) = some (.ok (.int h.length), cupC g c :: R) := by
    simp [opS_ap, bindD_ap, consD_ap, nmD_ap, nilD_ap, liftD_ap, lenD, hpD]
  have c1e : callE 2 f__law_roll (consD (nmD 0) (consD (opS lenD (consD (nmD 1) nilD)) nilD)) [some (.lst 0), some (hpD h), none, none, none, none, none, none] (cupC g c :: R) = some (.ok (.int j), cupC g1 c1 :: R) := by
    simp only [callE_ap, bindD_ap, consD_ap, nmD_ap, List.getElem?_cons_zero, le, nilD_ap, liftD_ap, List.length_cons, List.length_nil, if_true, e1]
  simp only [bent1, parS_ap, bindS_ap, consD_ap, bindD_ap, c1e, e2, nilD_ap, liftD_ap, List.set_cons_succ, List.set_cons_zero]
abbrev bent2 : SDen := setS (ifE (btestD (op2 (cmpD .IsNot) (op2 itemD (nmD 1) (nmD 2)) (cstD .non))) (op2 itemD (nmD 1) (nmD 2)) (opS tupD (consD (opS tupD (consD (cstD (.str "a")) nilD)) (consD (opS tupD nilD) nilD)))) (tupT 2 (consT (nmT 4) (consT (nmT 5) nilT)))
theorem q_bent2 {h : Hpd} (hh : hpOk h) {j : Nat} (hj : j < h.length) {x : D} : ∃ (lab : Str) (ws : List Wd), ws.length ≤ 3 ∧ ∀ M, bent2 [some (.lst 0), some (hpD h), some (.int j), some x, none, none, none, none] M = some (.nx, [some (.lst 0), some (hpD h), some (.int j), some x, some (.tup [.str lab]), some (wsD ws), none, none], M) := by
  have a1 : atI (h.map clD) ((j : Nat) : Int) = some (clD h[j]) := by
    rw [atI_nat (by omega) (by rw [List.length_map]; omega), Int.toNat_natCast, getD_cl, List.getD_eq_getElem?_getD, List.getElem?_eq_getElem hj]
    rfl
  have it : ∀ M, op2 itemD (nmD 1) (nmD 2) [some (.lst 0), some (hpD h), some (.int j), some x, none, none, none, none] M = some (.ok (clD h[j]), M) := fun M => by
    simp only [op2_ap, bindD_ap, nmD_ap, List.getElem?_cons_succ, List.getElem?_cons_zero, liftD_ap, itemD, hpD, ixD, a1, Option.map_some]
  cases e : h[j] with
  | none =>
    rw [e] at it
    refine ⟨"a", [], Nat.zero_le _, fun M => set_ap (d := .tup [.tup [.str "a"], .tup []]) ?_ rfl⟩
    rw [ifE_ap, bindD_ap, btestD_ap, bindD_ap, op2_ap, bindD_ap, it]
    simp only [bindD_ap, cstD_ap, liftD_ap, cmpD, is_non, clD, nonB, Bool.not_true, blD, if_false, Bool.false_eq_true, opS_ap, consD_ap, nilD_ap, tupD0, tupD1, tupD2]
  | some cc =>
    rw [e] at it
    have hm : some cc ∈ h := e ▸ List.getElem_mem hj
    refine ⟨cc.lab, cc.ws, (hh.2 cc hm).1, fun M => set_ap (d := cc.d) ?_ rfl⟩
    rw [ifE_ap, bindD_ap, btestD_ap, bindD_ap, op2_ap, bindD_ap, it]
    simp only [bindD_ap, cstD_ap, liftD_ap, cmpD, is_non, clD, Cl.d, nonB, Bool.not_false, blD, if_true]
    exact it M
end Py

-- PyQP
set_option maxRecDepth 100000
set_option maxHeartbeats 4000000
noncomputable section
namespace Py
open PySem PySem.Spec PyProof.Rows L2 PyD PyL PyH L2H HotX PyM PyK PyQ
abbrev bent3 : SDen := setS (opS lstD (consD (opS tupD (consD (nmD 4) (consD (op2 (binD .Add) (nmD 5) (opS tupD (consD (nmD 3) nilD))) nilD))) (consD (opS tupD (consD (nmD 4) (consD (opS listD (consD (nmD 5) nilD)) nilD))) (consD (opS tupD (consD (opS listD (consD (nmD 4) nilD)) (consD (nmD 5) nilD))) (consD (opS tupD (consD (opS tupD nilD) (consD (nmD 5) nilD))) (consD (opS tupD (consD (opS tupD (consD (nmD 3) nilD)) (consD (nmD 5) nilD))) (consD (opS tupD (consD (nmD 4) nilD)) (consD (nmD 3) nilD)))))))) (nmT 6)
abbrev bent4 : SDen := setS (op2 (binD .Add) (nmD 6) (opS lstD (consD (opS tupD (consD (op2 (binD .Add) (nmD 4) (opS tupD (consD (nmD 3) nilD))) (consD (nmD 5) nilD))) (consD (opS tupD (consD (nmD 4) (consD (op2 (binD .Add) (nmD 5) (op2 (binD .Mult) (opS tupD (consD (cstD (.int 0)) nilD)) (cstD (.int 12)))) nilD))) (consD (opS tupD (consD (nmD 4) (consD (opS tupD nilD) nilD))) (consD (cstD .non) nilD)))))) (nmT 6)
abbrev bent5 : SDen := setS (op2 (binD .Add) (op2 (binD .Add) (sliceE (nmD 1) noPart (somePart (nmD 2))) (opS tupD (consD (callE 2 f__law_some (consD (nmD 0) (consD (nmD 6) nilD))) nilD))) (sliceE (nmD 1) (somePart (op2 (binD .Add) (nmD 2) (cstD (.int 1)))) noPart)) (nmT 7)
abbrev last8 : Den D := opS lstD (consD (nmD 7) (consD (nmD 7) (consD (nmD 7) (consD (nmD 7) (consD (opS listD (consD (nmD 1) nilD)) (consD (sliceE (nmD 1) noPart (somePart (nmD 2))) (consD (op2 (binD .Add) (nmD 1) (op2 (binD .Mult) (opS tupD (consD (cstD .non) nilD)) (callE 2 f__law_some (consD (nmD 0) (consD (opS lstD (consD (cstD (.int 1)) (consD (cstD (.int 991)) (consD (cstD (.int 1000)) nilD)))) nilD))))) (consD (nmD 3) nilD))))))))
theorem add_ws {M : Sto} {ws : List Wd} {x : D} (hw : ws.length ≤ 3) : addD (.tup (ws.map Wd.d)) (.tup [x]) M = some (.tup (ws.map Wd.d ++ [x]), M) := add_tup (by rw [List.length_map]; simp; omega)
theorem add_ws12 {M : Sto} {ws : List Wd} (hw : ws.length ≤ 3) : addD (.tup (ws.map Wd.d)) (.tup (List.replicate 12 (.int 0))) M = some (.tup (ws.map Wd.d ++ List.replicate 12 (.int 0)), M) := add_tup (by rw [List.length_map]; simp; omega)
theorem add_lab {M : Sto} {s : Str} {x : D} : addD (.tup [.str s]) (.tup [x]) M = some (.tup [.str s, x], M) := add_tup (by simp)
theorem q_bent3 {g c : Int} {R : Sto} {h : Hpd} {j : Int} {x : D} {lab : Str} {ws : List Wd} {n : Nat} (hw : ws.length ≤ 3) (hn : R.length = n + 2) :
    bent3 [some (.lst 0), some (hpD h), some (.int j), some x, some (.tup [.str lab]), some (wsD ws), none, none] (cupC g c :: R) = some (.nx, [some (.lst 0), some (hpD h), some (.int j), some x, some (.tup [.str lab]), some (wsD ws), some (.lst (n + 5)), none], cupC g c :: (R ++ [.lst (ws.map Wd.d), .lst [.str lab], .lst ((cellsD lab ws x (n + 3) (n + 4)).take 7)])) := by
  have l7 : ∀ a b c d e f g : D, [a, b, c, d, e, f, g].length ≤ 100000 := fun _ _ _ _ _ _ _ => by simp
  refine set_ap (d := .lst (n + 5)) (M1 := cupC g c :: (R ++ [.lst (ws.map Wd.d), .lst [.str lab], .lst ((cellsD lab ws x (n + 3) (n + 4)).take 7)])) ?_ rfl
  have e3 : (cupC g c :: R).length = n + 3 := by rw [List.length_cons, hn]
  have e4 : (cupC g c :: R ++ [Cell.lst (ws.map Wd.d)]).length = n + 4 := by simp [hn]
  have e5 : (cupC g c :: R ++ [Cell.lst (ws.map Wd.d)] ++ [Cell.lst [.str lab]]).length = n + 5 := by simp [hn]
  simp only [opS_ap, bindD_ap, consD_ap, nmD_ap, List.getElem?_cons_succ, List.getElem?_cons_zero, op2_ap, nilD_ap, liftD_ap, tupD0, tupD1, tupD2, binD, add_ws hw, listD, sApp_eq, e3, e4, e5, lstD, if_pos (l7 _ _ _ _ _ _ _)]
  simp only [List.append_assoc, List.cons_append, List.nil_append]
  rfl
theorem q_bent4 {g c : Int} {R : Sto} {h : Hpd} {j : Int} {x : D} {lab : Str} {ws : List Wd} {n : Nat} (hw : ws.length ≤ 3) (hn : R.length = n + 5) (hk : R[n + 4]? = some (.lst ((cellsD lab ws x (n + 3) (n + 4)).take 7))) :
    bent4 [some (.lst 0), some (hpD h), some (.int j), some x, some (.tup [.str lab]), some (wsD ws), some (.lst (n + 5)), none] (cupC g c :: R) = some (.nx, [some (.lst 0), some (hpD h), some (.int j), some x, some (.tup [.str lab]), some (wsD ws), some (.lst (n + 7)), none], cupC g c :: (R ++ [.lst ((cellsD lab ws x (n + 3) (n + 4)).drop 7), .lst (cellsD lab ws x (n + 3) (n + 4))])) := by
  refine set_ap (d := .lst (n + 7)) (M1 := cupC g c :: (R ++ [.lst ((cellsD lab ws x (n + 3) (n + 4)).drop 7), .lst (cellsD lab ws x (n + 3) (n + 4))])) ?_ rfl
  have e6 : (cupC g c :: R).length = n + 6 := by rw [List.length_cons, hn]
  have e7 : (cupC g c :: (R ++ [Cell.lst ((cellsD lab ws x (n + 3) (n + 4)).drop 7)])).length = n + 7 := by simp [hn]
  have g5 : sGet (cupC g c :: (R ++ [Cell.lst ((cellsD lab ws x (n + 3) (n + 4)).drop 7)])) (n + 5) = some (.lst ((cellsD lab ws x (n + 3) (n + 4)).take 7)) := by
    rw [get_cup, List.getElem?_append_left (by omega)]
    exact hk
  have g6 : sGet (cupC g c :: (R ++ [Cell.lst ((cellsD lab ws x (n + 3) (n + 4)).drop 7)])) (n + 6) = some (.lst ((cellsD lab ws x (n + 3) (n + 4)).drop 7)) := by
    rw [get_cup, List.getElem?_append_right (by omega), hn, Nat.sub_self]
    rfl
  have q : opS lstD (consD (opS tupD (consD (op2 (binD .Add) (nmD 4) (opS tupD (consD (nmD 3) nilD))) (consD (nmD 5) nilD))) (consD (opS tupD (consD (nmD 4) (consD (op2 (binD .Add) (nmD 5) (op2 (binD .Mult) (opS tupD (consD (cstD (.int 0)) nilD)) (cstD (.int 12)))) nilD))) (consD (opS tupD (consD (nmD 4) (consD (opS tupD nilD) nilD))) (consD (cstD .non) nilD)))) [some (.lst 0), some (hpD h), some (.int j), some x, some (.tup [.str lab]), some (wsD ws), some (.lst (n + 5)), none] (cupC g c :: R) = some (.ok (.lst (n + 6)), cupC g c :: (R ++ [Cell.lst ((cellsD lab ws x (n + 3) (n + 4)).drop 7)])) := by
    have l4 : ∀ a b c d : D, [a, b, c, d].length ≤ 100000 := fun _ _ _ _ => by simp
    simp only [opS_ap, bindD_ap, consD_ap, nmD_ap, List.getElem?_cons_succ, List.getElem?_cons_zero, op2_ap, nilD_ap, liftD_ap, tupD0, tupD1, tupD2, cstD_ap, binD, add_ws12 hw, add_lab, mul_12, sApp_eq, e6, lstD, if_pos (l4 _ _ _ _)]
    rfl
  have le : ((cellsD lab ws x (n + 3) (n + 4)).take 7).length + ((cellsD lab ws x (n + 3) (n + 4)).drop 7).length ≤ 100000 := by simp [cellsD]
  rw [op2_ap, bindD_ap, nmD_ap]
  simp only [List.getElem?_cons_succ, List.getElem?_cons_zero]
  rw [bindD_ap, q]
  simp only [liftD_ap, binD, addD, g5, g6, if_pos le, sApp_eq, e7, List.take_append_drop, List.append_assoc, List.cons_append, List.nil_append]
theorem q_bent5 {g c : Int} {R : Sto} {h : Hpd} {j : Nat} {x : D} {lab : Str} {ws : List Wd} {n : Nat} {cells : List D} (hh : h.length ≤ 9) (hk : R[n + 6]? = some (.lst cells)) (hc : 0 < cells.length) (hc2 : cells.length < 1000) (hg : 0 ≤ g) : ∃ y ∈ cells, ∃ g' c' : Int, 0 ≤ g' ∧
    bent5 [some (.lst 0), some (hpD h), some (.int j), some x, some (.tup [.str lab]), some (wsD ws), some (.lst (n + 7)), none] (cupC g c :: R) = some (.nx, [some (.lst 0), some (hpD h), some (.int j), some x, some (.tup [.str lab]), some (wsD ws), some (.lst (n + 7)), some (otherD h j y)], cupC g' c' :: R) := by
  obtain ⟨y, hy, g2, c2, hg2, e⟩ := q_pick (L := nmD 6) (r := [some (.lst 0), some (hpD h), some (.int j), some x, some (.tup [.str lab]), some (wsD ws), some (.lst (n + 7)), none]) (M := cupC g c :: R) (R' := R) (g := g) (c := c) rfl rfl hk hc hc2 hg
  refine ⟨y, hy, g2, c2, hg2, set_ap (d := otherD h j y) (M1 := cupC g2 c2 :: R) ?_ rfl⟩
  have l1 : (cutDs (h.map clD) none (some (j : Int))).length + [y].length ≤ 100000 := by
    have := cut_len (ds := h.map clD) (lo := none) (hi := some (j : Int))
    rw [List.length_map] at this
    simp
    omega
  have l2 : (cutDs (h.map clD) none (some (j : Int)) ++ [y]).length + (cutDs (h.map clD) (some ((j : Int) + 1)) none).length ≤ 100000 := by
    have := cut_len (ds := h.map clD) (lo := none) (hi := some (j : Int))
    have := cut_len (ds := h.map clD) (lo := some ((j : Int) + 1)) (hi := none)
    rw [List.length_map] at *
    simp
    omega
  have ii : ∀ M : Sto, addD (.int j) (.int 1) M = some (.int ((j : Int) + 1), M) := fun M => rfl
  simp only [op2_ap, bindD_ap, sliceE_ap, nmD_ap, List.getElem?_cons_succ, List.getElem?_cons_zero, noPart_ap, somePart_ap, liftD_ap, hpD, slD, opS_ap, consD_ap, e, nilD_ap, tupD1, binD, add_tup l1, add_tup l2, cstD_ap, ii]
  simp only [hpD] at e
  rw [e]
  simp only [add_tup l1, tupD1, add_tup l2]
  rfl
end Py

-- PyQR
set_option maxRecDepth 100000
set_option maxHeartbeats 4000000
noncomputable section
namespace Py
open PySem PySem.Spec PyProof.Rows L2 PyD PyL PyH L2H HotX PyM PyK PyQ
theorem q_last {g c : Int} {R : Sto} {h : Hpd} {j : Nat} {x y : D} {lab : Str} {ws : List Wd} {n : Nat} (hh : h.length ≤ 9) (hn : R.length = n + 7) (hg : 0 ≤ g) : ∃ (m : Nat) (g' c' : Int), m ≤ 1000 ∧ 0 ≤ g' ∧
    last8 [some (.lst 0), some (hpD h), some (.int j), some x, some (.tup [.str lab]), some (wsD ws), some (.lst (n + 7)), some (otherD h j y)] (cupC g c :: R) = some (.ok (.lst (n + 9 + 1)), cupC g' c' :: (R ++ [.lst (h.map clD), .lst [.int 1, .int 991, .int 1000], .lst (lastD h j m (n + 8) x y)])) := by
  have L : opS lstD (consD (cstD (.int 1)) (consD (cstD (.int 991)) (consD (cstD (.int 1000)) nilD))) [some (.lst 0), some (hpD h), some (.int j), some x, some (.tup [.str lab]), some (wsD ws), some (.lst (n + 7)), some (otherD h j y)] (cupC g c :: (R ++ [.lst (h.map clD)])) = some (.ok (.lst (n + 8 + 1)), cupC g c :: (R ++ [.lst (h.map clD), .lst [.int 1, .int 991, .int 1000]])) := by
    have e9 : (cupC g c :: (R ++ [Cell.lst (h.map clD)])).length = n + 8 + 1 := by simp [hn]
    have l3 : ∀ a b c : D, [a, b, c].length ≤ 100000 := fun _ _ _ => by simp
    simp only [opS_ap, bindD_ap, consD_ap, cstD_ap, nilD_ap, liftD_ap, lstD, sApp_eq, e9, if_pos (l3 _ _ _), List.append_assoc, List.cons_append, List.nil_append]
  obtain ⟨d, hd, g2, c2, hg2, e⟩ := q_pick (r := [some (.lst 0), some (hpD h), some (.int j), some x, some (.tup [.str lab]), some (wsD ws), some (.lst (n + 7)), some (otherD h j y)]) rfl L (things := [.int 1, .int 991, .int 1000]) (by rw [show n + 8 = R.length + 1 by omega, get_nR]; rfl) (by simp) (by simp) hg
  obtain ⟨m, hm, rfl⟩ : ∃ m : Nat, (m = 1 ∨ m = 991 ∨ m = 1000) ∧ d = .int m := by
    simp at hd
    rcases hd with rfl | rfl | rfl
    · exact ⟨1, .inl rfl, rfl⟩
    · exact ⟨991, .inr (.inl rfl), rfl⟩
    · exact ⟨1000, .inr (.inr rfl), rfl⟩
  have hm2 : m ≤ 1000 := by omega
  refine ⟨m, g2, c2, hm2, hg2, ?_⟩
  have e8 : (cupC g c :: R).length = n + 8 := by rw [List.length_cons, hn]
  have e10 : (cupC g2 c2 :: (R ++ [Cell.lst (h.map clD), .lst [.int 1, .int 991, .int 1000]])).length = n + 9 + 1 := by simp [hn]
  have l8 : ∀ a b c d e f g h : D, [a, b, c, d, e, f, g, h].length ≤ 100000 := fun _ _ _ _ _ _ _ _ => by simp
  have lad : (h.map clD).length + (List.replicate m D.non).length ≤ 100000 := by rw [List.length_map, List.length_replicate]; omega
  have s1 : ∀ M : Sto, op2 (binD .Mult) (opS tupD (consD (cstD .non) nilD)) (callE 2 f__law_some (consD (nmD 0) (consD (opS lstD (consD (cstD (.int 1)) (consD (cstD (.int 991)) (consD (cstD (.int 1000)) nilD)))) nilD))) [some (.lst 0), some (hpD h), some (.int j), some x, some (.tup [.str lab]), some (wsD ws), some (.lst (n + 7)), some (otherD h j y)] (cupC g c :: (R ++ [.lst (h.map clD)])) = some (.ok (.tup (List.replicate m .non)), cupC g2 c2 :: (R ++ [.lst (h.map clD), .lst [.int 1, .int 991, .int 1000]])) := fun M => by
    rw [op2_ap, bindD_ap]
    have t : opS tupD (consD (cstD .non) nilD) [some (.lst 0), some (hpD h), some (.int j), some x, some (.tup [.str lab]), some (wsD ws), some (.lst (n + 7)), some (otherD h j y)] (cupC g c :: (R ++ [.lst (h.map clD)])) = some (.ok (.tup [.non]), cupC g c :: (R ++ [.lst (h.map clD)])) := by
      simp only [opS_ap, bindD_ap, consD_ap, cstD_ap, nilD_ap, liftD_ap, tupD1]
    rw [t]
    dsimp only
    rw [bindD_ap, e]
    dsimp only
    rw [liftD_ap]
    dsimp only [binD]
    rw [mul_non hm]
  have s2 : op2 (binD .Add) (nmD 1) (op2 (binD .Mult) (opS tupD (consD (cstD .non) nilD)) (callE 2 f__law_some (consD (nmD 0) (consD (opS lstD (consD (cstD (.int 1)) (consD (cstD (.int 991)) (consD (cstD (.int 1000)) nilD)))) nilD)))) [some (.lst 0), some (hpD h), some (.int j), some x, some (.tup [.str lab]), some (wsD ws), some (.lst (n + 7)), some (otherD h j y)] (cupC g c :: (R ++ [.lst (h.map clD)])) = some (.ok (.tup (h.map clD ++ List.replicate m .non)), cupC g2 c2 :: (R ++ [.lst (h.map clD), .lst [.int 1, .int 991, .int 1000]])) := by
    rw [op2_ap, bindD_ap, nmD_ap]
    simp only [List.getElem?_cons_succ, List.getElem?_cons_zero]
    rw [bindD_ap, s1 []]
    dsimp only
    rw [liftD_ap]
    dsimp only [binD]
    unfold hpD
    rw [add_tup lad]
  have s3 : sliceE (nmD 1) noPart (somePart (nmD 2)) [some (.lst 0), some (hpD h), some (.int j), some x, some (.tup [.str lab]), some (wsD ws), some (.lst (n + 7)), some (otherD h j y)] (cupC g c :: (R ++ [.lst (h.map clD)])) = some (.ok (.tup (cutDs (h.map clD) none (some (j : Int)))), cupC g c :: (R ++ [.lst (h.map clD)])) := by
    simp only [sliceE_ap, bindD_ap, nmD_ap, List.getElem?_cons_succ, List.getElem?_cons_zero, noPart_ap, somePart_ap, liftD_ap, hpD, slD]
  have s4 : opS listD (consD (nmD 1) nilD) [some (.lst 0), some (hpD h), some (.int j), some x, some (.tup [.str lab]), some (wsD ws), some (.lst (n + 7)), some (otherD h j y)] (cupC g c :: R) = some (.ok (.lst (n + 8)), cupC g c :: (R ++ [.lst (h.map clD)])) := by
    simp only [opS_ap, bindD_ap, consD_ap, nmD_ap, List.getElem?_cons_succ, List.getElem?_cons_zero, nilD_ap, liftD_ap, hpD, listD, sApp_eq, e8, List.cons_append]
  unfold last8
  rw [opS_ap, bindD_ap]
  simp only [consD_ap, bindD_ap, nmD_ap, List.getElem?_cons_succ, List.getElem?_cons_zero, s4, s3, s2, nilD_ap, liftD_ap, lstD, if_pos (l8 _ _ _ _ _ _ _ _), sApp_eq, e10, List.append_assoc, List.cons_append, List.nil_append]
  rfl
theorem q_bent0 {g c : Int} {R : Sto} {h : Hpd} (hh : hpOk h) (h1 : 1 ≤ h.length) (hg : 0 ≤ g) : ∃ (v : D) (g' c' : Int) (X : Sto), 0 ≤ g' ∧ f__law_bent [.lst 0, hpD h] (cupC g c :: R) = some (.ok v, cupC g' c' :: (R ++ X)) ∧ (∀ z ∈ X, okpC (R.length + 11) z) ∧ X.length = 10 ∧ Ei (R.length + 1) (cupC g' c' :: (R ++ X)) GV v ∧ OKP (R.length + 11) v := by
  obtain ⟨j, x, g1, c1, hj, hx, hg1, e1⟩ := q_bent1 (R := R) (c := c) hh.1 h1 hg
  obtain ⟨lab, ws, hw, e2⟩ := q_bent2 hh hj (x := x)
  have e3 := q_bent3 (g := g1) (c := c1) (R := R ++ [.lst [.int 0], .lst (oddsD h.length (R.length + 1))]) (h := h) (j := j) (x := x) (lab := lab) (n := R.length) hw (by simp)
  have e4 := q_bent4 (g := g1) (c := c1) (R := R ++ [.lst [.int 0], .lst (oddsD h.length (R.length + 1))] ++ [.lst (ws.map Wd.d), .lst [.str lab], .lst ((cellsD lab ws x (R.length + 3) (R.length + 4)).take 7)]) (h := h) (j := j) (x := x) (lab := lab) (n := R.length) hw (by simp) (by rw [List.append_assoc, get_nR]; rfl)
  obtain ⟨R5, hR5⟩ : ∃ R5, R5 = R ++ [Cell.lst [.int 0], .lst (oddsD h.length (R.length + 1)), .lst (ws.map Wd.d), .lst [.str lab], .lst ((cellsD lab ws x (R.length + 3) (R.length + 4)).take 7), .lst ((cellsD lab ws x (R.length + 3) (R.length + 4)).drop 7), .lst (cellsD lab ws x (R.length + 3) (R.length + 4))] := ⟨_, rfl⟩
  simp only [List.append_assoc, List.cons_append, List.nil_append] at e3 e4
  rw [← hR5] at e4
  obtain ⟨y, hy, g2, c2, hg2, e5⟩ := q_bent5 (g := g1) (c := c1) (R := R5) (h := h) (j := j) (x := x) (lab := lab) (ws := ws) (n := R.length) (cells := cellsD lab ws x (R.length + 3) (R.length + 4)) hh.1 (by rw [hR5, get_nR]; rfl) (by simp [cellsD]) (by simp [cellsD]) hg1
  obtain ⟨m, g3, c3, hm, hg3, e6⟩ := q_last (g := g2) (c := c2) (R := R5) (h := h) (j := j) (x := x) (y := y) (lab := lab) (ws := ws) (n := R.length) hh.1 (by rw [hR5]; simp) hg2
  obtain ⟨R6, hR6⟩ : ∃ R6, R6 = R ++ bentX R.length h x lab ws (lastD h j m (R.length + 8) x y) := ⟨_, rfl⟩
  have e56 : R5 ++ [Cell.lst (h.map clD), .lst [.int 1, .int 991, .int 1000], .lst (lastD h j m (R.length + 8) x y)] = R6 := by
    rw [hR5, hR6, List.append_assoc]
    rfl
  rw [e56] at e6
  obtain ⟨v, hv, g4, c4, hg4, e7⟩ := q_pick (r := [some (.lst 0), some (hpD h), some (.int j), some x, some (.tup [.str lab]), some (wsD ws), some (.lst (R.length + 7)), some (otherD h j y)]) rfl e6 (things := lastD h j m (R.length + 8) x y) (by rw [hR6, get_nR]; rfl) (by simp [lastD]) (by simp [lastD]) hg3
  have gk : ∀ k, sGet (cupC g4 c4 :: R6) (R.length + (k + 1)) = (bentX R.length h x lab ws (lastD h j m (R.length + 8) x y))[k]? := fun k => by rw [hR6]; exact get_n
  have gx := odds_good (n := h.length) (k := R.length + 1) (MX := cupC g4 c4 :: R6) (gk 0) hx
  have gy := cells_good (a := R.length + 3) (b := R.length + 4) gx (by omega) (by omega) ⟨_, gk 2⟩ ⟨_, gk 3⟩ hy
  have gv := last_good hh.1 hm (by omega) ⟨_, gk 7⟩ gx gy hv
  have px := odds_okp (K := R.length + 11) (by omega) x hx
  have py := cells_okp (K := R.length + 11) (by omega) (by omega) px y hy
  have pv := last_okp (K := R.length + 11) (by omega) px py v hv
  refine ⟨v, g4, c4, bentX R.length h x lab ws (lastD h j m (R.length + 8) x y), hg4, ?_, bentX_okp hx hy, rfl, ?_, pv⟩
  · refine body_ap (r := [some (.lst 0), some (hpD h), none, none, none, none, none, none]) (r' := [some (.lst 0), some (hpD h), some (.int j), some x, some (.tup [.str lab]), some (wsD ws), some (.lst (R.length + 7)), some (otherD h j y)]) rfl ?_
    unfold d__law_bent
    rw [seq_nx e1, seq_nx (e2 _), seq_nx e3, seq_nx e4, seq_nx e5]
    have e8 := ret_ap e7
    rw [hR6] at e8
    exact e8
  · rw [← hR6]
    exact gv
end Py

-- PyQS
set_option maxRecDepth 100000
set_option maxHeartbeats 4000000
noncomputable section
namespace Py
open PySem PySem.Spec PyProof.Rows L2 PyD PyL PyH L2H HotX PyM PyK PyQ
theorem WF.flat {M : Sto} (h : WF M) : ∀ {X : Sto}, flat X → WF (M ++ X)
  | [], _ => by rw [List.append_nil]; exact h
  | c :: X, f => by
    rw [show M ++ c :: X = (M ++ [c]) ++ X by rw [List.append_assoc]; rfl]
    exact WF.flat (h.add (f.1 _).1) f.2
/-- a list that comes out: trimmed or not -/
theorem trim_lst {f : Den D} {r : DEnv} {M X : Sto} {k : Nat} {c : Cell} (h : f r M = some (.ok (.lst k), M ++ X)) (hM : WF M) (hk : sGet (M ++ X) k = some c) (hf : flat X) : ∃ X', trimE f r M = some (.ok (.lst k), M ++ X') ∧ sGet (M ++ X') k = some c ∧ flat X' := by
  by_cases hl : k < M.length
  · refine ⟨[], ?_, ?_, trivial⟩
    · rw [List.append_nil]
      exact trimE_one h hM (decide_eq_true hl)
    · rw [List.append_nil, ← hk, get_old hl]
  · exact ⟨X, trimE_new h (decide_eq_false hl), hk, hf⟩
theorem intsD_nat : ∀ l : List Nat, intsD (intsN l) = some (l.map fun n : Nat => (n : Int))
  | [] => rfl
  | n :: l => by
    show (intsD (intsN l)).map (fun ns => (n : Int) :: ns) = _
    rw [intsD_nat l]
    rfl
theorem isort_same {l l' : List Nat} (h : l.Nodup) (h' : l'.Nodup) (e : ∀ n, n ∈ l ↔ n ∈ l') : isort (l.map fun n : Nat => (n : Int)) = isort (l'.map fun n : Nat => (n : Int)) :=
  up_uniq ((isort_perm _).trans ((((List.perm_ext_iff_of_nodup h h').mpr e).map _).trans (isort_perm _).symm)) (isort_up _) (isort_up _)
section
variable {h : Hpd} {rs : List Wd} {M : Sto}
abbrev rightS1 : SDen := setS (opS PyK.sortID (consD (trimE (callE 3 f__law_reached (consD (nmD 1) (consD (nmD 2) (consD (cstD .non) nilD))))) nilD)) (nmT 3)
abbrev env0 (h : Hpd) (rs : List Wd) (x3 x4 x5 x6 : Option D) : DEnv := [some (.lst 0), some (hpD h), some (wsD rs), x3, x4, x5, x6, none, none, none, none, none]
theorem q_r1 (hh : hpOk h) (hr : wsOk h rs) (hM : WF M) : ∃ (X : Sto) (k : Nat) (l : List Nat), rightS1 (env0 h rs none none none none) M = some (.nx, env0 h rs (some (.lst k)) none none none, M ++ X) ∧ sGet (M ++ X) k = some (.lst ((isort (l.map fun n : Nat => (n : Int))).map D.int)) ∧ l.Nodup ∧ (∀ n, n ∈ l ↔ Rch h (adr rs) n) ∧ flat X := by
  obtain ⟨X, k, l, e, g, nd, mem, fl⟩ := q_bfs hh hr (M := M)
  have hrC : ∀ n ∈ adr rs, isC h n := fun n hn => hr.2 _ (mem_adr.mp hn)
  have len : l.length ≤ 9 := Nat.le_trans (few nd fun n hn => ((mem n).mp hn).C hh hrC |>.lt) hh.1
  have e1 : callE 3 f__law_reached (consD (nmD 1) (consD (nmD 2) (consD (cstD .non) nilD))) (env0 h rs none none none none) M = some (.ok (.lst k), M ++ X) := by
    simp only [callE_ap, bindD_ap, consD_ap, nmD_ap, List.getElem?_cons_succ, List.getElem?_cons_zero, cstD_ap, nilD_ap, liftD_ap, List.length_cons, List.length_nil, if_true, e]
  obtain ⟨X', e2, g2, fl2⟩ := trim_lst e1 hM g fl
  refine ⟨X' ++ [.lst ((isort (l.map fun n : Nat => (n : Int))).map D.int)], (M ++ X').length, l, set_ap (d := .lst (M ++ X').length) (M1 := M ++ X' ++ [.lst ((isort (l.map fun n : Nat => (n : Int))).map D.int)]) ?_ (by rw [← List.append_assoc]; rfl), by rw [← List.append_assoc]; exact get_new, nd, mem, fl2.app ⟨flatC_int _, trivial⟩⟩
  have lm : (l.map fun n : Nat => (n : Int)).length < 64 := by rw [List.length_map]; omega
  rw [opS_ap, bindD_ap, consD_ap, bindD_ap, e2]
  simp only [bindD_ap, nilD_ap, liftD_ap, sortID, g2, intsD_nat, if_pos lm, sApp_eq]
theorem eq_ints {neg : Bool} {M : Sto} {a b : Nat} {l : List Int} (ha : sGet M a = some (.lst (l.map D.int))) (hb : sGet M b = some (.lst (l.map D.int))) (hl : l.length ≤ 60) : eqF neg (.lst a) (.lst b) M = some (.bl (!neg), M) := by
  rw [eqF_lst, eqD_same (PyS.lst ha (pys_ints l)) (PyS.lst hb (pys_ints l)) (by omega) (by omega)]
theorem pass_ap {t : Den Bool} {a : SDen} {r : DEnv} {M M1 : Sto} (h : t r M = some (.ok false, M1)) : ifS t a skipS r M = some (.nx, r, M1) := by
  rw [ifS_ap, bindS_ap, h]
  rfl
abbrev rightS2 : SDen := ifS (btestD (op2 (cmpD .NotEq) (trimE (callE 2 f_reached_from (consD (nmD 1) (consD (nmD 2) nilD)))) (nmD 3))) stuckS skipS
theorem q_r2 (hh : hpOk h) (hr : wsOk h rs) (hM : WF M) {k : Nat} {l : List Nat} (hk : sGet M k = some (.lst ((isort (l.map fun n : Nat => (n : Int))).map D.int))) (nd : l.Nodup) (mem : ∀ n, n ∈ l ↔ Rch h (adr rs) n) {x4 x5 x6 : Option D} : ∃ X : Sto, rightS2 (env0 h rs (some (.lst k)) x4 x5 x6) M = some (.nx, env0 h rs (some (.lst k)) x4 x5 x6, M ++ X) ∧ flat X := by
  obtain ⟨X, k2, l2, e, g, nd2, mem2, len, fl⟩ := q_dfs hh hr hM
  have e1 : callE 2 f_reached_from (consD (nmD 1) (consD (nmD 2) nilD)) (env0 h rs (some (.lst k)) x4 x5 x6) M = some (.ok (.lst k2), M ++ X) := by
    simp only [callE_ap, bindD_ap, consD_ap, nmD_ap, List.getElem?_cons_succ, List.getElem?_cons_zero, nilD_ap, liftD_ap, List.length_cons, List.length_nil, if_true, e]
  obtain ⟨X', e2, g2, fl2⟩ := trim_lst e1 hM g fl
  rw [isort_same nd2 nd fun n => (mem2 n).trans (mem n).symm] at g2
  have ll : (isort (l.map fun n : Nat => (n : Int))).length ≤ 60 := by
    rw [← isort_same nd2 nd fun n => (mem2 n).trans (mem n).symm, (isort_perm _).length_eq, List.length_map]
    omega
  have q := eq_ints (neg := true) g2 (get_some (X := X') hk) ll
  refine ⟨X', pass_ap ?_, fl2⟩
  rw [btestD_ap, bindD_ap, op2_ap, bindD_ap, e2]
  simp only [bindD_ap, nmD_ap, List.getElem?_cons_succ, List.getElem?_cons_zero, liftD_ap, cmpD, q, Bool.not_true, blD]
abbrev rightS3 : SDen := setS (callE 1 f__law_led (consD (nmD 2) nilD)) (nmT 4)
theorem q_r3 (hr : wsOk h rs) {x3 : Option D} : rightS3 (env0 h rs x3 none none none) M = some (.nx, env0 h rs x3 (some (.lst M.length)) none none, M ++ [.lst (adrD rs)]) := by
  have := hr.1
  refine set_ap (d := .lst M.length) (M1 := M ++ [.lst (adrD rs)]) ?_ rfl
  simp only [callE_ap, bindD_ap, consD_ap, nmD_ap, List.getElem?_cons_succ, List.getElem?_cons_zero, nilD_ap, liftD_ap, List.length_cons, List.length_nil, if_true, q_led (ws := rs) (M := M) (by omega)]
def cadr : Option Cl → List Nat
  | none => []
  | some c => adr c.ws
theorem cadr_cells : ∀ h : Hpd, (cellWs h).flatMap adr = h.flatMap cadr
  | [] => rfl
  | none :: h => by
    rw [List.flatMap_cons]
    exact cadr_cells h
  | some c :: h => by
    show (c.ws :: cellWs h).flatMap adr = _
    rw [List.flatMap_cons, List.flatMap_cons, cadr_cells h]
    rfl
theorem every_is : every h rs = adr rs ++ h.flatMap cadr := by
  unfold every allWs
  rw [List.flatMap_cons, cadr_cells]
theorem flatMap_len {l : List (Option Cl)} (hl : ∀ c, some c ∈ l → c.ws.length ≤ 3) : (l.flatMap cadr).length ≤ 3 * l.length := by
  induction l with
  | nil => exact Nat.le_refl _
  | cons a l ih =>
    rw [List.flatMap_cons, List.length_append, List.length_cons]
    have i := ih fun c hc => hl c (List.mem_cons_of_mem _ hc)
    have : (cadr a).length ≤ 3 := by
      cases a with
      | none => exact Nat.zero_le _
      | some c => exact Nat.le_trans (adr_len _) (hl c List.mem_cons_self)
    omega
abbrev rightB4 : SDen := setS (op2 (binD .Add) (nmD 4) (callE 1 f__law_led (consD (ifE (btestD (op2 (cmpD .IsNot) (nmD 5) (cstD .non))) (op2 itemD (nmD 5) (cstD (.int 1))) (opS tupD nilD)) nilD))) (nmT 4)
theorem q_r4b {x3 : Option D} {c : Option Cl} {k : Nat} {l : List Nat} (hk : sGet M k = some (.lst (intsN l))) (hc : ∀ c', c = some c' → c'.ws.length ≤ 3) (hl : l.length ≤ 1000) :
    rightB4 (env0 h rs x3 (some (.lst k)) (some (clD c)) none) M = some (.nx, env0 h rs x3 (some (.lst (M.length + 1))) (some (clD c)) none, M ++ [.lst (intsN (cadr c)), .lst (intsN (l ++ cadr c))]) := by
  obtain ⟨ws, hw, ew, eq⟩ : ∃ ws : List Wd, ws.length ≤ 3 ∧ adr ws = cadr c ∧ ifE (btestD (op2 (cmpD .IsNot) (nmD 5) (cstD .non))) (op2 itemD (nmD 5) (cstD (.int 1))) (opS tupD nilD) (env0 h rs x3 (some (.lst k)) (some (clD c)) none) M = some (.ok (wsD ws), M) := by
    cases c with
    | none => exact ⟨[], Nat.zero_le _, rfl, by
        simp only [ifE_ap, btestD_ap, op2_ap, bindD_ap, nmD_ap, List.getElem?_cons_succ, List.getElem?_cons_zero, cstD_ap, liftD_ap, cmpD, is_non, clD, nonB, Bool.not_true, blD, if_false, Bool.false_eq_true, opS_ap, nilD_ap, tupD0]
        rfl⟩
    | some c =>
      have j1 : atI [D.tup [.str c.lab], .tup (c.ws.map Wd.d)] 1 = some (.tup (c.ws.map Wd.d)) := rfl
      exact ⟨c.ws, hc c rfl, rfl, by
        simp only [ifE_ap, btestD_ap, op2_ap, bindD_ap, nmD_ap, List.getElem?_cons_succ, List.getElem?_cons_zero, cstD_ap, liftD_ap, cmpD, is_non, clD, Cl.d, nonB, Bool.not_false, blD, if_true, itemD, ixD, j1, Option.map_some]⟩
  have led := q_led (ws := ws) (M := M) (by omega)
  have e1 : callE 1 f__law_led (consD (ifE (btestD (op2 (cmpD .IsNot) (nmD 5) (cstD .non))) (op2 itemD (nmD 5) (cstD (.int 1))) (opS tupD nilD)) nilD) (env0 h rs x3 (some (.lst k)) (some (clD c)) none) M = some (.ok (.lst M.length), M ++ [.lst (intsN (cadr c))]) := by
    rw [callE_ap, bindD_ap, consD_ap, bindD_ap, eq]
    simp only [bindD_ap, nilD_ap, liftD_ap, List.length_cons, List.length_nil, if_true, led]
    rw [← ew]
  refine set_ap (d := .lst (M.length + 1)) (M1 := M ++ [.lst (intsN (cadr c)), .lst (intsN (l ++ cadr c))]) ?_ rfl
  have g1 := get_some (X := [.lst (intsN (cadr c))]) hk
  have g2 : sGet (M ++ [Cell.lst (intsN (cadr c))]) M.length = some (.lst (intsN (cadr c))) := get_new
  have l1 : (M ++ [Cell.lst (intsN (cadr c))]).length = M.length + 1 := by simp
  have cl : (cadr c).length ≤ 3 := by rw [← ew]; exact Nat.le_trans (adr_len ws) hw
  have le : (intsN l).length + (intsN (cadr c)).length ≤ 100000 := by rw [List.length_map, List.length_map]; omega
  rw [op2_ap, bindD_ap, nmD_ap]
  simp only [List.getElem?_cons_succ, List.getElem?_cons_zero]
  rw [bindD_ap, e1]
  simp only [liftD_ap, binD, addD, g1, g2, if_pos le, sApp_eq, l1, List.append_assoc, List.cons_append, List.nil_append, List.map_append]
abbrev rightS4 : SDen := forS (anySrc (nmD 1)) (nmT 5) rightB4 100000
theorem q_r4 (hh : hpOk h) (hr : wsOk h rs) {x3 : Option D} {k : Nat} (hk : sGet M k = some (.lst (intsN (adr rs)))) : ∃ (X : Sto) (k2 : Nat) (x5 : Option D), rightS4 (env0 h rs x3 (some (.lst k)) none none) M = some (.nx, env0 h rs x3 (some (.lst k2)) x5 none, M ++ X) ∧ sGet (M ++ X) k2 = some (.lst (intsN (every h rs))) ∧ flat X := by
  have hl := hh.1
  have w1 := hr.1
  have al := adr_len rs
  obtain ⟨r', M', e, X, k2, x5, rfl, rfl, g, fl⟩ := forL_run (nxt := nextI (.seq (hpD h))) (t := nmT 5) (b := rightB4) (m := h.length)
    (fun i r M2 => ∃ (X : Sto) (k2 : Nat) (x5 : Option D), M2 = M ++ X ∧ r = env0 h rs x3 (some (.lst k2)) x5 none ∧ sGet M2 k2 = some (.lst (intsN (adr rs ++ (h.take i).flatMap cadr))) ∧ flat X)
    (fun r M2 hp => by
      show some ((h.map clD)[h.length]?) = _
      rw [List.getElem?_eq_none (by simp)])
    (fun i r M2 hi hp => by
      obtain ⟨X, k2, x5, rfl, rfl, g, fl⟩ := hp
      have hx : (h.map clD)[i]? = some (clD h[i]) := by simp [List.getElem?_eq_getElem hi]
      have fm := flatMap_len (l := h.take i) fun c hc => (hh.2 c (List.mem_of_mem_take hc)).1
      have tl : (h.take i).length ≤ h.length := by rw [List.length_take]; omega
      have q := q_r4b (h := h) (rs := rs) (x3 := x3) (c := h[i]) g (fun c' e => (hh.2 c' (e ▸ List.getElem_mem hi)).1) (by rw [List.length_append]; omega)
      refine ⟨clD h[i], _, _, _, _, congrArg some hx, rfl, q, X ++ [.lst (intsN (cadr h[i])), .lst (intsN (adr rs ++ (h.take i).flatMap cadr ++ cadr h[i]))], (M ++ X).length + 1, some (clD h[i]), by rw [List.append_assoc], rfl, ?_, fl.app ⟨flatC_nat _, flatC_nat _, trivial⟩⟩
      rw [get_at, List.take_succ, List.getElem?_eq_getElem hi, List.flatMap_append]
      simp)
    100000 0 (env0 h rs x3 (some (.lst k)) none none) M (Nat.zero_le _) (by omega) ⟨[], k, none, by simp, rfl, by simpa using hk, trivial⟩
  rw [List.take_length, ← every_is] at g
  exact ⟨X, k2, x5, e, g, fl⟩
end
end Py

-- PyQT
set_option maxRecDepth 100000
set_option maxHeartbeats 4000000
noncomputable section
namespace Py
open PySem PySem.Spec PyProof.Rows L2 PyD PyL PyH L2H HotX PyM PyK PyQ
theorem cnt_py {M : Sto} (E : List Nat) : ∀ (i : Nat) (h : Hpd), ∃ ps : List PyData, PyS M (1 + h.length) (cntL E i h) ps
  | _, [] => ⟨[], PyS.nil.mono (Nat.zero_le _)⟩
  | i, none :: t => by
    obtain ⟨ps, hp⟩ := cnt_py E (i + 1) t
    exact ⟨_, (PyS.cons (PyV.non.mono (by omega)) hp).mono (by simp only [List.length_cons]; omega)⟩
  | i, some c :: t => by
    obtain ⟨ps, hp⟩ := cnt_py E (i + 1) t
    exact ⟨_, (PyS.cons ((PyV.int _).mono (by omega)) hp).mono (by simp only [List.length_cons]; omega)⟩
theorem flatC_cnt (E : List Nat) (i : Nat) (h : Hpd) : flatC (.lst (cntL E i h)) := fun k => by
  have z : ∀ d ∈ cntL E i h, OKP k d := fun d hd => by
    obtain ⟨j, hj, e⟩ := List.getElem_of_mem hd
    have e2 : (cntL E i h)[j]? = some d := by rw [List.getElem?_eq_getElem hj, e]
    rw [cntL_get] at e2
    obtain ⟨c, _, e4⟩ := Option.map_eq_some_iff.mp e2
    subst e4
    cases c <;> exact ⟨rfl, rfl⟩
  exact okp_cell z
theorem cnt_ok (k : Nat) (E : List Nat) (i : Nat) (h : Hpd) : okR k (.tup (cntL E i h)) = true := (flatC_cnt E i h k).1
section
variable {h : Hpd} {rs : List Wd} {M : Sto}
abbrev rightS5 : SDen := setS (opS tupleD (consD (compE (PyK.enumSrcT (consD (nmD 1) nilD)) [11, 5] (.many [11, 5]) yesT (ifE (btestD (op2 (cmpD .Is) (nmD 5) (cstD .non))) (cstD .non) (methE PyK.countD (nmD 4) (consD (nmD 11) nilD))) 100000) nilD)) (nmT 6)
theorem q_r5 (hh : hpOk h) {x3 x5 : Option D} {k : Nat} {E : List Nat} (hk : sGet M k = some (.lst (intsN E))) : rightS5 (env0 h rs x3 (some (.lst k)) x5 none) M = some (.nx, env0 h rs x3 (some (.lst k)) x5 (some (.tup (cntL E 0 h))), M ++ [.lst (cntL E 0 h)]) := by
  have hl := hh.1
  have src : PyK.enumSrcT (consD (nmD 1) nilD) (env0 h rs x3 (some (.lst k)) x5 none) M = some (.ok (.enumT (hpD h)), M) := by
    simp only [enumSrcT, bindD_ap, consD_ap, nmD_ap, List.getElem?_cons_succ, List.getElem?_cons_zero, nilD_ap, liftD_ap]
    rfl
  obtain ⟨M', e, rfl⟩ := compL_run (nxt := nextI (.enumT (hpD h))) (ct := .many [11, 5]) (ifs := yesT) (elt := ifE (btestD (op2 (cmpD .Is) (nmD 5) (cstD .non))) (cstD .non) (methE PyK.countD (nmD 4) (consD (nmD 11) nilD))) (id := M.length) (m := h.length) (r := wipeD (env0 h rs x3 (some (.lst k)) x5 none) [11, 5])
    (fun i M2 => M2 = M ++ [.lst ((cntL E 0 h).take i)])
    (fun M2 _ => by
      show (match (h.map clD)[h.length]? with
        | some x => some (some (D.tup [D.int (h.length : Nat), x]))
        | none => if (h.map clD).length = h.length then some none else none) = _
      rw [List.getElem?_eq_none (by simp), if_pos (by simp)])
    (fun i M2 hi hp => by
      subst hp
      have hx : (h.map clD)[i]? = some (clD h[i]) := by simp [List.getElem?_eq_getElem hi]
      have hc : (cntL E 0 h)[i]? = some (match h[i] with
        | none => D.non
        | some _ => D.int (E.count i : Nat)) := by
        rw [cntL_get, List.getElem?_eq_getElem hi, Nat.zero_add]
        rfl
      have gk := get_some (X := [.lst ((cntL E 0 h).take i)]) hk
      have isl : isLst (.lst k) (M ++ [.lst ((cntL E 0 h).take i)]) = true := by
        unfold isLst
        dsimp only
        rw [gk]
      have ci : (E.map fun n : Nat => (n : Int)).count (i : Int) = E.count i := by
        rw [List.count_eq_countP, List.countP_map, List.count_eq_countP]
        congr 1
        funext n
        show ((n : Int) == (i : Int)) = (n == i)
        rw [Bool.eq_iff_iff, beq_iff_eq, beq_iff_eq]
        omega
      refine ⟨.tup [.int (i : Nat), clD h[i]], ((wipeD (env0 h rs x3 (some (.lst k)) x5 none) [11, 5]).set 11 (some (.int (i : Nat)))).set 5 (some (clD h[i])), M ++ [.lst ((cntL E 0 h).take i)], (match h[i] with
        | none => D.non
        | some _ => D.int (E.count i : Nat)), M ++ [.lst ((cntL E 0 h).take i)], (cntL E 0 h).take i, ?_, rfl, rfl, ?_, get_new, by rw [List.length_take, cntL_len]; omega, ?_⟩
      · show (match (h.map clD)[i]? with
          | some x => some (some (D.tup [D.int (i : Nat), x]))
          | none => if (h.map clD).length = i then some none else none) = _
        rw [hx]
      · cases hi2 : h[i] with
        | none =>
          simp only [wipeD, List.set_cons_succ, List.set_cons_zero, ifE_ap, btestD_ap, bindD_ap, op2_ap, nmD_ap, List.getElem?_cons_succ, List.getElem?_cons_zero, cstD_ap, liftD_ap, cmpD, is_nonT, clD, nonB, blD, if_true]
        | some c =>
          simp only [wipeD, List.set_cons_succ, List.set_cons_zero, ifE_ap, btestD_ap, bindD_ap, op2_ap, nmD_ap, List.getElem?_cons_succ, List.getElem?_cons_zero, cstD_ap, liftD_ap, cmpD, is_nonT, clD, Cl.d, nonB, blD, if_false, Bool.false_eq_true, methE, isl, if_true, consD_ap, nilD_ap, countD, gk, intsD_nat, ci]
      · rw [set_new, List.take_succ, hc]
        rfl)
    100000 0 (M ++ [.lst []]) (Nat.zero_le _) (by omega) rfl
  have full : (cntL E 0 h).take h.length = cntL E 0 h := List.take_of_length_le (by rw [cntL_len]; exact Nat.le_refl _)
  rw [full] at e
  have ce : compE (PyK.enumSrcT (consD (nmD 1) nilD)) [11, 5] (.many [11, 5]) yesT (ifE (btestD (op2 (cmpD .Is) (nmD 5) (cstD .non))) (cstD .non) (methE PyK.countD (nmD 4) (consD (nmD 11) nilD))) 100000 (env0 h rs x3 (some (.lst k)) x5 none) M = some (.ok (.lst M.length), M ++ [.lst (cntL E 0 h)]) := by
    unfold compE
    rw [src]
    dsimp only
    rw [sApp_eq, e]
  have gn : sGet (M ++ [Cell.lst (cntL E 0 h)]) M.length = some (.lst (cntL E 0 h)) := get_new
  refine set_ap (d := .tup (cntL E 0 h)) (M1 := M ++ [.lst (cntL E 0 h)]) ?_ rfl
  rw [opS_ap, bindD_ap, consD_ap, bindD_ap, ce]
  simp only [bindD_ap, nilD_ap, liftD_ap, tupleD, gn]
abbrev rightS6 : SDen := ifS (orT (btestD (op2 (cmpD .NotEq) (trimE (callE 2 f_counts_in (consD (nmD 1) (consD (nmD 2) nilD)))) (nmD 6))) (orT (btestD (op2 (cmpD .IsNot) (trimE (callE 1 f_is_heap (consD (nmD 1) nilD))) (cstD (.bl true)))) (btestD (op2 (cmpD .IsNot) (trimE (callE 2 f_are_roots (consD (nmD 1) (consD (nmD 2) nilD)))) (cstD (.bl true)))))) stuckS skipS
theorem q_r6 (hh : hpOk h) (hr : wsOk h rs) (hM : WF M) {x3 x4 x5 : Option D} : rightS6 (env0 h rs x3 x4 x5 (some (.tup (cntL (every h rs) 0 h)))) M = some (.nx, env0 h rs x3 x4 x5 (some (.tup (cntL (every h rs) 0 h))), M) := by
  have hl := hh.1
  obtain ⟨X, e1⟩ := q_counts hh hr hM
  have t1 : trimE (callE 2 f_counts_in (consD (nmD 1) (consD (nmD 2) nilD))) (env0 h rs x3 x4 x5 (some (.tup (cntL (every h rs) 0 h)))) M = some (.ok (.tup (cntL (every h rs) 0 h)), M) := trimE_one (X := X) (by
    simp only [callE_ap, bindD_ap, consD_ap, nmD_ap, List.getElem?_cons_succ, List.getElem?_cons_zero, nilD_ap, liftD_ap, List.length_cons, List.length_nil, if_true, e1]) hM (cnt_ok _ _ _ _)
  have e2 := q_is_heap hM (hp_okh M (h := h) (by omega))
  rw [hp_heapB hh] at e2
  have t2 : trimE (callE 1 f_is_heap (consD (nmD 1) nilD)) (env0 h rs x3 x4 x5 (some (.tup (cntL (every h rs) 0 h)))) M = some (.ok (.bl true), M) := trimE_same (by
    simp only [callE_ap, bindD_ap, consD_ap, nmD_ap, List.getElem?_cons_succ, List.getElem?_cons_zero, nilD_ap, liftD_ap, List.length_cons, List.length_nil, if_true, e2])
  have e3 := q_are_roots hM (hp_okh M (h := h) (by omega)) (hp_heapB hh) (ws_oks M rs)
  rw [ws_wordsB hr] at e3
  have t3 : trimE (callE 2 f_are_roots (consD (nmD 1) (consD (nmD 2) nilD))) (env0 h rs x3 x4 x5 (some (.tup (cntL (every h rs) 0 h)))) M = some (.ok (.bl true), M) := trimE_same (by
    simp only [callE_ap, bindD_ap, consD_ap, nmD_ap, List.getElem?_cons_succ, List.getElem?_cons_zero, nilD_ap, liftD_ap, List.length_cons, List.length_nil, if_true, hpD, e3])
  obtain ⟨ps, py⟩ := cnt_py (M := M) (every h rs) 0 h
  have q : eqF true (.tup (cntL (every h rs) 0 h)) (.tup (cntL (every h rs) 0 h)) M = some (.bl false, M) := by
    have := eqD_same (neg := true) (PyS.tup py) (PyS.tup py) (by omega) (by omega)
    exact this
  have i2 : isD true (.bl true) (.bl true) M = some (.bl false, M) := rfl
  refine pass_ap ?_
  rw [orT_ap, bindD_ap, btestD_ap, bindD_ap, op2_ap, bindD_ap, t1]
  simp only [bindD_ap, nmD_ap, List.getElem?_cons_succ, List.getElem?_cons_zero, liftD_ap, cmpD, q, blD, if_false, Bool.false_eq_true]
  rw [orT_ap, bindD_ap, btestD_ap, bindD_ap, op2_ap, bindD_ap, t2]
  simp only [bindD_ap, cstD_ap, liftD_ap, cmpD, i2, blD, if_false, Bool.false_eq_true]
  rw [btestD_ap, bindD_ap, op2_ap, bindD_ap, t3]
  simp only [bindD_ap, cstD_ap, liftD_ap, cmpD, i2, blD, if_false, Bool.false_eq_true]
end
end Py

-- PyQU
set_option maxRecDepth 100000
set_option maxHeartbeats 4000000
noncomputable section
namespace Py
open PySem PySem.Spec PyProof.Rows L2 PyD PyL PyH L2H HotX PyM PyK PyQ
structure Gd (R : Sto) : Prop where
  w : Wr R
  p : pureM R = true
theorem Gd.okp {R X : Sto} (h : Gd R) (hx : ∀ z ∈ X, okpC (R.length + 1 + X.length) z) : Gd (R ++ X) := by
  have w := WF.app (wf_cup (g := 0) (c := 0).mpr h.w) (X := X) (List.all_eq_true.mpr fun z hz => (by
    rw [List.length_cons]
    exact (hx z hz).1))
  refine ⟨wf_cup.mp w, ?_⟩
  have p := h.p
  unfold pureM at p ⊢
  rw [List.all_append, p, Bool.true_and]
  exact List.all_eq_true.mpr fun z hz => (hx z hz).2
theorem flat_okp {k : Nat} : ∀ {X : Sto}, flat X → ∀ z ∈ X, okpC k z
  | _ :: _, h, z, hz => by
    rcases List.mem_cons.mp hz with rfl | hz
    · exact h.1 k
    · exact flat_okp h.2 z hz
theorem Gd.flat {R X : Sto} (h : Gd R) (hx : flat X) : Gd (R ++ X) := h.okp (flat_okp hx)
mutual
theorem noEx_pure : ∀ {d : D}, pureD d = true → noEx d = true
  | .exn _ _, h => by simp [pureD] at h
  | .fn _, _ => rfl
  | .tup ds, h => by
    unfold pureD at h
    unfold noEx
    exact noExs_pure h
  | .ktup ds, h => by
    unfold pureD at h
    unfold noEx
    exact noExs_pure h
  | .lst _, _ => rfl
  | .dic _, _ => rfl
  | .non, _ => rfl
  | .bl _, _ => rfl
  | .int _, _ => rfl
  | .str _, _ => rfl
  | .ty _, _ => rfl
theorem noExs_pure : ∀ {ds : List D}, pureDs ds = true → noExs ds = true
  | [], _ => rfl
  | d :: ds, h => by
    unfold pureDs at h
    unfold noExs
    rw [Bool.and_eq_true] at h ⊢
    exact ⟨noEx_pure h.1, noExs_pure h.2⟩
end
theorem noExKV_pure {κ : Type} {kvs : List (κ × D)} (h : pureKV kvs = true) : noExKV kvs = true := List.all_eq_true.mpr fun p hp => noEx_pure (List.all_eq_true.mp h p hp)
theorem noExM_pure {M : Sto} (h : pureM M = true) : noExM M = true := List.all_eq_true.mpr fun c hc => by
  have := List.all_eq_true.mp h c hc
  cases c with
  | lst ds => exact noExs_pure this
  | dk kvs => exact noExKV_pure this
  | dt kvs => exact noExKV_pure this
  | ob c kvs => exact noExKV_pure this
  | dead => rfl
theorem Gd.no {R : Sto} (h : Gd R) {g c : Int} : noExM (cupC g c :: R) = true := noExM_pure (by
  show (pureC (cupC g c) && pureM R) = true
  rw [h.p]
  rfl)
theorem Gd.wf {R : Sto} (h : Gd R) {g c : Int} : WF (cupC g c :: R) := wf_cup.mpr h.w
abbrev bentE : Den D := trimE (callE 2 f__law_bent (consD (nmD 0) (consD (nmD 1) nilD)))
theorem q_bentT {g c : Int} {R : Sto} {h : Hpd} {r : DEnv} (r0 : r[0]? = some (some (.lst 0))) (r1 : r[1]? = some (some (hpD h))) (hh : hpOk h) (h1 : 1 ≤ h.length) (hg : 0 ≤ g) (hR : Gd R) : ∃ (v : D) (g' c' : Int) (X : Sto), 0 ≤ g' ∧ bentE r (cupC g c :: R) = some (.ok v, cupC g' c' :: (R ++ X)) ∧ Gd (R ++ X) ∧ GV (cupC g' c' :: (R ++ X)) v := by
  obtain ⟨v, g1, c1, X, hg1, e, hX, lX, ei, pv⟩ := q_bent0 (R := R) (c := c) hh h1 hg
  have e1 : callE 2 f__law_bent (consD (nmD 0) (consD (nmD 1) nilD)) r (cupC g c :: R) = some (.ok v, (cupC g1 c1 :: R) ++ X) := by
    simp only [callE_ap, bindD_ap, consD_ap, nmD_ap, r0, r1, nilD_ap, liftD_ap, List.length_cons, List.length_nil, if_true, e, List.cons_append]
  have GX : Gd (R ++ X) := hR.okp (by rw [lX]; exact hX)
  cases ho : okR (R.length + 1) v with
  | true =>
    rcases ei with z | ⟨z, _⟩
    · exact ⟨v, g1, c1, [], hg1, by rw [List.append_nil]; exact trimE_is e1 rfl hR.wf ho, by rw [List.append_nil]; exact hR, z _⟩
    · rw [z] at ho; cases ho
  | false =>
    refine ⟨v, g1, c1, X, hg1, trimE_new e1 ho, GX, ?_⟩
    rcases ei with z | ⟨_, z⟩
    · exact z _
    · exact z
abbrev body7 : SDen := seqS (setS bentE (nmT 8))
    (seqS (setS (trimE (callE 1 f__law_is_heap (consD (nmD 8) nilD))) (nmT 9))
    (seqS (ifS (notT (testD (trimE (callE 2 f__law_truly (consD (trimE (callE 1 f_is_heap (consD (nmD 8) nilD))) (consD (nmD 9) nilD)))))) stuckS skipS)
    (ifS (andT (notT (testD (nmD 9))) (btestD (op2 (cmpD .NotEq) (opS lstD (consD (trimE (errC known nn__law_names.length dnm [] bd__law_right (lamD 0))) (consD (trimE (errC known nn__law_names.length dnm [] bd__law_right (lamD 1))) nilD))) (op2 (binD .Mult) (opS lstD (consD (cstD (.str "heap value")) nilD)) (cstD (.int 2)))))) stuckS skipS)))
theorem lay_hv : (PyData.str ("heap value" : Str)).canLay0 = true := by kernel_rfl
theorem rep2 (a : D) : (List.replicate (2 : Int).toNat [a]).flatten = [a, a] := rfl
theorem q_turn7 {g c : Int} {R : Sto} {h : Hpd} {rs : List Wd} {a3 a4 a5 a6 a7 a8 a9 a10 a11 : Option D} (hh : hpOk h) (h1 : 1 ≤ h.length) (hg : 0 ≤ g) (hR : Gd R) : ∃ (g' c' : Int) (b3 b4 b5 b6 b7 b8 b9 b10 b11 : Option D), 0 ≤ g' ∧
    trimW body7 [some (.lst 0), some (hpD h), some (wsD rs), a3, a4, a5, a6, a7, a8, a9, a10, a11] (cupC g c :: R) = some (.nx, [some (.lst 0), some (hpD h), some (wsD rs), b3, b4, b5, b6, b7, b8, b9, b10, b11], cupC g' c' :: R) := by
  obtain ⟨v, g1, c1, X, hg1, e1, GX, gv⟩ := q_bentT (r := [some (.lst 0), some (hpD h), some (wsD rs), a3, a4, a5, a6, a7, a8, a9, a10, a11]) (c := c) rfl rfl hh h1 hg hR
  have WM : WF (cupC g1 c1 :: (R ++ X)) := GX.wf
  have s1 : setS bentE (nmT 8) [some (.lst 0), some (hpD h), some (wsD rs), a3, a4, a5, a6, a7, a8, a9, a10, a11] (cupC g c :: R) = some (.nx, [some (.lst 0), some (hpD h), some (wsD rs), a3, a4, a5, a6, a7, some v, a9, a10, a11], cupC g1 c1 :: (R ++ X)) := set_ap e1 rfl
  have e2 := q_lheap WM gv.h gv.ph
  have s2 : setS (trimE (callE 1 f__law_is_heap (consD (nmD 8) nilD))) (nmT 9) [some (.lst 0), some (hpD h), some (wsD rs), a3, a4, a5, a6, a7, some v, a9, a10, a11] (cupC g1 c1 :: (R ++ X)) = some (.nx, [some (.lst 0), some (hpD h), some (wsD rs), a3, a4, a5, a6, a7, some v, some (.bl (heapB v)), a10, a11], cupC g1 c1 :: (R ++ X)) :=
    set_ap (trimE_same (by
      simp only [callE_ap, bindD_ap, consD_ap, nmD_ap, List.getElem?_cons_succ, List.getElem?_cons_zero, nilD_ap, liftD_ap, List.length_cons, List.length_nil, if_true, e2])) rfl
  have e3 := q_is_heap WM gv.h
  have t3 : trimE (callE 1 f_is_heap (consD (nmD 8) nilD)) [some (.lst 0), some (hpD h), some (wsD rs), a3, a4, a5, a6, a7, some v, some (.bl (heapB v)), a10, a11] (cupC g1 c1 :: (R ++ X)) = some (.ok (.bl (heapB v)), cupC g1 c1 :: (R ++ X)) := trimE_same (by
    simp only [callE_ap, bindD_ap, consD_ap, nmD_ap, List.getElem?_cons_succ, List.getElem?_cons_zero, nilD_ap, liftD_ap, List.length_cons, List.length_nil, if_true, e3])
  have t4 : trimE (callE 2 f__law_truly (consD (trimE (callE 1 f_is_heap (consD (nmD 8) nilD))) (consD (nmD 9) nilD))) [some (.lst 0), some (hpD h), some (wsD rs), a3, a4, a5, a6, a7, some v, some (.bl (heapB v)), a10, a11] (cupC g1 c1 :: (R ++ X)) = some (.ok (.bl true), cupC g1 c1 :: (R ++ X)) := trimE_same (by
    rw [callE_ap, bindD_ap, consD_ap, bindD_ap, t3]
    simp only [bindD_ap, consD_ap, nmD_ap, List.getElem?_cons_succ, List.getElem?_cons_zero, nilD_ap, liftD_ap, List.length_cons, List.length_nil, if_true, q_truly])
  have s3 : ifS (notT (testD (trimE (callE 2 f__law_truly (consD (trimE (callE 1 f_is_heap (consD (nmD 8) nilD))) (consD (nmD 9) nilD)))))) stuckS skipS [some (.lst 0), some (hpD h), some (wsD rs), a3, a4, a5, a6, a7, some v, some (.bl (heapB v)), a10, a11] (cupC g1 c1 :: (R ++ X)) = some (.nx, [some (.lst 0), some (hpD h), some (wsD rs), a3, a4, a5, a6, a7, some v, some (.bl (heapB v)), a10, a11], cupC g1 c1 :: (R ++ X)) := pass_ap (by
    rw [notT_ap, bindD_ap, testD_ap, bindD_ap, t4]
    rfl)
  obtain ⟨Y, s4⟩ : ∃ Y, ifS (andT (notT (testD (nmD 9))) (btestD (op2 (cmpD .NotEq) (opS lstD (consD (trimE (errC known nn__law_names.length dnm [] bd__law_right (lamD 0))) (consD (trimE (errC known nn__law_names.length dnm [] bd__law_right (lamD 1))) nilD))) (op2 (binD .Mult) (opS lstD (consD (cstD (.str "heap value")) nilD)) (cstD (.int 2)))))) stuckS skipS [some (.lst 0), some (hpD h), some (wsD rs), a3, a4, a5, a6, a7, some v, some (.bl (heapB v)), a10, a11] (cupC g1 c1 :: (R ++ X)) = some (.nx, [some (.lst 0), some (hpD h), some (wsD rs), a3, a4, a5, a6, a7, some v, some (.bl (heapB v)), a10, a11], (cupC g1 c1 :: (R ++ X)) ++ Y) := by
    cases hb : heapB v with
    | true => exact ⟨[], by
        rw [List.append_nil]
        refine pass_ap ?_
        rw [andT_ap, bindD_ap, notT_ap, bindD_ap, testD_ap, bindD_ap, nmD_ap]
        rfl⟩
    | false =>
      have x0 := q_err0 (r := [some (.lst 0), some (hpD h), some (wsD rs), a3, a4, a5, a6, a7, some v, some (.bl false), a10, a11]) rfl WM GX.no gv.h hb
      have x1 := q_err1 (r := [some (.lst 0), some (hpD h), some (wsD rs), a3, a4, a5, a6, a7, some v, some (.bl false), a10, a11]) rfl WM GX.no gv.h hb
      obtain ⟨M1, hM1⟩ : ∃ M1, M1 = cupC g1 c1 :: (R ++ X) := ⟨_, rfl⟩
      rw [← hM1] at x0 x1 ⊢
      have A : opS lstD (consD (trimE (errC known nn__law_names.length dnm [] bd__law_right (lamD 0))) (consD (trimE (errC known nn__law_names.length dnm [] bd__law_right (lamD 1))) nilD)) [some (.lst 0), some (hpD h), some (wsD rs), a3, a4, a5, a6, a7, some v, some (.bl false), a10, a11] M1 = some (.ok (.lst M1.length), M1 ++ [.lst [.str "heap value", .str "heap value"]]) := by
        rw [opS_ap, bindD_ap, consD_ap, bindD_ap, x0]
        dsimp only
        rw [bindD_ap, consD_ap, bindD_ap, x1]
        have l2 : ∀ a b : D, [a, b].length ≤ 100000 := fun _ _ => by simp
        simp only [bindD_ap, nilD_ap, liftD_ap, lstD, if_pos (l2 _ _), sApp_eq]
      have l1 : (M1 ++ [Cell.lst [.str "heap value", .str "heap value"]]).length = M1.length + 1 := by simp
      have l2 : (M1 ++ [Cell.lst [.str "heap value", .str "heap value"], .lst [.str "heap value"]]).length = M1.length + 2 := by simp
      have g1 : sGet (M1 ++ [Cell.lst [.str "heap value", .str "heap value"], .lst [.str "heap value"]]) (M1.length + 1) = some (.lst [.str "heap value"]) := get_at
      have B : op2 (binD .Mult) (opS lstD (consD (cstD (.str "heap value")) nilD)) (cstD (.int 2)) [some (.lst 0), some (hpD h), some (wsD rs), a3, a4, a5, a6, a7, some v, some (.bl false), a10, a11] (M1 ++ [.lst [.str "heap value", .str "heap value"]]) = some (.ok (.lst (M1.length + 2)), M1 ++ [.lst [.str "heap value", .str "heap value"], .lst [.str "heap value"], .lst [.str "heap value", .str "heap value"]]) := by
        have l3 : ∀ a : D, [a].length ≤ 100000 := fun _ => by simp
        have l4 : (0 : Int) ≤ 2 ∧ (2 : Int) ≤ 1000 ∧ [D.str "heap value"].length * (2 : Int).toNat ≤ 100000 := ⟨by omega, by omega, by decide⟩
        simp only [op2_ap, bindD_ap, opS_ap, consD_ap, cstD_ap, nilD_ap, liftD_ap, lstD, if_pos (l3 _), sApp_eq, l1, binD, mulD, List.append_assoc, List.cons_append, List.nil_append, g1, if_pos l4, rep2, l2]
      have pl : ∀ M, PyS M 3 [D.str "heap value", .str "heap value"] [PyData.str "heap value", .str "heap value"] := fun M => .cons ((PyV.str _ lay_hv).mono (by omega)) ((PyS.cons (PyV.str _ lay_hv) (PyS.nil.mono (Nat.zero_le _))))
      have q : eqF true (.lst M1.length) (.lst (M1.length + 2)) (M1 ++ [.lst [.str "heap value", .str "heap value"], .lst [.str "heap value"], .lst [.str "heap value", .str "heap value"]]) = some (.bl false, M1 ++ [.lst [.str "heap value", .str "heap value"], .lst [.str "heap value"], .lst [.str "heap value", .str "heap value"]]) := by
        rw [eqF_lst]
        exact eqD_same (PyS.lst get_at0 (pl _)) (PyS.lst get_at (pl _)) (by omega) (by omega)
      refine ⟨[.lst [.str "heap value", .str "heap value"], .lst [.str "heap value"], .lst [.str "heap value", .str "heap value"]], pass_ap ?_⟩
      have n9 : notT (testD (nmD 9)) [some (.lst 0), some (hpD h), some (wsD rs), a3, a4, a5, a6, a7, some v, some (.bl false), a10, a11] M1 = some (.ok true, M1) := rfl
      rw [andT_ap, bindD_ap, n9]
      simp only [if_true]
      rw [btestD_ap, bindD_ap, op2_ap, bindD_ap, A]
      dsimp only
      rw [bindD_ap, B]
      simp only [liftD_ap, cmpD, q, blD]
  have all : body7 [some (.lst 0), some (hpD h), some (wsD rs), a3, a4, a5, a6, a7, a8, a9, a10, a11] (cupC g c :: R) = some (.nx, [some (.lst 0), some (hpD h), some (wsD rs), a3, a4, a5, a6, a7, some v, some (.bl (heapB v)), a10, a11], (cupC g1 c1 :: R) ++ (X ++ Y)) := by
    unfold body7
    rw [seq_nx s1, seq_nx s2, seq_nx s3, s4]
    simp only [List.cons_append, List.append_assoc]
  obtain ⟨r2, e9, hr⟩ := trimW_is all rfl hR.wf
  rcases hr with rfl | rfl
  · exact ⟨_, _, _, _, _, _, _, _, _, _, _, hg1, e9⟩
  · have o0 : okR (cupC g c :: R).length (.lst 0) = true := rfl
    have o1 := okR_hp (cupC g c :: R).length h
    have o2 := okR_ws (cupC g c :: R).length rs
    rw [clean_cons, clean_cons, clean_cons, clean_cons, clean_cons, clean_cons, clean_cons, clean_cons, clean_cons, clean_cons, clean_cons, clean_cons, clean_nil, c1_ok o0, c1_ok o1, c1_ok o2] at e9
    exact ⟨_, _, _, _, _, _, _, _, _, _, _, hg1, e9⟩
end Py

-- PyQV
set_option maxRecDepth 100000
set_option maxHeartbeats 4000000
noncomputable section
namespace Py
open PySem PySem.Spec PyProof.Rows L2 PyD PyL PyH L2H HotX PyM PyK PyQ
def badR (n1 n2 k : Nat) : List D := [.non, .int 0, .lst n1, .lst n2, .tup [.bl true], .tup [.int (-1)], .tup [.int k], .tup [.str "0"], .tup [.tup [.str "num", .str "1"]], .tup (List.replicate 13 .non), .tup [.tup [.int 0]]]
theorem oks_one {M : Sto} {x : D} (h : okw M x) : oks M (.tup [x]) := ⟨trivial, fun ds e w hw => by
  cases e
  rw [List.mem_singleton.mp hw]
  exact h⟩
theorem badR_ok {n1 n2 : Nat} {h : Hpd} {M : Sto} (g1 : ∃ ds, sGet M n1 = some (.lst ds)) (g2 : ∃ ds, sGet M n2 = some (.lst ds)) : ∀ x ∈ badR n1 n2 h.length, oks M x ∧ wordsB (h.map clD) x = false := fun x hx => by
  simp only [badR, List.mem_cons, List.not_mem_nil, or_false] at hx
  rcases hx with rfl | rfl | rfl | rfl | rfl | rfl | rfl | rfl | rfl | rfl | rfl
  · exact ⟨⟨trivial, fun ds e => by cases e⟩, rfl⟩
  · exact ⟨⟨trivial, fun ds e => by cases e⟩, rfl⟩
  · exact ⟨⟨g1, fun ds e => by cases e⟩, rfl⟩
  · exact ⟨⟨g2, fun ds e => by cases e⟩, rfl⟩
  · exact ⟨oks_one ⟨trivial, fun ds e => by cases e⟩, rfl⟩
  · exact ⟨oks_one ⟨trivial, fun ds e => by cases e⟩, by simp [wordsB, wordB, nonB, addrB, numB]⟩
  · exact ⟨oks_one ⟨trivial, fun ds e => by cases e⟩, by simp [wordsB, wordB, nonB, addrB, numB]⟩
  · exact ⟨oks_one ⟨trivial, fun ds e => by cases e⟩, rfl⟩
  · exact ⟨oks_one ⟨trivial, fun ds e a b e2 => by cases e; cases e2; exact ⟨⟨_, rfl⟩, trivial⟩⟩, by simp [wordsB, wordB, nonB, addrB, numB, intB]⟩
  · exact ⟨⟨trivial, fun ds e w hw => by
      cases e
      rw [(List.mem_replicate.mp hw).2]
      exact ⟨trivial, fun ds e => by cases e⟩⟩, by simp [wordsB]⟩
  · exact ⟨oks_one ⟨trivial, fun ds e a b e2 => by cases e; cases e2⟩, rfl⟩
abbrev bad11 : Den D := opS lstD (consD (cstD .non) (consD (cstD (.int 0)) (consD (opS lstD nilD) (consD (opS lstD (consD (cstD (.int 0)) nilD)) (consD (opS tupD (consD (cstD (.bl true)) nilD)) (consD (opS tupD (consD (op1 negD (cstD (.int 1))) nilD)) (consD (opS tupD (consD (opS lenD (consD (nmD 1) nilD)) nilD)) (consD (opS tupD (consD (cstD (.str "0")) nilD)) (consD (opS tupD (consD (opS tupD (consD (cstD (.str "num")) (consD (cstD (.str "1")) nilD))) nilD)) (consD (op2 (binD .Mult) (opS tupD (consD (cstD .non) nilD)) (cstD (.int 13))) (consD (opS tupD (consD (opS tupD (consD (cstD (.int 0)) nilD)) nilD)) nilD)))))))))))
abbrev body8 : SDen := ifS (orT (btestD (op2 (cmpD .IsNot) (trimE (callE 2 f_are_roots (consD (nmD 1) (consD (nmD 10) nilD)))) (cstD (.bl false)))) (btestD (op2 (cmpD .NotEq) (trimE (errC known nn__law_names.length dnm [] bd__law_right (lamD 2))) (cstD (.str "roots value"))))) stuckS skipS
theorem flat_non13 : (List.replicate (13 : Int).toNat [D.non]).flatten = List.replicate 13 .non := rfl
theorem mul_13 {M : Sto} : mulD (.tup [.non]) (.int 13) M = some (.tup (List.replicate 13 .non), M) := by
  simp only [mulD]
  rw [if_neg (by decide), if_pos (by decide), flat_non13]
theorem neg_1 {M : Sto} : negD (.int 1) M = some (.int (-1), M) := rfl
theorem q_bad {h : Hpd} {M : Sto} {r : DEnv} (h1 : r[1]? = some (some (hpD h))) : bad11 r M = some (.ok (.lst (M.length + 2)), M ++ [.lst [], .lst [.int 0], .lst (badR M.length (M.length + 1) h.length)]) := by
  have l11 : ∀ a b c d e f g h i j k : D, [a, b, c, d, e, f, g, h, i, j, k].length ≤ 100000 := fun _ _ _ _ _ _ _ _ _ _ _ => by simp
  have l1 : ∀ a : D, [a].length ≤ 100000 := fun _ => by simp
  have l0 : ([] : List D).length ≤ 100000 := by simp
  have e1 : (M ++ [Cell.lst []]).length = M.length + 1 := by simp
  have e2 : (M ++ [Cell.lst [], .lst [.int 0]]).length = M.length + 2 := by simp
  unfold bad11
  simp only [opS_ap, bindD_ap, consD_ap, cstD_ap, nilD_ap, liftD_ap, lstD, if_pos l0, if_pos (l1 _), sApp_eq, e1, tupD1, tupD2, op1_ap, neg_1, nmD_ap, h1, lenD, hpD, List.length_map, op2_ap, binD, mul_13, List.append_assoc, List.cons_append, List.nil_append, if_pos (l11 _ _ _ _ _ _ _ _ _ _ _), e2]
  rfl
theorem q_turn8 {g c : Int} {R : Sto} {h : Hpd} {rs x : D} {a3 a4 a5 a6 a7 a8 a9 a11 : Option D} (hh : hpOk h) (hR : Gd R) (ho : oks (cupC g c :: R) x) (hw : wordsB (h.map clD) x = false) :
    trimW body8 [some (.lst 0), some (hpD h), some rs, a3, a4, a5, a6, a7, a8, a9, some x, a11] (cupC g c :: R) = some (.nx, [some (.lst 0), some (hpD h), some rs, a3, a4, a5, a6, a7, a8, a9, some x, a11], cupC g c :: R) := by
  have hl := hh.1
  have WM : WF (cupC g c :: R) := hR.wf
  have e1 := q_are_roots WM (hp_okh _ (h := h) (by omega)) (hp_heapB hh) ho
  rw [hw] at e1
  have t1 : trimE (callE 2 f_are_roots (consD (nmD 1) (consD (nmD 10) nilD))) [some (.lst 0), some (hpD h), some rs, a3, a4, a5, a6, a7, a8, a9, some x, a11] (cupC g c :: R) = some (.ok (.bl false), cupC g c :: R) := trimE_same (by
    simp only [callE_ap, bindD_ap, consD_ap, nmD_ap, List.getElem?_cons_succ, List.getElem?_cons_zero, nilD_ap, liftD_ap, List.length_cons, List.length_nil, if_true, hpD, e1])
  have x2 := q_err2 (r := [some (.lst 0), some (hpD h), some rs, a3, a4, a5, a6, a7, a8, a9, some x, a11]) (cells := h.map clD) (v := x) rfl rfl WM hR.no (hp_okh _ (h := h) (by omega)) (hp_heapB hh) ho hw
  have i2 : isD true (.bl false) (.bl false) (cupC g c :: R) = some (.bl false, cupC g c :: R) := rfl
  have sb : sbeq ("roots value" : Str) "roots value" = true := sbeq_iff.mpr rfl
  have q : eqF true (.str "roots value") (.str "roots value") (cupC g c :: R) = some (.bl false, cupC g c :: R) := by
    simp only [eqF, sb]
    rfl
  refine trimW_same (pass_ap ?_)
  rw [orT_ap, bindD_ap, btestD_ap, bindD_ap, op2_ap, bindD_ap, t1]
  simp only [bindD_ap, cstD_ap, liftD_ap, cmpD, i2, blD, if_false, Bool.false_eq_true]
  rw [btestD_ap, bindD_ap, op2_ap, bindD_ap, x2]
  simp only [bindD_ap, cstD_ap, liftD_ap, cmpD, q, blD]
end Py

-- PyQW
set_option maxRecDepth 100000
set_option maxHeartbeats 4000000
noncomputable section
namespace Py
open PySem PySem.Spec PyProof.Rows L2 PyD PyL PyH L2H HotX PyM PyK PyQ
abbrev rightS7 : SDen := forS (rngSrc1 (consD (cstD (.int 5)) nilD)) (nmT 7) (trimW body7) 100000
theorem q_r7 {g c : Int} {R : Sto} {h : Hpd} {rs : List Wd} {a3 a4 a5 a6 a7 a8 a9 a10 a11 : Option D} (hh : hpOk h) (h1 : 1 ≤ h.length) (hg : 0 ≤ g) (hR : Gd R) : ∃ (g' c' : Int) (b3 b4 b5 b6 b7 b8 b9 b10 b11 : Option D), 0 ≤ g' ∧
    rightS7 [some (.lst 0), some (hpD h), some (wsD rs), a3, a4, a5, a6, a7, a8, a9, a10, a11] (cupC g c :: R) = some (.nx, [some (.lst 0), some (hpD h), some (wsD rs), b3, b4, b5, b6, b7, b8, b9, b10, b11], cupC g' c' :: R) := by
  obtain ⟨r', M', e, g1, c1, b3, b4, b5, b6, b7, b8, b9, b10, b11, hg1, rfl, rfl⟩ := forL_run (nxt := nextI (.rng 0 5)) (t := nmT 7) (b := trimW body7) (m := 5)
    (fun i r M2 => ∃ (g' c' : Int) (b3 b4 b5 b6 b7 b8 b9 b10 b11 : Option D), 0 ≤ g' ∧ M2 = cupC g' c' :: R ∧ r = [some (.lst 0), some (hpD h), some (wsD rs), b3, b4, b5, b6, b7, b8, b9, b10, b11])
    (fun r M2 _ => rfl)
    (fun i r M2 hi hp => by
      obtain ⟨g1, c1, b3, b4, b5, b6, b7, b8, b9, b10, b11, hg1, rfl, rfl⟩ := hp
      obtain ⟨g2, c2, d3, d4, d5, d6, d7, d8, d9, d10, d11, hg2, e⟩ := q_turn7 (c := c1) (rs := rs) (a3 := b3) (a4 := b4) (a5 := b5) (a6 := b6) (a7 := some (.int (i : Nat))) (a8 := b8) (a9 := b9) (a10 := b10) (a11 := b11) hh h1 hg1 hR
      exact ⟨.int (i : Nat), _, _, _, _, by rw [next_rng, List.getElem?_map, List.getElem?_range hi]; rfl, rfl, e, g2, c2, d3, d4, d5, d6, d7, d8, d9, d10, d11, hg2, rfl, rfl⟩)
    100000 0 [some (.lst 0), some (hpD h), some (wsD rs), a3, a4, a5, a6, a7, a8, a9, a10, a11] (cupC g c :: R) (Nat.zero_le _) (by omega) ⟨g, c, a3, a4, a5, a6, a7, a8, a9, a10, a11, hg, rfl, rfl⟩
  refine ⟨g1, c1, b3, b4, b5, b6, b7, b8, b9, b10, b11, hg1, ?_⟩
  have src := rng_ap (hs := consD (cstD (.int 5)) nilD) (r := [some (.lst 0), some (hpD h), some (wsD rs), a3, a4, a5, a6, a7, a8, a9, a10, a11]) (M := cupC g c :: R) (M1 := cupC g c :: R) (j := 5) rfl (by omega)
  unfold rightS7 forS
  rw [src]
  exact e
abbrev rightS8 : SDen := forS (anySrc bad11) (nmT 10) (trimW body8) 100000
theorem q_r8 {g c : Int} {R : Sto} {h : Hpd} {rs : List Wd} {a3 a4 a5 a6 a7 a8 a9 a10 a11 : Option D} (hh : hpOk h) (hR : Gd R) : ∃ (X : Sto) (b10 : Option D),
    rightS8 [some (.lst 0), some (hpD h), some (wsD rs), a3, a4, a5, a6, a7, a8, a9, a10, a11] (cupC g c :: R) = some (.nx, [some (.lst 0), some (hpD h), some (wsD rs), a3, a4, a5, a6, a7, a8, a9, b10, a11], cupC g c :: (R ++ X)) ∧ Gd (R ++ X) := by
  have b := q_bad (h := h) (M := cupC g c :: R) (r := [some (.lst 0), some (hpD h), some (wsD rs), a3, a4, a5, a6, a7, a8, a9, a10, a11]) rfl
  rw [show (cupC g c :: R).length = R.length + 1 from rfl, List.cons_append] at b
  obtain ⟨X, hX⟩ : ∃ X, X = [Cell.lst [], .lst [.int 0], .lst (badR (R.length + 1) (R.length + 1 + 1) h.length)] := ⟨_, rfl⟩
  have hl := hh.1
  have pb : ∀ x ∈ badR (R.length + 1) (R.length + 1 + 1) h.length, OKP (R.length + 1 + 3) x := fun x hx => by
    simp only [badR, List.mem_cons, List.not_mem_nil, or_false] at hx
    rcases hx with rfl | rfl | rfl | rfl | rfl | rfl | rfl | rfl | rfl | rfl | rfl <;> first | exact ⟨rfl, rfl⟩ | exact .lst (by omega)
  have GX : Gd (R ++ X) := hR.okp fun z hz => by
    rw [hX] at hz ⊢
    simp only [List.mem_cons, List.not_mem_nil, or_false] at hz
    rcases hz with rfl | rfl | rfl
    · exact ⟨rfl, rfl⟩
    · exact ⟨rfl, rfl⟩
    · exact okp_cell pb
  rw [← hX] at b
  have k0 : sGet (cupC g c :: (R ++ X)) (R.length + 1) = some (.lst []) := by rw [get_n (k := 0), hX]; rfl
  have k1 : sGet (cupC g c :: (R ++ X)) (R.length + 1 + 1) = some (.lst [.int 0]) := by rw [Nat.add_assoc, get_n (k := 1), hX]; rfl
  have k2 : sGet (cupC g c :: (R ++ X)) (R.length + 1 + 2) = some (.lst (badR (R.length + 1) (R.length + 1 + 1) h.length)) := by rw [Nat.add_assoc, get_n (k := 2), hX]; rfl
  have bl : (badR (R.length + 1) (R.length + 1 + 1) h.length).length = 11 := rfl
  obtain ⟨r', M', e, rfl, b10, rfl⟩ := forL_run (nxt := nextI (.seq (.lst (R.length + 1 + 2)))) (t := nmT 10) (b := trimW body8) (m := 11)
    (fun i r M2 => M2 = cupC g c :: (R ++ X) ∧ ∃ b10 : Option D, r = [some (.lst 0), some (hpD h), some (wsD rs), a3, a4, a5, a6, a7, a8, a9, b10, a11])
    (fun r M2 hp => by
      obtain ⟨rfl, _⟩ := hp
      rw [next_lst k2, List.getElem?_eq_none (by rw [bl]; exact Nat.le_refl _)])
    (fun i r M2 hi hp => by
      obtain ⟨rfl, b10, rfl⟩ := hp
      have hi2 : i < (badR (R.length + 1) (R.length + 1 + 1) h.length).length := by rw [bl]; exact hi
      obtain ⟨o1, o2⟩ := badR_ok (h := h) (M := cupC g c :: (R ++ X)) ⟨_, k0⟩ ⟨_, k1⟩ _ (List.getElem_mem hi2)
      exact ⟨(badR (R.length + 1) (R.length + 1 + 1) h.length)[i], _, _, _, _, by rw [next_lst k2, List.getElem?_eq_getElem hi2], rfl, q_turn8 hh GX o1 o2, rfl, _, rfl⟩)
    100000 0 [some (.lst 0), some (hpD h), some (wsD rs), a3, a4, a5, a6, a7, a8, a9, a10, a11] (cupC g c :: (R ++ X)) (Nat.zero_le _) (by omega) ⟨rfl, a10, rfl⟩
  refine ⟨X, b10, ?_, GX⟩
  have src : anySrc bad11 [some (.lst 0), some (hpD h), some (wsD rs), a3, a4, a5, a6, a7, a8, a9, a10, a11] (cupC g c :: R) = some (.ok (.seq (.lst (R.length + 1 + 2))), cupC g c :: (R ++ X)) := anySrc_lst b (l := badR (R.length + 1) (R.length + 1 + 1) h.length) (by
    unfold itemsD
    dsimp only
    rw [k2])
  unfold rightS8 forS
  rw [src]
  exact e
theorem sweep_app {a b : Sto} : sweepM (a ++ b) = sweepM a ++ sweepM b := List.map_append
theorem sweep_pure : ∀ {R : Sto}, pureM R = true → sweepM R = R
  | [], _ => rfl
  | c :: R, h => by
    unfold pureM at h
    rw [List.all_cons, Bool.and_eq_true] at h
    show sweepC c :: sweepM R = _
    rw [sweep_pure h.2]
    unfold sweepC
    rw [if_pos h.1]
theorem q_right {g c : Int} {R : Sto} {h : Hpd} {rs : List Wd} (hh : hpOk h) (h1 : 1 ≤ h.length) (hr : wsOk h rs) (hg : 0 ≤ g) (hR : Gd R) : ∃ (g' c' : Int) (X : Sto), 0 ≤ g' ∧ f__law_right [.lst 0, hpD h, wsD rs] (cupC g c :: R) = some (.ok (.bl true), cupC g' c' :: (R ++ X)) ∧ Gd (R ++ X) := by
  obtain ⟨X1, k1, l1, s1, g1, nd, mem, f1⟩ := q_r1 hh hr (hR.wf (g := g) (c := c))
  rw [List.cons_append] at s1 g1
  have G1 := hR.flat f1
  obtain ⟨X2, s2, f2⟩ := q_r2 hh hr (G1.wf (g := g) (c := c)) g1 nd mem (x4 := none) (x5 := none) (x6 := none)
  rw [List.cons_append] at s2
  have G2 := G1.flat f2
  have s3 := q_r3 (h := h) hr (M := cupC g c :: (R ++ X1 ++ X2)) (x3 := some (.lst k1))
  rw [List.cons_append] at s3
  have f3 : flat [Cell.lst (adrD rs)] := ⟨flatC_nat _, trivial⟩
  have G3 := G2.flat f3
  have k3 : sGet (cupC g c :: (R ++ X1 ++ X2 ++ [.lst (adrD rs)])) (cupC g c :: (R ++ X1 ++ X2)).length = some (.lst (intsN (adr rs))) := by
    rw [← List.cons_append]
    exact get_new
  obtain ⟨X4, k4, x5, s4, g4, f4⟩ := q_r4 hh hr (x3 := some (.lst k1)) k3
  rw [List.cons_append] at s4 g4
  have G4 := G3.flat f4
  have s5 := q_r5 (rs := rs) hh (x3 := some (.lst k1)) (x5 := x5) g4
  rw [List.cons_append] at s5
  have f5 : flat [Cell.lst (cntL (every h rs) 0 h)] := ⟨flatC_cnt _ _ _, trivial⟩
  have G5 := G4.flat f5
  have s6 := q_r6 hh hr (G5.wf (g := g) (c := c)) (x3 := some (.lst k1)) (x4 := some (.lst k4)) (x5 := x5)
  obtain ⟨g7, c7, b3, b4, b5, b6, b7, b8, b9, b10, b11, hg7, s7⟩ := q_r7 (c := c) (rs := rs) (a3 := some (.lst k1)) (a4 := some (.lst k4)) (a5 := x5) (a6 := some (.tup (cntL (every h rs) 0 h))) (a7 := none) (a8 := none) (a9 := none) (a10 := none) (a11 := none) hh h1 hg G5
  obtain ⟨X8, d10, s8, G8⟩ := q_r8 (g := g7) (c := c7) (rs := rs) (a3 := b3) (a4 := b4) (a5 := b5) (a6 := b6) (a7 := b7) (a8 := b8) (a9 := b9) (a10 := b10) (a11 := b11) hh G5
  have r9 : retS (cstD (.bl true)) [some (.lst 0), some (hpD h), some (wsD rs), b3, b4, b5, b6, b7, b8, b9, d10, b11] (cupC g7 c7 :: (R ++ X1 ++ X2 ++ [Cell.lst (adrD rs)] ++ X4 ++ [.lst (cntL (every h rs) 0 h)] ++ X8)) = some (.rt (.bl true), [some (.lst 0), some (hpD h), some (wsD rs), b3, b4, b5, b6, b7, b8, b9, d10, b11], cupC g7 c7 :: (R ++ X1 ++ X2 ++ [Cell.lst (adrD rs)] ++ X4 ++ [.lst (cntL (every h rs) 0 h)] ++ X8)) := ret_ap rfl
  have body : bodyF 12 d__law_right [.lst 0, hpD h, wsD rs] (cupC g c :: R) = some (.ok (.bl true), cupC g7 c7 :: (R ++ X1 ++ X2 ++ [Cell.lst (adrD rs)] ++ X4 ++ [.lst (cntL (every h rs) 0 h)] ++ X8)) := by
    refine body_ap (r := env0 h rs none none none none) (r' := [some (.lst 0), some (hpD h), some (wsD rs), b3, b4, b5, b6, b7, b8, b9, d10, b11]) rfl ?_
    unfold d__law_right
    unfold rightS1 at s1
    unfold rightS2 at s2
    unfold rightS3 at s3
    unfold rightS4 rightB4 at s4
    unfold rightS5 at s5
    unfold rightS6 at s6
    unfold rightS7 body7 bentE at s7
    unfold rightS8 bad11 body8 at s8
    rw [seq_nx s1, seq_nx s2, seq_nx s3, seq_nx s4, seq_nx s5, seq_nx s6, seq_nx s7, seq_nx s8]
    exact r9
  have pa : pureDs [.lst 0, hpD h, wsD rs] = true := pureDs_iff.mpr fun d hd => by
    simp only [List.mem_cons, List.not_mem_nil, or_false] at hd
    rcases hd with rfl | rfl | rfl
    · rfl
    · exact (OKP.hp (k := 0)).p
    · exact (OKP.ws (k := 0)).p
  have pm : pureM (cupC g c :: R) = true := by
    show (pureC (cupC g c) && pureM R) = true
    rw [hR.p]
    rfl
  have ra : R ++ X1 ++ X2 ++ [Cell.lst (adrD rs)] ++ X4 ++ [.lst (cntL (every h rs) 0 h)] ++ X8 = R ++ (X1 ++ X2 ++ [Cell.lst (adrD rs)] ++ X4 ++ [.lst (cntL (every h rs) 0 h)] ++ X8) := by
    simp only [List.append_assoc]
  refine ⟨g7, c7, X1 ++ X2 ++ [Cell.lst (adrD rs)] ++ X4 ++ [.lst (cntL (every h rs) 0 h)] ++ X8, hg7, ?_, ra ▸ G8⟩
  unfold f__law_right bodyL
  rw [pa, pm, body]
  dsimp only
  rw [if_pos (by rfl), if_pos (show pureD (.bl true) = true from rfl)]
  have e : sweepM (cupC g7 c7 :: (R ++ X1 ++ X2 ++ [Cell.lst (adrD rs)] ++ X4 ++ [.lst (cntL (every h rs) 0 h)] ++ X8)) = cupC g7 c7 :: (R ++ (X1 ++ X2 ++ [Cell.lst (adrD rs)] ++ X4 ++ [.lst (cntL (every h rs) 0 h)] ++ X8)) := by
    show sweepC (cupC g7 c7) :: sweepM _ = _
    rw [show sweepC (cupC g7 c7) = cupC g7 c7 from rfl, sweep_pure G8.p, ra]
  rw [e]
end Py

-- PyQX
set_option maxRecDepth 100000
set_option maxHeartbeats 4000000
noncomputable section
namespace Py
open PySem PySem.Spec PyProof.Rows L2 PyD PyL PyH L2H HotX PyM PyK PyQ
theorem trimS_is {b : SDen} {r r' : DEnv} {M M1 X : Sto} (h : b r M = some (.nx, r', M1 ++ X)) (hl : M1.length = M.length) (hw : M1.all (okCell M.length) = true) (he : okEnv M.length r' = true) : trimS b r M = some (.nx, r', M1) := by
  unfold trimS
  rw [h]
  dsimp only
  rw [← hl, List.take_left, hl, he, hw]
  rfl
abbrev env5 (x2 x3 x4 : Option D) : DEnv := [none, some (.lst 0), x2, x3, x4]
theorem env5_ok {k : Nat} {x2 x3 x4 : Option D} (h2 : ∀ d, x2 = some d → okR (k + 1) d = true) (h3 : ∀ d, x3 = some d → okR (k + 1) d = true) (h4 : ∀ d, x4 = some d → okR (k + 1) d = true) : okEnv (k + 1) (env5 x2 x3 x4) = true := by
  have z : ∀ x : Option D, (∀ d, x = some d → okR (k + 1) d = true) → (match x with
    | some d => okR (k + 1) d
    | none => true) = true := fun x h => by
    cases x with
    | none => rfl
    | some d => exact h d rfl
  have o0 : okR (k + 1) (.lst 0) = true := rfl
  refine List.all_eq_true.mpr fun x hx => ?_
  rcases List.mem_cons.mp hx with rfl | hx
  · rfl
  rcases List.mem_cons.mp hx with rfl | hx
  · rfl
  rcases List.mem_cons.mp hx with rfl | hx
  · exact z _ h2
  rcases List.mem_cons.mp hx with rfl | hx
  · exact z _ h3
  rw [List.mem_singleton.mp hx]
  exact z _ h4
/-- the turn as the law calls it -/
theorem q_call {hs : Den (List D)} {g c g0 c0 : Int} {R R0 : Sto} {h : Hpd} {rs : List Wd} {r : DEnv} (hh : hpOk h) (h1 : 1 ≤ h.length) (hr : wsOk h rs) (hg : 0 ≤ g) (hR : Gd R) (ha : hs r (cupC g0 c0 :: R0) = some (.ok [.lst 0, hpD h, wsD rs], cupC g c :: R)) : ∃ (g' c' : Int) (X : Sto), 0 ≤ g' ∧ notT (testD (callE 3 f__law_right hs)) r (cupC g0 c0 :: R0) = some (.ok false, cupC g' c' :: (R ++ X)) ∧ Gd (R ++ X) := by
  obtain ⟨g', c', X, hg', e, GX⟩ := q_right (c := c) hh h1 hr hg hR
  refine ⟨g', c', X, hg', ?_, GX⟩
  simp only [notT_ap, testD_ap, callE_ap, bindD_ap, ha, List.length_cons, List.length_nil, if_true, e, liftD_ap, truD, Bool.not_true]
theorem call2_ap {F : FDen} {i j : Nat} {a b : D} {r : DEnv} {M : Sto} {z : Option (Res D × Sto)} (hi : r[i]? = some (some a)) (hj : r[j]? = some (some b)) (h : F [a, b] M = z) : callE 2 F (consD (nmD i) (consD (nmD j) nilD)) r M = z := by
  subst h
  simp only [callE_ap, bindD_ap, consD_ap, nmD_ap, hi, hj, nilD_ap, liftD_ap, List.length_cons, List.length_nil, if_true]
theorem cons3_ap {f1 f2 f3 : Den D} {a b d : D} {r : DEnv} {M M1 M2 M3 : Sto} (h1 : f1 r M = some (.ok a, M1)) (h2 : f2 r M1 = some (.ok b, M2)) (h3 : f3 r M2 = some (.ok d, M3)) : consD f1 (consD f2 (consD f3 nilD)) r M = some (.ok [a, b, d], M3) := by
  simp only [bindD_ap, consD_ap, h1, h2, h3, nilD_ap, liftD_ap]
theorem q_law0 {g c : Int} {R : Sto} (hg : 0 ≤ g) (hR : Gd R) : ∃ (g' c' : Int) (R' : Sto) (x2 x3 : Option D), 0 ≤ g' ∧ Gd R' ∧ d_law_0 (env5 none none none) (cupC g c :: R) = some (.nx, env5 x2 x3 none, cupC g' c' :: R') ∧ (∀ d, x2 = some d → ∀ k, okR k d = true) ∧ (∀ d, x3 = some d → ∀ k, okR k d = true) := by
  obtain ⟨r', M', e, g', c', R', x2, x3, rfl, rfl, p1, p2, p3, p4⟩ := forL_run (nxt := nextI (.rng 0 2)) (t := nmT 2) (b := (seqS (setS (callE 1 f__law_heap (consD (nmD 1) nilD)) (nmT 3))
    (trimS (ifS (notT (testD (callE 3 f__law_right (consD (nmD 1) (consD (nmD 3) (consD (callE 2 f__law_roots (consD (nmD 1) (consD (nmD 3) nilD))) nilD)))))) stuckS skipS)))) (m := 2)
    (fun i r M2 => ∃ (g' c' : Int) (R' : Sto) (x2 x3 : Option D), M2 = cupC g' c' :: R' ∧ r = env5 x2 x3 none ∧ 0 ≤ g' ∧ Gd R' ∧ (∀ d, x2 = some d → ∀ k, okR k d = true) ∧ (∀ d, x3 = some d → ∀ k, okR k d = true))
    (fun r M2 _ => rfl)
    (fun i r M2 hi hp => by
      obtain ⟨g1, c1, R1, x2, x3, rfl, rfl, hg1, hR1, _, _⟩ := hp
      obtain ⟨h, g2, c2, X, hg2, e2, hh, h1, fX⟩ := q_heap (c := c1) hR1.w hg1
      have G2 := hR1.flat fX
      have s1 : setS (callE 1 f__law_heap (consD (nmD 1) nilD)) (nmT 3) (env5 (some (.int (i : Nat))) x3 none) (cupC g1 c1 :: R1) = some (.nx, env5 (some (.int (i : Nat))) (some (hpD h)) none, cupC g2 c2 :: (R1 ++ X)) := set_ap (by
        simp only [callE_ap, bindD_ap, consD_ap, nmD_ap, List.getElem?_cons_succ, List.getElem?_cons_zero, nilD_ap, liftD_ap, List.length_cons, List.length_nil, if_true, e2]) rfl
      obtain ⟨rs, g3, c3, Y, hg3, e3, hr, fY⟩ := q_roots (c := c2) hh G2.w hg2
      have G3 := G2.flat fY
      obtain ⟨g4, c4, Z, hg4, e4, _⟩ := q_call (hs := consD (nmD 1) (consD (nmD 3) (consD (callE 2 f__law_roots (consD (nmD 1) (consD (nmD 3) nilD))) nilD))) (r := env5 (some (.int (i : Nat))) (some (hpD h)) none) (g0 := g2) (c0 := c2) (R0 := R1 ++ X) (c := c3) hh h1 hr hg3 G3 (cons3_ap rfl rfl (call2_ap rfl rfl e3))
      have s2 := pass_ap (a := stuckS) e4
      have aa : cupC g4 c4 :: (R1 ++ X ++ Y ++ Z) = (cupC g4 c4 :: (R1 ++ X)) ++ (Y ++ Z) := by simp only [List.append_assoc, List.cons_append]
      rw [aa] at s2
      have s3 := trimS_is s2 rfl (G2.wf (g := g4) (c := c4)) (env5_ok (k := (R1 ++ X).length) (fun d hd => by cases hd; rfl) (fun d hd => by cases hd; exact okR_hp _ h) (fun d hd => by cases hd))
      refine ⟨.int (i : Nat), _, _, _, _, by rw [next_rng, List.getElem?_map, List.getElem?_range hi]; rfl, rfl, ?_, g4, c4, R1 ++ X, some (.int (i : Nat)), some (hpD h), rfl, rfl, hg4, G2, (fun d hd k => by cases hd; rfl), (fun d hd k => by cases hd; exact okR_hp k h)⟩
      show seqS _ _ (env5 (some (.int (i : Nat))) x3 none) _ = _
      rw [seq_nx s1]
      exact s3)
    100000 0 (env5 none none none) (cupC g c :: R) (Nat.zero_le _) (by omega) ⟨g, c, R, none, none, rfl, rfl, hg, hR, (fun d hd => by cases hd), (fun d hd => by cases hd)⟩
  refine ⟨g', c', R', x2, x3, p1, p2, ?_, p3, p4⟩
  have src := rng_ap (hs := consD (cstD (.int 2)) nilD) (r := env5 none none none) (M := cupC g c :: R) (M1 := cupC g c :: R) (j := 2) rfl (by omega)
  unfold d_law_0 forS
  rw [src]
  exact e
/-! ### the heap that stands in the law -/
def g5 : Hpd := [some ⟨"a", [.ad 1]⟩, some ⟨"b", [.ad 0]⟩, some ⟨"c", [.ad 1]⟩, none, some ⟨"d", [.ad 2, .ad 4]⟩]
theorem g5_ok : hpOk g5 := ⟨by decide, fun c hc => by
  simp only [g5, List.mem_cons, List.not_mem_nil, or_false, Option.some.injEq] at hc
  rcases hc with rfl | rfl | rfl | hc | rfl
  · exact ⟨by decide, fun w hw => by rw [List.mem_singleton.mp hw]; exact ⟨_, rfl⟩⟩
  · exact ⟨by decide, fun w hw => by rw [List.mem_singleton.mp hw]; exact ⟨_, rfl⟩⟩
  · exact ⟨by decide, fun w hw => by rw [List.mem_singleton.mp hw]; exact ⟨_, rfl⟩⟩
  · cases hc
  · exact ⟨by decide, fun w hw => by
      rcases List.mem_cons.mp hw with rfl | hw
      · exact ⟨_, rfl⟩
      · rw [List.mem_singleton.mp hw]; exact ⟨_, rfl⟩⟩⟩
theorem r2_ok : wsOk g5 [.ad 2] := ⟨by decide, fun w hw => by rw [List.mem_singleton.mp hw]; exact ⟨_, rfl⟩⟩
theorem r4_ok : wsOk g5 [.ad 4] := ⟨by decide, fun w hw => by rw [List.mem_singleton.mp hw]; exact ⟨_, rfl⟩⟩
theorem r0_ok {h : Hpd} : wsOk h [] := ⟨by simp, fun w hw => by cases hw⟩
theorem tupD3 {a b c : D} {M : Sto} : tupD [a, b, c] M = some (.tup [a, b, c], M) := by simp [tupD]
theorem tupD5 {a b c d e : D} {M : Sto} : tupD [a, b, c, d, e] M = some (.tup [a, b, c, d, e], M) := by simp [tupD]
theorem q_law1 {x2 x3 : Option D} {M : Sto} : d_law_1 (env5 x2 x3 none) M = some (.nx, env5 x2 x3 (some (hpD g5)), M) := by
  refine set_ap (d := hpD g5) (M1 := M) ?_ rfl
  simp only [opS_ap, bindD_ap, consD_ap, cstD_ap, nilD_ap, liftD_ap, tupD1, tupD2, tupD5]
  rfl
end Py

-- PyQY
set_option maxRecDepth 100000
set_option maxHeartbeats 4000000
noncomputable section
namespace Py
open PySem PySem.Spec PyProof.Rows L2 PyD PyL PyH L2H HotX PyM PyK PyQ
section
variable {r : DEnv} {M M1 M2 M3 M4 : Sto} {F : FDen} {f f1 f2 f3 f4 : Den D} {a b d e : D} {z : Option (Res D × Sto)} {hs : Den (List D)} {ds : List D}
theorem call1_ap (h1 : f r M = some (.ok a, M)) (h : F [a] M = z) : callE 1 F (consD f nilD) r M = z := by
  subst h
  simp only [callE_ap, bindD_ap, consD_ap, h1, nilD_ap, liftD_ap, List.length_cons, List.length_nil, if_true]
theorem callG2_ap (h1 : f1 r M = some (.ok a, M)) (h2 : f2 r M = some (.ok b, M)) (h : F [a, b] M = z) : callE 2 F (consD f1 (consD f2 nilD)) r M = z := by
  subst h
  simp only [callE_ap, bindD_ap, consD_ap, h1, h2, nilD_ap, liftD_ap, List.length_cons, List.length_nil, if_true]
theorem cons4_ap (h1 : f1 r M = some (.ok a, M1)) (h2 : f2 r M1 = some (.ok b, M2)) (h3 : f3 r M2 = some (.ok d, M3)) (h4 : f4 r M3 = some (.ok e, M4)) : consD f1 (consD f2 (consD f3 (consD f4 nilD))) r M = some (.ok [a, b, d, e], M4) := by
  simp only [bindD_ap, consD_ap, h1, h2, h3, h4, nilD_ap, liftD_ap]
theorem lst_ap (h : hs r M = some (.ok ds, M1)) (hl : ds.length ≤ 100000) : opS lstD hs r M = some (.ok (.lst M1.length), M1 ++ [.lst ds]) := by
  simp only [opS_ap, bindD_ap, h, liftD_ap, lstD, if_pos hl, sApp_eq]
theorem tup_ap (h : hs r M = some (.ok ds, M1)) (hl : ds.length ≤ 100000) : opS tupD hs r M = some (.ok (.tup ds), M1) := by
  simp only [opS_ap, bindD_ap, h, liftD_ap, tupD, if_pos hl]
theorem one_ap (h : f r M = some (.ok a, M1)) : consD f nilD r M = some (.ok [a], M1) := by
  simp only [bindD_ap, consD_ap, h, nilD_ap, liftD_ap]
theorem two_ap (h1 : f1 r M = some (.ok a, M1)) (h2 : f2 r M1 = some (.ok b, M2)) : consD f1 (consD f2 nilD) r M = some (.ok [a, b], M2) := by
  simp only [bindD_ap, consD_ap, h1, h2, nilD_ap, liftD_ap]
theorem five_ap {f5 : Den D} {e5 : D} {M5 : Sto} (h1 : f1 r M = some (.ok a, M1)) (h2 : f2 r M1 = some (.ok b, M2)) (h3 : f3 r M2 = some (.ok d, M3)) (h4 : f4 r M3 = some (.ok e, M4)) (h5 : f5 r M4 = some (.ok e5, M5)) : consD f1 (consD f2 (consD f3 (consD f4 (consD f5 nilD)))) r M = some (.ok [a, b, d, e, e5], M5) := by
  simp only [bindD_ap, consD_ap, h1, h2, h3, h4, h5, nilD_ap, liftD_ap]
theorem cmp_ap {op : CmpOp} {x : Bool} (h1 : f1 r M = some (.ok a, M1)) (h2 : f2 r M1 = some (.ok b, M2)) (h : cmpD op a b M2 = some (.bl x, M3)) : op2 (cmpD op) f1 f2 r M = some (.ok (.bl x), M3) := by
  simp only [op2_ap, bindD_ap, h1, h2, liftD_ap, h]
theorem btest_ap {x : Bool} (h : f r M = some (.ok (.bl x), M1)) : btestD f r M = some (.ok x, M1) := by
  simp only [btestD_ap, bindD_ap, h, liftD_ap, blD]
theorem or_ff {t u : Den Bool} {x : Bool} (h1 : t r M = some (.ok false, M1)) (h2 : u r M1 = some (.ok x, M2)) : orT t u r M = some (.ok x, M2) := by
  simp only [orT_ap, bindD_ap, h1, Bool.false_eq_true, if_false, h2]
theorem and_tt (h1 : f1 r M = some (.ok (.bl true), M1)) (h2 : f2 r M1 = some (.ok a, M2)) : andE f1 f2 r M = some (.ok a, M2) := by
  simp only [andE_ap, bindD_ap, h1, h2]
end
theorem py_bools {M : Sto} (l : List Bool) : PyS M (1 + l.length) (l.map D.bl) (l.map PyData.bool) := pys_all l fun x _ => .bl x
theorem eq_bools {neg : Bool} {M : Sto} {a b : Nat} {l : List Bool} (ha : sGet M a = some (.lst (l.map D.bl))) (hb : sGet M b = some (.lst (l.map D.bl))) (hl : l.length ≤ 60) : eqF neg (.lst a) (.lst b) M = some (.bl (!neg), M) := by
  rw [eqF_lst, eqD_same (PyS.lst ha (py_bools l)) (PyS.lst hb (py_bools l)) (by omega) (by omega)]
def h1c : Hpd := [some ⟨"a", [.ad 1]⟩]
theorem q_law2 {g c : Int} {R : Sto} {x2 x3 : Option D} (hg : 0 ≤ g) (hR : Gd R) (o2 : ∀ d, x2 = some d → ∀ k, okR k d = true) (o3 : ∀ d, x3 = some d → ∀ k, okR k d = true) : ∃ g' c' : Int, 0 ≤ g' ∧ d_law_2 (env5 x2 x3 (some (hpD g5))) (cupC g c :: R) = some (.nx, env5 x2 x3 (some (hpD g5)), cupC g' c' :: R) := by
  obtain ⟨g1, c1, X, hg1, e1, GX⟩ := q_call (hs := consD (nmD 1) (consD (nmD 4) (consD (opS tupD (consD (cstD (.int 2)) nilD)) nilD))) (r := env5 x2 x3 (some (hpD g5))) (g0 := g) (c0 := c) (R0 := R) g5_ok (by decide) r2_ok hg hR (cons3_ap rfl rfl rfl)
  have W := GX.wf (g := g1) (c := c1)
  obtain ⟨M1, hM1⟩ : ∃ M1, M1 = cupC g1 c1 :: (R ++ X) := ⟨_, rfl⟩
  rw [← hM1] at e1 W
  have h0 : heapB (.tup []) = true := rfl
  have b1 : callE 1 f_is_heap (consD (opS tupD nilD) nilD) (env5 x2 x3 (some (hpD g5))) M1 = some (.ok (.bl true), M1) := call1_ap (a := .tup []) rfl (q_is_heap W (hp_okh M1 (h := []) (by decide)))
  have hb : heapB (hpD h1c) = false := rfl
  have q2 := q_is_heap W (hp_okh M1 (h := h1c) (by decide))
  rw [hb] at q2
  have b2 : callE 1 f_is_heap (consD (opS tupD (consD (opS tupD (consD (opS tupD (consD (cstD (.str "a")) nilD)) (consD (opS tupD (consD (cstD (.int 1)) nilD)) nilD))) nilD)) nilD) (env5 x2 x3 (some (hpD g5))) M1 = some (.ok (.bl false), M1) := call1_ap (a := hpD h1c) rfl q2
  have w3 : wordsB (g5.map clD) (wsD [.ad 3]) = false := rfl
  have w4 : wordsB (g5.map clD) (wsD [.ad 4, .non]) = true := rfl
  have q3 := q_are_roots W (hp_okh M1 (h := g5) (by decide)) (hp_heapB g5_ok) (ws_oks M1 [.ad 3])
  rw [w3] at q3
  have q4 := q_are_roots W (hp_okh M1 (h := g5) (by decide)) (hp_heapB g5_ok) (ws_oks M1 [.ad 4, .non])
  rw [w4] at q4
  have b3 : callE 2 f_are_roots (consD (nmD 4) (consD (opS tupD (consD (cstD (.int 3)) nilD)) nilD)) (env5 x2 x3 (some (hpD g5))) M1 = some (.ok (.bl false), M1) := callG2_ap (a := hpD g5) (b := wsD [.ad 3]) rfl rfl q3
  have b4 : callE 2 f_are_roots (consD (nmD 4) (consD (opS tupD (consD (cstD (.int 4)) (consD (cstD .non) nilD))) nilD)) (env5 x2 x3 (some (hpD g5))) M1 = some (.ok (.bl true), M1) := callG2_ap (a := hpD g5) (b := wsD [.ad 4, .non]) rfl rfl q4
  have L1 := lst_ap (cons4_ap b1 b2 b3 b4) (by simp)
  have L2 : opS lstD (consD (cstD (.bl true)) (consD (cstD (.bl false)) (consD (cstD (.bl false)) (consD (cstD (.bl true)) nilD)))) (env5 x2 x3 (some (hpD g5))) (M1 ++ [.lst [.bl true, .bl false, .bl false, .bl true]]) = some (.ok (.lst (M1 ++ [Cell.lst [.bl true, .bl false, .bl false, .bl true]]).length), M1 ++ [.lst [.bl true, .bl false, .bl false, .bl true]] ++ [.lst [.bl true, .bl false, .bl false, .bl true]]) :=
    lst_ap (cons4_ap rfl rfl rfl rfl) (by simp)
  have q := eq_bools (neg := true) (l := [true, false, false, true]) (M := M1 ++ [.lst [.bl true, .bl false, .bl false, .bl true]] ++ [.lst [.bl true, .bl false, .bl false, .bl true]]) (a := M1.length) (b := (M1 ++ [Cell.lst [.bl true, .bl false, .bl false, .bl true]]).length) (get_some get_new) get_new (by simp)
  have s := pass_ap (a := stuckS) (or_ff e1 (btest_ap (cmp_ap (op := .NotEq) L1 L2 q)))
  rw [hM1] at s
  have aa : cupC g1 c1 :: (R ++ X) ++ [Cell.lst [.bl true, .bl false, .bl false, .bl true]] ++ [.lst [.bl true, .bl false, .bl false, .bl true]] = (cupC g1 c1 :: R) ++ (X ++ [.lst [.bl true, .bl false, .bl false, .bl true], .lst [.bl true, .bl false, .bl false, .bl true]]) := by
    simp only [List.append_assoc, List.cons_append, List.nil_append]
  rw [aa] at s
  exact ⟨g1, c1, hg1, trimS_is s rfl (hR.wf (g := g1) (c := c1)) (env5_ok (k := R.length) (fun d hd => o2 d hd _) (fun d hd => o3 d hd _) (fun d hd => by cases hd; exact okR_hp _ g5))⟩
end Py

-- PyQZ
set_option maxRecDepth 100000
set_option maxHeartbeats 4000000
noncomputable section
namespace Py
open PySem PySem.Spec PyProof.Rows L2 PyD PyL PyH L2H HotX PyM PyK PyQ
theorem rch_2 : ∀ n, n ∈ [0, 1, 2] ↔ Rch g5 (adr [.ad 2]) n := fun n => by
  constructor
  · intro hn
    have r2 : Rch g5 (adr [.ad 2]) 2 := .base (by simp [adr])
    have r1 : Rch g5 (adr [.ad 2]) 1 := .step r2 (by simp [kids, g5, adr])
    have r0 : Rch g5 (adr [.ad 2]) 0 := .step r1 (by simp [kids, g5, adr])
    simp at hn
    rcases hn with rfl | rfl | rfl <;> assumption
  · intro h
    induction h with
    | base q =>
      simp [adr] at q
      subst q
      simp
    | step _ q ih =>
      simp at ih
      rcases ih with rfl | rfl | rfl <;> (simp [kids, g5, adr] at q; subst q; simp)
theorem rch_0 : ∀ n, n ∈ ([] : List Nat) ↔ Rch g5 (adr []) n := fun n => by
  constructor
  · intro hn
    cases hn
  · intro h
    induction h with
    | base q => exact q
    | step _ q ih => cases ih
theorem rch_4 : ∀ n, n ∈ [0, 1, 2, 4] ↔ Rch g5 (adr [.ad 4]) n := fun n => by
  constructor
  · intro hn
    have r4 : Rch g5 (adr [.ad 4]) 4 := .base (by simp [adr])
    have r2 : Rch g5 (adr [.ad 4]) 2 := .step r4 (by simp [kids, g5, adr])
    have r1 : Rch g5 (adr [.ad 4]) 1 := .step r2 (by simp [kids, g5, adr])
    have r0 : Rch g5 (adr [.ad 4]) 0 := .step r1 (by simp [kids, g5, adr])
    simp at hn
    rcases hn with rfl | rfl | rfl | rfl <;> assumption
  · intro h
    induction h with
    | base q =>
      simp [adr] at q
      subst q
      simp
    | step _ q ih =>
      simp at ih
      rcases ih with rfl | rfl | rfl | rfl
      · simp [kids, g5, adr] at q; subst q; simp
      · simp [kids, g5, adr] at q; subst q; simp
      · simp [kids, g5, adr] at q; subst q; simp
      · simp [kids, g5, adr] at q
        rcases q with rfl | rfl <;> simp
theorem q_reach {rs : List Wd} {S : List Nat} {T : List Int} (hr : wsOk g5 rs) (nd : S.Nodup) (mem : ∀ n, n ∈ S ↔ Rch g5 (adr rs) n) (hT : isort (S.map fun n : Nat => (n : Int)) = T) {R : Sto} {g c : Int} (hR : Gd R) : ∃ (X : Sto) (k : Nat), f_reached_from [hpD g5, wsD rs] (cupC g c :: R) = some (.ok (.lst k), cupC g c :: (R ++ X)) ∧ sGet (cupC g c :: (R ++ X)) k = some (.lst (T.map D.int)) ∧ Gd (R ++ X) := by
  obtain ⟨X, k, l, e, g1, nd2, mem2, _, fl⟩ := q_dfs g5_ok hr (hR.wf (g := g) (c := c))
  rw [isort_same nd2 nd fun n => (mem2 n).trans (mem n).symm, hT] at g1
  exact ⟨X, k, e, g1, hR.flat fl⟩
theorem get_up {M X : Sto} {k : Nat} {c : Cell} (h : sGet M k = some c) : sGet (M ++ X) k = some c := get_some h
theorem py_ints3 {M : Sto} {a b d : Nat} {A B C : List Int} (ha : sGet M a = some (.lst (A.map D.int))) (hb : sGet M b = some (.lst (B.map D.int))) (hd : sGet M d = some (.lst (C.map D.int))) (la : A.length ≤ 10) (lb : B.length ≤ 10) (lc : C.length ≤ 10) :
    PyS M 20 [.lst a, .lst b, .lst d] [.list (A.map PyData.int), .list (B.map PyData.int), .list (C.map PyData.int)] :=
  .cons (k := 19) ((PyS.lst ha (pys_ints A)).mono (by omega)) (.cons (k := 18) ((PyS.lst hb (pys_ints B)).mono (by omega)) (.cons (k := 17) ((PyS.lst hd (pys_ints C)).mono (by omega)) (PyS.nil.mono (Nat.zero_le _))))
theorem q_law3 {g c : Int} {R : Sto} {x2 x3 : Option D} (hR : Gd R) (o2 : ∀ d, x2 = some d → ∀ k, okR k d = true) (o3 : ∀ d, x3 = some d → ∀ k, okR k d = true) : d_law_3 (env5 x2 x3 (some (hpD g5))) (cupC g c :: R) = some (.nx, env5 x2 x3 (some (hpD g5)), cupC g c :: R) := by
  obtain ⟨X1, k1, e1, g1, G1⟩ := q_reach (T := [0, 1, 2]) r2_ok (by decide) rch_2 rfl (g := g) (c := c) hR
  obtain ⟨X2, k2, e2, g2, G2⟩ := q_reach (T := []) r0_ok List.nodup_nil rch_0 rfl (g := g) (c := c) G1
  obtain ⟨X3, k3, e3, g3, G3⟩ := q_reach (T := [0, 1, 2, 4]) r4_ok (by decide) rch_4 rfl (g := g) (c := c) G2
  have b1 : callE 2 f_reached_from (consD (nmD 4) (consD (opS tupD (consD (cstD (.int 2)) nilD)) nilD)) (env5 x2 x3 (some (hpD g5))) (cupC g c :: R) = _ := callG2_ap (a := hpD g5) (b := wsD [.ad 2]) rfl rfl e1
  have b2 : callE 2 f_reached_from (consD (nmD 4) (consD (opS tupD nilD) nilD)) (env5 x2 x3 (some (hpD g5))) (cupC g c :: (R ++ X1)) = _ := callG2_ap (a := hpD g5) (b := wsD []) rfl rfl e2
  have b3 : callE 2 f_reached_from (consD (nmD 4) (consD (opS tupD (consD (cstD (.int 4)) nilD)) nilD)) (env5 x2 x3 (some (hpD g5))) (cupC g c :: (R ++ X1 ++ X2)) = _ := callG2_ap (a := hpD g5) (b := wsD [.ad 4]) rfl rfl e3
  obtain ⟨M1, hM1⟩ : ∃ M1, M1 = cupC g c :: (R ++ X1 ++ X2 ++ X3) := ⟨_, rfl⟩
  have a1 : cupC g c :: (R ++ X1 ++ X2 ++ X3) = (cupC g c :: (R ++ X1 ++ X2)) ++ X3 := rfl
  have a2 : (cupC g c :: (R ++ X1 ++ X2)) = (cupC g c :: (R ++ X1)) ++ X2 := rfl
  have j1 : sGet M1 k1 = some (.lst (([0, 1, 2] : List Int).map D.int)) := by
    rw [hM1, a1, a2]
    exact get_up (get_up g1)
  have j2 : sGet M1 k2 = some (.lst (([] : List Int).map D.int)) := by
    rw [hM1, a1]
    exact get_up g2
  have j3 : sGet M1 k3 = some (.lst (([0, 1, 2, 4] : List Int).map D.int)) := by
    rw [hM1]
    exact g3
  rw [← hM1] at b3
  have L1 := lst_ap (cons3_ap b1 b2 b3) (by simp)
  obtain ⟨M2, hM2⟩ : ∃ M2, M2 = M1 ++ [Cell.lst [.lst k1, .lst k2, .lst k3]] := ⟨_, rfl⟩
  rw [← hM2] at L1
  have c1 : opS lstD (consD (cstD (.int 0)) (consD (cstD (.int 1)) (consD (cstD (.int 2)) nilD))) (env5 x2 x3 (some (hpD g5))) M2 = some (.ok (.lst M2.length), M2 ++ [.lst [.int 0, .int 1, .int 2]]) := lst_ap (cons3_ap rfl rfl rfl) (by simp)
  have c2 : opS lstD nilD (env5 x2 x3 (some (hpD g5))) (M2 ++ [.lst [.int 0, .int 1, .int 2]]) = some (.ok (.lst (M2 ++ [Cell.lst [.int 0, .int 1, .int 2]]).length), M2 ++ [.lst [.int 0, .int 1, .int 2]] ++ [.lst []]) := lst_ap rfl (by simp)
  have c3 : opS lstD (consD (cstD (.int 0)) (consD (cstD (.int 1)) (consD (cstD (.int 2)) (consD (cstD (.int 4)) nilD)))) (env5 x2 x3 (some (hpD g5))) (M2 ++ [.lst [.int 0, .int 1, .int 2]] ++ [.lst []]) = some (.ok (.lst (M2 ++ [Cell.lst [.int 0, .int 1, .int 2]] ++ [Cell.lst []]).length), M2 ++ [.lst [.int 0, .int 1, .int 2]] ++ [.lst []] ++ [.lst [.int 0, .int 1, .int 2, .int 4]]) := lst_ap (cons4_ap rfl rfl rfl rfl) (by simp)
  have L2 := lst_ap (cons3_ap c1 c2 c3) (by simp)
  obtain ⟨M3, hM3⟩ : ∃ M3, M3 = M2 ++ [Cell.lst [.int 0, .int 1, .int 2]] ++ [.lst []] ++ [.lst [.int 0, .int 1, .int 2, .int 4]] := ⟨_, rfl⟩
  rw [← hM3] at L2
  obtain ⟨k4, hk4⟩ : ∃ k, k = M2.length := ⟨_, rfl⟩
  obtain ⟨k5, hk5⟩ : ∃ k, k = (M2 ++ [Cell.lst [.int 0, .int 1, .int 2]]).length := ⟨_, rfl⟩
  obtain ⟨k6, hk6⟩ : ∃ k, k = (M2 ++ [Cell.lst [.int 0, .int 1, .int 2]] ++ [Cell.lst []]).length := ⟨_, rfl⟩
  rw [← hk4, ← hk5, ← hk6] at L2
  obtain ⟨M4, hM4⟩ : ∃ M4, M4 = M3 ++ [Cell.lst [.lst k4, .lst k5, .lst k6]] := ⟨_, rfl⟩
  rw [← hM4] at L2
  have up : ∀ {k : Nat} {cc : Cell}, sGet M1 k = some cc → sGet M4 k = some cc := fun h => by
    rw [hM4, hM3, hM2]
    exact get_up (get_up (get_up (get_up (get_up h))))
  have u4 : sGet M4 k4 = some (.lst (([0, 1, 2] : List Int).map D.int)) := by
    rw [hM4, hM3, hk4]
    exact get_up (get_up (get_up get_new))
  have u5 : sGet M4 k5 = some (.lst (([] : List Int).map D.int)) := by
    rw [hM4, hM3, hk5]
    exact get_up (get_up get_new)
  have u6 : sGet M4 k6 = some (.lst (([0, 1, 2, 4] : List Int).map D.int)) := by
    rw [hM4, hM3, hk6]
    exact get_up get_new
  have u7 : sGet M4 M1.length = some (.lst [.lst k1, .lst k2, .lst k3]) := by
    rw [hM4, hM3, hM2]
    exact get_up (get_up (get_up (get_up get_new)))
  have u8 : sGet M4 M3.length = some (.lst [.lst k4, .lst k5, .lst k6]) := by
    rw [hM4]
    exact get_new
  have q : eqF true (.lst M1.length) (.lst M3.length) M4 = some (.bl false, M4) := by
    rw [eqF_lst]
    exact eqD_same (PyS.lst u7 (py_ints3 (up j1) (up j2) (up j3) (by simp) (by simp) (by simp))) (PyS.lst u8 (py_ints3 u4 u5 u6 (by simp) (by simp) (by simp))) (by omega) (by omega)
  have s := pass_ap (a := stuckS) (btest_ap (cmp_ap (op := .NotEq) L1 L2 q))
  have aa : M4 = (cupC g c :: R) ++ (X1 ++ X2 ++ X3 ++ [Cell.lst [.lst k1, .lst k2, .lst k3]] ++ [Cell.lst [.int 0, .int 1, .int 2]] ++ [.lst []] ++ [.lst [.int 0, .int 1, .int 2, .int 4]] ++ [Cell.lst [.lst k4, .lst k5, .lst k6]]) := by
    rw [hM4, hM3, hM2, hM1]
    simp only [List.append_assoc, List.cons_append]
  rw [aa] at s
  exact trimS_is s rfl (hR.wf (g := g) (c := c)) (env5_ok (k := R.length) (fun d hd => o2 d hd _) (fun d hd => o3 d hd _) (fun d hd => by cases hd; exact okR_hp _ g5))
theorem flat_cnt {h : Hpd} {rs : List Wd} {cs : List Int} {E : List Nat} : flat (cntX h rs cs ++ [.lst (cntL E 0 h)]) := by
  have ww : ∀ l : List (List Wd), flatC (.lst (l.map wsD)) := fun l k => okp_cell fun d hd => by
    obtain ⟨w, _, rfl⟩ := List.mem_map.mp hd
    exact .ws
  exact ⟨flatC_int [0], flatC_int cs, ww [rs], ww (cellWs h), ww (allWs h rs), flatC_cnt _ _ _, trivial⟩
theorem q_cnt {h : Hpd} {rs : List Wd} {T : List D} (hh : hpOk h) (hr : wsOk h rs) (hT : cntL (every h rs) 0 h = T) {R : Sto} {g c : Int} (hR : Gd R) : ∃ X : Sto, f_counts_in [hpD h, wsD rs] (cupC g c :: R) = some (.ok (.tup T), cupC g c :: (R ++ X)) ∧ Gd (R ++ X) := by
  obtain ⟨cs, e⟩ := q_countsX hh hr (hR.wf (g := g) (c := c))
  rw [hT] at e
  refine ⟨_, e, hR.flat ?_⟩
  rw [← hT]
  exact flat_cnt
theorem hp0_ok : hpOk [] := ⟨Nat.zero_le _, fun c hc => by cases hc⟩
theorem eq_tup {M : Sto} {T : List D} {ps : List PyData} (h : PyS M 10 T ps) : eqF false (.tup T) (.tup T) M = some (.bl true, M) := eqD_same (neg := false) (PyS.tup h) (PyS.tup h) (by omega) (by omega)
theorem py_5 {M : Sto} {a b c d : Int} : PyS M 10 [.int a, .int b, .int c, .non, .int d] [.int a, .int b, .int c, .none, .int d] :=
  .cons (k := 9) ((PyV.int _).mono (by omega)) (.cons (k := 8) ((PyV.int _).mono (by omega)) (.cons (k := 7) ((PyV.int _).mono (by omega)) (.cons (k := 6) (PyV.non.mono (by omega)) (.cons (k := 5) ((PyV.int _).mono (by omega)) (PyS.nil.mono (Nat.zero_le _))))))
theorem q_law4 {g c : Int} {R : Sto} {x2 x3 : Option D} (hR : Gd R) : ∃ M', d_law_4 (env5 x2 x3 (some (hpD g5))) (cupC g c :: R) = some (.rt (.bl true), env5 x2 x3 (some (hpD g5)), M') := by
  obtain ⟨X1, e1, G1⟩ := q_cnt (T := [.int 1, .int 2, .int 2, .non, .int 1]) g5_ok r2_ok rfl (g := g) (c := c) hR
  obtain ⟨X2, e2, G2⟩ := q_cnt (T := [.int 1, .int 2, .int 1, .non, .int 1]) g5_ok r0_ok rfl (g := g) (c := c) G1
  obtain ⟨X3, e3, G3⟩ := q_cnt (T := []) hp0_ok r0_ok rfl (g := g) (c := c) G2
  have b1 : callE 2 f_counts_in (consD (nmD 4) (consD (opS tupD (consD (cstD (.int 2)) nilD)) nilD)) (env5 x2 x3 (some (hpD g5))) (cupC g c :: R) = _ := callG2_ap (a := hpD g5) (b := wsD [.ad 2]) rfl rfl e1
  have b2 : callE 2 f_counts_in (consD (nmD 4) (consD (opS tupD nilD) nilD)) (env5 x2 x3 (some (hpD g5))) (cupC g c :: (R ++ X1)) = _ := callG2_ap (a := hpD g5) (b := wsD []) rfl rfl e2
  have b3 : callE 2 f_counts_in (consD (opS tupD nilD) (consD (opS tupD nilD) nilD)) (env5 x2 x3 (some (hpD g5))) (cupC g c :: (R ++ X1 ++ X2)) = _ := callG2_ap (a := hpD []) (b := wsD []) rfl rfl e3
  have t1 : ∀ {a b c e : Int} {M : Sto} {r : DEnv}, opS tupD (consD (cstD (.int a)) (consD (cstD (.int b)) (consD (cstD (.int c)) (consD (cstD .non) (consD (cstD (.int e)) nilD))))) r M = some (.ok (.tup [.int a, .int b, .int c, .non, .int e]), M) := tup_ap (five_ap rfl rfl rfl rfl rfl) (by simp)
  have t0 : ∀ {M : Sto} {r : DEnv}, opS tupD nilD r M = some (.ok (.tup []), M) := rfl
  exact ⟨_, ret_ap (and_tt (cmp_ap (op := .Eq) b1 t1 (eq_tup py_5)) (and_tt (cmp_ap (op := .Eq) b2 t1 (eq_tup py_5)) (cmp_ap (op := .Eq) b3 t0 (eq_tup (PyS.nil.mono (Nat.zero_le _))))))⟩
theorem gd_nil : Gd [] := ⟨rfl, rfl⟩
theorem law_runs (g c : Int) (hg : 0 ≤ g) : runsTo d_law 3 g c := by
  obtain ⟨g1, c1, R, x2, x3, hg1, hR, s0, o2, o3⟩ := q_law0 (c := c) hg gd_nil
  obtain ⟨g2, c2, hg2, s2⟩ := q_law2 (c := c1) hg1 hR o2 o3
  have s3 := q_law3 (g := g2) (c := c2) hR o2 o3
  obtain ⟨M', s4⟩ := q_law4 (g := g2) (c := c2) (x2 := x2) (x3 := x3) hR
  refine ⟨env5 x2 x3 (some (hpD g5)), M', ?_⟩
  show d_law (env5 none none none) (cupC g c :: []) = _
  unfold d_law
  rw [seq_nx s0, seq_nx q_law1, seq_nx s2, seq_nx s3]
  exact s4
end Py

-- Top50
set_option maxRecDepth 100000
set_option maxHeartbeats 0
namespace Py
open PySem PySem.Spec PyProof.Rows L2 PyD PyL PyH L2H HotX PyM NdefX
theorem top50 {w : World} {h : Heap} {K : PySem.W.Frag} {mg : Str → Option Value} (X : K.In h) (G : h.Ns mainGlobals mg) (S : look50.Says w h K) :
    ∃ T : Top P50 w K mg, (∀ base : Heap, EAll T base (PyT.mkT K mk50)) ∧ (∀ base : Heap, (∀ p ∈ PyT.mkC K mk50, LamX.TabB base mg p.1 p.2) → Lams T base (PyT.mkT K mk50)) ∧
      ∀ (s : Shared) (us : List Value), us.length = pp_law.length → BindsTo s T.D_law.u ⟨us, []⟩ (pp_law.zip us) := by
  have c : He.SaysD fa50 fn50 K := S.x.t.d
  have more : ex50 K = true := S.x.more
  unfold ex50 at more
  simp only [Bool.and_eq_true] at more
  obtain ⟨m_mkB, m_f_InvalidTree, m_f_InvalidProgram, m_f_InvalidNumber, m_f_InvalidHeap, m_f_InvalidRoots, m_f_InvalidAddress, m_f_InvalidClearing, m_f_TooMany⟩ := more
  obtain ⟨D__law_cup, a__law_cup, b__law_cup⟩ := PyT.defAt (x := "_law_cup") (st := st__law_cup) (ps := pp__law_cup) X G c (List.mem_of_getElem? (i := 0) (by kernel_rfl)) (List.mem_of_getElem? (i := 0) (by kernel_rfl)) (fun _ _ _ _ _ _ us hl => match us, hl with | [_], _ => rfl)
  obtain ⟨D__law_roll, a__law_roll, b__law_roll⟩ := PyT.defAt (x := "_law_roll") (st := st__law_roll) (ps := pp__law_roll) X G c (List.mem_of_getElem? (i := 1) (by kernel_rfl)) (List.mem_of_getElem? (i := 1) (by kernel_rfl)) (fun _ _ _ _ _ _ us hl => match us, hl with | [_, _], _ => rfl)
  obtain ⟨D__law_some, a__law_some, b__law_some⟩ := PyT.defAt (x := "_law_some") (st := st__law_some) (ps := pp__law_some) X G c (List.mem_of_getElem? (i := 2) (by kernel_rfl)) (List.mem_of_getElem? (i := 2) (by kernel_rfl)) (fun _ _ _ _ _ _ us hl => match us, hl with | [_, _], _ => rfl)
  obtain ⟨D__law_word, a__law_word, b__law_word⟩ := PyT.defAt (x := "_law_word") (st := st__law_word) (ps := pp__law_word) X G c (List.mem_of_getElem? (i := 3) (by kernel_rfl)) (List.mem_of_getElem? (i := 3) (by kernel_rfl)) (fun _ _ _ _ _ _ us hl => match us, hl with | [_, _], _ => rfl)
  obtain ⟨D__law_heap, a__law_heap, b__law_heap⟩ := PyT.defAt (x := "_law_heap") (st := st__law_heap) (ps := pp__law_heap) X G c (List.mem_of_getElem? (i := 4) (by kernel_rfl)) (List.mem_of_getElem? (i := 4) (by kernel_rfl)) (fun _ _ _ _ _ _ us hl => match us, hl with | [_], _ => rfl)
  obtain ⟨D__law_led, a__law_led, b__law_led⟩ := PyT.defAt (x := "_law_led") (st := st__law_led) (ps := pp__law_led) X G c (List.mem_of_getElem? (i := 5) (by kernel_rfl)) (List.mem_of_getElem? (i := 5) (by kernel_rfl)) (fun _ _ _ _ _ _ us hl => match us, hl with | [_], _ => rfl)
  obtain ⟨D__law_reached, a__law_reached, b__law_reached⟩ := PyT.defAt (x := "_law_reached") (st := st__law_reached) (ps := pp__law_reached) X G c (List.mem_of_getElem? (i := 6) (by kernel_rfl)) (List.mem_of_getElem? (i := 6) (by kernel_rfl)) (fun _ _ _ _ _ _ us hl => match us, hl with | [_, _, _], _ => rfl)
  obtain ⟨D_is_tuple_of, a_is_tuple_of, b_is_tuple_of⟩ := PyT.defAt (x := "is_tuple_of") (st := st_is_tuple_of) (ps := pp_is_tuple_of) X G c (List.mem_of_getElem? (i := 7) (by kernel_rfl)) (List.mem_of_getElem? (i := 7) (by kernel_rfl)) (fun _ _ _ _ _ _ us hl => match us, hl with | [_, _, _], _ => rfl)
  obtain ⟨D_begins_with_word, a_begins_with_word, b_begins_with_word⟩ := PyT.defAt (x := "begins_with_word") (st := st_begins_with_word) (ps := pp_begins_with_word) X G c (List.mem_of_getElem? (i := 8) (by kernel_rfl)) (List.mem_of_getElem? (i := 8) (by kernel_rfl)) (fun _ _ _ _ _ _ us hl => match us, hl with | [_], _ => rfl)
  obtain ⟨D_is_index_of, a_is_index_of, b_is_index_of⟩ := PyT.defAt (x := "is_index_of") (st := st_is_index_of) (ps := pp_is_index_of) X G c (List.mem_of_getElem? (i := 9) (by kernel_rfl)) (List.mem_of_getElem? (i := 9) (by kernel_rfl)) (fun _ _ _ _ _ _ us hl => match us, hl with | [_, _], _ => rfl)
  obtain ⟨D_is_address, a_is_address, b_is_address⟩ := PyT.defAt (x := "is_address") (st := st_is_address) (ps := pp_is_address) X G c (List.mem_of_getElem? (i := 10) (by kernel_rfl)) (List.mem_of_getElem? (i := 10) (by kernel_rfl)) (fun _ _ _ _ _ _ us hl => match us, hl with | [_, _], _ => rfl)
  obtain ⟨D_is_integer, a_is_integer, b_is_integer⟩ := PyT.defAt (x := "is_integer") (st := st_is_integer) (ps := pp_is_integer) X G c (List.mem_of_getElem? (i := 11) (by kernel_rfl)) (List.mem_of_getElem? (i := 11) (by kernel_rfl)) (fun _ _ _ _ _ _ us hl => match us, hl with | [_, _, _], _ => rfl)
  obtain ⟨D_is_number, a_is_number, b_is_number⟩ := PyT.defAt (x := "is_number") (st := st_is_number) (ps := pp_is_number) X G c (List.mem_of_getElem? (i := 12) (by kernel_rfl)) (List.mem_of_getElem? (i := 12) (by kernel_rfl)) (fun _ _ _ _ _ _ us hl => match us, hl with | [_], _ => rfl)
  obtain ⟨D_is_heap_word, a_is_heap_word, b_is_heap_word⟩ := PyT.defAt (x := "is_heap_word") (st := st_is_heap_word) (ps := pp_is_heap_word) X G c (List.mem_of_getElem? (i := 13) (by kernel_rfl)) (List.mem_of_getElem? (i := 13) (by kernel_rfl)) (fun _ _ _ _ _ _ us hl => match us, hl with | [_, _], _ => rfl)
  obtain ⟨D_are_words, a_are_words, b_are_words⟩ := PyT.defAt (x := "are_words") (st := st_are_words) (ps := pp_are_words) X G c (List.mem_of_getElem? (i := 14) (by kernel_rfl)) (List.mem_of_getElem? (i := 14) (by kernel_rfl)) (fun _ _ _ _ _ _ us hl => match us, hl with | [_, _], _ => rfl)
  obtain ⟨D_is_cell, a_is_cell, b_is_cell⟩ := PyT.defAt (x := "is_cell") (st := st_is_cell) (ps := pp_is_cell) X G c (List.mem_of_getElem? (i := 15) (by kernel_rfl)) (List.mem_of_getElem? (i := 15) (by kernel_rfl)) (fun _ _ _ _ _ _ us hl => match us, hl with | [_, _], _ => rfl)
  obtain ⟨D_fits_heap, a_fits_heap, b_fits_heap⟩ := PyT.defAt (x := "fits_heap") (st := st_fits_heap) (ps := pp_fits_heap) X G c (List.mem_of_getElem? (i := 16) (by kernel_rfl)) (List.mem_of_getElem? (i := 16) (by kernel_rfl)) (fun _ _ _ _ _ _ us hl => match us, hl with | [_], _ => rfl)
  obtain ⟨D_check_heap, a_check_heap, b_check_heap⟩ := PyT.defAt (x := "check_heap") (st := st_check_heap) (ps := pp_check_heap) X G c (List.mem_of_getElem? (i := 17) (by kernel_rfl)) (List.mem_of_getElem? (i := 17) (by kernel_rfl)) (fun _ _ _ _ _ _ us hl => match us, hl with | [_], _ => rfl)
  obtain ⟨D_check_roots, a_check_roots, b_check_roots⟩ := PyT.defAt (x := "check_roots") (st := st_check_roots) (ps := pp_check_roots) X G c (List.mem_of_getElem? (i := 18) (by kernel_rfl)) (List.mem_of_getElem? (i := 18) (by kernel_rfl)) (fun _ _ _ _ _ _ us hl => match us, hl with | [_, _], _ => rfl)
  obtain ⟨D_addresses_in, a_addresses_in, b_addresses_in⟩ := PyT.defAt (x := "addresses_in") (st := st_addresses_in) (ps := pp_addresses_in) X G c (List.mem_of_getElem? (i := 19) (by kernel_rfl)) (List.mem_of_getElem? (i := 19) (by kernel_rfl)) (fun _ _ _ _ _ _ us hl => match us, hl with | [_], _ => rfl)
  obtain ⟨D_reached_from, a_reached_from, b_reached_from⟩ := PyT.defAt (x := "reached_from") (st := st_reached_from) (ps := pp_reached_from) X G c (List.mem_of_getElem? (i := 20) (by kernel_rfl)) (List.mem_of_getElem? (i := 20) (by kernel_rfl)) (fun _ _ _ _ _ _ us hl => match us, hl with | [_, _], _ => rfl)
  obtain ⟨D_counts_in, a_counts_in, b_counts_in⟩ := PyT.defAt (x := "counts_in") (st := st_counts_in) (ps := pp_counts_in) X G c (List.mem_of_getElem? (i := 21) (by kernel_rfl)) (List.mem_of_getElem? (i := 21) (by kernel_rfl)) (fun _ _ _ _ _ _ us hl => match us, hl with | [_, _], _ => rfl)
  obtain ⟨D_is_heap, a_is_heap, b_is_heap⟩ := PyT.defAt (x := "is_heap") (st := st_is_heap) (ps := pp_is_heap) X G c (List.mem_of_getElem? (i := 22) (by kernel_rfl)) (List.mem_of_getElem? (i := 22) (by kernel_rfl)) (fun _ _ _ _ _ _ us hl => match us, hl with | [_], _ => rfl)
  obtain ⟨D_are_roots, a_are_roots, b_are_roots⟩ := PyT.defAt (x := "are_roots") (st := st_are_roots) (ps := pp_are_roots) X G c (List.mem_of_getElem? (i := 23) (by kernel_rfl)) (List.mem_of_getElem? (i := 23) (by kernel_rfl)) (fun _ _ _ _ _ _ us hl => match us, hl with | [_, _], _ => rfl)
  obtain ⟨D__law_bent, a__law_bent, b__law_bent⟩ := PyT.defAt (x := "_law_bent") (st := st__law_bent) (ps := pp__law_bent) X G c (List.mem_of_getElem? (i := 24) (by kernel_rfl)) (List.mem_of_getElem? (i := 24) (by kernel_rfl)) (fun _ _ _ _ _ _ us hl => match us, hl with | [_, _], _ => rfl)
  obtain ⟨D__law_is_whole, a__law_is_whole, b__law_is_whole⟩ := PyT.defAt (x := "_law_is_whole") (st := st__law_is_whole) (ps := pp__law_is_whole) X G c (List.mem_of_getElem? (i := 25) (by kernel_rfl)) (List.mem_of_getElem? (i := 25) (by kernel_rfl)) (fun _ _ _ _ _ _ us hl => match us, hl with | [_, _, _], _ => rfl)
  obtain ⟨D__law_is_word, a__law_is_word, b__law_is_word⟩ := PyT.defAt (x := "_law_is_word") (st := st__law_is_word) (ps := pp__law_is_word) X G c (List.mem_of_getElem? (i := 26) (by kernel_rfl)) (List.mem_of_getElem? (i := 26) (by kernel_rfl)) (fun _ _ _ _ _ _ us hl => match us, hl with | [_, _], _ => rfl)
  obtain ⟨D__law_are_words, a__law_are_words, b__law_are_words⟩ := PyT.defAt (x := "_law_are_words") (st := st__law_are_words) (ps := pp__law_are_words) X G c (List.mem_of_getElem? (i := 27) (by kernel_rfl)) (List.mem_of_getElem? (i := 27) (by kernel_rfl)) (fun _ _ _ _ _ _ us hl => match us, hl with | [_, _], _ => rfl)
  obtain ⟨D__law_is_heap, a__law_is_heap, b__law_is_heap⟩ := PyT.defAt (x := "_law_is_heap") (st := st__law_is_heap) (ps := pp__law_is_heap) X G c (List.mem_of_getElem? (i := 28) (by kernel_rfl)) (List.mem_of_getElem? (i := 28) (by kernel_rfl)) (fun _ _ _ _ _ _ us hl => match us, hl with | [_], _ => rfl)
  obtain ⟨D__law_truly, a__law_truly, b__law_truly⟩ := PyT.defAt (x := "_law_truly") (st := st__law_truly) (ps := pp__law_truly) X G c (List.mem_of_getElem? (i := 29) (by kernel_rfl)) (List.mem_of_getElem? (i := 29) (by kernel_rfl)) (fun _ _ _ _ _ _ us hl => match us, hl with | [_, _], _ => rfl)
  obtain ⟨D__law_names, a__law_names, b__law_names⟩ := PyT.defAt (x := "_law_names") (st := st__law_names) (ps := pp__law_names) X G c (List.mem_of_getElem? (i := 30) (by kernel_rfl)) (List.mem_of_getElem? (i := 30) (by kernel_rfl)) (fun _ _ _ _ _ _ us hl => match us, hl with | [_], _ => rfl)
  obtain ⟨D__law_error, a__law_error, b__law_error⟩ := PyT.defAt (x := "_law_error") (st := st__law_error) (ps := pp__law_error) X G c (List.mem_of_getElem? (i := 31) (by kernel_rfl)) (List.mem_of_getElem? (i := 31) (by kernel_rfl)) (fun _ _ _ _ _ _ us hl => match us, hl with | [_], _ => rfl)
  obtain ⟨D__law_right, a__law_right, b__law_right⟩ := PyT.defAt (x := "_law_right") (st := st__law_right) (ps := pp__law_right) X G c (List.mem_of_getElem? (i := 32) (by kernel_rfl)) (List.mem_of_getElem? (i := 32) (by kernel_rfl)) (fun _ _ _ _ _ _ us hl => match us, hl with | [_, _, _], _ => rfl)
  obtain ⟨D__law_roots, a__law_roots, b__law_roots⟩ := PyT.defAt (x := "_law_roots") (st := st__law_roots) (ps := pp__law_roots) X G c (List.mem_of_getElem? (i := 33) (by kernel_rfl)) (List.mem_of_getElem? (i := 33) (by kernel_rfl)) (fun _ _ _ _ _ _ us hl => match us, hl with | [_, _], _ => rfl)
  obtain ⟨D_law, a_law, b_law⟩ := PyT.defAt (x := "law") (st := st_law) (ps := pp_law) X G c (List.mem_of_getElem? (i := 34) (by kernel_rfl)) (List.mem_of_getElem? (i := 34) (by kernel_rfl)) (fun _ _ _ _ _ _ us hl => match us, hl with | [_], _ => rfl)
  refine ⟨⟨D__law_cup, D__law_roll, D__law_some, D__law_word, D__law_heap, D__law_led, D__law_reached, D_is_tuple_of, D_begins_with_word, D_is_index_of, D_is_address, D_is_integer, D_is_number, D_is_heap_word, D_are_words, D_is_cell, D_fits_heap, D_check_heap, D_check_roots, D_addresses_in, D_reached_from, D_counts_in, D_is_heap, D_are_roots, D__law_bent, D__law_is_whole, D__law_is_word, D__law_are_words, D__law_is_heap, D__law_truly, D__law_names, D__law_error, D__law_right, D__law_roots, D_law, He.free_ok X G (c.facts (List.mem_of_getElem? (i := 44) (by kernel_rfl))), He.free_ok X G (c.facts (List.mem_of_getElem? (i := 45) (by kernel_rfl))), He.free_ok X G (c.facts (List.mem_of_getElem? (i := 46) (by kernel_rfl))), He.free_ok X G (c.facts (List.mem_of_getElem? (i := 47) (by kernel_rfl))), He.free_ok X G (c.facts (List.mem_of_getElem? (i := 48) (by kernel_rfl))), He.free_ok X G (c.facts (List.mem_of_getElem? (i := 49) (by kernel_rfl))), He.free_ok X G (c.facts (List.mem_of_getElem? (i := 50) (by kernel_rfl))), He.free_ok X G (c.facts (List.mem_of_getElem? (i := 51) (by kernel_rfl))), He.free_ok X G (c.facts (List.mem_of_getElem? (i := 52) (by kernel_rfl))), He.free_ok X G (c.facts (List.mem_of_getElem? (i := 53) (by kernel_rfl))), He.free_ok X G (c.facts (List.mem_of_getElem? (i := 54) (by kernel_rfl))), He.free_ok X G (c.facts (List.mem_of_getElem? (i := 55) (by kernel_rfl))), He.free_ok X G (c.facts (List.mem_of_getElem? (i := 56) (by kernel_rfl))), He.free_ok X G (c.facts (List.mem_of_getElem? (i := 57) (by kernel_rfl))), He.free_ok X G (c.facts (List.mem_of_getElem? (i := 58) (by kernel_rfl))), He.int_ok X G (c.facts (List.mem_of_getElem? (i := 60) (by kernel_rfl))), He.int_ok X G (c.facts (List.mem_of_getElem? (i := 61) (by kernel_rfl))), He.int_ok X G (c.facts (List.mem_of_getElem? (i := 62) (by kernel_rfl))), PyT.clsMk X G c (List.mem_of_getElem? (i := 35) (by kernel_rfl)) (List.mem_of_getElem? (i := 63) (by kernel_rfl)), PyT.clsMk X G c (List.mem_of_getElem? (i := 36) (by kernel_rfl)) (List.mem_of_getElem? (i := 64) (by kernel_rfl)), PyT.clsMk X G c (List.mem_of_getElem? (i := 37) (by kernel_rfl)) (List.mem_of_getElem? (i := 65) (by kernel_rfl)), PyT.clsMk X G c (List.mem_of_getElem? (i := 38) (by kernel_rfl)) (List.mem_of_getElem? (i := 66) (by kernel_rfl)), PyT.clsMk X G c (List.mem_of_getElem? (i := 39) (by kernel_rfl)) (List.mem_of_getElem? (i := 67) (by kernel_rfl)), PyT.clsMk X G c (List.mem_of_getElem? (i := 40) (by kernel_rfl)) (List.mem_of_getElem? (i := 68) (by kernel_rfl)), PyT.clsMk X G c (List.mem_of_getElem? (i := 41) (by kernel_rfl)) (List.mem_of_getElem? (i := 69) (by kernel_rfl)), PyT.clsMk X G c (List.mem_of_getElem? (i := 42) (by kernel_rfl)) (List.mem_of_getElem? (i := 70) (by kernel_rfl)), PyT.clsN X G c (List.mem_of_getElem? (i := 43) (by kernel_rfl))⟩, fun base => ?_, fun base TB => ?_, b_law⟩
  · refine ⟨fun lam => ⟨D__law_names.F, sc__law_names, D__law_names.m, D__law_names.b, fun hot cl zc fl hX hf ht hn hr => ?_⟩, ?_, ⟨D__law_error.F, ⟨rfl, rfl, rfl, by decide +kernel, rfl, by decide +kernel, by decide +kernel⟩, D__law_error.m, D__law_error.b, ⟨_, _, _, _, _, _, _, _, _, _, _, _, _, rfl⟩, by rfl, by rfl, by rfl, by rfl, He.glo_ok X G (c.facts (List.mem_of_getElem? (i := 42) (by kernel_rfl))), by decide, by decide, by decide, by decide, by decide, by decide⟩, by decide, fun cls hc => ?_⟩
    · exact hot__law_names _ hot cl zc fl hX hn (ht _ (List.mem_of_getElem? (i := 0) rfl)) (ht _ (List.mem_of_getElem? (i := 1) rfl)) (ht _ (List.mem_of_getElem? (i := 2) rfl)) (ht _ (List.mem_of_getElem? (i := 3) rfl)) (ht _ (List.mem_of_getElem? (i := 4) rfl)) (ht _ (List.mem_of_getElem? (i := 5) rfl)) (ht _ (List.mem_of_getElem? (i := 6) rfl)) (ht _ (List.mem_of_getElem? (i := 7) rfl)) (ht _ (List.mem_of_getElem? (i := 8) rfl)) hr
    · intro y f e
      unfold flds at e
      split at e
      · exact (Option.some.inj e).symm
      · cases e
    · have all : ∀ cls ∈ known, ClsF K mg (He.ga K "NearError") (tab50.map (fun p => (p, Value.ref (He.ga K p))) ++ [(("ValueError" : Str), Value.type "ValueError")]) sub0 "limit" cls := List.forall_mem_cons.mpr ⟨PyT.clsF (tab := tab50) X G c (List.mem_of_getElem? (i := 41) (by kernel_rfl)) m_f_InvalidTree, List.forall_mem_cons.mpr ⟨PyT.clsF (tab := tab50) X G c (List.mem_of_getElem? (i := 39) (by kernel_rfl)) m_f_InvalidProgram, List.forall_mem_cons.mpr ⟨PyT.clsF (tab := tab50) X G c (List.mem_of_getElem? (i := 38) (by kernel_rfl)) m_f_InvalidNumber, List.forall_mem_cons.mpr ⟨PyT.clsF (tab := tab50) X G c (List.mem_of_getElem? (i := 37) (by kernel_rfl)) m_f_InvalidHeap, List.forall_mem_cons.mpr ⟨PyT.clsF (tab := tab50) X G c (List.mem_of_getElem? (i := 40) (by kernel_rfl)) m_f_InvalidRoots, List.forall_mem_cons.mpr ⟨PyT.clsF (tab := tab50) X G c (List.mem_of_getElem? (i := 35) (by kernel_rfl)) m_f_InvalidAddress, List.forall_mem_cons.mpr ⟨PyT.clsF (tab := tab50) X G c (List.mem_of_getElem? (i := 36) (by kernel_rfl)) m_f_InvalidClearing, List.forall_mem_cons.mpr ⟨PyT.clsF (tab := tab50) X G c (List.mem_of_getElem? (i := 43) (by kernel_rfl)) m_f_TooMany, List.forall_mem_nil _⟩⟩⟩⟩⟩⟩⟩⟩
      exact all cls (anyS_iff.mp hc)
  · exact ⟨PyT.lamAt D__law_right a__law_right (List.mem_of_getElem? (i := 0) rfl) m_mkB TB, PyT.lamAt D_law a_law (List.mem_of_getElem? (i := 1) rfl) m_mkB TB⟩
end Py
set_option maxHeartbeats 0
namespace Py
open PySem PySem.Spec PyProof.Rows L2 PyD PyL PyH L2H HotX PyM NdefX
theorem cup_nn (ns : List Int) : 0 ≤ (cupOf ns).1 := by
  unfold cupOf cup2
  split
  · rename_i h
    exact Int.ediv_nonneg (Int.le_trans (by decide) h) (by decide)
  · exact Int.le_refl _
theorem last50 (w : World) (mg : Str → Option Value) (fa : Addr) (h : Heap) (Y : look50.hook.says w h) (G : h.Ns mainGlobals mg) (hm : mg ("law" : Str) = some (.ref fa)) :
    ∃ K : PySem.W.Frag, K.In h ∧ LamX.LawAtS PySem.Challenge.rw_nearanswer_k50_whole_heaps_reached_and_c w K (L2N.CX P50 w) 12 63 "_law_script" mg fa h := by
  obtain ⟨K, X, S⟩ := Y
  obtain ⟨T, hE, hL, hb⟩ := top50 X G S
  have e : fa = T.D_law.a := by
    have z := hm.symm.trans T.D_law.m
    cases z
    rfl
  subst e
  refine ⟨K, X, T.D_law.u, PyT.mkC K mk50, spLaw K (PyT.mkT K mk50) (fun ns => runsTo d_law 3 (cupOf ns).1 (cupOf ns).2), fun p hp => ?_, fun p hp => ?_, fun p hp => ?_, fun s u => hb s [u] rfl, fun H a ns hl hbits hH hS => ?_, fun base hk hg TB => ?_⟩
  · obtain ⟨r, hr, rfl⟩ := List.mem_map.mp hp
    exact S.x.empty _ (List.mem_map.mpr ⟨r, hr, rfl⟩)
  · obtain ⟨r, hr, rfl⟩ := List.mem_map.mp hp
    exact S.x.out _ (List.mem_map.mpr ⟨r, hr, rfl⟩)
  · obtain ⟨r, hr, rfl⟩ := List.mem_map.mp hp
    exact PySem.W.codeHd_of_K X (S.x.hd _ (List.mem_map.mpr ⟨r, hr, rfl⟩))
  · exact ⟨a, ns, rfl, hS, PyT.tabs0 hH, Nat.le_trans (Nat.succ_le_succ hl) (by decide), law_runs _ _ (cup_nn ns), fun _ => rfl⟩
  · exact ok_law T _ (hE base) (hL base TB) (ok__law_cup T _ cup_eval)
end Py
open PySem PySem.W PyProof.Rows
theorem PySem.Challenge.cw_nearanswer_k50_whole_heaps_reached_and_c_holds : PySem.Challenge.rw_nearanswer_k50_whole_heaps_reached_and_c.Holds := by
  w_on; o_law
  refine HandSHeadRun.head_any (r := OpenLaw.row PySem.Challenge.rw_nearanswer_k50_whole_heaps_reached_and_c) (q := Py.vw50) (H := Py.look50.hook) (ob := fun s => Py.look50.obs (HandSHeadRun.getT s)) (M := 60000) (loose := Py.nm50) (d := HandSHeadRun.topDef (OpenLaw.row PySem.Challenge.rw_nearanswer_k50_whole_heaps_reached_and_c).prog 51) (kwd := []) Py.look50.obs_eq
    (by kernel_rfl) (fun s => by kernel_rfl) Py.run50 (by kernel_rfl) (by kernel_rfl) (by kernel_rfl) (by rfl) (by first | assumption | decide +kernel) (by decide +kernel) ⟨rfl, rfl, rfl, rfl, rfl, by decide +kernel⟩ ?hw ?hc
  case hw => w_witness2
  case hc =>
    refine LamX.walk_ofTsE (l := PySem.Challenge.rw_nearanswer_k50_whole_heaps_reached_and_c) (n := 63) (k := 12) (x := "_law_script") (CX := fun w => L2N.CX Py.P50 w) rfl (by decide) (by kernel_rfl) ⟨rfl, by decide, by decide⟩ (fun w mg fa h Y G hm => ?_) (fun w H s e s' z => ?_)
    · have hn : (HandSHeadRun.topDef (OpenLaw.row PySem.Challenge.rw_nearanswer_k50_whole_heaps_reached_and_c).prog 51).name = ("law" : PySem.Str) := by kernel_rfl
      rw [hn] at hm
      exact Py.last50 w mg fa h Y G hm
    · obtain ⟨_, _, _, _, _, _, _, _, _, _, _, _, q⟩ := z
      exact q
