import PyProof.Rows.All
import Wide.All
import OpenK.AllK
import Wide.FinOn
import HandS.Base
import HandS.Call
import HandS.List
import HandS.Comp
import HandS.Ends
import HandS.More
import HandS.ExcField
import HandS.ExcInit
import HandS.ExcIs
import HandS.Nested
import KE.KExcSuper
import KE.KExcIs
import HandS.Head0
import HandS.Head1
import HandS.Head2
import HandS.HeadHook1
import HandS.HeadHook2
import HandS.HeadHook3
import HandS.HeadHook4
import HandS.HeadNt
import HandS.HeadWalk
import HandS.EndTab
import HandS.Dict
import HandS.Iter
import HandS.Text
import HandS.Words
import HandS.WordsList
import HandS.WordsDict
import HandS.Exc
import HandS.TryOnly
import HandS.ExcOwn
import HandS.WordsExc
import HandS.Deep
import HandS.Style
import HandS.TupAny
import HandS.TupMul
import HandS.TupLen
import HandS.Wide
import HandS.DictComp
import HandS.Zip
import HandS.Lambda
import PyProof.ListCopy
import PyProof.P3In
import KE.LtData
import HandS.TupLe
import HandS.ExcCtx
import HandS.Strs
import HandS.Set
import HandS.FStr
import HandS.Small
import HandS.Hot
import HandS.HotCalls
import KE.GoesMore
import KE.KDictZip
import KE.KItemsList
import HandS.ListItems
import PySem.Challenge.RW_nearanswer_k32_programs_led_that_are_non
set_option Elab.async false
set_option linter.all false
set_option maxRecDepth 100000
set_option maxHeartbeats 8000000
-- PyB
set_option maxRecDepth 100000
set_option maxHeartbeats 4000000
noncomputable section
namespace PyD
open PySem PySem.Spec PyProof.Rows L2
/-! ### texts compared item by item -/
def lbeq : List Nat → List Nat → Bool
  | [], [] => true
  | a :: as, b :: bs => match Nat.beq a b with
    | true => lbeq as bs
    | false => false
  | _, _ => false
theorem lbeq_iff : ∀ {a b : List Nat}, lbeq a b = true ↔ a = b
  | [], [] => by simp [lbeq]
  | [], b :: bs => by simp [lbeq]
  | a :: as, [] => by simp [lbeq]
  | a :: as, b :: bs => by
    unfold lbeq
    cases h : Nat.beq a b with
    | true =>
      have e : a = b := Nat.eq_of_beq_eq_true h
      subst e
      simp [lbeq_iff (a := as) (b := bs)]
    | false =>
      have e : a ≠ b := Nat.ne_of_beq_eq_false h
      simp [e]
def sbeq (x y : Str) : Bool := lbeq x.cps.toList y.cps.toList
theorem sbeq_iff {x y : Str} : sbeq x y = true ↔ x = y := by
  unfold sbeq
  rw [lbeq_iff]
  constructor
  · intro h
    obtain ⟨⟨a⟩⟩ := x
    obtain ⟨⟨b⟩⟩ := y
    have h' : a = b := h
    rw [h']
  · intro h
    rw [h]
theorem sbeq_dec {x y : Str} : sbeq x y = decide (x = y) := by
  rw [Bool.eq_iff_iff, sbeq_iff, decide_eq_true_iff]
end PyD
namespace PyM
open PySem PySem.Spec PyProof.Rows L2
/-- a def of a class by its place -/
def methStmt (st : Stmt) (j : Nat) : Stmt := match st with
  | .ClassDef _ _ _ b _ _ _ _ _ _ _ => b.getD j st
  | s => s
/-- the first def of a class, and what its super().__init__ is handed -/
def initStmt : Stmt → Stmt
  | .ClassDef _ _ _ (b :: _) _ _ _ _ _ _ _ => b
  | s => s
def superArg : List Stmt → Expr
  | .Expr (.Call _ [e] _ _) _ :: _ => e
  | _ => .Name "" ⟨0, 0, 0, 0⟩
def initExpr (st : Stmt) : Expr := superArg (defBody (initStmt st))
end PyM
namespace PyT
open PySem PySem.Spec PyProof.Rows L2 PyD PyM
/-! ### what the top leaves, looked at by names -/
/-- the addresses that objects name -/
def namesOf (g : Addr → Option Obj) (l : List Addr) : List Addr := l.flatMap fun a => match g a with
  | some o => He.refsD o
  | none => []
/-- the objects of the names xs and what they name; of the names ys two steps more -/
def partAt (g : Addr → Option Obj) (xs ys : List Str) : List Addr :=
  mainGlobals :: cStatics :: (xs.map (He.ga (He.frG g [mainGlobals])) ++ (namesOf g (xs.map (He.ga (He.frG g [mainGlobals]))) ++
    (namesOf g (namesOf g (ys.map (He.ga (He.frG g [mainGlobals])))) ++ namesOf g (namesOf g (namesOf g (ys.map (He.ga (He.frG g [mainGlobals]))))))))
abbrev FnT : Type := Option (Str × Str × Arguments × FuncBody × Scope × Addr × Addr)
/-- a def's text, whatever it closes over -/
def fnT (K : PySem.W.Frag) (p : Str × Option Str) : FnT := match K.lookup (He.fAd K p) with
  | some o => (match o.data with
    | .func fd => some (fd.name, fd.qualname, fd.params, fd.body, fd.scope, fd.globals, fd.builtins)
    | _ => none)
  | none => none
structure Look where
  xs : List Str
  ys : List Str
  fa : List He.Fa
  fn : List He.DefD
  ts : List He.Tab
  tf : List He.Defn
  ex : PySem.W.Frag → Bool
  fx : List (Str × Option Str)
  vx : List FnT
/-- which part, by names -/
abbrev Look.K (L : Look) (g : Addr → Option Obj) : PySem.W.Frag := He.frT g (partAt g L.xs L.ys)
/-- the texts -/
def Look.obsA (L : Look) (g : Addr → Option Obj) : List He.FnW × List (Option (List (Option (Str × Int)))) × List FnT :=
  (L.fn.map fun d => He.fnW (L.K g) d.at_, L.ts.map fun t => He.dicW (L.K g) (t.1 (L.K g)), L.fx.map (fnT (L.K g)))
/-- the tests -/
def Look.obsB (L : Look) (g : Addr → Option Obj) : Bool :=
  (L.fa.all fun f => f.ok (L.K g)) && ((L.fn.all fun d => d.ok (L.K g)) && (L.ex (L.K g) && He.tabsB g L.tf (L.K g)))
def Look.valA (L : Look) (w : World) : List He.FnW × List (Option (List (Option (Str × Int)))) × List FnT := (L.fn.map He.DefD.val, L.ts.map fun t => some (He.keysIn w.params t.2), L.vx)
def Look.obs (L : Look) (g : Addr → Option Obj) : (List He.FnW × List (Option (List (Option (Str × Int)))) × List FnT) × Bool := (L.obsA g, L.obsB g)
structure Look.Says (L : Look) (w : World) (h : Heap) (K : PySem.W.Frag) : Prop where
  x : He.SaysX L.fa L.fn L.ts L.tf L.ex w h K
  f : L.fx.map (fnT K) = L.vx
theorem Look.of (L : Look) {w : World} {h : Heap} (e : L.obs h.get? = (L.valA w, true)) : L.Says w h (L.K h.get?) := by
  have eA : L.obsA h.get? = L.valA w := congrArg Prod.fst e
  have eB : L.obsB h.get? = true := congrArg Prod.snd e
  unfold Look.obsB at eB
  simp only [Bool.and_eq_true] at eB
  obtain ⟨b1, b2, b3, b4⟩ := eB
  have l1 : (L.fn.map fun d => He.fnW (L.K h.get?) d.at_) = L.fn.map He.DefD.val := congrArg Prod.fst eA
  have l2 : (L.ts.map fun t => He.dicW (L.K h.get?) (t.1 (L.K h.get?))) = L.ts.map fun t => some (He.keysIn w.params t.2) := congrArg (fun z => z.2.1) eA
  have l3 : L.fx.map (fnT (L.K h.get?)) = L.vx := congrArg (fun z => z.2.2) eA
  have hd : He.obsT L.fa L.fn L.ts (L.K h.get?) = He.valT L.fn L.ts w := by
    unfold He.obsT He.valT He.obsD He.valD
    rw [l1, l2, b1, b2]
    rfl
  have tab : ∀ p ∈ L.tf, PySem.W.codeHdIn (L.K h.get?) (He.cT (L.K h.get?) p).1 (He.cT (L.K h.get?) p).2 = true ∧ ∃ o, h.get? (He.cT (L.K h.get?) p).2 = some o ∧ He.emptyTab o = true := fun p hp => by
    have z := List.all_eq_true.mp b4 p hp
    rw [Bool.and_eq_true] at z
    refine ⟨z.1, ?_⟩
    have z2 := z.2
    split at z2
    · rename_i o ho
      exact ⟨o, ho, z2⟩
    · cases z2
  exact ⟨⟨hd, b3, fun p hp => (tab p hp).1, fun p hp => (tab p hp).2.elim fun o q => He.frT_none q.1 q.2, fun p hp => (tab p hp).2.elim fun o q => by rw [q.1, He.emptyTab_eq q.2]⟩, l3⟩
def Look.hook (L : Look) : PySem.W.Hook where
  α := (List He.FnW × List (Option (List (Option (Str × Int)))) × List FnT) × Bool
  obs := fun s => L.obs s.heap.get?
  val := fun w => (L.valA w, true)
  says := fun w h => ∃ K : PySem.W.Frag, K.In h ∧ L.Says w h K
  of := fun w s e => ⟨L.K s.heap.get?, He.frT_in, L.of e⟩
  keeps := fun w h1 h2 ⟨K, hK, c⟩ k => ⟨K, PySem.W.Frag.In.keeps hK k, ⟨c.x.t, c.x.more, c.x.hd, c.x.out, fun p hp => k _ _ (c.x.empty p hp)⟩, c.f⟩
theorem Look.obs_eq (L : Look) (s : PySem.W.SharedT) : L.obs (HandSHeadRun.getT s) = L.hook.obs s.abs := by
  show L.obs (HandSHeadRun.getT s) = L.obs s.abs.heap.get?
  rw [show HandSHeadRun.getT s = s.abs.heap.get? from funext fun a => HandSHeadRun.getT_eq s a]
/-! the run's parts, each checked by itself -/
noncomputable def endR (r : PySem.W.OpenRow) (w : World) (os : OsState) : Option PySem.W.SharedT := HandSHeadRun.endF (HandSHeadRun.stepQ (HandSHeadRun.denQ HandSHeadRun.tabQ) r.prog w) 60000 r.prog w os
noncomputable def seesR (r : PySem.W.OpenRow) (q : Program) (loose : List Str) (s : PySem.W.SharedT) := HandSHeadRun.seenQ q loose (importedModules r.prog.main.body) (fun s => PySem.W.xlAt q [] s && PySem.W.recOk r.toRowW.records s) s.abs
theorem join3 {α β γ δ : Type} {x : Option α} {f : α → β} {g : α → γ} {k : α → δ} {a : β} {b : γ} {c : δ} (h1 : x.map (fun s => (f s, g s)) = some (a, b)) (h2 : x.map k = some c) : x.map (fun s => (f s, g s, k s)) = some (a, b, c) := by
  cases x with
  | none => cases h1
  | some s =>
    have e1 := Option.some.inj h1
    have e2 := Option.some.inj h2
    have e3 : f s = a := congrArg Prod.fst e1
    have e4 : g s = b := congrArg Prod.snd e1
    rw [Option.map_some, e3, e4, show k s = c from e2]
/-! ### tests of the written part -/
abbrev defD (x : Str) (st : Stmt) : He.DefD := ⟨(x, none), x, x, defArgs st, defBody st, defScope st, [], []⟩
def isTupT (v : Value) : Bool := match v with
  | .type t => decide (t = "tuple")
  | _ => false
def tupKB (K : PySem.W.Frag) (a : Addr) (vs : List V) : Bool := match K.lookup a with
  | some o => isTupT o.cls && (match o.data with
    | .seq its _ => Nat.ble its.size 1000 && He.relAll vs its.toList
    | _ => false)
  | none => false
def dicKB (K : PySem.W.Frag) (a : Addr) (kvs : List (Str × List Int)) : Bool := kvs.all fun q => match PySem.W.nsIn K a q.1 with
  | some (some (.ref t)) => tupKB K t (q.2.map V.int)
  | _ => false
def dicSB (K : PySem.W.Frag) (a : Addr) (kvs : List (Str × Str)) : Bool := kvs.all fun q => match PySem.W.nsIn K a q.1 with
  | some (some (.str z _)) => sbeq z q.2
  | _ => false
def inKB (K : PySem.W.Frag) (a : Addr) (tbl : List (Str × Bool)) : Bool := tbl.all fun p => match PySem.W.nsIn K a p.1 with
  | some r => r.isSome == p.2
  | none => false
def eqV1 (a b : Option Value) : Bool := decide (a = b)
def eqB1 (a : Option Bool) (b : Bool) : Bool := decide (a = some b)
def clsFB (K : PySem.W.Frag) (c NE : Str) (tab : List Str) (sub : Str → Str → Bool) (fld : Str) : Bool :=
  eqB1 (PySem.W.exmOne K (.ref (He.ga K c)) (.ref (He.ga K NE))) true && (xfB K (He.ga K c) && (He.eqO (PySem.W.findIn K (.ref (He.ga K c)) "__class__") (some (some (.builtin "object.__class__"))) &&
  (He.eqO (PySem.W.specialIn K (.builtin "object.__class__") "__get__") (some (some (.builtin "getset_descriptor.__get__"))) && (eqB1 (PySem.W.takesIn K (.builtin "object.__class__")) true && (eqB1 (PySem.W.mroIn K (He.ga K c) (.type "object")) true &&
  (He.eqO (PySem.W.findIn K (.ref (He.ga K c)) fld) (some none) && tab.all fun p => eqB1 (PySem.W.kitOne K (.ref (He.ga K c)) (.ref (He.ga K p))) (sub c p)))))))
abbrev Mkr : Type := Str × Str
def mkD (p : Mkr) : He.Defn := (p.1, none)
def mkT (K : PySem.W.Frag) (tl : List Mkr) : List (Addr × Str) := tl.map fun p => ((He.cT K (mkD p)).2, p.2)
def mkC (K : PySem.W.Frag) (tl : List Mkr) : List (Addr × Addr) := tl.map fun p => He.cT K (mkD p)
def mkB (K : PySem.W.Frag) (tl : List Mkr) : Bool := tl.all fun p => tl.all fun q => match Nat.beq (He.cT K (mkD p)).2 (He.cT K (mkD q)).2 with
  | true => sbeq p.2 q.2
  | false => true
def oexB (K : PySem.W.Frag) (C : Addr) : Bool := match K.lookup C with
  | some o => (match o.cls, o.data, o.slots.toList with
    | .type t, .cls cd, [_, _, _, _, some (.builtin n), _] => decide (t = "type") && (decide (n = "ValueError.__new__") && (cd.hasDict && (!cd.hasDel && (match cd.mro with
      | .ref C2 :: bm => Nat.beq C2 C && PySem.HandSPX.refsVE bm
      | _ => false))))
    | _, _, _ => false)
  | none => false
def fileV (file : Str) (l : List Value) : Bool := match l with
  | _ :: _ :: .str f _ :: _ => sbeq file f
  | _ => false
def fileB (file : Str) (o : Obj) : Bool := match o.data with
  | .fields vs => fileV file vs.toList
  | _ => false
def cellB (C : Addr) (o : Obj) : Bool := match o.data with
  | .cell (some (.ref D)) => Nat.beq D C
  | _ => false
def lookB (K : PySem.W.Frag) (a : Addr) (f : Obj → Bool) : Bool := match K.lookup a with
  | some o => f o
  | none => false
def closFd (K : PySem.W.Frag) (C : Addr) (file q : Str) (fd : FuncData) : Bool := match fd.closure, fd.code with
  | [(x, cc)], .ref c => sbeq x "__class__" && (PySem.W.codeIn K (.ref c) q && (lookB K cc (cellB C) && (lookB K c (fileB file) && decide (fd.defaults = Value.none))))
  | _, _ => false
def closO (K : PySem.W.Frag) (C : Addr) (file q : Str) (o : Obj) : Bool := match o.data with
  | .func fd => closFd K C file q fd
  | _ => false
def closB (K : PySem.W.Frag) (fI C : Addr) (file : Str) (q : Str) : Bool := lookB K fI (closO K C file q)
def initB (K : PySem.W.Frag) (y x q file : Str) : Bool :=
  oexB K (He.ga K y) && (He.eqO (PySem.W.findIn K (.ref (He.ga K y)) "__setattr__") (some (some (.builtin "object.__setattr__"))) && (eqB1 (PySem.W.subIn K (.ref (He.ga K y)) (.type "BaseException")) true && (eqV1 (PySem.W.typeIn K (.ref (He.ga K y))) (some (.type "type")) && (PySem.W.keepIn K (.ref (He.ga K y)) &&
  (closB K (He.ma K (He.ga K y) "__init__") (He.ga K y) file q && (He.eqO (PySem.W.ks_superIn K (He.ga K y) (He.ga K y) "__init__") (some (some (.builtin "ValueError.__init__"))) && (He.eqO (PySem.W.nsIn K cStatics "thirdparty.any") (some none) &&
  (eqB1 (PySem.W.subIn K (.ref (He.ga K y)) (.type "ValueError")) true && (eqB1 (PySem.W.mroIn K (He.ga K y) (.ref (He.ga K y))) true && (He.eqO (PySem.W.findIn K (.ref (He.ga K y)) x) (some none) && (He.eqO (PySem.W.findIn K (.ref (He.ga K y)) "__init__") (some (some (.ref (He.ma K (He.ga K y) "__init__")))) &&
  eqV1 (PySem.W.typeIn K (.ref (He.ma K (He.ga K y) "__init__"))) (some (.type "function")))))))))))))
end PyT

-- Pre32
set_option maxRecDepth 100000
set_option maxHeartbeats 8000000
namespace Py
open PySem PySem.Spec PyProof.Rows L2 PyD PyM
def topS (i : Nat) : Stmt := PySem.Challenge.pw_nearanswer_k32_programs_led_that_are_non.main.body.getD i (.Pass ⟨0, 0, 0, 0⟩)
def tk_PART_SLICES : List (Str × Bool) := [("num", true), ("name", true), ("fun", true), ("call", true), ("let", true), ("rec", true), ("op", true), ("do", true), ("shape", false), ("match", false), ("answer", false), ("any", false), ("bind", false), ("numis", false), ("shapeis", false)]
abbrev st__law_cup : Stmt := topS 146
abbrev st_begins_with_word : Stmt := topS 13
abbrev st_is_integer : Stmt := topS 7
abbrev st_is_number : Stmt := topS 8
abbrev st_is_name : Stmt := topS 9
abbrev st_is_tuple_of : Stmt := topS 11
abbrev st_has_plain_pair : Stmt := topS 17
abbrev st_are_unlike : Stmt := topS 12
abbrev st_has_answer_rows : Stmt := topS 18
abbrev st_has_tree_form : Stmt := topS 15
abbrev st_patterns_in : Stmt := topS 20
abbrev st_parts_in : Stmt := topS 19
abbrev st_fits_tree : Stmt := topS 25
abbrev st_check_tree : Stmt := topS 77
abbrev st_scopes : Stmt := topS 33
abbrev st_with_added : Stmt := topS 35
abbrev st_free_in : Stmt := topS 37
abbrev st_check_program : Stmt := topS 79
abbrev st_trees_in : Stmt := topS 29
abbrev st_check_led_rows : Stmt := topS 96
abbrev st_used : Stmt := topS 87
abbrev st_plan_match : Stmt := topS 94
abbrev st_did : Stmt := topS 91
abbrev st_trees_and_patterns_in : Stmt := topS 27
abbrev st_measure : Stmt := topS 26
abbrev st_is_within_bounds : Stmt := topS 28
abbrev st_check_bounds : Stmt := topS 78
abbrev st_with_led_names : Stmt := topS 97
abbrev st_with_parts : Stmt := topS 21
abbrev st_done : Stmt := topS 88
abbrev st_after : Stmt := topS 120
abbrev st_led_parts_bytrees : Stmt := topS 121
abbrev st_led_tree : Stmt := topS 119
abbrev st_by_trees : Stmt := topS 118
abbrev st_finished : Stmt := topS 100
abbrev st_ahead : Stmt := topS 104
abbrev st_led_parts_bynext : Stmt := topS 105
abbrev st_led_body : Stmt := topS 103
abbrev st_led_next : Stmt := topS 101
abbrev st_by_next : Stmt := topS 99
abbrev st_check_engine : Stmt := topS 132
abbrev st_check_number : Stmt := topS 83
abbrev st_holds_value : Stmt := topS 60
abbrev st_working_index : Stmt := topS 63
abbrev st_Course__seek : Stmt := PyM.methStmt (topS 129) 1
abbrev st_Course__init : Stmt := PyM.methStmt (topS 129) 0
abbrev st_stuck_at : Stmt := topS 68
abbrev st_stop_at : Stmt := topS 75
abbrev st_Course__ending : Stmt := PyM.methStmt (topS 129) 3
abbrev st_Course__change : Stmt := PyM.methStmt (topS 129) 7
abbrev st_put_in : Stmt := topS 40
abbrev st_changed_at : Stmt := topS 69
abbrev st_Course__advance : Stmt := PyM.methStmt (topS 129) 5
abbrev st_Course__lead : Stmt := PyM.methStmt (topS 129) 8
abbrev st_shown : Stmt := topS 61
abbrev st_shown_end : Stmt := topS 62
abbrev st_Course__shown_ending : Stmt := PyM.methStmt (topS 129) 4
abbrev st_run_by_rewriting : Stmt := topS 135
abbrev st_shown_and_steps : Stmt := topS 134
abbrev st_shown_by : Stmt := topS 133
abbrev st_are_shown_alike : Stmt := topS 136
abbrev st_fits_program : Stmt := topS 39
abbrev st_is_value_program : Stmt := topS 80
abbrev st_check_value : Stmt := topS 81
abbrev st_check_values : Stmt := topS 138
abbrev st_check_talk : Stmt := topS 139
abbrev st_talk_of : Stmt := topS 141
abbrev st_program_behind : Stmt := topS 142
abbrev st_deed_tree : Stmt := topS 143
abbrev st__law_name : Stmt := topS 149
def sub0 (a b : Str) : Bool := match ([("InvalidTree", "InvalidTree"), ("InvalidProgram", "InvalidProgram"), ("InvalidValue", "InvalidValue"), ("InvalidName", "InvalidName"), ("InvalidNumber", "InvalidNumber"), ("InvalidEngine", "InvalidEngine"), ("TooMany", "TooMany")] : List (Str × Str)).find? fun p => match sbeq p.1 a with | true => sbeq p.2 b | false => false with | some _ => true | none => false
abbrev st__law_error : Stmt := topS 150
abbrev st__law_programs_right : Stmt := topS 151
def qv__law_programs_right : Str := (envOfC "_law_programs_right" (defScope st__law_programs_right) 0 0 .none).qual
abbrev st__law_roll : Stmt := topS 147
abbrev st__law_some : Stmt := topS 148
abbrev st_has_deeds : Stmt := topS 95
abbrev st_is_without_deeds : Stmt := topS 117
abbrev st_check_name : Stmt := topS 82
abbrev st_deed_tag : Stmt := topS 113
abbrev st_is_tag : Stmt := topS 10
abbrev st_deed_of : Stmt := topS 116
abbrev st_is_deed_tag : Stmt := topS 115
abbrev st_tag_deed : Stmt := topS 114
abbrev st__law_others_right : Stmt := topS 152
def qv__law_others_right : Str := (envOfC "_law_others_right" (defScope st__law_others_right) 0 0 .none).qual
abbrev st__law_six : Stmt := topS 153
abbrev st_law : Stmt := topS 154
def qv_law : Str := (envOfC "law" (defScope st_law) 0 0 .none).qual
abbrev ic_TooMany : Stmt := topS 57
end Py

-- Run32
set_option maxRecDepth 100000
set_option maxHeartbeats 0
namespace Py
open PySem PySem.Spec PyProof.Rows L2 PyD PyM
abbrev R32 : PySem.W.OpenRow := PySem.W.OpenLaw.row PySem.Challenge.rw_nearanswer_k32_programs_led_that_are_non
abbrev P32 : Program := PySem.Challenge.pw_nearanswer_k32_programs_led_that_are_non
def xs32_0 : List Str := ["_law_cup", "begins_with_word", "is_integer", "is_number", "is_name", "is_tuple_of", "has_plain_pair", "are_unlike", "has_answer_rows", "has_tree_form", "patterns_in", "parts_in", "fits_tree", "check_tree", "scopes", "with_added", "free_in", "check_program", "trees_in", "check_led_rows"]
def xs32_1 : List Str := ["used", "plan_match", "did", "trees_and_patterns_in", "measure", "is_within_bounds", "check_bounds", "with_led_names", "with_parts", "done", "after", "led_parts_bytrees", "led_tree", "by_trees", "finished", "ahead", "led_parts_bynext", "led_body", "led_next", "by_next"]
def xs32_2 : List Str := ["check_engine", "check_number", "holds_value", "working_index", "stuck_at", "stop_at", "put_in", "changed_at", "shown", "shown_end", "run_by_rewriting", "shown_and_steps", "shown_by", "are_shown_alike", "fits_program", "is_value_program", "check_value", "check_values", "check_talk", "talk_of"]
def xs32_3 : List Str := ["program_behind", "deed_tree", "_law_name", "_law_error", "_law_programs_right", "_law_roll", "_law_some", "has_deeds", "is_without_deeds", "check_name", "deed_tag", "is_tag", "deed_of", "is_deed_tag", "tag_deed", "_law_others_right", "_law_six", "law", "Course", "InvalidEngine"]
def xs32_4 : List Str := ["InvalidName", "InvalidNumber", "InvalidProgram", "InvalidTree", "InvalidValue", "NearError", "TooMany", "BARRED", "ENGINES", "PART_NAMES", "SIGNS", "PART_SLICES", "STEP_WORDS"]
def xs32 : List Str := xs32_0 ++ xs32_1 ++ xs32_2 ++ xs32_3 ++ xs32_4
def nm32_0 : List Str := ["MOST_NUMBER", "MOST_SIZE", "MOST_DEPTH", "BARRED", "SIGNS", "PART_SLICES", "is_integer", "is_number", "is_name", "is_tag", "is_tuple_of", "are_unlike", "begins_with_word", "has_pattern_form", "has_tree_form", "has_match_rows", "has_plain_pair", "has_answer_rows", "parts_in", "patterns_in"]
def nm32_1 : List Str := ["with_parts", "with_part", "pattern_names", "pattern_measure", "fits_tree", "measure", "trees_and_patterns_in", "is_within_bounds", "trees_in", "put_around", "LETTERS", "scopes", "match_scope", "with_added", "without", "free_in", "bound_in", "fits_program", "put_in", "lump_at"]
def nm32_2 : List Str := ["plain_names", "pattern_with", "with_bound", "rows_with", "renamed", "with_changed", "plain", "NearError", "InvalidTree", "InvalidProgram", "InvalidValue", "InvalidName", "InvalidNumber", "InvalidEngine", "TooMany", "STEP_WORDS", "holds_value", "shown", "shown_end", "working_index"]
def nm32_3 : List Str := ["fitted", "first_fitting", "worked_out", "truth", "stuck_at", "changed_at", "row_in", "row_for", "nearest_answerer", "rest_of", "answering", "stop_at", "check_tree", "check_bounds", "check_program", "is_value_program", "check_value", "check_name", "check_number", "MOST_LED_ROWS"]
def nm32_4 : List Str := ["PART_NAMES", "used", "done", "tag_of", "deed_shape", "did", "gone_on", "answerer_match", "plan_match", "has_deeds", "check_led_rows", "with_led_names", "by_next", "finished", "led_next", "going_on", "led_body", "ahead", "led_parts", "led_parts_bynext"]
def nm32_5 : List Str := ["led_answerer", "led_answerer_bynext", "with_end", "is_shown_value", "deed_tag", "tag_deed", "is_deed_tag", "deed_of", "is_without_deeds", "by_trees", "led_tree", "after", "led_parts_bytrees", "led_answerer_bytrees", "end_told", "is_shown_deed", "MORE", "Course", "ENGINES", "check_engine"]
def nm32_6 : List Str := ["shown_by", "shown_and_steps", "run_by_rewriting", "are_shown_alike", "check_values", "check_talk", "talked", "talk_of", "program_behind", "deed_tree", "deed_tree_of", "_law_cup", "_law_roll", "_law_some", "_law_name", "_law_error", "_law_programs_right", "_law_others_right", "_law_six"]
def nm32 : List Str := nm32_0 ++ nm32_1 ++ nm32_2 ++ nm32_3 ++ nm32_4 ++ nm32_5 ++ nm32_6
def fa32_0 : List He.Fa := [.glo "_law_cup", .glo "begins_with_word", .glo "is_integer", .glo "is_number", .glo "is_name", .glo "is_tuple_of", .glo "has_plain_pair", .glo "are_unlike", .glo "has_answer_rows", .glo "has_tree_form", .glo "patterns_in", .glo "parts_in", .glo "fits_tree", .glo "check_tree", .glo "scopes", .glo "with_added", .glo "free_in", .glo "check_program", .glo "trees_in", .glo "check_led_rows"]
def fa32_1 : List He.Fa := [.glo "used", .glo "plan_match", .glo "did", .glo "trees_and_patterns_in", .glo "measure", .glo "is_within_bounds", .glo "check_bounds", .glo "with_led_names", .glo "with_parts", .glo "done", .glo "after", .glo "led_parts_bytrees", .glo "led_tree", .glo "by_trees", .glo "finished", .glo "ahead", .glo "led_parts_bynext", .glo "led_body", .glo "led_next", .glo "by_next"]
def fa32_2 : List He.Fa := [.glo "check_engine", .glo "check_number", .glo "holds_value", .glo "working_index", .glo "stuck_at", .glo "stop_at", .glo "put_in", .glo "changed_at", .glo "shown", .glo "shown_end", .glo "run_by_rewriting", .glo "shown_and_steps", .glo "shown_by", .glo "are_shown_alike", .glo "fits_program", .glo "is_value_program", .glo "check_value", .glo "check_values", .glo "check_talk", .glo "talk_of"]
def fa32_3 : List He.Fa := [.glo "program_behind", .glo "deed_tree", .glo "_law_name", .glo "_law_error", .glo "_law_programs_right", .glo "_law_roll", .glo "_law_some", .glo "has_deeds", .glo "is_without_deeds", .glo "check_name", .glo "deed_tag", .glo "is_tag", .glo "deed_of", .glo "is_deed_tag", .glo "tag_deed", .glo "_law_others_right", .glo "_law_six", .glo "law", .glo "Course", .glo "InvalidEngine"]
def fa32_4 : List He.Fa := [.glo "InvalidName", .glo "InvalidNumber", .glo "InvalidProgram", .glo "InvalidTree", .glo "InvalidValue", .glo "NearError", .glo "TooMany", .glo "BARRED", .glo "ENGINES", .glo "PART_NAMES", .glo "SIGNS", .glo "PART_SLICES", .glo "STEP_WORDS", .free "abs", .free "all", .free "any", .free "enumerate", .free "int", .free "isinstance", .free "len"]
def fa32_5 : List He.Fa := [.free "list", .free "range", .free "set", .free "sorted", .free "str", .free "tuple", .free "type", .free "zip", .free "super", .int "MOST_DEPTH" 120, .int "MOST_LED_ROWS" 5, .int "MOST_NUMBER" 1000000000000, .int "MOST_SIZE" 3000, .exc "InvalidEngine", .exc "InvalidName", .exc "InvalidNumber", .exc "InvalidProgram", .exc "InvalidTree", .exc "InvalidValue", .exc "NearError"]
def fa32_6 : List He.Fa := [.cls "Course", .mkr "Course", .noat "Course" "size", .noat "Course" "spot", .noat "Course" "trail", .meth "Course" "seek", .meth "Course" "__init__", .meth "Course" "ending", .meth "Course" "change", .meth "Course" "advance", .meth "Course" "lead", .meth "Course" "shown_ending"]
def fa32 : List He.Fa := fa32_0 ++ fa32_1 ++ fa32_2 ++ fa32_3 ++ fa32_4 ++ fa32_5 ++ fa32_6
def fn32_0 : List He.DefD := [PyT.defD "_law_cup" st__law_cup, PyT.defD "begins_with_word" st_begins_with_word, PyT.defD "is_integer" st_is_integer, PyT.defD "is_number" st_is_number, PyT.defD "is_name" st_is_name, PyT.defD "is_tuple_of" st_is_tuple_of, PyT.defD "has_plain_pair" st_has_plain_pair, PyT.defD "are_unlike" st_are_unlike, PyT.defD "has_answer_rows" st_has_answer_rows, PyT.defD "has_tree_form" st_has_tree_form, PyT.defD "patterns_in" st_patterns_in, PyT.defD "parts_in" st_parts_in, PyT.defD "fits_tree" st_fits_tree, PyT.defD "check_tree" st_check_tree, PyT.defD "scopes" st_scopes, PyT.defD "with_added" st_with_added, PyT.defD "free_in" st_free_in, PyT.defD "check_program" st_check_program, PyT.defD "trees_in" st_trees_in, PyT.defD "check_led_rows" st_check_led_rows]
def fn32_1 : List He.DefD := [PyT.defD "used" st_used, PyT.defD "plan_match" st_plan_match, PyT.defD "did" st_did, PyT.defD "trees_and_patterns_in" st_trees_and_patterns_in, PyT.defD "measure" st_measure, PyT.defD "is_within_bounds" st_is_within_bounds, PyT.defD "check_bounds" st_check_bounds, PyT.defD "with_led_names" st_with_led_names, PyT.defD "with_parts" st_with_parts, PyT.defD "done" st_done, PyT.defD "after" st_after, ⟨("led_parts_bytrees", none), "led_parts", "led_parts", defArgs st_led_parts_bytrees, defBody st_led_parts_bytrees, defScope st_led_parts_bytrees, [], []⟩, PyT.defD "led_tree" st_led_tree, PyT.defD "by_trees" st_by_trees, PyT.defD "finished" st_finished, PyT.defD "ahead" st_ahead, ⟨("led_parts_bynext", none), "led_parts", "led_parts", defArgs st_led_parts_bynext, defBody st_led_parts_bynext, defScope st_led_parts_bynext, [], []⟩, PyT.defD "led_body" st_led_body, PyT.defD "led_next" st_led_next, PyT.defD "by_next" st_by_next]
def fn32_2 : List He.DefD := [PyT.defD "check_engine" st_check_engine, PyT.defD "check_number" st_check_number, PyT.defD "holds_value" st_holds_value, PyT.defD "working_index" st_working_index, ⟨("Course", some "seek"), "seek", "Course.seek", defArgs st_Course__seek, defBody st_Course__seek, defScope st_Course__seek, [], []⟩, ⟨("Course", some "__init__"), "__init__", "Course.__init__", defArgs st_Course__init, defBody st_Course__init, defScope st_Course__init, [], []⟩, PyT.defD "stuck_at" st_stuck_at, PyT.defD "stop_at" st_stop_at, ⟨("Course", some "ending"), "ending", "Course.ending", defArgs st_Course__ending, defBody st_Course__ending, defScope st_Course__ending, [], []⟩, ⟨("Course", some "change"), "change", "Course.change", defArgs st_Course__change, defBody st_Course__change, defScope st_Course__change, [], []⟩, PyT.defD "put_in" st_put_in, PyT.defD "changed_at" st_changed_at, ⟨("Course", some "advance"), "advance", "Course.advance", defArgs st_Course__advance, defBody st_Course__advance, defScope st_Course__advance, [], []⟩, ⟨("Course", some "lead"), "lead", "Course.lead", defArgs st_Course__lead, defBody st_Course__lead, defScope st_Course__lead, [], []⟩, PyT.defD "shown" st_shown, PyT.defD "shown_end" st_shown_end, ⟨("Course", some "shown_ending"), "shown_ending", "Course.shown_ending", defArgs st_Course__shown_ending, defBody st_Course__shown_ending, defScope st_Course__shown_ending, [], []⟩, PyT.defD "run_by_rewriting" st_run_by_rewriting, PyT.defD "shown_and_steps" st_shown_and_steps, PyT.defD "shown_by" st_shown_by]
def fn32_3 : List He.DefD := [PyT.defD "are_shown_alike" st_are_shown_alike, PyT.defD "fits_program" st_fits_program, PyT.defD "is_value_program" st_is_value_program, PyT.defD "check_value" st_check_value, PyT.defD "check_values" st_check_values, PyT.defD "check_talk" st_check_talk, PyT.defD "talk_of" st_talk_of, PyT.defD "program_behind" st_program_behind, PyT.defD "deed_tree" st_deed_tree, PyT.defD "_law_name" st__law_name, PyT.defD "_law_error" st__law_error, PyT.defD "_law_programs_right" st__law_programs_right, PyT.defD "_law_roll" st__law_roll, PyT.defD "_law_some" st__law_some, PyT.defD "has_deeds" st_has_deeds, PyT.defD "is_without_deeds" st_is_without_deeds, PyT.defD "check_name" st_check_name, PyT.defD "deed_tag" st_deed_tag, PyT.defD "is_tag" st_is_tag, PyT.defD "deed_of" st_deed_of]
def fn32_4 : List He.DefD := [PyT.defD "is_deed_tag" st_is_deed_tag, PyT.defD "tag_deed" st_tag_deed, PyT.defD "_law_others_right" st__law_others_right, PyT.defD "_law_six" st__law_six, PyT.defD "law" st_law]
def fn32 : List He.DefD := fn32_0 ++ fn32_1 ++ fn32_2 ++ fn32_3 ++ fn32_4
def ts32 : List He.Tab := [(fun K => He.ga K "PART_SLICES", ["num", "name", "fun", "call", "let", "rec", "op", "do"]), (fun K => He.ga K "STEP_WORDS", ["call", "let", "rec", "match", "op", "answer", "do"])]
def mk32 : List PyT.Mkr := [("_law_programs_right", qv__law_programs_right ++ "<lambda>"), ("_law_others_right", qv__law_others_right ++ "<lambda>"), ("law", qv_law ++ "<lambda>")]
def tab32 : List Str := ["TooMany", "InvalidValue", "InvalidProgram", "InvalidTree", "InvalidEngine", "InvalidNumber", "InvalidName"]
def ex32_0 (K : PySem.W.Frag) : Bool := PyT.mkB K mk32
def ex32_1 (K : PySem.W.Frag) : Bool := PyT.tupKB K (He.ga K "BARRED") [.str "fun", .str "let", .str "in", .str "rec", .str "match", .str "do", .str "answer", .str "plain"]
def ex32_2 (K : PySem.W.Frag) : Bool := PyT.tupKB K (He.ga K "ENGINES") [.str "rewriting", .str "trees", .str "next"]
def ex32_3 (K : PySem.W.Frag) : Bool := PyT.tupKB K (He.ga K "PART_NAMES") [.str "One", .str "Two", .str "Three", .str "Four"]
def ex32_4 (K : PySem.W.Frag) : Bool := PyT.tupKB K (He.ga K "SIGNS") [.str "+", .str "-", .str "*", .str "<", .str "="]
def ex32_5 (K : PySem.W.Frag) : Bool := PyT.dicKB K (He.ga K "PART_SLICES") [("num", [2, 2]), ("name", [2, 2]), ("fun", [2, 3]), ("call", [1, 3]), ("let", [2, 4]), ("rec", [3, 5]), ("op", [2, 4]), ("do", [2, 3])]
def ex32_6 (K : PySem.W.Frag) : Bool := PyT.dicSB K (He.ga K "STEP_WORDS") [("call", "call"), ("let", "let"), ("rec", "rec"), ("match", "match"), ("op", "op"), ("answer", "plain"), ("do", "deed")]
def ex32_7 (K : PySem.W.Frag) : Bool := PyT.inKB K (He.ga K "PART_SLICES") tk_PART_SLICES
def ex32_8 (K : PySem.W.Frag) : Bool := PyT.clsFB K "InvalidTree" "NearError" tab32 sub0 "limit"
def ex32_9 (K : PySem.W.Frag) : Bool := PyT.clsFB K "InvalidProgram" "NearError" tab32 sub0 "limit"
def ex32_10 (K : PySem.W.Frag) : Bool := PyT.clsFB K "InvalidValue" "NearError" tab32 sub0 "limit"
def ex32_11 (K : PySem.W.Frag) : Bool := PyT.clsFB K "InvalidName" "NearError" tab32 sub0 "limit"
def ex32_12 (K : PySem.W.Frag) : Bool := PyT.clsFB K "InvalidNumber" "NearError" tab32 sub0 "limit"
def ex32_13 (K : PySem.W.Frag) : Bool := PyT.clsFB K "InvalidEngine" "NearError" tab32 sub0 "limit"
def ex32_14 (K : PySem.W.Frag) : Bool := PyT.clsFB K "TooMany" "NearError" tab32 sub0 "limit"
def ex32_15 (K : PySem.W.Frag) : Bool := PyT.initB K "TooMany" "limit" "TooMany.__init__" P32.main.file
def ex32 (K : PySem.W.Frag) : Bool := ex32_0 K && (ex32_1 K && (ex32_2 K && (ex32_3 K && (ex32_4 K && (ex32_5 K && (ex32_6 K && (ex32_7 K && (ex32_8 K && (ex32_9 K && (ex32_10 K && (ex32_11 K && (ex32_12 K && (ex32_13 K && (ex32_14 K && (ex32_15 K)))))))))))))))
def look32 : PyT.Look := ⟨xs32, ["TooMany", "Course", "PART_SLICES", "STEP_WORDS", "BARRED", "ENGINES", "PART_NAMES", "SIGNS"], fa32, fn32, ts32, mk32.map PyT.mkD, ex32, [("TooMany", some "__init__")], [some ("__init__", "TooMany.__init__", defArgs (initStmt ic_TooMany), .stmts (defBody (initStmt ic_TooMany)), defScope (initStmt ic_TooMany), mainGlobals, builtinsNs)]⟩
abbrev vw32 : Program := PySem.W.view R32.prog [154]
theorem run32f_1 (w : World) (os : OsState) : (PyT.endR R32 (w.withFollow "special-get-raises" false) os).map (fun s => (HandSHeadRun.looksF R32.prog (PySem.W.boot_heap (w.withFollow "special-get-raises" false).params) s.abs, PyT.seesR R32 vw32 nm32 s)) = some (true, PySem.W.openGood vw32 nm32) := by
  kernel_rfl
theorem run32f_2 (w : World) (os : OsState) : (PyT.endR R32 (w.withFollow "special-get-raises" false) os).map (fun s => look32.obs (HandSHeadRun.getT s)) = some (look32.valA (w.withFollow "special-get-raises" false), true) := by
  kernel_rfl
theorem run32f (w : World) : HandSHeadRun.RunEq R32 vw32 look32.hook (fun s => look32.obs (HandSHeadRun.getT s)) 60000 nm32 (w.withFollow "special-get-raises" false) :=
  fun os => PyT.join3 (run32f_1 w os) (run32f_2 w os)
theorem run32t_1 (w : World) (os : OsState) : (PyT.endR R32 (w.withFollow "special-get-raises" true) os).map (fun s => (HandSHeadRun.looksF R32.prog (PySem.W.boot_heap (w.withFollow "special-get-raises" true).params) s.abs, PyT.seesR R32 vw32 nm32 s)) = some (true, PySem.W.openGood vw32 nm32) := by
  kernel_rfl
theorem run32t_2 (w : World) (os : OsState) : (PyT.endR R32 (w.withFollow "special-get-raises" true) os).map (fun s => look32.obs (HandSHeadRun.getT s)) = some (look32.valA (w.withFollow "special-get-raises" true), true) := by
  kernel_rfl
theorem run32t (w : World) : HandSHeadRun.RunEq R32 vw32 look32.hook (fun s => look32.obs (HandSHeadRun.getT s)) 60000 nm32 (w.withFollow "special-get-raises" true) :=
  fun os => PyT.join3 (run32t_1 w os) (run32t_2 w os)
theorem run32 (w : World) : HandSHeadRun.RunEq R32 vw32 look32.hook (fun s => look32.obs (HandSHeadRun.getT s)) 60000 nm32 w :=
  PySem.W.byRow2 "special-get-raises" (P := fun w => HandSHeadRun.RunEq R32 vw32 look32.hook (fun s => look32.obs (HandSHeadRun.getT s)) 60000 nm32 w) run32f run32t w
end Py

-- PyD1
set_option maxRecDepth 100000
set_option maxHeartbeats 4000000
noncomputable section
namespace PyD
open PySem PySem.Spec PyProof.Rows L2

/-! ### data: values without the heap; lists and dicts by their number in a store -/
inductive D where
  | non | bl (b : Bool) | int (i : Int) | str (x : Str) | ty (n : String) | tup (ds : List D) | ktup (ds : List D) | lst (i : Nat) | dic (i : Nat) | fn (n : Nat) | exn (cls : Str) (as : List D)
inductive Cell where
  | lst (ds : List D)
  | dk (kvs : List (Key × D))
  | dt (kvs : List (List Key × D))
  | ob (c : Str) (fs : List (Str × D))
  | dead
/-- a tuple of the written part -/
def SqK (K : PySem.W.Frag) (a : Addr) (xs : List V) : Prop := ∃ (o : Obj) (its : Array Value) (n : Nat), K.lookup a = some o ∧ o.cls = .type "tuple" ∧ o.data = .seq its n ∧ its.size ≤ sizeLine ∧ Vals xs its.toList
theorem SqK.sq {K : PySem.W.Frag} {H : Hp} {a : Addr} {xs : List V} (h : SqK K a xs) : SqT K H a xs := .inr h
abbrev Sto := List Cell
abbrev DEnv := List (Option D)

/-- the i-th cell, by recursors -/
def sGet (M : Sto) : Nat → Option Cell := List.rec (motive := fun _ => Nat → Option Cell) (fun _ => none) (fun x _ ih i => Nat.rec (motive := fun _ => Option Cell) (some x) (fun k _ => ih k) i) M
theorem sGet_eq : ∀ (M : Sto) (i : Nat), sGet M i = M[i]?
  | [], i => by cases i <;> rfl
  | x :: M, 0 => rfl
  | x :: M, i + 1 => by
    rw [List.getElem?_cons_succ, ← sGet_eq M i]
    rfl
theorem sGet_mem {M : Sto} {i : Nat} {c : Cell} (h : sGet M i = some c) : c ∈ M := List.mem_of_getElem? (by rw [← sGet_eq]; exact h)
def sApp (M : Sto) (c : Cell) : Sto := List.rec (motive := fun _ => Sto) [c] (fun x _ ih => x :: ih) M
theorem sApp_eq : ∀ (M : Sto) (c : Cell), sApp M c = M ++ [c]
  | [], _ => rfl
  | x :: M, c => congrArg (x :: ·) (sApp_eq M c)
/-- what never changes -/
def Stb : HO → Prop
  | .tup _ => True
  | .ext _ => True
  | .xd _ => True
  | _ => False
/-- the written part; the tables of the makers' code; the lambdas made, by number -/
structure KT where
  f : PySem.W.Frag
  T : List (Addr × Str)
  lam : Nat → Addr → HO → Addr → HO → Prop
  exn : Str → Addr → Option (Addr × Str) → Prop
theorem kt {A : PySem.W.Frag} {K : KT} (h : A = K.f) : K = ⟨A, K.T, K.lam, K.exn⟩ := by subst h; rfl
mutual
inductive R (K : KT) (H : Hp) (io : List Addr) : D → V → Prop
  | non : R K H io .non .non
  | bl (b : Bool) : R K H io (.bl b) (.bl b)
  | int (i : Int) : R K H io (.int i) (.int i)
  | str (x : Str) : R K H io (.str x) (.str x)
  | ty (n : String) : R K H io (.ty n) (.ty n)
  | tup {a : Addr} {xs : List V} {ds : List D} : H a = some (.tup xs) → RL K H io ds xs → R K H io (.tup ds) (.ref a)
  | ktup {a : Addr} {xs : List V} {ds : List D} : SqK K.f a xs → RL K H io ds xs → R K H io (.ktup ds) (.ref a)
  | lst {i : Nat} {a : Addr} : io[i]? = some a → R K H io (.lst i) (.ref a)
  | dic {i : Nat} {a : Addr} : io[i]? = some a → R K H io (.dic i) (.ref a)
  | fn {n : Nat} {a b : Addr} {o u : HO} : K.lam n a o b u → H a = some o → Stb o → H b = some u → Stb u → R K H io (.fn n) (.ref a)
  | exn0 {cls : Str} {a : Addr} : K.exn cls a none → R K H io (.exn cls []) (.ref a)
  | exn1 {cls f : Str} {a dx : Addr} {d : D} {v : V} : K.exn cls a (some (dx, f)) → H dx = some (.xd [(f, v)]) → R K H io d v → R K H io (.exn cls [d]) (.ref a)
inductive RL (K : KT) (H : Hp) (io : List Addr) : List D → List V → Prop
  | nil : RL K H io [] []
  | cons {d : D} {v : V} {ds : List D} {vs : List V} : R K H io d v → RL K H io ds vs → RL K H io (d :: ds) (v :: vs)
end

structure Ext (K : KT) (io : List Addr) (H : Hp) (io' : List Addr) (H' : Hp) : Prop where
  u : ∀ (a : Addr) (o : HO), H a = some o → Stb o → H' a = some o
  i : ∀ (j : Nat) (a : Addr), io[j]? = some a → io'[j]? = some a

section
variable {K : KT} {H H' H1 H2 : Hp} {io io' io1 io2 : List Addr}
theorem Ext.refl : Ext K io H io H := ⟨fun _ _ h _ => h, fun _ _ h => h⟩
theorem Ext.t (e : Ext K io H io' H') (a : Addr) (xs : List V) (h : H a = some (.tup xs)) : H' a = some (.tup xs) := e.u a _ h trivial
theorem Ext.trans (a : Ext K io H io1 H1) (b : Ext K io1 H1 io2 H2) : Ext K io H io2 H2 := ⟨fun _ _ h q => b.u _ _ (a.u _ _ h q) q, fun _ _ h => b.i _ _ (a.i _ _ h)⟩
mutual
theorem R.mono (e : Ext K io H io' H') : ∀ {d : D} {v : V}, R K H io d v → R K H' io' d v
  | _, _, .non => .non
  | _, _, .bl b => .bl b
  | _, _, .int i => .int i
  | _, _, .str x => .str x
  | _, _, .ty n => .ty n
  | _, _, .tup h r => .tup (e.t _ _ h) (RL.mono e r)
  | _, _, .ktup h r => .ktup h (RL.mono e r)
  | _, _, .lst h => .lst (e.i _ _ h)
  | _, _, .dic h => .dic (e.i _ _ h)
  | _, _, .fn l h q h2 q2 => .fn l (e.u _ _ h q) q (e.u _ _ h2 q2) q2
  | _, _, .exn0 h => .exn0 h
  | _, _, .exn1 h g r => .exn1 h (e.u _ _ g trivial) (R.mono e r)
theorem RL.mono (e : Ext K io H io' H') : ∀ {ds : List D} {vs : List V}, RL K H io ds vs → RL K H' io' ds vs
  | _, _, .nil => .nil
  | _, _, .cons r t => .cons (R.mono e r) (RL.mono e t)
end
theorem RL.length : ∀ {ds : List D} {vs : List V}, RL K H io ds vs → ds.length = vs.length
  | _, _, .nil => rfl
  | _, _, .cons _ t => by rw [List.length_cons, List.length_cons, RL.length t]
theorem RL.get : ∀ {ds : List D} {vs : List V} {i : Nat} {d : D}, RL K H io ds vs → ds[i]? = some d → ∃ v, vs[i]? = some v ∧ R K H io d v
  | _, _, _, _, .nil, e => by simp at e
  | _, _, 0, _, .cons r _, e => by simp at e; subst e; exact ⟨_, rfl, r⟩
  | _, _, i + 1, _, .cons _ t, e => by
    obtain ⟨v, h1, h2⟩ := RL.get (i := i) t (by simpa using e)
    exact ⟨v, by simpa using h1, h2⟩
theorem RL.append : ∀ {ds es : List D} {vs ws : List V}, RL K H io ds vs → RL K H io es ws → RL K H io (ds ++ es) (vs ++ ws)
  | _, _, _, _, .nil, s => s
  | _, _, _, _, .cons r t, s => .cons r (RL.append t s)
theorem RL.take : ∀ {ds : List D} {vs : List V} (n : Nat), RL K H io ds vs → RL K H io (ds.take n) (vs.take n)
  | _, _, 0, _ => .nil
  | _, _, _ + 1, .nil => .nil
  | _, _, n + 1, .cons r t => .cons r (RL.take n t)
theorem RL.drop : ∀ {ds : List D} {vs : List V} (n : Nat), RL K H io ds vs → RL K H io (ds.drop n) (vs.drop n)
  | _, _, 0, r => r
  | _, _, _ + 1, .nil => .nil
  | _, _, n + 1, .cons _ t => RL.drop n t
theorem RL.set {d : D} {v : V} (r : R K H io d v) : ∀ {ds : List D} {vs : List V} (i : Nat), RL K H io ds vs → RL K H io (ds.set i d) (vs.set i v)
  | _, _, _, .nil => .nil
  | _, _, 0, .cons _ t => .cons r t
  | _, _, i + 1, .cons q t => .cons q (RL.set r i t)
theorem RL.reverse : ∀ {ds : List D} {vs : List V}, RL K H io ds vs → RL K H io ds.reverse vs.reverse
  | _, _, .nil => .nil
  | _, _, .cons r t => by
    rw [List.reverse_cons, List.reverse_cons]
    exact RL.append (RL.reverse t) (.cons r .nil)
theorem RL.dropLast : ∀ {ds : List D} {vs : List V}, RL K H io ds vs → RL K H io ds.dropLast vs.dropLast
  | _, _, .nil => .nil
  | _, _, .cons _ .nil => .nil
  | _, _, .cons r (.cons r2 t) => .cons r (RL.dropLast (.cons r2 t))
theorem RL.rep {ds : List D} {vs : List V} (h : RL K H io ds vs) : ∀ k : Nat, RL K H io (List.replicate k ds).flatten (List.replicate k vs).flatten
  | 0 => .nil
  | k + 1 => by
    rw [List.replicate_succ, List.replicate_succ, List.flatten_cons, List.flatten_cons]
    exact RL.append h (RL.rep h k)

/-! ### the store -/
def RKV {κ : Type} (K : KT) (H : Hp) (io : List Addr) : List (κ × D) → List (κ × V) → Prop := Paired fun p q => p.1 = q.1 ∧ R K H io p.2 q.2
def RC (K : KT) (H : Hp) (io : List Addr) : Cell → HO → Prop
  | .lst ds, o => ∃ xs, o = .lst xs ∧ RL K H io ds xs
  | .dk kvs, o => ∃ xs, o = .dK xs ∧ RKV K H io kvs xs
  | .dt kvs, o => ∃ xs, o = .dT xs ∧ RKV K H io kvs xs
  | .ob c fs, o => ∃ (dx : Addr) (xs : List (Str × V)), o = .ins (He.ga K.f c) dx xs ∧ RKV K H io fs xs
  | .dead, o => ¬ Stb o ∧ ∀ ps, o ≠ .tbl ps
end
end PyD

-- PyD2
set_option maxRecDepth 100000
set_option maxHeartbeats 4000000
noncomputable section
namespace PyD
open PySem PySem.Spec PyProof.Rows L2
section
variable {K : KT} {H H' H1 H2 : Hp} {io io' io1 io2 : List Addr}
theorem paired_mono {α β : Type} {F G : α → β → Prop} : ∀ {l : List α} {m : List β}, Paired F l m → (∀ a b, F a b → G a b) → Paired G l m
  | _, _, .nil, _ => .nil
  | _, _, .cons r t, f => .cons (f _ _ r) (paired_mono t f)
theorem RKV.mono {κ : Type} {a : List (κ × D)} {b : List (κ × V)} (e : Ext K io H io' H') (h : RKV K H io a b) : RKV K H' io' a b := paired_mono h fun _ _ z => ⟨z.1, z.2.mono e⟩
theorem RC.mono {c : Cell} {o : HO} (e : Ext K io H io' H') (h : RC K H io c o) : RC K H' io' c o := by
  cases c with
  | lst ds => obtain ⟨xs, q, r⟩ := h; exact ⟨xs, q, r.mono e⟩
  | dk kvs => obtain ⟨xs, q, r⟩ := h; exact ⟨xs, q, r.mono e⟩
  | dt kvs => obtain ⟨xs, q, r⟩ := h; exact ⟨xs, q, r.mono e⟩
  | ob cl fs => obtain ⟨dx, xs, q, r⟩ := h; exact ⟨dx, xs, q, r.mono e⟩
  | dead => exact h
/-- what is known of the store -/
structure RS (K : KT) (H : Hp) (io : List Addr) (M : Sto) : Prop where
  len : io.length = M.length
  nd : io.Nodup
  tab : LamX.Tabs K.T H
  cell : ∀ (i : Nat) (c : Cell), (sGet M i) = some c → ∃ (a : Addr) (o : HO), io[i]? = some a ∧ H a = some o ∧ RC K H io c o
theorem RS.there {M : Sto} (h : RS K H io M) {i : Nat} {a : Addr} (e : io[i]? = some a) : ∃ (c : Cell) (o : HO), (sGet M i) = some c ∧ H a = some o ∧ RC K H io c o := by
  obtain ⟨hl, e1⟩ := List.getElem?_eq_some_iff.mp e
  have hm : i < M.length := by rw [← h.len]; exact hl
  obtain ⟨a', o, e2, ho, rc⟩ := h.cell i M[i] (by rw [sGet_eq]; exact List.getElem?_eq_getElem hm)
  rw [e] at e2
  cases e2
  exact ⟨_, o, by rw [sGet_eq]; exact List.getElem?_eq_getElem hm, ho, rc⟩
theorem sqT_new {p : Addr} {o : HO} (n : H p = none) (a : Addr) (x : HO) (h : H a = some x) (_ : Stb x) : upd H p o a = some x := by rw [upd_ne (ne_of_none h n)]; exact h
def notTup (o : HO) : Prop := ¬ Stb o ∧ ∀ ps, o ≠ .tbl ps
theorem nt_lst {xs : List V} : notTup (.lst xs) := ⟨id, fun _ z => nomatch z⟩
theorem nt_dk {xs : List (Key × V)} : notTup (.dK xs) := ⟨id, fun _ z => nomatch z⟩
theorem nt_dt {xs : List (List Key × V)} : notTup (.dT xs) := ⟨id, fun _ z => nomatch z⟩
theorem tabs_new {T : List (Addr × Str)} {p : Addr} {o : HO} (h : LamX.Tabs T H) (n : H p = none) : LamX.Tabs T (upd H p o) := h.ext fun b x e => by rw [upd_ne (ne_of_none e n)]; exact e
theorem tabs_mut {T : List (Addr × Str)} {p : Addr} {o u : HO} (h : LamX.Tabs T H) (n : H p = some u) (m : notTup u) : LamX.Tabs T (upd H p o) := fun q hq => by
  obtain ⟨ps, h1, h2, h3⟩ := h q hq
  have ne : ∀ b x, H b = some x → (∀ y, u = y → x ≠ y) → b ≠ p := fun b x e d z => by subst z; rw [n] at e; cases e; exact d _ rfl rfl
  refine ⟨ps, by rw [upd_ne (ne _ _ h1 fun y e z => by subst e; exact m.2 ps z.symm)]; exact h1, h2, fun pos cv hc => ?_⟩
  obtain ⟨c, e1, e2⟩ := h3 pos cv hc
  exact ⟨c, e1, by rw [upd_ne (ne _ _ e2 fun y e z => by subst e; exact m.1 (by rw [← z]; exact True.intro))]; exact e2⟩
theorem sqT_mut {p : Addr} {o u : HO} (n : H p = some u) (m : notTup u) (a : Addr) (x : HO) (h : H a = some x) (q : Stb x) : upd H p o a = some x := by
  rw [upd_ne (fun z => by subst z; rw [n] at h; cases h; exact m.1 q)]
  exact h
theorem Ext.tupNew {p : Addr} {o : HO} (n : H p = none) : Ext K io H io (upd H p o) := ⟨sqT_new n, fun _ _ h => h⟩
/-- a new object that the store doesn't hold -/
theorem RS.tupNew {M : Sto} {p : Addr} {o : HO} (h : RS K H io M) (n : H p = none) : RS K (upd H p o) io M := by
  refine ⟨h.len, h.nd, tabs_new h.tab n, fun i c e => ?_⟩
  obtain ⟨a, u, e1, e2, r⟩ := h.cell i c e
  exact ⟨a, u, e1, by rw [upd_ne (ne_of_none e2 n)]; exact e2, r.mono (Ext.tupNew n)⟩
theorem Ext.alloc {p : Addr} {o : HO} (n : H p = none) : Ext K io H (io ++ [p]) (upd H p o) := ⟨sqT_new n, fun j a h => by
  rw [List.getElem?_append_left (List.getElem?_eq_some_iff.mp h).1]; exact h⟩
/-- a new object of the store -/
theorem RS.alloc {M : Sto} {p : Addr} {o : HO} {c : Cell} (h : RS K H io M) (n : H p = none) (rc : RC K (upd H p o) (io ++ [p]) c o) : RS K (upd H p o) (io ++ [p]) ((sApp M (c))) := by
  rw [sApp_eq]
  refine ⟨by simp [h.len], ?_, tabs_new h.tab n, fun i c' e => ?_⟩
  · rw [List.nodup_append]
    refine ⟨h.nd, by simp, fun a ha b hb => ?_⟩
    have hb' : b = p := by simpa using hb
    subst hb'
    intro z
    subst z
    obtain ⟨i, hi, e⟩ := List.getElem_of_mem ha
    obtain ⟨c0, o0, _, e2, _⟩ := h.there (i := i) (a := a) (by rw [List.getElem?_eq_getElem hi, e])
    rw [n] at e2
    cases e2
  · rw [sGet_eq] at e
    by_cases hi : i < M.length
    · rw [List.getElem?_append_left hi, ← sGet_eq] at e
      obtain ⟨a, u, e1, e2, r⟩ := h.cell i c' e
      exact ⟨a, u, (Ext.alloc (K := K) (o := o) n).i i a e1, by rw [upd_ne (ne_of_none e2 n)]; exact e2, r.mono (Ext.alloc n)⟩
    · have hi2 : i = M.length := by
        have := (List.getElem?_eq_some_iff.mp e).1
        simp at this
        omega
      subst hi2
      rw [List.getElem?_append_right (Nat.le_refl _)] at e
      simp at e
      subst e
      exact ⟨p, o, by rw [← h.len, List.getElem?_append_right (Nat.le_refl _)]; simp, upd_same, rc⟩
def CellKind : Cell → HO → Prop
  | .lst _, .lst _ => True
  | .dk _, .dK _ => True
  | .dt _, .dT _ => True
  | _, _ => False
theorem RC.notTup {c : Cell} {o : HO} (h : RC K H io c o) : notTup o := by
  cases c with
  | lst ds => obtain ⟨xs, q, r⟩ := h; subst q; exact ⟨id, fun _ z => nomatch z⟩
  | dk ds => obtain ⟨xs, q, r⟩ := h; subst q; exact ⟨id, fun _ z => nomatch z⟩
  | dt ds => obtain ⟨xs, q, r⟩ := h; subst q; exact ⟨id, fun _ z => nomatch z⟩
  | ob cl fs => obtain ⟨dx, xs, q, r⟩ := h; subst q; exact ⟨id, fun _ z => nomatch z⟩
  | dead => exact h
theorem Ext.write {p : Addr} {o u : HO} (n : H p = some u) (m : notTup u) : Ext K io H io (upd H p o) := ⟨sqT_mut n m, fun _ _ h => h⟩
/-- an object of the store changed -/
theorem RS.write {M : Sto} {p : Addr} {o u : HO} {c : Cell} {i : Nat} (h : RS K H io M) (e : io[i]? = some p) (n : H p = some u) (m : notTup u) (rc : RC K (upd H p o) io c o) : RS K (upd H p o) io (M.set i c) := by
  have hl := (List.getElem?_eq_some_iff.mp e).1
  refine ⟨by simp [h.len], h.nd, tabs_mut h.tab n m, fun j c' e' => ?_⟩
  rw [sGet_eq] at e'
  by_cases hj : j = i
  · subst hj
    rw [List.getElem?_set_self (by rw [← h.len]; exact hl)] at e'
    cases e'
    exact ⟨p, o, e, upd_same, rc⟩
  · rw [List.getElem?_set_ne (Ne.symm hj), ← sGet_eq] at e'
    obtain ⟨a, w, e1, e2, r⟩ := h.cell j c' e'
    have ne : a ≠ p := fun z => by
      subst z
      obtain ⟨h1, q1⟩ := List.getElem?_eq_some_iff.mp e1
      obtain ⟨h2, q2⟩ := List.getElem?_eq_some_iff.mp e
      exact hj ((List.getElem_inj h.nd).mp (q1.trans q2.symm))
    exact ⟨a, w, e1, by rw [upd_ne ne]; exact e2, r.mono (Ext.write n m)⟩

/-! ### the frame -/
def RE (K : KT) (H : Hp) (io : List Addr) (r : DEnv) (g : L2.St) : Prop := r.length = g.length ∧ ∀ (i : Nat) (d : D), r[i]? = some (some d) → ∃ v, g[i]? = some (some v) ∧ R K H io d v
theorem RE.mono {r : DEnv} {g : L2.St} (h : RE K H io r g) (e : Ext K io H io' H') : RE K H' io' r g := ⟨h.1, fun i d q => by
  obtain ⟨v, a, b⟩ := h.2 i d q
  exact ⟨v, a, b.mono e⟩⟩
theorem RE.set {r : DEnv} {g : L2.St} {i : Nat} {d : D} {v : V} (h : RE K H io r g) (rv : R K H io d v) : RE K H io (r.set i (some d)) (g.set i (some v)) := ⟨by simp [h.1], fun j e q => by
  by_cases hj : j = i
  · subst hj
    have hl : j < r.length := by
      have := (List.getElem?_eq_some_iff.mp q).1
      simpa using this
    rw [List.getElem?_set_self hl] at q
    cases q
    exact ⟨v, List.getElem?_set_self (by rw [← h.1]; exact hl), rv⟩
  · rw [List.getElem?_set_ne (Ne.symm hj)] at q
    obtain ⟨w, a, b⟩ := h.2 j e q
    exact ⟨w, by rw [List.getElem?_set_ne (Ne.symm hj)]; exact a, b⟩⟩
/-- less is known -/
theorem RE.clear {r : DEnv} {g : L2.St} {i : Nat} (h : RE K H io r g) : RE K H io (r.set i none) (g.set i none) := ⟨by simp [h.1], fun j e q => by
  by_cases hj : j = i
  · subst hj
    have hl : j < r.length := by
      have := (List.getElem?_eq_some_iff.mp q).1
      simpa using this
    rw [List.getElem?_set_self hl] at q
    cases q
  · rw [List.getElem?_set_ne (Ne.symm hj)] at q
    obtain ⟨w, a, b⟩ := h.2 j e q
    exact ⟨w, by rw [List.getElem?_set_ne (Ne.symm hj)]; exact a, b⟩⟩
def wipeD (r : DEnv) : List Nat → DEnv
  | [] => r
  | v :: vs => (wipeD r vs).set v none
theorem RE.wipe {r : DEnv} {g : L2.St} (h : RE K H io r g) : ∀ vs : List Nat, RE K H io (wipeD r vs) (L2.wipe g vs)
  | [] => h
  | v :: vs => (RE.wipe h vs).clear
end

/-! ### what is read: an exception, a result -/
/-- an exception: its class's name, the field's value where it has one -/
structure Ex where
  cls : Str
  arg : Option D
inductive Res (α : Type) where
  | ok (a : α)
  | ex (x : Ex)
/-- the fields by class name: none, or the name of the one field -/
abbrev Flds := Str → Option Str
def RX (mg : Str → Option Value) (K : KT) (fl : Flds) (H : Hp) (io : List Addr) (x : Ex) (cv : Value) (dx : Option Addr) : Prop :=
  mg x.cls = some cv ∧ match x.arg with
    | none => dx = none
    | some d => ∃ (f : Str) (a : Addr) (v : V), fl x.cls = some f ∧ dx = some a ∧ H a = some (.xd [(f, v)]) ∧ R K H io d v
/-- the setting of a def's body -/
structure Cfg where
  K : KT
  mg : Str → Option Value
  fl : Flds
  W : XK
abbrev Den (α : Type) := DEnv → Sto → Option (Res α × Sto)
/-- what is wanted behind: a value, or an exception -/
def Aft {α β : Type} (c : Cfg) (Ra : Hp → List Addr → α → β → Prop) (g : L2.St) (io : List Addr) (H : Hp) (M' : Sto) (x : Res α) (Q : β → Hp → Prop) : Prop :=
  ∀ (io' : List Addr) (H' : Hp), Ext c.K io H io' H' → RS c.K H' io' M' → match x with
      | .ok a => ∀ b, Ra H' io' a b → Q b H'
      | .ex x => ∀ cv dx, RX c.mg c.K c.fl H' io' x cv dx → c.W cv dx H'
def Run {α β : Type} (c : Cfg) (Ra : Hp → List Addr → α → β → Prop) (f : Den α) (r : DEnv) (M : Sto) (io : List Addr) (g : L2.St) (H : Hp) (Q : β → Hp → Prop) : Prop :=
  ∃ (x : Res α) (M' : Sto), f r M = some (x, M') ∧ Aft c Ra g io H M' x Q
def sG {α β : Type} (c : Cfg) (Ra : Hp → List Addr → α → β → Prop) (f : Den α) : L2.St → Hp → (β → Hp → Prop) → Prop := fun g H Q =>
  ∃ (r : DEnv) (M : Sto) (io : List Addr), RE c.K H io r g ∧ RS c.K H io M ∧ Run c Ra f r M io g H Q
abbrev rD (c : Cfg) : Hp → List Addr → D → V → Prop := fun H io d v => R c.K H io d v
abbrev rDs (c : Cfg) : Hp → List Addr → List D → List V → Prop := fun H io d v => RL c.K H io d v
abbrev rQ {α : Type} : Hp → List Addr → α → α → Prop := fun _ _ a b => a = b
abbrev sE (c : Cfg) (f : Den D) : TE := sG c (rD c) f
abbrev sA (c : Cfg) (f : Den (List D)) : TA := sG c (rDs c) f
abbrev sT (c : Cfg) (f : Den Bool) : TT := sG c rQ f
def bindD {α β : Type} (f : Den α) (g : α → Den β) : Den β := fun r M => match f r M with
  | none => none
  | some (.ex x, M1) => some (.ex x, M1)
  | some (.ok a, M1) => g a r M1
def liftD {α β : Type} (op : α → Sto → Option (β × Sto)) (a : α) : Den β := fun _ M => match op a M with
  | none => none
  | some (x, M1) => some (.ok x, M1)
section
variable {α β γ δ : Type} {c : Cfg} {Ra : Hp → List Addr → α → β → Prop} {Rc : Hp → List Addr → γ → δ → Prop} {f : Den α} {g : L2.St} {H H1 : Hp} {r : DEnv} {M M' : Sto} {io io1 : List Addr}
theorem Aft.ext {x : Res α} {Q : β → Hp → Prop} (k : Aft c Ra g io H M' x Q) (e : Ext c.K io H io1 H1) : Aft c Ra g io1 H1 M' x Q := fun io' H' e2 rs => k io' H' (e.trans e2) rs
theorem Aft.ok {a : α} {b : β} {Q : β → Hp → Prop} (k : Aft c Ra g io H M' (.ok a) Q) (e : Ext c.K io H io1 H1) (rs : RS c.K H1 io1 M') (ra : Ra H1 io1 a b) : Q b H1 := k io1 H1 e rs b ra
theorem Run.bind {h : α → Den γ} {Q : δ → Hp → Prop} {T : β → Hp → Prop} (s : Run c Rc (bindD f h) r M io g H Q)
    (ht : ∀ (a : α) (b : β) (M1 : Sto) (io1 : List Addr) (H1 : Hp), Ext c.K io H io1 H1 → RS c.K H1 io1 M1 → Ra H1 io1 a b → Run c Rc (h a) r M1 io1 g H1 Q → T b H1) : Run c Ra f r M io g H T := by
  obtain ⟨x, M', e, k⟩ := s
  unfold bindD at e
  cases ef : f r M with
  | none => rw [ef] at e; cases e
  | some p =>
    obtain ⟨y, M1⟩ := p
    rw [ef] at e
    cases y with
    | ex y =>
      cases e
      exact ⟨.ex y, _, ef, fun io' H' ex rs' => k io' H' ex rs'⟩
    | ok a =>
      refine ⟨.ok a, _, ef, fun io1 H1 e1 rs1 b rb => ?_⟩
      exact ht a b M1 io1 H1 e1 rs1 rb ⟨x, M', e, k.ext e1⟩
theorem Run.lift {op : α → Sto → Option (γ × Sto)} {a : α} {Q : δ → Hp → Prop} (s : Run c Rc (liftD op a) r M io g H Q) : ∃ x M', op a M = some (x, M') ∧ Aft c Rc g io H M' (.ok x) Q := by
  obtain ⟨x, M', e, k⟩ := s
  unfold liftD at e
  cases eo : op a M with
  | none => rw [eo] at e; cases e
  | some p =>
    obtain ⟨y, M1⟩ := p
    rw [eo] at e
    cases e
    exact ⟨y, _, rfl, k⟩
theorem sG.bind {h : α → Den γ} {Q : δ → Hp → Prop} {T : β → Hp → Prop} (s : sG c Rc (bindD f h) g H Q)
    (ht : ∀ (a : α) (b : β) (r : DEnv) (M1 : Sto) (io1 : List Addr) (H1 : Hp), RE c.K H1 io1 r g → RS c.K H1 io1 M1 → Ra H1 io1 a b → Run c Rc (h a) r M1 io1 g H1 Q → T b H1) : sG c Ra f g H T := by
  obtain ⟨r, M, io, re, rs, run⟩ := s
  exact ⟨r, M, io, re, rs, run.bind fun a b M1 io1 H1 e1 rs1 ra run1 => ht a b r M1 io1 H1 (re.mono e1) rs1 ra run1⟩
end
/-- two values, an operation without exceptions -/
def sV2 (c : Cfg) (op : D → D → Sto → Option (D × Sto)) : R2 := fun x y H Q =>
  ∃ (M : Sto) (io : List Addr) (a b d : D) (M' : Sto), op a b M = some (d, M') ∧ R c.K H io a x ∧ R c.K H io b y ∧ RS c.K H io M ∧
    ∀ (io' : List Addr) (H' : Hp), Ext c.K io H io' H' → RS c.K H' io' M' → ∀ v, R c.K H' io' d v → Q v H'
def sV1 (c : Cfg) (op : D → Sto → Option (D × Sto)) : V → Hp → VK → Prop := fun x H Q =>
  ∃ (M : Sto) (io : List Addr) (a d : D) (M' : Sto), op a M = some (d, M') ∧ R c.K H io a x ∧ RS c.K H io M ∧
    ∀ (io' : List Addr) (H' : Hp), Ext c.K io H io' H' → RS c.K H' io' M' → ∀ v, R c.K H' io' d v → Q v H'
def sVs (c : Cfg) (op : List D → Sto → Option (D × Sto)) : List V → Hp → VK → Prop := fun x H Q =>
  ∃ (M : Sto) (io : List Addr) (a : List D) (d : D) (M' : Sto), op a M = some (d, M') ∧ RL c.K H io a x ∧ RS c.K H io M ∧
    ∀ (io' : List Addr) (H' : Hp), Ext c.K io H io' H' → RS c.K H' io' M' → ∀ v, R c.K H' io' d v → Q v H'
def op2 (op : D → D → Sto → Option (D × Sto)) (f h : Den D) : Den D := bindD f fun a => bindD h fun b => liftD (fun p : D × D => op p.1 p.2) (a, b)
def op1 (op : D → Sto → Option (D × Sto)) (f : Den D) : Den D := bindD f fun a => liftD op a
def opS (op : List D → Sto → Option (D × Sto)) (f : Den (List D)) : Den D := bindD f fun a => liftD op a
section
variable {c : Cfg} {f h : Den D} {g : L2.St} {H : Hp} {Q : VK}
theorem sE_op2 {op : D → D → Sto → Option (D × Sto)} (s : sE c (op2 op f h) g H Q) : tOp (sV2 c op) (sE c f) (sE c h) g H Q := by
  refine sG.bind s fun a x r M1 io1 H1 re rs ra run => ⟨r, M1, io1, re, rs, run.bind fun b y M2 io2 H2 e2 rs2 rb run2 => ?_⟩
  obtain ⟨d, M3, e, k⟩ := run2.lift
  exact ⟨M2, io2, a, b, d, M3, e, ra.mono e2, rb, rs2, k⟩
theorem sE_op1 {op : D → Sto → Option (D × Sto)} (s : sE c (op1 op f) g H Q) : tUn (sV1 c op) (sE c f) g H Q := by
  refine sG.bind s fun a x r M1 io1 H1 re rs ra run => ?_
  obtain ⟨d, M3, e, k⟩ := run.lift
  exact ⟨M1, io1, a, d, M3, e, ra, rs, k⟩
theorem sE_opS {op : List D → Sto → Option (D × Sto)} {f : Den (List D)} (s : sE c (opS op f) g H Q) : tCB (sVs c op) (sA c f) g H Q := by
  refine sG.bind s fun a x r M1 io1 H1 re rs ra run => ?_
  obtain ⟨d, M3, e, k⟩ := run.lift
  exact ⟨M1, io1, a, d, M3, e, ra, rs, k⟩
end
/-- the same, a weaker reading -/
theorem PE.imp {X : Cx} {e : Expr} {t t' : TE} (h : PE X e t) (i : ∀ g H Q, t' g H Q → t g H Q) : PE X e t' := ⟨fun pins s g H Q I q => h.run pins s g H Q I (i g H Q q)⟩
theorem PT.imp {X : Cx} {e : Expr} {t t' : TT} (h : PT X e t) (i : ∀ g H Q, t' g H Q → t g H Q) : PT X e t' := ⟨fun pins s g H Q I q => h.run pins s g H Q I (i g H Q q)⟩
theorem PA.imp {X : Cx} {e : List Expr} {t t' : TA} (h : PA X e t) (i : ∀ g H Q, t' g H Q → t g H Q) : PA X e t' := ⟨fun pos pins s g H Q I q => h.run pos pins s g H Q I (i g H Q q)⟩
theorem PS.imp {X : Cx} {e : Stmt} {t t' : TS} (h : PS X e t) (i : ∀ D g H, t' D g H → t D g H) : PS X e t' := ⟨fun pins s g H D I q => h.run pins s g H D I (i D g H q)⟩
theorem PSs.imp {X : Cx} {e : List Stmt} {t t' : TS} (h : PSs X e t) (i : ∀ D g H, t' D g H → t D g H) : PSs X e t' := ⟨fun pins s g H D I q => h.run pins s g H D I (i D g H q)⟩
theorem PE.or {X : Cx} {e : Expr} {t t' : TE} (h : PE X e t) (h' : PE X e t') : PE X e (fun g H Q => t g H Q ∨ t' g H Q) := ⟨fun pins s g H Q I q => q.elim (h.run pins s g H Q I) (h'.run pins s g H Q I)⟩
theorem PI.or {X : Cx} {a b : Expr} {t t' : TI} (h : PI X a b t) (h' : PI X a b t') : PI X a b (fun g H Q => t g H Q ∨ t' g H Q) := ⟨fun pins s g H Q I q => q.elim (h.run pins s g H Q I) (h'.run pins s g H Q I)⟩
theorem PE.never {X : Cx} {e : Expr} {t : TE} (n : ∀ g H Q, ¬ t g H Q) : PE X e t := ⟨fun _ _ g H Q _ q => (n g H Q q).elim⟩
theorem PE.stuck {X : Cx} {e : Expr} {c : Cfg} : PE X e (sE c fun _ _ => none) := PE.never fun g H Q s => by
  obtain ⟨r, M, io, _, _, x, M', e, _⟩ := s
  cases e
end PyD

-- PyDX
set_option maxRecDepth 100000
set_option maxHeartbeats 4000000
noncomputable section
namespace PyDX
open PySem PySem.Spec PyProof.Rows L2
/-! ### extend by a tuple -/
theorem extend_meets (S it : Addr) (c₀ : Nat) (mine items : Array Value) (n : Nat) (h1 : mine.size + items.size ≤ sizeLine) :
    Meets (Builtin.«list.extend» ⟨[.ref S, .ref it], []⟩) (fun _ R s => s.heap.get? S = some { cls := .type "list", data := .seq mine c₀ } ∧ (∃ o, s.heap.get? it = some o ∧ o.cls = .type "tuple" ∧ o.data = .seq items n) ∧ R (.ok (.ret Value.none)) { s with heap := s.heap.update S (Obj.mapSeq (· ++ items)) }) := by
  intro prog w A R s h
  obtain ⟨hS, ⟨o, ho, hc, hd⟩, hR⟩ := h
  show wpAny _ A.in1 (Builtin.List.listExtendWith (.ref S) (.ref it) .none) _ _ s
  unfold Builtin.List.listExtendWith
  refine wpAny_bind (wpAny_typeOf ⟨o, ho, hc⟩ ?_)
  have h1' : (Builtin.List.listSameRef (.ref S) (.ref it) || Value.type "tuple" == Value.type "list" || Value.type "tuple" == Value.type "tuple") = true := by simp
  simp only [h1', if_true]
  refine wpAny_bind ?_
  unfold Builtin.List.listItems
  refine wpAny_bind (wpAny_seqItems ho hd (wpAny_pure ?_))
  refine wpAny_bind ?_
  refine wpAny_bind (wpAny_seqItems hS rfl (wpAny_pure ?_))
  have hlong : (!mine.isEmpty && Builtin.List.listTooLong (mine.size + items.size)) = false := by
    rw [L2.notLongL h1, Bool.and_false]
  rw [hlong]
  show wpAny _ A.in1 (updateSeq S (· ++ items) >>= fun _ => ret .none) _ _ s
  refine wpAny_bind (wpAny_updateSeq hS rfl ?_ (by omega) (by rw [Array.size_append]; omega))
  exact wpAny_pure hR
section
variable {X : Cx}
theorem mt_extendT : MtM X "list.extend" (fun x vs H Q => ∃ l b xs zs, x = .ref l ∧ vs = [.ref b] ∧ H l = some (.lst xs) ∧ H b = some (.tup zs) ∧ xs.length + zs.length ≤ sizeLine ∧ Q .non (upd H l (.lst (xs ++ zs)))) := by
  intro pins s σ H x vs v us Q I rx rv h
  obtain ⟨l, b, xs, zs, rfl, rfl, hH, hB, hz, q⟩ := h
  cases rx
  obtain ⟨u, rfl, ru⟩ := rv.one
  cases ru
  obtain ⟨z, its, n, r, hl, e⟩ := I.lstM hH
  obtain ⟨z2, its2, r2, ⟨ob, e2, hc2, n2, hd2⟩⟩ : zs.length ≤ sizeLine ∧ ∃ its : List Value, Vals zs its ∧ IsTup s.heap b its.toArray := I.hok b _ hB
  have hl2 := r2.length
  have hsz : its.toArray.size + its2.toArray.size ≤ sizeLine := by rw [List.size_toArray, List.size_toArray]; omega
  refine call_meets F.slot_list_extend ⟨_, e, rfl⟩ F.entry_list_extend (F.args_list_extend_2 _ _) (extend_meets l b n its.toArray its2.toArray n2 hsz) ⟨e, ⟨ob, e2, hc2, hd2⟩, ?_⟩
  refine ⟨.non, _, I.lset (its' := its ++ its2) (t' := s.toks) hH e (by simp) (r.append r2) ?_, rfl, q⟩
  rw [List.length_append]
  omega
end

/-! ### t[::-1] of a tuple -/
section
variable {prog : Program} {w : World} {A : Around} {E : Value → Shared → Prop} {s : Shared}
theorem adjust_rev (n : Nat) : Builtin.Slice.sliceAdjust none none (-1) (n : Int) = ((n : Int) - 1, -1) := by
  unfold Builtin.Slice.sliceAdjust
  rfl
theorem places_rev (n : Nat) : Builtin.Slice.slicePlaces ((n : Int) - 1) (-1) (-1) = n := by
  unfold Builtin.Slice.slicePlaces
  have h1 : ¬ ((-1 : Int) > 0) := by decide
  simp only [h1, if_false, show (- -1 : Int) = 1 by decide, Int.ediv_one]
  split <;> omega
theorem sliceApplied_rev {sl : Addr} {vs : Value} {n : Nat} {Q : Int × Int × Nat → Shared → Prop} (hs : s.heap.IsSliceOf sl .none .none vs) (ps : IsPart vs (some (-1)))
    (h : Q ((n : Int) - 1, -1, n) s) : wpAny (model prog w) A (Builtin.Slice.sliceApplied (.ref sl) (pure (n : Int))) Q E s := by
  obtain ⟨os, hos, hcs, hds⟩ := id hs
  cases ps with
  | int i t =>
  unfold Builtin.Slice.sliceApplied Builtin.Slice.sliceFields
  refine wpAny_bind (wpAny_bind (wpAny_field hos hds (x := .none) rfl (wpAny_bind (wpAny_field hos hds (x := .none) rfl (wpAny_bind (wpAny_field hos hds (x := .int (-1) t) rfl (wpAny_pure ?_)))))))
  refine wpAny_bind (slicePart_int ?_)
  show wpAny _ _ (if ((-1 : Int) == 0) = true then _ else _) _ _ s
  rw [if_neg (by decide)]
  refine wpAny_bind (slicePart_none (wpAny_bind (slicePart_none (wpAny_bind (wpAny_pure ?_)))))
  show wpAny _ _ (match Builtin.Slice.sliceAdjust none none (-1) (n : Int) with | (lo, hi) => pure (lo, (-1 : Int), Builtin.Slice.slicePlaces lo hi (-1))) _ _ s
  rw [adjust_rev n]
  show wpAny _ _ (pure ((n : Int) - 1, (-1 : Int), Builtin.Slice.slicePlaces ((n : Int) - 1) (-1) (-1))) _ _ s
  rw [places_rev]
  exact wpAny_pure h
theorem fm_congr {α β : Type} {f g : α → Option β} : ∀ {l : List α}, (∀ a ∈ l, f a = g a) → l.filterMap f = l.filterMap g
  | [], _ => rfl
  | a :: l, h => by rw [List.filterMap_cons, List.filterMap_cons, h a List.mem_cons_self, fm_congr fun b hb => h b (List.mem_cons_of_mem _ hb)]
theorem pick_rev (xs : Array Value) : ((List.range xs.size).filterMap fun (m : Nat) => xs[(((xs.size : Int) - 1) + (m : Int) * (-1)).toNat]?).toArray = xs.toList.reverse.toArray := by
  have e : ((List.range xs.size).filterMap fun (m : Nat) => xs[(((xs.size : Int) - 1) + (m : Int) * (-1)).toNat]?) = ((List.range xs.size).map fun k => xs.size - 1 - k).filterMap (xs[·]?) := by
    rw [List.filterMap_map]
    apply fm_congr
    intro m hm
    have := List.mem_range.mp hm
    have e2 : (((xs.size : Int) - 1) + (m : Int) * (-1)).toNat = xs.size - 1 - m := by omega
    rw [e2]
    rfl
  rw [e, PySem.W.krv_range, List.filterMap_reverse, PySem.W.krv_all]
theorem getItem_tuple_rev {t sl : Addr} {items : Array Value} {vs : Value} {Q : Value → Shared → Prop} (ht : IsTup s.heap t items) (hs : s.heap.IsSliceOf sl .none .none vs) (ps : IsPart vs (some (-1)))
    (h : Q (.ref s.heap.objs.size) { s with heap := s.heap.push { cls := .type "tuple", data := .seq items.toList.reverse.toArray } })
    (hsz : items.size ≤ sizeLine) : wpAny (model prog w) A (getItem (.ref t) (.ref sl)) Q E s := by
  have htake : sizeOk (.seq items.toList.reverse.toArray) := by
    show items.toList.reverse.toArray.size ≤ sizeLine
    rw [List.size_toArray, List.length_reverse, Array.length_toList]
    omega
  obtain ⟨os, hos, hcs, hds⟩ := id hs
  have hTs : s.TypeIs (.ref sl) "slice" := ⟨os, hos, hcs⟩
  unfold getItem
  try with_reducible refine wpAny_holding ?_
  first | refine wpAny_bind (wpAny_pure ?_) | skip
  refine wpAny_bind (wpAny_sequenceKey ht.typeIs (by decide) ?_)
  refine wpAny_bind (wpAny_callSpecial?_slot (name := Str.ofString "__getitem__") ht.typeIs PyProof.Rows.slot_tuple_getitem
    (wpAny_call_entry PyProof.Rows.slot_tuple_getitem ht.typeIs entry_tuple_getitem ?_ (args_tuple_getitem _ _)))
  show wpAny _ _ (Builtin.Tuple.tupleItemsOf (.ref t) >>= _) _ _ s
  refine wpAny_bind (tupleItemsOf_ ht ?_)
  refine wpAny_bind (wpAny_typeOf hTs ?_)
  rw [if_pos (by decide)]
  refine wpAny_bind (sliceApplied_rev hs ps ?_)
  have hno : ¬ ((((items.size : Int) - 1) == 0 && (-1 : Int) == 1 && items.size == items.size) = true) := by
    intro q
    rw [Bool.and_eq_true, Bool.and_eq_true] at q
    exact absurd q.1.2 (by decide)
  show wpAny _ _ (if (((items.size : Int) - 1) == 0 && (-1 : Int) == 1 && items.size == items.size) = true then _ else _) _ _ s
  rw [if_neg hno, pick_rev]
  first
    | exact wpAny_bind (m := Builtin.Tuple.tupleExact _) (wpAny_newObj_type (wpAny_pure ⟨_, rfl, wpAny_pure h⟩) htake)
    | exact wpAny_bind (m := Builtin.Tuple.tupleExact _) (wpAny_newObj_type (wpAny_bind (wpAny_pure (wpAny_pure ⟨_, rfl, wpAny_pure h⟩))) htake)
    | exact wpAny_bind (wpAny_bind (m := Builtin.Tuple.tupleExact _) (wpAny_newObj_type (wpAny_pure (wpAny_pure ⟨_, rfl, wpAny_pure h⟩)) htake))
    | exact wpAny_bind (wpAny_bind (m := Builtin.Tuple.tupleExact _) (wpAny_newObj_type (wpAny_pure ⟨_, rfl, wpAny_pure h⟩) htake))
end
def tRevT (K : PySem.W.Frag) (te : TE) : TE := fun σ H Q => te σ H fun x H1 => ∃ a xs, x = .ref a ∧ SqT K H1 a xs ∧ ∀ p, H1 p = none → Q (.ref p) (upd H1 p (.tup xs.reverse))
theorem pe_revT {X : Cx} {e : Expr} {te : TE} {k : Nat} {p1 p2 p3 pos : Pos} (he : PE X e te) : PE X (.Subscript e (.Slice none none (some (.UnaryOp .USub (.Constant (.int 1) k p1) p2)) p3) pos) (tRevT X.K te) := by
  refine ⟨fun pins s σ H Q I h => ?_⟩
  refine Subscript_ (thn (he.run pins s σ H _ I h) fun v s1 ⟨x, H1, I1, r1, q1⟩ => ?_)
  obtain ⟨a, xs, ex, hx, q⟩ := q1
  subst ex
  cases r1
  have hst : PO X (some (.UnaryOp .USub (.Constant (.int 1) k p1) p2)) (tPart (tUn (rU fun i => .int (-i)) (tC (.int 1)))) := po_some (pe_un un_neg pe_int)
  refine wpAny_Slice (thn (po_none.run pins s1 σ H1 (fun o H2 => o = none ∧ H2 = H1) I1 ⟨rfl, rfl⟩) fun vl s2 ⟨l, H2, I2, pl, el, e2⟩ => ?_)
  subst el e2
  refine thn (po_none.run pins s2 σ H2 (fun o H3 => o = none ∧ H3 = H2) I2 ⟨rfl, rfl⟩) fun vu s3 ⟨u, H3, I3, pu, eu, e3⟩ => ?_
  subst eu e3
  refine thn (hst.run pins s3 σ H3 (fun o H4 => o = some (-1) ∧ H4 = H3) I3 ⟨1, rfl, -1, rfl, rfl, rfl⟩) fun vs s4 ⟨o, H4, I4, ps, eo, e4⟩ => ?_
  subst eo e4
  cases pl
  cases pu
  have I5 : Inv X pins σ H4 { s4 with heap := s4.heap.push { cls := .type "slice", data := .fields #[.none, .none, vs] } } := I4.kept (t' := s4.toks) fun b ob q => Heap.get?_push_of_some _ q
  obtain ⟨its, r, ht, hz⟩ := I5.tuple hx
  have hlen := r.length
  show wpAny (model X.prog X.w) X.A (subscriptTail e (.Slice none none (some (.UnaryOp .USub (.Constant (.int 1) k p1) p2)) p3) (.ref a) (.ref s4.heap.objs.size)) (EP X pins σ Q) X.xe { s4 with heap := s4.heap.push { cls := .type "slice", data := .fields #[.none, .none, vs] } }
  refine tail_any (ops := [.ref a, .ref s4.heap.objs.size]) ht.typeIs (PyProof.Rows.slot_tuple_getitem.lookup) ?_ (by with_unfolding_all rfl)
  refine getItem_tuple_rev ht (Heap.IsSliceOf.new _ .none .none vs) ps ?_ (by rw [List.size_toArray]; omega)
  refine ⟨.ref _, _, I5.laid (t' := s4.toks) (o := .tup xs.reverse) (fun b ob q => Heap.get?_push_of_some _ q) (Nat.le_refl _) ?_, rfl, q _ (I5.hok.fresh (Nat.le_refl _))⟩
  exact ⟨by rw [List.length_reverse]; exact hz, its.reverse, r.reverse, ⟨_, Heap.get?_push_size _ rfl, rfl, _, rfl⟩⟩
end PyDX

-- PyD3
set_option maxRecDepth 100000
set_option maxHeartbeats 4000000
noncomputable section
namespace PyD
open PySem PySem.Spec PyProof.Rows L2

/-! ### the ends of an operation -/
section
variable {K : KT} {H H' : Hp} {io : List Addr} {M : Sto} {ds : List D} {xs : List V} {p : Addr} {Q : VK}
/-- what is wanted of a value -/
abbrev Aft1 (K : KT) (io : List Addr) (H : Hp) (M' : Sto) (d : D) (Q : VK) : Prop := ∀ (io' : List Addr) (H' : Hp), Ext K io H io' H' → RS K H' io' M' → ∀ v, R K H' io' d v → Q v H'
theorem k_now {d : D} {v : V} (k : Aft1 K io H M d Q) (rs : RS K H io M) (r : R K H io d v) : Q v H := k io H Ext.refl rs v r
theorem k_tup (k : Aft1 K io H M (.tup ds) Q) (rs : RS K H io M) (rl : RL K H io ds xs) (n : H p = none) : Q (.ref p) (upd H p (.tup xs)) :=
  k io _ (Ext.tupNew n) (rs.tupNew n) _ (.tup upd_same (rl.mono (Ext.tupNew n)))
theorem k_cell {c : Cell} {o : HO} (k : Aft1 K io H ((sApp M (c))) (.lst M.length) Q) (rs : RS K H io M) (n : H p = none) (rc : RC K (upd H p o) (io ++ [p]) c o) : Q (.ref p) (upd H p o) :=
  k (io ++ [p]) _ (Ext.alloc n) (rs.alloc n rc) _ (.lst (by rw [← rs.len, List.getElem?_append_right (Nat.le_refl _)]; simp))
theorem k_cellD {c : Cell} {o : HO} (k : Aft1 K io H ((sApp M (c))) (.dic M.length) Q) (rs : RS K H io M) (n : H p = none) (rc : RC K (upd H p o) (io ++ [p]) c o) : Q (.ref p) (upd H p o) :=
  k (io ++ [p]) _ (Ext.alloc n) (rs.alloc n rc) _ (.dic (by rw [← rs.len, List.getElem?_append_right (Nat.le_refl _)]; simp))
theorem k_lst (k : Aft1 K io H ((sApp M (.lst ds))) (.lst M.length) Q) (rs : RS K H io M) (rl : RL K H io ds xs) (n : H p = none) : Q (.ref p) (upd H p (.lst xs)) :=
  k_cell k rs n ⟨xs, rfl, rl.mono (Ext.alloc n)⟩
/-- a list of the store -/
theorem RS.lst {i : Nat} {a : Addr} (h : RS K H io M) (e : io[i]? = some a) {ds : List D} (em : (sGet M i) = some (.lst ds)) : ∃ xs, H a = some (.lst xs) ∧ RL K H io ds xs := by
  obtain ⟨c, o, e1, e2, rc⟩ := h.there e
  rw [em] at e1
  cases e1
  obtain ⟨xs, rfl, rl⟩ := rc
  exact ⟨xs, e2, rl⟩
theorem lst_at {i : Nat} {v : V} {ds : List D} (r : R K H io (.lst i) v) (h : RS K H io M) (em : (sGet M i) = some (.lst ds)) : ∃ a xs, v = .ref a ∧ io[i]? = some a ∧ H a = some (.lst xs) ∧ RL K H io ds xs := by
  cases r with
  | lst e =>
    obtain ⟨xs, h1, h2⟩ := h.lst e em
    exact ⟨_, xs, rfl, e, h1, h2⟩
end
theorem big_le {n : Nat} (h : n ≤ 100000) : n ≤ sizeLine := Nat.le_trans h (by decide)
theorem big_lt {n : Nat} (h : n < 100000) : n < sizeLine := Nat.lt_of_lt_of_le h (by decide)

/-! ### arithmetic -/
def smallI (i : Int) : Bool := decide (-(2 ^ 64) < i) && decide (i < 2 ^ 64)
def addD (a b : D) (M : Sto) : Option (D × Sto) :=
  match a, b with
  | .int i, .int j => some (.int (i + j), M)
  | .str x, .str y => if x.length + y.length ≤ 100000 then some (.str (x ++ y), M) else none
  | .tup x, .tup y => if x.length + y.length ≤ 100000 then some (.tup (x ++ y), M) else none
  | .lst i, .lst j => match (sGet M i), (sGet M j) with
    | some (.lst x), some (.lst y) => if x.length + y.length ≤ 100000 then some (.lst M.length, (sApp M (.lst (x ++ y)))) else none
    | _, _ => none
  | _, _ => none
def subD (a b : D) (M : Sto) : Option (D × Sto) :=
  match a, b with
  | .int i, .int j => some (.int (i - j), M)
  | _, _ => none
def mulD (a b : D) (M : Sto) : Option (D × Sto) :=
  match a, b with
  | .int i, .int j => if i.natAbs.log2 + j.natAbs.log2 < 1000000 ∨ (-(2 ^ 64) < j ∧ j < 2 ^ 64) then some (.int (i * j), M) else none
  | .tup x, .int j => if decide (x ≠ []) = true ∧ 2 ≤ j ∧ j ≤ 1000 ∧ x.length ≤ 1000 then some (.tup (List.replicate j.toNat x).flatten, M) else none
  | .lst i, .int j => match (sGet M i) with
    | some (.lst x) => if 0 ≤ j ∧ j ≤ 1000 ∧ x.length * j.toNat ≤ 100000 then some (.lst M.length, (sApp M (.lst (List.replicate j.toNat x).flatten))) else none
    | _ => none
  | _, _ => none
def fdivD (a b : D) (M : Sto) : Option (D × Sto) :=
  match a, b with
  | .int i, .int j => if 0 < j ∧ j.natAbs.log2 < 9000 then some (.int (i / j), M) else none
  | _, _ => none
def modD (a b : D) (M : Sto) : Option (D × Sto) :=
  match a, b with
  | .int i, .int j => if j ≠ 0 then some (.int (i.fmod j), M) else none
  | _, _ => none
def powD (a b : D) (M : Sto) : Option (D × Sto) :=
  match a, b with
  | .int i, .int j => if 0 ≤ j ∧ j ≤ 1000000 ∧ i.natAbs < 2 ^ 64 then some (.int (i ^ j.toNat), M) else none
  | _, _ => none
def binD : Operator → D → D → Sto → Option (D × Sto)
  | .Add => addD
  | .Sub => subD
  | .Mult => mulD
  | .FloorDiv => fdivD
  | .Mod => modD
  | .Pow => powD
  | _ => fun _ _ _ => none
theorem rl_ne {K : KT} {H : Hp} {io : List Addr} {ds : List D} {xs : List V} (h : RL K H io ds xs) (n : ds ≠ []) : xs ≠ [] := by
  cases h with
  | nil => exact absurd rfl n
  | cons _ _ => simp
theorem rl_nil {K : KT} {H : Hp} {io : List Addr} {ds : List D} (h : RL K H io ds []) : ds = [] := by cases h; rfl
section
variable {X : Cx} {c : Cfg}
theorem or_add (hK : X.K = c.K.f) : OpR X (binaryOp .Add) (sV2 c addD) := by
  intro pins s g H x y v u Q I rx ry h
  obtain ⟨M, io, a, b, d, M', e, ra, rb, rs, k⟩ := h
  rw [kt hK] at ra rb rs k
  unfold addD at e
  split at e
  · cases e; cases ra; cases rb
    exact op_add pins s g H _ _ v u Q I rx ry ⟨_, _, rfl, rfl, k_now k rs (.int _)⟩
  · split at e
    · rename_i hl
      cases e; cases ra; cases rb
      exact op_add_str pins s g H _ _ v u Q I rx ry ⟨_, _, rfl, rfl, big_le hl, k_now k rs (.str _)⟩
    · cases e
  · split at e
    · rename_i hl
      cases e
      cases ra with
      | tup h1 r1 =>
        cases rb with
        | tup h2 r2 =>
          refine op_catA pins s g H _ _ v u Q I rx ry ⟨_, _, _, _, rfl, rfl, SqT.of h1, SqT.of h2, by rw [← r1.length, ← r2.length]; exact big_le hl, fun z => ?_, fun z1 z2 => ?_, fun z1 z2 p n => ?_⟩
          · subst z
            rw [rl_nil r1] at k
            exact k_now k rs (.tup h2 r2)
          · subst z2
            rw [rl_nil r2, List.append_nil] at k
            exact k_now k rs (.tup h1 r1)
          · exact k_tup k rs (r1.append r2) n
    · cases e
  · split at e
    · rename_i e1 e2
      split at e
      · rename_i hl
        cases e
        obtain ⟨a1, xs, rfl, i1, h1, r1⟩ := lst_at ra rs e1
        obtain ⟨a2, ys, rfl, i2, h2, r2⟩ := lst_at rb rs e2
        exact op_cat pins s g H _ _ v u Q I rx ry ⟨_, _, _, _, rfl, rfl, h1, h2, by rw [← r1.length, ← r2.length]; exact big_le hl, fun p n => k_lst k rs (r1.append r2) n⟩
      · cases e
    · cases e
  · cases e
theorem or_sub (hK : X.K = c.K.f) : OpR X (binaryOp .Sub) (sV2 c subD) := by
  intro pins s g H x y v u Q I rx ry h
  obtain ⟨M, io, a, b, d, M', e, ra, rb, rs, k⟩ := h
  rw [kt hK] at ra rb rs k
  unfold subD at e
  split at e
  · cases e; cases ra; cases rb
    exact op_sub pins s g H _ _ v u Q I rx ry ⟨_, _, rfl, rfl, k_now k rs (.int _)⟩
  · cases e
theorem or_mul (hK : X.K = c.K.f) : OpR X (binaryOp .Mult) (sV2 c mulD) := by
  intro pins s g H x y v u Q I rx ry h
  obtain ⟨M, io, a, b, d, M', e, ra, rb, rs, k⟩ := h
  rw [kt hK] at ra rb rs k
  unfold mulD at e
  split at e
  · split at e
    · rename_i hl
      cases e; cases ra; cases rb
      rcases hl with hl | hl
      · exact op_mulW pins s g H _ _ v u Q I rx ry ⟨_, _, rfl, rfl, hl, k_now k rs (.int _)⟩
      · exact op_mul pins s g H _ _ v u Q I rx ry ⟨_, _, rfl, rfl, .inr hl, k_now k rs (.int _)⟩
    · cases e
  · split at e
    · rename_i hl
      cases e
      cases rb
      cases ra with
      | tup h1 r1 =>
        exact op_repT pins s g H _ _ v u Q I rx ry ⟨_, _, _, rfl, rfl, SqT.of h1, rl_ne r1 (of_decide_eq_true hl.1), hl.2.1, hl.2.2.1, by rw [← r1.length]; exact hl.2.2.2, fun p n => k_tup k rs (r1.rep _) n⟩
    · cases e
  · split at e
    · rename_i e1
      split at e
      · rename_i hl
        cases e
        cases rb
        obtain ⟨a1, xs, rfl, i1, h1, r1⟩ := lst_at ra rs e1
        exact op_rep pins s g H _ _ v u Q I rx ry ⟨_, _, _, rfl, rfl, h1, by omega, by omega, by rw [← r1.length]; exact big_le hl.2.2, fun p n => k_lst k rs (r1.rep _) n⟩
      · cases e
    · cases e
  · cases e
theorem or_fdiv (hK : X.K = c.K.f) : OpR X (binaryOp .FloorDiv) (sV2 c fdivD) := by
  intro pins s g H x y v u Q I rx ry h
  obtain ⟨M, io, a, b, d, M', e, ra, rb, rs, k⟩ := h
  rw [kt hK] at ra rb rs k
  unfold fdivD at e
  split at e
  · split at e
    · rename_i hl
      cases e; cases ra; cases rb
      exact op_fdivW pins s g H _ _ v u Q I rx ry ⟨_, _, rfl, rfl, hl, k_now k rs (.int _)⟩
    · cases e
  · cases e
theorem or_mod (hK : X.K = c.K.f) : OpR X (binaryOp .Mod) (sV2 c modD) := by
  intro pins s g H x y v u Q I rx ry h
  obtain ⟨M, io, a, b, d, M', e, ra, rb, rs, k⟩ := h
  rw [kt hK] at ra rb rs k
  unfold modD at e
  split at e
  · split at e
    · rename_i hl
      cases e; cases ra; cases rb
      exact op_modN pins s g H _ _ v u Q I rx ry ⟨_, _, rfl, rfl, hl, k_now k rs (.int _)⟩
    · cases e
  · cases e
theorem or_pow (hK : X.K = c.K.f) : OpR X (binaryOp .Pow) (sV2 c powD) := by
  intro pins s g H x y v u Q I rx ry h
  obtain ⟨M, io, a, b, d, M', e, ra, rb, rs, k⟩ := h
  rw [kt hK] at ra rb rs k
  unfold powD at e
  split at e
  · split at e
    · rename_i hl
      cases e; cases ra; cases rb
      exact op_pow pins s g H _ _ v u Q I rx ry ⟨_, _, rfl, rfl, hl, k_now k rs (.int _)⟩
    · cases e
  · cases e
theorem or_none {f : Value → Value → Sem Value} : OpR X f (sV2 c fun _ _ _ => none) := by
  intro pins s g H x y v u Q I rx ry h
  obtain ⟨M, io, a, b, d, M', e, _⟩ := h
  cases e
theorem or_bin (hK : X.K = c.K.f) : ∀ op : Operator, OpR X (binaryOp op) (sV2 c (binD op))
  | .Add => or_add hK
  | .Sub => or_sub hK
  | .Mult => or_mul hK
  | .FloorDiv => or_fdiv hK
  | .Mod => or_mod hK
  | .Pow => or_pow hK
  | .MatMult => or_none
  | .Div => or_none
  | .LShift => or_none
  | .RShift => or_none
  | .BitOr => or_none
  | .BitXor => or_none
  | .BitAnd => or_none
end

/-! ### data as PyData -/
mutual
def toPy (M : Sto) : Nat → D → Option PyData
  | 0, _ => none
  | _ + 1, .non => some .none
  | _ + 1, .bl b => some (.bool b)
  | _ + 1, .int i => some (.int i)
  | _ + 1, .str x => some (.str x)
  | n + 1, .tup ds => (toPys M n ds).map .tuple
  | n + 1, .ktup ds => (toPys M n ds).map .tuple
  | n + 1, .lst i => match (sGet M i) with
    | some (.lst ds) => (toPys M n ds).map .list
    | _ => none
  | _ + 1, _ => none
def toPys (M : Sto) : Nat → List D → Option (List PyData)
  | _, [] => some []
  | 0, _ :: _ => none
  | n + 1, d :: ds => match toPy M n d, toPys M n ds with
    | some p, some ps => some (p :: ps)
    | _, _ => none
end
mutual
theorem toPy_ok {K : KT} {H : Hp} {io : List Addr} {M : Sto} (rs : RS K H io M) : ∀ (n : Nat) (d : D) (p : PyData) (v : V), toPy M n d = some p → R K H io d v → Dp K.f H v p
  | 0, _, _, _, e, _ => by simp [toPy] at e
  | n + 1, .non, _, _, e, r => by simp only [toPy] at e; cases e; cases r; exact .non
  | n + 1, .bl b, _, _, e, r => by simp only [toPy] at e; cases e; cases r; exact .bl _
  | n + 1, .int b, _, _, e, r => by simp only [toPy] at e; cases e; cases r; exact .int _
  | n + 1, .str b, _, _, e, r => by simp only [toPy] at e; cases e; cases r; exact .str _
  | n + 1, .tup ds, _, _, e, r => by
    simp only [toPy] at e
    cases eq : toPys M n ds with
    | none => rw [eq] at e; cases e
    | some ps =>
      rw [eq] at e
      cases e
      cases r with
      | tup h rl => exact .tup (SqT.of h) (toPys_ok rs n ds ps _ eq rl)
  | n + 1, .ktup ds, _, _, e, r => by
    simp only [toPy] at e
    cases eq : toPys M n ds with
    | none => rw [eq] at e; cases e
    | some ps =>
      rw [eq] at e
      cases e
      cases r with
      | ktup h rl => exact .tup h.sq (toPys_ok rs n ds ps _ eq rl)
  | n + 1, .lst i, _, v, e, r => by
    simp only [toPy] at e
    split at e
    · rename_i ds em
      cases eq : toPys M n ds with
      | none => rw [eq] at e; cases e
      | some ps =>
        rw [eq] at e
        cases e
        obtain ⟨a1, xs, rfl, i1, h1, r1⟩ := lst_at r rs em
        exact .lst (SqL.of h1) (toPys_ok rs n ds ps _ eq r1)
    · cases e
  | n + 1, .ty _, _, _, e, _ => by simp [toPy] at e
  | n + 1, .dic _, _, _, e, _ => by simp [toPy] at e
theorem toPys_ok {K : KT} {H : Hp} {io : List Addr} {M : Sto} (rs : RS K H io M) : ∀ (n : Nat) (ds : List D) (ps : List PyData) (vs : List V), toPys M n ds = some ps → RL K H io ds vs → DpAll K.f H vs ps
  | _, [], _, _, e, r => by simp only [toPys] at e; cases e; cases r; exact .nil
  | 0, _ :: _, _, _, e, _ => by simp [toPys] at e
  | n + 1, d :: ds, _, _, e, r => by
    simp only [toPys] at e
    split at e
    · rename_i p ps e1 e2
      cases e
      cases r with
      | cons r1 r2 => exact .cons (toPy_ok rs n d p _ e1 r1) (toPys_ok rs n ds ps _ e2 r2)
    · cases e
end
end PyD

-- PyD4
set_option maxRecDepth 100000
set_option maxHeartbeats 4000000
noncomputable section
namespace PyD
open PySem PySem.Spec PyProof.Rows L2

/-! ### texts compared item by item -/
def slt : List Nat → List Nat → Bool
  | [], [] => false
  | [], _ :: _ => true
  | _ :: _, [] => false
  | a :: as, b :: bs => match Nat.blt a b with
    | true => true
    | false => match Nat.beq a b with
      | true => slt as bs
      | false => false
theorem slt_iff : ∀ {a b : List Nat}, slt a b = true ↔ a < b
  | [], [] => by simp [slt]
  | [], b :: bs => by simp [slt]
  | a :: as, [] => by simp [slt]
  | a :: as, b :: bs => by
    rw [List.cons_lt_cons_iff]
    unfold slt
    cases h : Nat.blt a b with
    | true =>
      have e : a < b := Nat.le_of_ble_eq_true h
      simp [e]
    | false =>
      have e : ¬ a < b := fun q => by
        have z : Nat.blt a b = true := Nat.ble_eq_true_of_le q
        rw [h] at z
        cases z
      cases h2 : Nat.beq a b with
      | true =>
        have e2 : a = b := Nat.eq_of_beq_eq_true h2
        subst e2
        simp [slt_iff (a := as) (b := bs)]
      | false =>
        have e2 : a ≠ b := Nat.ne_of_beq_eq_false h2
        simp [e, e2]
theorem slt_dec {a b : List Nat} : slt a b = decide (a < b) := by
  rw [Bool.eq_iff_iff, slt_iff, decide_eq_true_iff]
def anyS (x : Str) : List Str → Bool
  | [] => false
  | y :: ys => match sbeq y x with
    | true => true
    | false => anyS x ys
def hasS (l : List Str) (x : Str) : Bool := anyS x l
theorem anyS_iff {x : Str} : ∀ {l : List Str}, anyS x l = true ↔ x ∈ l
  | [] => by simp [anyS]
  | y :: ys => by
    unfold anyS
    cases h : sbeq y x with
    | true =>
      have e := sbeq_iff.mp h
      simp [e]
    | false =>
      have e : ¬ x = y := fun q => by
        have z : sbeq y x = true := sbeq_iff.mpr q.symm
        rw [h] at z
        cases z
      simp [anyS_iff (l := ys), e]
def strsT : List D → Option (List Str)
  | [] => some []
  | .str x :: ds => match strsT ds with
    | some ss => some (x :: ss)
    | none => none
  | _ :: _ => none
def xorB (neg b : Bool) : Bool := match neg with
  | true => !b
  | false => b
/-! ### comparisons -/
def shp (p : PyData) : Bool := SeqAt.shaped p
def eqD (neg : Bool) (a b : D) (M : Sto) : Option (D × Sto) :=
  match toPy M 200 a, toPy M 200 b with
  | some p, some q => if shp p && shp q then some (.bl (if neg then !PyData.eqv p q else PyData.eqv p q), M) else none
  | _, _ => none
def isD (neg : Bool) (a b : D) (M : Sto) : Option (D × Sto) :=
  match a, b with
  | .bl x, .bl y => some (.bl (if neg then !decide (x = y) else decide (x = y)), M)
  | .ty x, .ty y => some (.bl (if neg then !decide (x = y) else decide (x = y)), M)
  | .non, .non => some (.bl (!neg), M)
  | _, .non => some (.bl neg, M)
  | _, _ => none
def isTupP : PyData → Bool
  | .tuple _ => true
  | _ => false
/-- tuples whose places are of one kind -/
def ltG (a b : D) (M : Sto) : Option (D × Sto) :=
  match toPy M 200 a, toPy M 200 b with
  | some p, some q => if isTupP p && PySem.W.alike p q && decide (min p.depth q.depth ≤ 60) then some (.bl (PySem.W.dataLt p q), M) else none
  | _, _ => none
def ltD (a b : D) (M : Sto) : Option (D × Sto) :=
  match a, b with
  | .int i, .int j => some (.bl (decide (i < j)), M)
  | .str i, .str j => some (.bl (decide (i.cps.toList < j.cps.toList)), M)
  | a, b => ltG a b M
def leD (a b : D) (M : Sto) : Option (D × Sto) :=
  match a, b with
  | .int i, .int j => some (.bl (decide (i ≤ j)), M)
  | .str i, .str j => some (.bl (!decide (j.cps.toList < i.cps.toList)), M)
  | _, _ => none
def gtD (a b : D) (M : Sto) : Option (D × Sto) :=
  match a, b with
  | .int i, .int j => some (.bl (decide (j < i)), M)
  | .str i, .str j => some (.bl (decide (j.cps.toList < i.cps.toList)), M)
  | _, _ => none
def geD (a b : D) (M : Sto) : Option (D × Sto) :=
  match a, b with
  | .int i, .int j => some (.bl (decide (j ≤ i)), M)
  | .str i, .str j => some (.bl (!decide (i.cps.toList < j.cps.toList)), M)
  | _, _ => none
def keyD : D → Option Key
  | .int i => some (.inl i)
  | .str x => some (.inr x)
  | _ => none
def keysD : List D → Option (List Key)
  | [] => some []
  | d :: ds => match keyD d, keysD ds with
    | some k, some ks => some (k :: ks)
    | _, _ => none
def lookK {κ : Type} [DecidableEq κ] (kvs : List (κ × D)) (k : κ) : Option D := (kvs.find? fun kv => decide (kv.1 = k)).map (·.2)
def putKD {κ : Type} [DecidableEq κ] (kvs : List (κ × D)) (k : κ) (v : D) : List (κ × D) := if (kvs.any fun kv => decide (kv.1 = k)) then kvs.map fun kv => if kv.1 = k then (kv.1, v) else kv else kvs ++ [(k, v)]
/-- d.get -/
def dicGet (i : Nat) (k : D) (M : Sto) : Option (Option D) :=
  match (sGet M i) with
  | some (.dk kvs) => match keyD k with
    | some k => some (lookK kvs k)
    | none => none
  | some (.dt kvs) => match k with
    | .tup ks => match keysD ks with
      | some ks => some (lookK kvs ks)
      | none => none
    | _ => none
  | _ => none
def inD (neg : Bool) (a b : D) (M : Sto) : Option (D × Sto) :=
  match b with
  | .dic i => match dicGet i a M with
    | some o => some (.bl (if neg then !o.isSome else o.isSome), M)
    | none => none
  | .tup ds => match toPy M 200 a, toPy M 200 (.tup ds) with
    | some p, some (.tuple qs) => if shp p && shp (.tuple qs) then some (.bl (if neg then !(qs.any fun z => PyData.eqv z p) else (qs.any fun z => PyData.eqv z p)), M) else none
    | _, _ => none
  | .ktup ds => match toPy M 200 a, toPy M 200 (.ktup ds) with
    | some p, some (.tuple qs) => if shp p && shp (.tuple qs) then some (.bl (if neg then !(qs.any fun z => PyData.eqv z p) else (qs.any fun z => PyData.eqv z p)), M) else none
    | _, _ => none
  | .lst i => match toPy M 200 a, toPy M 200 (.lst i) with
    | some p, some (.list qs) => if shp p && shp (.list qs) then some (.bl (if neg then !(qs.any fun z => PyData.eqv z p) else (qs.any fun z => PyData.eqv z p)), M) else none
    | _, _ => none
  | _ => none
def eqF (neg : Bool) (a b : D) (M : Sto) : Option (D × Sto) :=
  match a, b with
  | .str x, .str y => some (.bl (xorB neg (sbeq x y)), M)
  | .int i, .int j => some (.bl (xorB neg (decide (i = j))), M)
  | a, b => eqD neg a b M
def inF (neg : Bool) (a b : D) (M : Sto) : Option (D × Sto) :=
  match a, b with
  | .str x, .ktup ds => match strsT ds with
    | some ss => some (.bl (xorB neg (anyS x ss)), M)
    | none => inD neg a b M
  | a, b => inD neg a b M
def ltF (a b : D) (M : Sto) : Option (D × Sto) :=
  match a, b with
  | .str i, .str j => some (.bl (slt i.cps.toList j.cps.toList), M)
  | a, b => ltD a b M
def leF (a b : D) (M : Sto) : Option (D × Sto) :=
  match a, b with
  | .str i, .str j => some (.bl (!slt j.cps.toList i.cps.toList), M)
  | a, b => leD a b M
def cmpD : CmpOp → D → D → Sto → Option (D × Sto)
  | .Eq => eqF false
  | .NotEq => eqF true
  | .Lt => ltF
  | .LtE => leF
  | .Gt => gtD
  | .GtE => geD
  | .Is => isD false
  | .IsNot => isD true
  | .In => inF false
  | .NotIn => inF true
section
variable {X : Cx} {c : Cfg}
theorem or_eq (hK : X.K = c.K.f) (hu : X.A.units + 64 < cLine) : OpR X (compareOp .Eq) (sV2 c (eqD false)) := by
  intro pins s g H x y v u Q I rx ry h
  obtain ⟨M, io, a, b, d, M', e, ra, rb, rs, k⟩ := h
  rw [kt hK] at ra rb rs k
  unfold eqD at e
  split at e
  · rename_i p q e1 e2
    split at e
    · rename_i hl
      cases e
      rw [Bool.and_eq_true] at hl
      exact op_eqD hu pins s g H _ _ v u Q I rx ry ⟨p, q, toPy_ok rs _ _ _ _ e1 ra, toPy_ok rs _ _ _ _ e2 rb, hl.1, hl.2, k_now k rs (.bl _)⟩
    · cases e
  · cases e
theorem or_ne (hK : X.K = c.K.f) (hu : X.A.units + 64 < cLine) : OpR X (compareOp .NotEq) (sV2 c (eqD true)) := by
  intro pins s g H x y v u Q I rx ry h
  obtain ⟨M, io, a, b, d, M', e, ra, rb, rs, k⟩ := h
  rw [kt hK] at ra rb rs k
  unfold eqD at e
  split at e
  · rename_i p q e1 e2
    split at e
    · rename_i hl
      cases e
      rw [Bool.and_eq_true] at hl
      exact op_neD hu pins s g H _ _ v u Q I rx ry ⟨p, q, toPy_ok rs _ _ _ _ e1 ra, toPy_ok rs _ _ _ _ e2 rb, hl.1, hl.2, k_now k rs (.bl _)⟩
    · cases e
  · cases e
theorem or_lt (hK : X.K = c.K.f) (hu : X.A.units + 65 < cLine) : OpR X (compareOp .Lt) (sV2 c ltD) := by
  intro pins s g H x y v u Q I rx ry h
  obtain ⟨M, io, a, b, d, M', e, ra, rb, rs, k⟩ := h
  rw [kt hK] at ra rb rs k
  unfold ltD at e
  split at e
  · cases e; cases ra; cases rb
    exact op_lt pins s g H _ _ v u Q I rx ry ⟨_, _, rfl, rfl, k_now k rs (.bl _)⟩
  · cases e; cases ra; cases rb
    exact op_lt_str pins s g H _ _ v u Q I rx ry ⟨_, _, rfl, rfl, k_now k rs (.bl _)⟩
  · unfold ltG at e
    split at e
    · rename_i p q e1 e2
      split at e
      · rename_i hl
        cases e
        rw [Bool.and_eq_true, Bool.and_eq_true] at hl
        obtain ⟨⟨h1, h2⟩, h3⟩ := hl
        have h3 := of_decide_eq_true h3
        obtain ⟨as, r1⟩ := Dp.reads I p x v (toPy_ok rs _ _ _ _ e1 ra) rx
        obtain ⟨bs, r2⟩ := Dp.reads I q y u (toPy_ok rs _ _ _ _ e2 rb) ry
        exact PySem.W.rcLt_alike p q _ _ _ _ _ _ r1 r2 h2 (fun z => by subst z; cases h1) (by omega) _ _ _ _ ⟨.bl _, H, I, rfl, k_now k rs (.bl _)⟩
      · cases e
    · cases e
theorem or_le (hK : X.K = c.K.f) : OpR X (compareOp .LtE) (sV2 c leD) := by
  intro pins s g H x y v u Q I rx ry h
  obtain ⟨M, io, a, b, d, M', e, ra, rb, rs, k⟩ := h
  rw [kt hK] at ra rb rs k
  unfold leD at e
  split at e
  · cases e; cases ra; cases rb
    exact op_le pins s g H _ _ v u Q I rx ry ⟨_, _, rfl, rfl, k_now k rs (.bl _)⟩
  · cases e; cases ra; cases rb
    exact op_le_str pins s g H _ _ v u Q I rx ry ⟨_, _, rfl, rfl, k_now k rs (.bl _)⟩
  · cases e
theorem or_gt (hK : X.K = c.K.f) : OpR X (compareOp .Gt) (sV2 c gtD) := by
  intro pins s g H x y v u Q I rx ry h
  obtain ⟨M, io, a, b, d, M', e, ra, rb, rs, k⟩ := h
  rw [kt hK] at ra rb rs k
  unfold gtD at e
  split at e
  · cases e; cases ra; cases rb
    exact op_gt pins s g H _ _ v u Q I rx ry ⟨_, _, rfl, rfl, k_now k rs (.bl _)⟩
  · cases e; cases ra; cases rb
    exact op_gt_str pins s g H _ _ v u Q I rx ry ⟨_, _, rfl, rfl, k_now k rs (.bl _)⟩
  · cases e
theorem or_ge (hK : X.K = c.K.f) : OpR X (compareOp .GtE) (sV2 c geD) := by
  intro pins s g H x y v u Q I rx ry h
  obtain ⟨M, io, a, b, d, M', e, ra, rb, rs, k⟩ := h
  rw [kt hK] at ra rb rs k
  unfold geD at e
  split at e
  · cases e; cases ra; cases rb
    exact op_ge pins s g H _ _ v u Q I rx ry ⟨_, _, rfl, rfl, k_now k rs (.bl _)⟩
  · cases e; cases ra; cases rb
    exact op_ge_str pins s g H _ _ v u Q I rx ry ⟨_, _, rfl, rfl, k_now k rs (.bl _)⟩
  · cases e
theorem non_of {K : KT} {H : Hp} {io : List Addr} {a : D} {x : V} (r : R K H io a x) (n : a ≠ .non) : decide (x = .non) = false := by
  refine decide_eq_false fun z => ?_
  subst z
  cases r
  exact n rfl
theorem or_is (hK : X.K = c.K.f) : OpR X (compareOp .Is) (sV2 c (isD false)) := by
  intro pins s g H x y v u Q I rx ry h
  obtain ⟨M, io, a, b, d, M', e, ra, rb, rs, k⟩ := h
  rw [kt hK] at ra rb rs k
  unfold isD at e
  split at e
  · cases e; cases ra; cases rb
    exact op_isBl pins s g H _ _ v u Q I rx ry ⟨_, _, rfl, rfl, k_now k rs (.bl _)⟩
  · cases e; cases ra; cases rb
    exact op_isTyB pins s g H _ _ v u Q I rx ry ⟨_, _, rfl, rfl, k_now k rs (.bl _)⟩
  · cases e; cases ra; cases rb
    exact op_isN pins s g H _ _ v u Q I rx ry ⟨rfl, k_now k rs (.bl _)⟩
  · rename_i hn
    cases e; cases rb
    refine op_isN pins s g H _ _ v u Q I rx ry ⟨rfl, ?_⟩
    rw [non_of ra fun z => hn z]
    exact k_now k rs (.bl _)
  · cases e
theorem or_isnot (hK : X.K = c.K.f) : OpR X (compareOp .IsNot) (sV2 c (isD true)) := by
  intro pins s g H x y v u Q I rx ry h
  obtain ⟨M, io, a, b, d, M', e, ra, rb, rs, k⟩ := h
  rw [kt hK] at ra rb rs k
  unfold isD at e
  split at e
  · cases e; cases ra; cases rb
    exact op_notBl pins s g H _ _ v u Q I rx ry ⟨_, _, rfl, rfl, k_now k rs (.bl _)⟩
  · cases e; cases ra; cases rb
    exact op_notTyB pins s g H _ _ v u Q I rx ry ⟨_, _, rfl, rfl, k_now k rs (.bl _)⟩
  · cases e; cases ra; cases rb
    exact op_notN pins s g H _ _ v u Q I rx ry ⟨rfl, k_now k rs (.bl _)⟩
  · rename_i hn
    cases e; cases rb
    refine op_notN pins s g H _ _ v u Q I rx ry ⟨rfl, ?_⟩
    rw [non_of ra fun z => hn z]
    exact k_now k rs (.bl _)
  · cases e
/-! dicts -/
theorem key_of_D {K : KT} {H : Hp} {io : List Addr} {d : D} {k : Key} {y : V} (e : keyD d = some k) (r : R K H io d y) : y = kV k := by
  unfold keyD at e
  split at e
  · cases e; cases r; rfl
  · cases e; cases r; rfl
  · cases e
theorem keys_of_D {K : KT} {H : Hp} {io : List Addr} : ∀ {ds : List D} {ks : List Key} {ys : List V}, keysD ds = some ks → RL K H io ds ys → ys = ks.map kV
  | [], _, _, e, r => by simp only [keysD] at e; cases e; cases r; rfl
  | d :: ds, _, _, e, r => by
    simp only [keysD] at e
    split at e
    · rename_i k ks e1 e2
      cases e
      cases r with
      | cons r1 r2 => rw [List.map_cons, key_of_D e1 r1, keys_of_D e2 r2]
    · cases e
/-- the values at a key agree -/
def RO (K : KT) (H : Hp) (io : List Addr) : Option D → Option V → Prop
  | none, none => True
  | some d, some v => R K H io d v
  | _, _ => False
theorem lookK_val {κ : Type} [DecidableEq κ] {K : KT} {H : Hp} {io : List Addr} (k : κ) : ∀ {kvs : List (κ × D)} {xs : List (κ × V)}, RKV K H io kvs xs → RO K H io (lookK kvs k) (valV xs k)
  | [], _, h => by
    cases h
    trivial
  | (k', d) :: r, _, h => by
    cases h with
    | @cons _ q _ t h1 h2 =>
      obtain ⟨e1, e2⟩ := h1
      have ih := lookK_val k h2
      unfold lookK valV
      simp only [List.find?_cons]
      have e1' : k' = q.1 := e1
      rw [← e1']
      by_cases hk : k' = k
      · rw [decide_eq_true hk]
        exact e2
      · rw [decide_eq_false hk]
        exact ih
theorem dicGet_ok {K : KT} {H : Hp} {io : List Addr} {M : Sto} {i : Nat} {a : Addr} {kd : D} {y : V} {o : Option D} (rs : RS K H io M) (ei : io[i]? = some a) (rk : R K H io kd y) (e : dicGet i kd M = some o) :
    ∃ ov, DGet H a y ov ∧ RO K H io o ov := by
  obtain ⟨c, ho, e1, e2, rc⟩ := rs.there ei
  unfold dicGet at e
  rw [e1] at e
  cases c with
  | lst ds => cases e
  | dead => cases e
  | ob cl fs => cases e
  | dk kvs =>
    obtain ⟨xs, q, rk'⟩ := rc
    subst q
    simp only at e
    cases hk : keyD kd with
    | none => rw [hk] at e; cases e
    | some k =>
      rw [hk] at e
      cases e
      rw [key_of_D hk rk]
      exact ⟨_, DGet.k e2, lookK_val k rk'⟩
  | dt kvs =>
    obtain ⟨xs, q, rk'⟩ := rc
    subst q
    simp only at e
    split at e
    · rename_i ks
      split at e
      · rename_i ks' hk
        cases e
        cases rk with
        | tup hb rl =>
          have z := keys_of_D hk rl
          subst z
          exact ⟨_, DGet.t e2 hb, lookK_val ks' rk'⟩
      · cases e
    · cases e
theorem RO.isSome {K : KT} {H : Hp} {io : List Addr} {o : Option D} {ov : Option V} (h : RO K H io o ov) : o.isSome = ov.isSome := by
  cases o <;> cases ov <;> first | rfl | exact h.elim
theorem or_in (hK : X.K = c.K.f) (hu : X.A.units + 65 < cLine) : OpR X (compareOp .In) (sV2 c (inD false)) := by
  intro pins s g H x y v u Q I rx ry h
  obtain ⟨M, io, a, b, d, M', e, ra, rb, rs, k⟩ := h
  rw [kt hK] at ra rb rs k
  unfold inD at e
  split at e
  · rename_i i
    split at e
    · rename_i o eo
      cases e
      cases rb with
      | dic ei =>
        obtain ⟨ov, gt, ro⟩ := dicGet_ok rs ei ra eo
        cases ry
        refine d_in (by omega) I gt rx fun s' I' => ⟨.bl _, H, I', rfl, ?_⟩
        rw [← ro.isSome]
        exact k_now k rs (.bl _)
    · cases e
  · rename_i ds
    split at e
    · rename_i p qs e1 e2
      split at e
      · rename_i hl
        cases e
        rw [Bool.and_eq_true] at hl
        obtain ⟨as, r1⟩ := Dp.reads I p x v (toPy_ok rs _ _ _ _ e1 ra) rx
        obtain ⟨bs, r2⟩ := Dp.reads I (.tuple qs) y u (toPy_ok rs _ _ _ _ e2 rb) ry
        exact SeqAt.in_tuple_reads r2 r1 (SeqAt.canLay_of_shaped hl.2) (SeqAt.canLay_of_shaped hl.1) (room_in_shaped hl.1 hu) ⟨.bl _, H, I, rfl, k_now k rs (.bl _)⟩
      · cases e
    · cases e
  · rename_i ds
    split at e
    · rename_i p qs e1 e2
      split at e
      · rename_i hl
        cases e
        rw [Bool.and_eq_true] at hl
        obtain ⟨as, r1⟩ := Dp.reads I p x v (toPy_ok rs _ _ _ _ e1 ra) rx
        obtain ⟨bs, r2⟩ := Dp.reads I (.tuple qs) y u (toPy_ok rs _ _ _ _ e2 rb) ry
        exact SeqAt.in_tuple_reads r2 r1 (SeqAt.canLay_of_shaped hl.2) (SeqAt.canLay_of_shaped hl.1) (room_in_shaped hl.1 hu) ⟨.bl _, H, I, rfl, k_now k rs (.bl _)⟩
      · cases e
    · cases e
  · rename_i i
    split at e
    · rename_i p qs e1 e2
      split at e
      · rename_i hl
        cases e
        rw [Bool.and_eq_true] at hl
        exact op_inD hu pins s g H _ _ v u Q I rx ry ⟨p, qs, toPy_ok rs _ _ _ _ e1 ra, toPy_ok rs _ _ _ _ e2 rb, hl.1, hl.2, k_now k rs (.bl _)⟩
      · cases e
    · cases e
  · cases e
theorem or_notin (hK : X.K = c.K.f) (hu : X.A.units + 65 < cLine) : OpR X (compareOp .NotIn) (sV2 c (inD true)) := by
  intro pins s g H x y v u Q I rx ry h
  obtain ⟨M, io, a, b, d, M', e, ra, rb, rs, k⟩ := h
  rw [kt hK] at ra rb rs k
  unfold inD at e
  split at e
  · rename_i i
    split at e
    · rename_i o eo
      cases e
      cases rb with
      | dic ei =>
        obtain ⟨ov, gt, ro⟩ := dicGet_ok rs ei ra eo
        cases ry
        refine d_notIn (by omega) I gt rx fun s' I' => ⟨.bl _, H, I', rfl, ?_⟩
        rw [← ro.isSome]
        exact k_now k rs (.bl _)
    · cases e
  · rename_i ds
    split at e
    · rename_i p qs e1 e2
      split at e
      · rename_i hl
        cases e
        rw [Bool.and_eq_true] at hl
        obtain ⟨as, r1⟩ := Dp.reads I p x v (toPy_ok rs _ _ _ _ e1 ra) rx
        obtain ⟨bs, r2⟩ := Dp.reads I (.tuple qs) y u (toPy_ok rs _ _ _ _ e2 rb) ry
        exact SeqAt.notIn_tuple_reads r2 r1 (SeqAt.canLay_of_shaped hl.2) (SeqAt.canLay_of_shaped hl.1) (room_in_shaped hl.1 hu) ⟨.bl _, H, I, rfl, k_now k rs (.bl _)⟩
      · cases e
    · cases e
  · rename_i ds
    split at e
    · rename_i p qs e1 e2
      split at e
      · rename_i hl
        cases e
        rw [Bool.and_eq_true] at hl
        obtain ⟨as, r1⟩ := Dp.reads I p x v (toPy_ok rs _ _ _ _ e1 ra) rx
        obtain ⟨bs, r2⟩ := Dp.reads I (.tuple qs) y u (toPy_ok rs _ _ _ _ e2 rb) ry
        exact SeqAt.notIn_tuple_reads r2 r1 (SeqAt.canLay_of_shaped hl.2) (SeqAt.canLay_of_shaped hl.1) (room_in_shaped hl.1 hu) ⟨.bl _, H, I, rfl, k_now k rs (.bl _)⟩
      · cases e
    · cases e
  · rename_i i
    split at e
    · rename_i p qs e1 e2
      split at e
      · rename_i hl
        cases e
        rw [Bool.and_eq_true] at hl
        exact op_notInD hu pins s g H _ _ v u Q I rx ry ⟨p, qs, toPy_ok rs _ _ _ _ e1 ra, toPy_ok rs _ _ _ _ e2 rb, hl.1, hl.2, k_now k rs (.bl _)⟩
      · cases e
    · cases e
  · cases e
theorem ltF_sub {a b d : D} {M M' : Sto} (e : ltF a b M = some (d, M')) : ltD a b M = some (d, M') := by
  unfold ltF at e
  split at e
  · rw [slt_dec] at e
    exact e
  · exact e
theorem leF_sub {a b d : D} {M M' : Sto} (e : leF a b M = some (d, M')) : leD a b M = some (d, M') := by
  unfold leF at e
  split at e
  · rw [slt_dec] at e
    exact e
  · exact e
theorem or_ltF (hK : X.K = c.K.f) (hu : X.A.units + 65 < cLine) : OpR X (compareOp .Lt) (sV2 c ltF) := by
  intro pins s g H x y v u Q I rx ry ⟨M, io, a, b, d, M', e, ra, rb, rs, k⟩
  exact or_lt hK hu pins s g H x y v u Q I rx ry ⟨M, io, a, b, d, M', ltF_sub e, ra, rb, rs, k⟩
theorem or_leF (hK : X.K = c.K.f) : OpR X (compareOp .LtE) (sV2 c leF) := by
  intro pins s g H x y v u Q I rx ry ⟨M, io, a, b, d, M', e, ra, rb, rs, k⟩
  exact or_le hK pins s g H x y v u Q I rx ry ⟨M, io, a, b, d, M', leF_sub e, ra, rb, rs, k⟩
theorem dec_strV {x y : Str} : decide (V.str x = V.str y) = sbeq x y := by
  rw [sbeq_dec, Bool.eq_iff_iff, decide_eq_true_iff, decide_eq_true_iff]
  exact ⟨fun h => V.str.inj h, fun h => by rw [h]⟩
theorem dec_intV {i j : Int} : decide (V.int i = V.int j) = decide (i = j) := by
  rw [Bool.eq_iff_iff, decide_eq_true_iff, decide_eq_true_iff]
  exact ⟨fun h => V.int.inj h, fun h => by rw [h]⟩
theorem or_eqF (hK : X.K = c.K.f) (hu : X.A.units + 64 < cLine) : OpR X (compareOp .Eq) (sV2 c (eqF false)) := by
  intro pins s g H x y v u Q I rx ry ⟨M, io, a, b, d, M', e, ra, rb, rs, k⟩
  unfold eqF at e
  split at e
  · cases e
    cases ra
    cases rb
    exact op_eq pins s g H _ _ v u Q I rx ry ⟨rfl, by rw [dec_strV]; exact k_now k rs (.bl _)⟩
  · cases e
    cases ra
    cases rb
    exact op_eq pins s g H _ _ v u Q I rx ry ⟨rfl, by rw [dec_intV]; exact k_now k rs (.bl _)⟩
  · exact or_eq hK hu pins s g H x y v u Q I rx ry ⟨M, io, _, _, d, M', e, ra, rb, rs, k⟩
theorem or_neF (hK : X.K = c.K.f) (hu : X.A.units + 64 < cLine) : OpR X (compareOp .NotEq) (sV2 c (eqF true)) := by
  intro pins s g H x y v u Q I rx ry ⟨M, io, a, b, d, M', e, ra, rb, rs, k⟩
  unfold eqF at e
  split at e
  · cases e
    cases ra
    cases rb
    exact op_ne pins s g H _ _ v u Q I rx ry ⟨rfl, by rw [dec_strV]; exact k_now k rs (.bl _)⟩
  · cases e
    cases ra
    cases rb
    exact op_ne pins s g H _ _ v u Q I rx ry ⟨rfl, by rw [dec_intV]; exact k_now k rs (.bl _)⟩
  · exact or_ne hK hu pins s g H x y v u Q I rx ry ⟨M, io, _, _, d, M', e, ra, rb, rs, k⟩
theorem strsT_rl {K : KT} {H : Hp} {io : List Addr} : ∀ {ds : List D} {ss : List Str} {xs : List V}, strsT ds = some ss → RL K H io ds xs → xs = ss.map V.str
  | [], _, _, e, r => by
    cases e
    cases r
    rfl
  | .str x :: ds, ss, _, e, r => by
    unfold strsT at e
    split at e
    · rename_i tt et
      cases e
      cases r with
      | cons r1 r2 =>
        cases r1
        rw [strsT_rl et r2]
        rfl
    · cases e
  | .non :: _, _, _, e, _ => by cases e
  | .bl _ :: _, _, _, e, _ => by cases e
  | .int _ :: _, _, _, e, _ => by cases e
  | .ty _ :: _, _, _, e, _ => by cases e
  | .tup _ :: _, _, _, e, _ => by cases e
  | .ktup _ :: _, _, _, e, _ => by cases e
  | .lst _ :: _, _, _, e, _ => by cases e
  | .dic _ :: _, _, _, e, _ => by cases e
  | .fn _ :: _, _, _, e, _ => by cases e
  | .exn _ _ :: _, _, _, e, _ => by cases e
theorem inV_strs {x : Str} : ∀ {ss : List Str}, inV (.str x) (ss.map V.str) = anyS x ss
  | [] => rfl
  | y :: ys => by
    have h := inV_strs (x := x) (ss := ys)
    unfold inV at h ⊢
    rw [List.map_cons, List.any_cons, h]
    have e : eqV (.str y) (.str x) = sbeq y x := by
      rw [sbeq_dec, Bool.eq_iff_iff, decide_eq_true_iff]
      simp [eqV]
    rw [e]
    conv => rhs; unfold anyS
    cases sbeq y x <;> simp
theorem flat_strs : ∀ {ss : List Str}, (ss.map V.str).all flatV = true
  | [] => rfl
  | y :: ys => by
    rw [List.map_cons, List.all_cons, flat_strs (ss := ys)]
    rfl
theorem or_inF (hK : X.K = c.K.f) (hu : X.A.units + 65 < cLine) : OpR X (compareOp .In) (sV2 c (inF false)) := by
  intro pins s g H x y v u Q I rx ry ⟨M, io, a, b, d, M', e, ra, rb, rs, k⟩
  unfold inF at e
  split at e
  · split at e
    · rename_i ss es
      cases e
      cases ra
      cases rb with
      | ktup h1 rl =>
        rw [strsT_rl es rl] at h1
        rw [← hK] at h1
        exact op_in_seq pins s g H _ _ v u Q I rx ry ⟨_, _, rfl, .inr h1.sq, rfl, flat_strs, by rw [inV_strs]; exact k_now k rs (.bl _)⟩
    · exact or_in hK hu pins s g H x y v u Q I rx ry ⟨M, io, _, _, d, M', e, ra, rb, rs, k⟩
  · exact or_in hK hu pins s g H x y v u Q I rx ry ⟨M, io, _, _, d, M', e, ra, rb, rs, k⟩
theorem or_notinF (hK : X.K = c.K.f) (hu : X.A.units + 65 < cLine) : OpR X (compareOp .NotIn) (sV2 c (inF true)) := by
  intro pins s g H x y v u Q I rx ry ⟨M, io, a, b, d, M', e, ra, rb, rs, k⟩
  unfold inF at e
  split at e
  · split at e
    · rename_i ss es
      cases e
      cases ra
      cases rb with
      | ktup h1 rl =>
        rw [strsT_rl es rl] at h1
        rw [← hK] at h1
        exact op_notIn_seq pins s g H _ _ v u Q I rx ry ⟨_, _, rfl, .inr h1.sq, rfl, flat_strs, by rw [inV_strs]; exact k_now k rs (.bl _)⟩
    · exact or_notin hK hu pins s g H x y v u Q I rx ry ⟨M, io, _, _, d, M', e, ra, rb, rs, k⟩
  · exact or_notin hK hu pins s g H x y v u Q I rx ry ⟨M, io, _, _, d, M', e, ra, rb, rs, k⟩
theorem or_cmp (hK : X.K = c.K.f) (hu : X.A.units + 65 < cLine) : ∀ op : CmpOp, OpR X (compareOp op) (sV2 c (cmpD op))
  | .Eq => or_eqF hK (by omega)
  | .NotEq => or_neF hK (by omega)
  | .Lt => or_ltF hK hu
  | .LtE => or_leF hK
  | .Gt => or_gt hK
  | .GtE => or_ge hK
  | .Is => or_is hK
  | .IsNot => or_isnot hK
  | .In => or_inF hK hu
  | .NotIn => or_notinF hK hu
end
end PyD

-- PyD5
set_option maxRecDepth 100000
set_option maxHeartbeats 4000000
noncomputable section
namespace PyD
open PySem PySem.Spec PyProof.Rows L2
/-! ### expressions -/
def cstD (d : D) : Den D := fun _ M => some (.ok d, M)
def nmD (i : Nat) : Den D := fun r M => match r[i]? with
  | some (some d) => some (.ok d, M)
  | _ => none
def nilD : Den (List D) := fun _ M => some (.ok [], M)
def consD (f : Den D) (h : Den (List D)) : Den (List D) := bindD f fun a => bindD h fun as => liftD (fun p : D × List D => fun M => some (p.1 :: p.2, M)) (a, as)
def tupD (ds : List D) (M : Sto) : Option (D × Sto) := if ds.length ≤ 100000 then some (.tup ds, M) else none
def lstD (ds : List D) (M : Sto) : Option (D × Sto) := if ds.length ≤ 100000 then some (.lst M.length, (sApp M (.lst ds))) else none
/-- truth -/
def truD (d : D) (M : Sto) : Option (Bool × Sto) :=
  match d with
  | .non => some (false, M)
  | .bl b => some (b, M)
  | .int i => some (i != 0, M)
  | .str x => if x.length ≤ 100000 then some ((x.length : Int) != 0, M) else none
  | .tup ds => some (!ds.isEmpty, M)
  | .ktup ds => some (!ds.isEmpty, M)
  | .lst i => match (sGet M i) with
    | some (.lst ds) => some (!ds.isEmpty, M)
    | _ => none
  | _ => none
def blD (d : D) (M : Sto) : Option (Bool × Sto) :=
  match d with
  | .bl b => some (b, M)
  | _ => none
def testD (f : Den D) : Den Bool := bindD f fun a => liftD truD a
def btestD (f : Den D) : Den Bool := bindD f fun a => liftD blD a
def notT (t : Den Bool) : Den Bool := bindD t fun b => liftD (fun b M => some (!b, M)) b
def andT (t u : Den Bool) : Den Bool := bindD t fun b => if b = true then u else fun _ M => some (.ok false, M)
def orT (t u : Den Bool) : Den Bool := bindD t fun b => if b = true then fun _ M => some (.ok true, M) else u
def andE (f h : Den D) : Den D := bindD f fun a => match a with
  | .bl true => h
  | .bl false => fun _ M => some (.ok (.bl false), M)
  | _ => fun _ _ => none
def orE (f h : Den D) : Den D := bindD f fun a => match a with
  | .bl true => fun _ M => some (.ok (.bl true), M)
  | .bl false => h
  | _ => fun _ _ => none
def notE (f : Den D) : Den D := bindD f fun a => match a with
  | .bl b => fun _ M => some (.ok (.bl (!b)), M)
  | _ => fun _ _ => none
def ifE (t : Den Bool) (f h : Den D) : Den D := bindD t fun b => if b = true then f else h
def chainE (op op' : D → D → Sto → Option (D × Sto)) (f h j : Den D) : Den D := bindD f fun a => bindD h fun b => bindD (liftD (fun p : D × D => op p.1 p.2) (a, b)) fun z => match z with
  | .bl true => bindD j fun e => liftD (fun p : D × D => op' p.1 p.2) (b, e)
  | .bl false => fun _ M => some (.ok (.bl false), M)
  | _ => fun _ _ => none
section
variable {X : Cx} {c : Cfg} {f h j : Den D} {t u : Den Bool} {a b e o : Expr} {es : List Expr} {pos : Pos}
theorem run_ok {α β : Type} {Ra : Hp → List Addr → α → β → Prop} {x : α} {r : DEnv} {M : Sto} {io : List Addr} {g : L2.St} {H : Hp} {Q : β → Hp → Prop} (s : Run c Ra (fun _ M => some (.ok x, M)) r M io g H Q) : Aft c Ra g io H M (.ok x) Q := by
  obtain ⟨y, M', e, k⟩ := s
  cases e
  exact k
theorem run_no {α β : Type} {Ra : Hp → List Addr → α → β → Prop} {r : DEnv} {M : Sto} {io : List Addr} {g : L2.St} {H : Hp} {Q : β → Hp → Prop} (s : Run c Ra (fun _ _ => none) r M io g H Q) : False := by
  obtain ⟨y, M', e, k⟩ := s
  cases e
theorem de_cst {v : V} {d : D} (h : PE X e (tC v)) (r : ∀ H io, R c.K H io d v) : PE X e (sE c (cstD d)) := PE.imp h fun g H Q s => by
  obtain ⟨r', M, io, re, rs, run⟩ := s
  exact (run_ok run).ok Ext.refl rs (r H io)
theorem de_nm {i : Nat} (h : PE X e (tVar i)) : PE X e (sE c (nmD i)) := PE.imp h fun g H Q s => by
  obtain ⟨r', M, io, re, rs, x, M', eq, k⟩ := s
  unfold nmD at eq
  split at eq
  · rename_i d ed
    cases eq
    obtain ⟨v, h1, h2⟩ := re.2 i d ed
    exact ⟨v, h1, k.ok Ext.refl rs h2⟩
  · cases eq
theorem da_nil : PA X [] (sA c nilD) := PA.imp pa_nil fun g H Q s => by
  obtain ⟨r', M, io, re, rs, run⟩ := s
  exact (run_ok run).ok Ext.refl rs .nil
theorem da_cons {hs : Den (List D)} (ha : PE X e (sE c f)) (hr : PA X es (sA c hs)) (hst : starEach (e :: es) X.env = (false, eval e X.env) :: starEach es X.env := by rfl) : PA X (e :: es) (sA c (consD f hs)) := PA.imp (pa_cons ha hr hst) fun g H Q s => by
  refine sG.bind s fun a x r M1 io1 H1 re rs ra run => ⟨r, M1, io1, re, rs, run.bind fun b y M2 io2 H2 e2 rs2 rb run2 => ?_⟩
  obtain ⟨d, M3, e, k⟩ := run2.lift
  cases e
  exact k.ok Ext.refl rs2 (.cons (ra.mono e2) rb)
theorem de_bin {op : Operator} (hK : X.K = c.K.f) (ha : PE X a (sE c f)) (hb : PE X b (sE c h)) : PE X (.BinOp a op b pos) (sE c (op2 (binD op) f h)) := PE.imp (pe_op (or_bin hK op) ha hb) fun _ _ _ s => sE_op2 s
theorem de_cmp {op : CmpOp} (hK : X.K = c.K.f) (hu : X.A.units + 65 < cLine) (ha : PE X a (sE c f)) (hb : PE X b (sE c h)) (hm : behindInMarks op b = false) : PE X (.Compare a [op] [b] pos) (sE c (op2 (cmpD op) f h)) := PE.imp (pe_cmpR (or_cmp hK hu op) ha hb hm) fun _ _ _ s => sE_op2 s
theorem sT_b {g : L2.St} {H : Hp} {Q : Bool → Hp → Prop} (s : sT c (btestD f) g H Q) : tTest (sE c f) g H Q := by
  refine sG.bind s fun a x r M1 io1 H1 re rs ra run => ?_
  obtain ⟨d, M3, e, k⟩ := run.lift
  unfold blD at e
  split at e
  · cases e
    cases ra
    exact ⟨_, rfl, k.ok Ext.refl rs rfl⟩
  · cases e
theorem dt_cmp {op : CmpOp} (hK : X.K = c.K.f) (hu : X.A.units + 65 < cLine) (ha : PE X a (sE c f)) (hb : PE X b (sE c h)) (hm : behindInMarks op b = false) : PT X (.Compare a [op] [b] pos) (sT c (btestD (op2 (cmpD op) f h))) := PT.imp (pt_cmpR (or_cmp hK hu op) ha hb hm) fun g H Q s => by
  obtain ⟨r, M, io, re, rs, run⟩ := s
  have q := sT_b (c := c) (f := op2 (cmpD op) f h) ⟨r, M, io, re, rs, run⟩
  exact sE_op2 q
theorem de_tup {x1 : Nat} {hs : Den (List D)} (h : PA X es (sA c hs)) : PE X (.Tuple es x1 pos) (sE c (opS tupD hs)) := PE.imp (pe_tup h) fun g H Q s => by
  refine sG.bind s fun a x r M1 io1 H1 re rs ra run => ?_
  obtain ⟨d, M3, e, k⟩ := run.lift
  unfold tupD at e
  split at e
  · rename_i hl
    cases e
    exact ⟨by rw [← ra.length]; exact big_le hl, fun p n => k_tup (fun io' H' ex rs' v rv => k io' H' ex rs' v rv) rs ra n⟩
  · cases e
theorem de_lst {hs : Den (List D)} (h : PA X es (sA c hs)) : PE X (.List es pos) (sE c (opS lstD hs)) := PE.imp (pe_lst h) fun g H Q s => by
  refine sG.bind s fun a x r M1 io1 H1 re rs ra run => ?_
  obtain ⟨d, M3, e, k⟩ := run.lift
  unfold lstD at e
  split at e
  · rename_i hl
    cases e
    exact ⟨by rw [← ra.length]; exact big_le hl, fun p n => k_lst (fun io' H' ex rs' v rv => k io' H' ex rs' v rv) rs ra n⟩
  · cases e
theorem isE_eq {α : Type} {K : KT} {H : Hp} {io : List Addr} {ds : List D} {xs : List V} (h : RL K H io ds xs) : (!ds.isEmpty) = !xs.isEmpty := by cases h <;> rfl
/-- any value's truth -/
theorem dt_val (hK : X.K = c.K.f) (ha : PE X e (sE c f)) (he : ∀ whole, isTrue e X.env whole = (do let v ← whole; standAt e.pos; holding [v] (truthy v)) := by intro _; rfl) : PT X e (sT c (testD f)) := PT.imp (pt_truth ha he) fun g H Q s => by
  refine sG.bind s fun a x r M1 io1 H1 re rs ra run => ?_
  obtain ⟨d, M3, e, k⟩ := run.lift
  unfold truD at e
  split at e
  · cases e; cases ra; exact ⟨false, rfl, k.ok Ext.refl rs rfl⟩
  · cases e; cases ra; exact ⟨_, rfl, k.ok Ext.refl rs rfl⟩
  · cases e; cases ra; exact ⟨_, rfl, k.ok Ext.refl rs rfl⟩
  · split at e
    · rename_i hl
      cases e; cases ra
      exact ⟨_, ⟨big_le hl, rfl⟩, k.ok Ext.refl rs rfl⟩
    · cases e
  · cases e
    cases ra with
    | tup h1 rl => exact ⟨_, .inr (.inl ⟨_, SqT.of h1, isE_eq (α := Nat) rl⟩), k.ok Ext.refl rs rfl⟩
  · cases e
    cases ra with
    | ktup h1 rl =>
      have h2 := h1.sq (H := H1)
      rw [kt hK] at h2
      exact ⟨_, .inr (.inl ⟨_, h2, isE_eq (α := Nat) rl⟩), k.ok Ext.refl rs rfl⟩
  · split at e
    · rename_i ds em
      cases e
      obtain ⟨a1, xs, rfl, i1, h1, r1⟩ := lst_at ra rs em
      exact ⟨_, .inl ⟨_, SqL.of h1, isE_eq (α := Nat) r1⟩, k.ok Ext.refl rs rfl⟩
    · cases e
  · cases e
theorem dt_not (ha : PT X a (sT c t)) : PT X (.UnaryOp .Not a pos) (sT c (notT t)) := PT.imp (pt_not ha) fun g H Q s => by
  refine sG.bind s fun a x r M1 io1 H1 re rs ra run => ?_
  obtain ⟨d, M3, e, k⟩ := run.lift
  cases e
  cases ra
  exact k.ok Ext.refl rs rfl
structure PWs (X : Cx) (e : Expr) (t : TT) : Prop where
  pw : PW X e t
theorem PW.imp {t t' : TT} (h : PW X e t) (i : ∀ g H Q, t' g H Q → t g H Q) : PW X e t' := ⟨fun w pins s g H Q I q => h.run w pins s g H Q I (i g H Q q)⟩
theorem dw_and1 (ha : PT X a (sT c t)) : PW X (.BoolOp .And [a] pos) (sT c t) := pw_and1 ha
theorem dw_or1 (ha : PT X a (sT c t)) : PW X (.BoolOp .Or [a] pos) (sT c t) := pw_or1 ha
theorem dw_and (ha : PT X a (sT c t)) (hb : PW X (.BoolOp .And (b :: es) pos) (sT c u)) : PW X (.BoolOp .And (a :: b :: es) pos) (sT c (andT t u)) := PW.imp (pw_and ha hb) fun g H Q s => by
  refine sG.bind s fun a x r M1 io1 H1 re rs ra run => ?_
  cases ra
  cases a with
  | true => exact ⟨r, M1, io1, re, rs, run⟩
  | false => exact (run_ok run).ok Ext.refl rs rfl
theorem dw_or (ha : PT X a (sT c t)) (hb : PW X (.BoolOp .Or (b :: es) pos) (sT c u)) : PW X (.BoolOp .Or (a :: b :: es) pos) (sT c (orT t u)) := PW.imp (pw_or ha hb) fun g H Q s => by
  refine sG.bind s fun a x r M1 io1 H1 re rs ra run => ?_
  cases ra
  cases a with
  | false => exact ⟨r, M1, io1, re, rs, run⟩
  | true => exact (run_ok run).ok Ext.refl rs rfl
theorem de_and (ha : PE X a (sE c f)) (hb : PE X (.BoolOp .And (b :: es) pos) (sE c h)) : PE X (.BoolOp .And (a :: b :: es) pos) (sE c (andE f h)) := PE.imp (pe_and ha hb) fun g H Q s => by
  refine sG.bind s fun a x r M1 io1 H1 re rs ra run => ?_
  split at run
  · cases ra; exact ⟨true, rfl, r, M1, io1, re, rs, run⟩
  · cases ra; exact ⟨false, rfl, (run_ok run).ok Ext.refl rs (.bl false)⟩
  · exact (run_no run).elim
theorem de_or (ha : PE X a (sE c f)) (hb : PE X (.BoolOp .Or (b :: es) pos) (sE c h)) : PE X (.BoolOp .Or (a :: b :: es) pos) (sE c (orE f h)) := PE.imp (pe_or ha hb) fun g H Q s => by
  refine sG.bind s fun a x r M1 io1 H1 re rs ra run => ?_
  split at run
  · cases ra; exact ⟨true, rfl, (run_ok run).ok Ext.refl rs (.bl true)⟩
  · cases ra; exact ⟨false, rfl, r, M1, io1, re, rs, run⟩
  · exact (run_no run).elim
theorem de_not (ha : PE X a (sE c f)) : PE X (.UnaryOp .Not a pos) (sE c (notE f)) := PE.imp (pe_not ha) fun g H Q s => by
  refine sG.bind s fun a x r M1 io1 H1 re rs ra run => ?_
  split at run
  · cases ra; exact ⟨_, rfl, (run_ok run).ok Ext.refl rs (.bl _)⟩
  · exact (run_no run).elim
theorem de_ifE {q : Expr} (hc : PT X q (sT c t)) (ha : PE X a (sE c f)) (hb : PE X b (sE c h)) : PE X (.IfExp q a b pos) (sE c (ifE t f h)) := PE.imp (pe_ifExp hc ha hb) fun g H Q s => by
  refine sG.bind s fun a x r M1 io1 H1 re rs ra run => ?_
  cases ra
  cases a with
  | true => exact ⟨r, M1, io1, re, rs, run⟩
  | false => exact ⟨r, M1, io1, re, rs, run⟩
theorem sE_chain {op op' : CmpOp} {g : L2.St} {H : Hp} {Q : VK} (s : sE c (chainE (cmpD op) (cmpD op') f h j) g H Q) : tChain (sV2 c (cmpD op)) (sV2 c (cmpD op')) (sE c f) (sE c h) (sE c j) g H Q := by
  refine sG.bind s fun a x r M1 io1 H1 re rs ra run => ⟨r, M1, io1, re, rs, run.bind fun b y M2 io2 H2 e2 rs2 rb run2 => ?_⟩
  obtain ⟨zx, M4, ez, kz⟩ := run2
  unfold bindD liftD at ez
  simp only at ez
  cases eo : cmpD op a b M2 with
  | none => rw [eo] at ez; cases ez
  | some p =>
    obtain ⟨z, M3⟩ := p
    rw [eo] at ez
    refine ⟨M2, io2, a, b, z, M3, eo, ra.mono e2, rb, rs2, fun io3 H3 e3 rs3 v rv => ?_⟩
    cases z with
    | bl k =>
      cases rv
      refine ⟨k, rfl, ?_⟩
      cases k with
      | true =>
        rw [if_pos rfl]
        have run3 : Run c (rD c) (bindD j fun e => liftD (fun p : D × D => cmpD op' p.1 p.2) (b, e)) r M3 io3 g H3 Q := ⟨zx, M4, ez, kz.ext e3⟩
        refine ⟨r, M3, io3, (re.mono e2).mono e3, rs3, run3.bind fun d w M5 io5 H5 e5 rs5 rd run5 => ?_⟩
        obtain ⟨d', M6, e6, k6⟩ := run5.lift
        exact ⟨M5, io5, b, d, d', M6, e6, (rb.mono e3).mono e5, rd, rs5, k6⟩
      | false =>
        rw [if_neg Bool.false_ne_true]
        cases ez
        exact (kz.ext e3).ok Ext.refl rs3 (.bl false)
    | _ => cases ez
theorem de_chain {op op' : CmpOp} {q : Expr} (hK : X.K = c.K.f) (hu : X.A.units + 65 < cLine) (ha : PE X a (sE c f)) (hb : PE X b (sE c h)) (hq : PE X q (sE c j)) (hm : lastMarks [op, op'] [b, q] = false := by with_unfolding_all rfl) : PE X (.Compare a [op, op'] [b, q] pos) (sE c (chainE (cmpD op) (cmpD op') f h j)) :=
  PE.imp (pe_chain (or_cmp hK hu op) (or_cmp hK hu op') ha hb hq hm) fun _ _ _ s => sE_chain s
theorem dt_chain {op op' : CmpOp} {q : Expr} (hK : X.K = c.K.f) (hu : X.A.units + 65 < cLine) (ha : PE X a (sE c f)) (hb : PE X b (sE c h)) (hq : PE X q (sE c j)) (hm : lastMarks [op, op'] [b, q] = false := by with_unfolding_all rfl) : PT X (.Compare a [op, op'] [b, q] pos) (sT c (btestD (chainE (cmpD op) (cmpD op') f h j))) :=
  PT.imp (pt_chain (or_cmp hK hu op) (or_cmp hK hu op') ha hb hq hm) fun g H Q s => by
    have q := sT_b (c := c) (f := chainE (cmpD op) (cmpD op') f h j) s
    exact sE_chain q
/-- -i -/
def negD (a : D) (M : Sto) : Option (D × Sto) :=
  match a with
  | .int i => some (.int (-i), M)
  | _ => none
theorem de_neg (hK : X.K = c.K.f) (ha : PE X a (sE c f)) : PE X (.UnaryOp .USub a pos) (sE c (op1 negD f)) := PE.imp (pe_un un_neg ha) fun g H Q s => by
  refine sG.bind s fun a x r M1 io1 H1 re rs ra run => ?_
  obtain ⟨d, M3, e, k⟩ := run.lift
  unfold negD at e
  split at e
  · cases e; cases ra
    exact ⟨_, rfl, k.ok Ext.refl rs (.int _)⟩
  · cases e
end
end PyD

-- PyD6
set_option maxRecDepth 100000
set_option maxHeartbeats 4000000
noncomputable section
namespace PyD
open PySem PySem.Spec PyProof.Rows L2
/-! ### subscripts -/
def ixD (a b : D) (M : Sto) : Option (D × Sto) :=
  match b with
  | .int i => match a with
    | .tup ds => (atI ds i).map fun d => (d, M)
    | .ktup ds => (atI ds i).map fun d => (d, M)
    | .str z => if z.length ≤ 100000 then (atI z.cps.toList i).map fun k => (.str ⟨#[k]⟩, M) else none
    | .lst j => match (sGet M j) with
      | some (.lst ds) => (atI ds i).map fun d => (d, M)
      | _ => none
    | _ => none
  | _ => none
theorem RL.at {K : KT} {H : Hp} {io : List Addr} {ds : List D} {xs : List V} {i : Int} {d : D} (h : RL K H io ds xs) (e : atI ds i = some d) : ∃ v, atI xs i = some v ∧ R K H io d v := by
  unfold atI at e ⊢
  rw [← h.length]
  cases q : ixN ds.length i with
  | none => rw [q] at e; cases e
  | some j =>
    rw [q] at e
    exact h.get e
theorem map_some {α β : Type} {o : Option α} {f : α → β} {b : β} (h : o.map f = some b) : ∃ a, o = some a ∧ f a = b := by
  cases o with
  | none => cases h
  | some a => exact ⟨a, rfl, Option.some.inj h⟩
section
variable {X : Cx} {c : Cfg} {f h j : Den D} {hs : Den (List D)} {a b e o : Expr} {es : List Expr} {pos : Pos}
theorem ir_ix (hK : X.K = c.K.f) : IxR X (sV2 c ixD) := by
  intro value slice pins s g H x y v u Q I rx ry hh hsub
  obtain ⟨M, io, a, b, d, M', e, ra, rb, rs, k⟩ := hh
  rw [kt hK] at ra rb rs k
  unfold ixD at e
  split at e
  · rename_i i
    cases rb
    split at e
    · obtain ⟨z, e1, e2⟩ := map_some e
      cases e2
      cases ra with
      | tup h1 rl =>
        obtain ⟨w, hw, rw'⟩ := rl.at e1
        exact ix_tup value slice pins s g H _ _ v u Q I rx ry ⟨_, _, _, _, rfl, rfl, SqT.of h1, hw, k_now k rs rw'⟩ hsub
    · obtain ⟨z, e1, e2⟩ := map_some e
      cases e2
      cases ra with
      | ktup h1 rl =>
        obtain ⟨w, hw, rw'⟩ := rl.at e1
        exact ix_tup value slice pins s g H _ _ v u Q I rx ry ⟨_, _, _, _, rfl, rfl, h1.sq, hw, k_now k rs rw'⟩ hsub
    · split at e
      · rename_i hl
        obtain ⟨z, e1, e2⟩ := map_some e
        cases e2
        cases ra
        exact ix_str value slice pins s g H _ _ v u Q I rx ry ⟨_, _, _, rfl, rfl, big_le hl, e1, k_now k rs (.str _)⟩ hsub
      · cases e
    · split at e
      · rename_i ds em
        obtain ⟨z, e1, e2⟩ := map_some e
        cases e2
        obtain ⟨a1, xs, rfl, i1, h1, r1⟩ := lst_at ra rs em
        obtain ⟨w, hw, rw'⟩ := r1.at e1
        exact ix_list value slice pins s g H _ _ v u Q I rx ry ⟨_, _, _, _, rfl, rfl, SqL.of h1, hw, k_now k rs rw'⟩ hsub
      · cases e
    · cases e
  · cases e
theorem de_ix (hK : X.K = c.K.f) (ha : PE X a (sE c f)) (hb : PE X b (sE c h)) (hs : PlainIx b := by intro _ _; rfl) : PE X (.Subscript a b pos) (sE c (op2 ixD f h)) := PE.imp (pe_ix (ir_ix hK) ha hb hs) fun _ _ _ s => sE_op2 s
/-! d[k] -/
def dgetD (a b : D) (M : Sto) : Option (D × Sto) :=
  match a with
  | .dic i => match dicGet i b M with
    | some (some d) => some (d, M)
    | _ => none
  | _ => none
theorem RO.some' {K : KT} {H : Hp} {io : List Addr} {d : D} {ov : Option V} (h : RO K H io (some d) ov) : ∃ v, ov = some v ∧ R K H io d v := by
  cases ov with
  | none => exact h.elim
  | some v => exact ⟨v, rfl, h⟩
theorem op2_congr {op op' : D → D → Sto → Option (D × Sto)} {r : DEnv} {M M1 : Sto} {a : D} (ef : f r M = some (.ok a, M1)) (q : ∀ b M, op a b M = op' a b M) : op2 op f h r M = op2 op' f h r M := by
  unfold op2 bindD
  rw [ef]
  simp only
  cases h r M1 with
  | none => rfl
  | some p =>
    obtain ⟨y, M2⟩ := p
    cases y with
    | ex x => rfl
    | ok b =>
      simp only
      unfold liftD
      simp only
      rw [q b M2]
/-- an item of a sequence, of a dict -/
def itemD (a b : D) (M : Sto) : Option (D × Sto) :=
  match a with
  | .dic _ => dgetD a b M
  | _ => ixD a b M
theorem itemD_ix {a : D} (n : ∀ i, a ≠ .dic i) (b : D) (M : Sto) : itemD a b M = ixD a b M := by
  unfold itemD
  split
  · rename_i i
    exact absurd rfl (n i)
  · rfl
theorem sE_dget {g : L2.St} {H : Hp} {Q : VK} (s : sE c (op2 dgetD f h) g H Q) : tDGet (sE c f) (sE c h) g H Q := by
  refine sG.bind s fun a x r M1 io1 H1 re rs ra run => ⟨r, M1, io1, re, rs, run.bind fun b y M2 io2 H2 e2 rs2 rb run2 => ?_⟩
  obtain ⟨d, M3, e, k⟩ := run2.lift
  simp only at e
  unfold dgetD at e
  split at e
  · split at e
    · rename_i i o eo
      cases e
      have ra2 := ra.mono e2
      cases ra2 with
      | dic ei =>
        obtain ⟨ov, gt, ro⟩ := dicGet_ok rs2 ei rb eo
        obtain ⟨v, rfl, rv⟩ := ro.some'
        exact ⟨_, v, rfl, gt, k.ok Ext.refl rs2 rv⟩
    · cases e
  · cases e
theorem de_item (hK : X.K = c.K.f) (hu : X.A.units + 1 < cLine) (ha : PE X a (sE c f)) (hb : PE X b (sE c h)) (hs : PlainIx b := by intro _ _; rfl) : PE X (.Subscript a b pos) (sE c (op2 itemD f h)) :=
  PE.imp (PE.or (pe_ix (ir_ix hK) ha hb hs) (pe_dget hu ha hb hs)) fun g H Q s => by
    obtain ⟨r, M, io, re, rs, x, M', e, k⟩ := s
    cases ef : f r M with
    | none => unfold op2 bindD at e; rw [ef] at e; cases e
    | some p =>
      obtain ⟨y, M1⟩ := p
      cases y with
      | ex y =>
        have e' : op2 ixD f h r M = some (x, M') := by
          unfold op2 bindD at e ⊢
          rw [ef] at e ⊢
          exact e
        exact .inl (sE_op2 ⟨r, M, io, re, rs, x, M', e', k⟩)
      | ok a =>
        by_cases n : ∃ i, a = .dic i
        · obtain ⟨i, rfl⟩ := n
          rw [op2_congr (op := itemD) (op' := dgetD) ef fun b M => rfl] at e
          exact .inr (sE_dget ⟨r, M, io, re, rs, x, M', e, k⟩)
        · rw [op2_congr (op := itemD) (op' := ixD) ef fun b M => itemD_ix (fun i z => n ⟨i, z⟩) b M] at e
          exact .inl (sE_op2 ⟨r, M, io, re, rs, x, M', e, k⟩)

/-! ### slices -/
def cutDs (ds : List D) (lo hi : Option Int) : List D := (ds.drop (HT.sIx ds.length 0 lo)).take (HT.sIx ds.length ds.length hi - HT.sIx ds.length 0 lo)
theorem RL.cut {K : KT} {H : Hp} {io : List Addr} {ds : List D} {xs : List V} (h : RL K H io ds xs) (lo hi : Option Int) : RL K H io (cutDs ds lo hi) (cutV xs lo hi) := by
  unfold cutDs cutV
  rw [h.length]
  exact (h.drop _).take _
theorem cut_whole {ds : List D} {lo hi : Option Int} (h : HT.sIx ds.length 0 lo = 0 ∧ HT.sIx ds.length ds.length hi = ds.length) : cutDs ds lo hi = ds := by
  unfold cutDs
  rw [h.1, h.2, List.drop_zero, Nat.sub_zero]
  exact List.take_length
def slD (a : D) (lo hi : Option Int) (M : Sto) : Option (D × Sto) :=
  match a with
  | .tup ds => some (.tup (cutDs ds lo hi), M)
  | .ktup ds => if HT.sIx ds.length 0 lo = 0 ∧ HT.sIx ds.length ds.length hi = ds.length then some (.ktup ds, M) else some (.tup (cutDs ds lo hi), M)
  | .str z => if z.length ≤ 100000 then some (.str (cutS z lo hi), M) else none
  | .lst j => match (sGet M j) with
    | some (.lst ds) => some (.lst M.length, (sApp M (.lst (cutDs ds lo hi))))
    | _ => none
  | _ => none
def sVsl (c : Cfg) : V → Option Int → Option Int → Hp → VK → Prop := fun x lo hi H Q =>
  ∃ (M : Sto) (io : List Addr) (a d : D) (M' : Sto), slD a lo hi M = some (d, M') ∧ R c.K H io a x ∧ RS c.K H io M ∧
    ∀ (io' : List Addr) (H' : Hp), Ext c.K io H io' H' → RS c.K H' io' M' → ∀ v, R c.K H' io' d v → Q v H'
theorem sr_sl (hK : X.K = c.K.f) : SlR X (sVsl c) := by
  intro pins s g H x v vl vu lo hi sl Q I rx hs pl pu hh
  obtain ⟨M, io, a, d, M', e, ra, rs, k⟩ := hh
  rw [kt hK] at ra rs k
  unfold slD at e
  split at e
  · cases e
    cases ra with
    | tup h1 rl =>
      refine sl_tupA pins s g H _ v vl vu lo hi sl Q I rx hs pl pu ⟨_, _, rfl, SqT.of h1, fun w => ?_, fun w p n => ?_⟩
      · rw [← rl.length] at w
        rw [cut_whole w] at k
        exact k_now k rs (.tup h1 rl)
      · exact k_tup k rs (rl.cut lo hi) n
  · cases ra with
    | ktup h1 rl =>
      split at e
      · rename_i hw
        cases e
        refine sl_tupA pins s g H _ v vl vu lo hi sl Q I rx hs pl pu ⟨_, _, rfl, h1.sq, fun w => k_now k rs (.ktup h1 rl), fun w p n => ?_⟩
        rw [rl.length] at hw
        exact absurd hw w
      · rename_i hw
        cases e
        refine sl_tupA pins s g H _ v vl vu lo hi sl Q I rx hs pl pu ⟨_, _, rfl, h1.sq, fun w => ?_, fun w p n => k_tup k rs (rl.cut lo hi) n⟩
        rw [← rl.length] at w
        exact absurd w hw
  · split at e
    · rename_i hl
      cases e; cases ra
      exact sl_str pins s g H _ v vl vu lo hi sl Q I rx hs pl pu ⟨_, rfl, big_le hl, k_now k rs (.str _)⟩
    · cases e
  · split at e
    · rename_i ds em
      cases e
      obtain ⟨a1, xs, rfl, i1, h1, r1⟩ := lst_at ra rs em
      exact sl_list pins s g H _ v vl vu lo hi sl Q I rx hs pl pu ⟨_, _, rfl, SqL.of h1, fun p n => k_lst k rs (r1.cut lo hi) n⟩
    · cases e
  · cases e
abbrev sO (c : Cfg) (f : Den (Option Int)) : TO := sG c rQ f
theorem PO.imp {q : Option Expr} {t t' : TO} (h : PO X q t) (i : ∀ g H Q, t' g H Q → t g H Q) : PO X q t' := ⟨fun pins s g H Q I z => h.run pins s g H Q I (i g H Q z)⟩
def noPart : Den (Option Int) := fun _ M => some (.ok none, M)
def somePart (f : Den D) : Den (Option Int) := bindD f fun a => match a with
  | .int i => fun _ M => some (.ok (some i), M)
  | _ => fun _ _ => none
theorem dp_none : PO X none (sO c noPart) := PO.imp po_none fun g H Q s => by
  obtain ⟨r', M, io, re, rs, run⟩ := s
  exact (run_ok run).ok Ext.refl rs rfl
theorem dp_some (ha : PE X a (sE c f)) : PO X (some a) (sO c (somePart f)) := PO.imp (po_some ha) fun g H Q s => by
  refine sG.bind s fun a x r M1 io1 H1 re rs ra run => ?_
  split at run
  · cases ra; exact ⟨_, rfl, (run_ok run).ok Ext.refl rs rfl⟩
  · exact (run_no run).elim
def sliceE (f : Den D) (l u : Den (Option Int)) : Den D := bindD f fun a => bindD l fun lo => bindD u fun hi => liftD (fun p : D × Option Int × Option Int => slD p.1 p.2.1 p.2.2) (a, lo, hi)
theorem de_slice {l u : Den (Option Int)} {ql qu : Option Expr} {p2 : Pos} (hK : X.K = c.K.f) (ha : PE X a (sE c f)) (hl : PO X ql (sO c l)) (hu : PO X qu (sO c u)) : PE X (.Subscript a (.Slice ql qu none p2) pos) (sE c (sliceE f l u)) := PE.imp (pe_slice (sr_sl hK) ha hl hu) fun g H Q s => by
  refine sG.bind s fun a x r M1 io1 H1 re rs ra run => ⟨r, M1, io1, re, rs, run.bind fun lo lo' M2 io2 H2 e2 rs2 rl run2 => ⟨r, M2, io2, re.mono e2, rs2, run2.bind fun hi hi' M3 io3 H3 e3 rs3 rh run3 => ?_⟩⟩
  cases rl
  cases rh
  obtain ⟨d, M4, e, k⟩ := run3.lift
  exact ⟨M3, io3, a, d, M4, e, (ra.mono e2).mono e3, rs3, k⟩
/-- xs[::-1] of a list -/
def revD (a : D) (M : Sto) : Option (D × Sto) :=
  match a with
  | .lst j => match (sGet M j) with
    | some (.lst ds) => some (.lst M.length, (sApp M (.lst ds.reverse)))
    | _ => none
  | _ => none
theorem de_revL {k : Nat} {p1 p2 p3 : Pos} (hK : X.K = c.K.f) (ha : PE X a (sE c f)) : PE X (.Subscript a (.Slice none none (some (.UnaryOp .USub (.Constant (.int 1) k p1) p2)) p3) pos) (sE c (op1 revD f)) := PE.imp (pe_revL ha) fun g H Q s => by
  refine sG.bind s fun a x r M1 io1 H1 re rs ra run => ?_
  obtain ⟨d, M3, e, k⟩ := run.lift
  unfold revD at e
  split at e
  · split at e
    · rename_i ds em
      cases e
      obtain ⟨a1, xs, rfl, i1, h1, r1⟩ := lst_at ra rs em
      exact ⟨_, _, rfl, SqL.of h1, fun p n => k_lst (fun io' H' ex rs' v rv => k io' H' ex rs' v rv) rs r1.reverse n⟩
    · cases e
  · cases e

/-! ### calls of built-ins -/
def lenD (as : List D) (M : Sto) : Option (D × Sto) :=
  match as with
  | [.tup ds] => some (.int ds.length, M)
  | [.ktup ds] => some (.int ds.length, M)
  | [.str z] => if z.length ≤ 100000 then some (.int z.length, M) else none
  | [.lst j] => match (sGet M j) with
    | some (.lst ds) => some (.int ds.length, M)
    | _ => none
  | [.dic j] => match (sGet M j) with
    | some (.dk kvs) => some (.int kvs.length, M)
    | some (.dt kvs) => some (.int kvs.length, M)
    | _ => none
  | _ => none
theorem RL.one {K : KT} {H : Hp} {io : List Addr} {d : D} {xs : List V} (h : RL K H io [d] xs) : ∃ x, xs = [x] ∧ R K H io d x := by
  cases h with
  | cons r t => cases t; exact ⟨_, rfl, r⟩
theorem RL.two {K : KT} {H : Hp} {io : List Addr} {d e : D} {xs : List V} (h : RL K H io [d, e] xs) : ∃ x y, xs = [x, y] ∧ R K H io d x ∧ R K H io e y := by
  cases h with
  | cons r t => cases t with
    | cons r2 t2 => cases t2; exact ⟨_, _, rfl, r, r2⟩
theorem RKV.length {κ : Type} {K : KT} {H : Hp} {io : List Addr} {a : List (κ × D)} {b : List (κ × V)} (h : RKV K H io a b) : a.length = b.length := Paired.length h
theorem cr_len (hK : X.K = c.K.f) : CallR X (.builtin "len") (sVs c lenD) := by
  intro pins s g H xs us Q I rv hh
  obtain ⟨M, io, as, d, M', e, ra, rs, k⟩ := hh
  rw [kt hK] at ra rs k
  unfold lenD at e
  split at e
  · cases e
    obtain ⟨x, rfl, rx⟩ := ra.one
    cases rx with
    | tup h1 rl => exact call_len_seq pins s g H _ us Q I rv ⟨_, _, rfl, .inr (SqT.of h1), by rw [← rl.length]; exact k_now k rs (.int _)⟩
  · cases e
    obtain ⟨x, rfl, rx⟩ := ra.one
    cases rx with
    | ktup h1 rl => exact call_len_seq pins s g H _ us Q I rv ⟨_, _, rfl, .inr h1.sq, by rw [← rl.length]; exact k_now k rs (.int _)⟩
  · split at e
    · rename_i hl
      cases e
      obtain ⟨x, rfl, rx⟩ := ra.one
      cases rx
      exact call_len_str pins s g H _ us Q I rv ⟨_, rfl, big_le hl, k_now k rs (.int _)⟩
    · cases e
  · split at e
    · rename_i ds em
      cases e
      obtain ⟨x, rfl, rx⟩ := ra.one
      obtain ⟨a1, xs, rfl, i1, h1, r1⟩ := lst_at rx rs em
      exact call_len_seq pins s g H _ us Q I rv ⟨_, _, rfl, .inl (SqL.of h1), by rw [← r1.length]; exact k_now k rs (.int _)⟩
    · cases e
  · split at e
    · rename_i kvs em
      cases e
      obtain ⟨x, rfl, rx⟩ := ra.one
      cases rx with
      | dic ei =>
        obtain ⟨cc, ho, e1, e2, rc⟩ := rs.there ei
        rw [em] at e1
        cases e1
        obtain ⟨ys, q, rk⟩ := rc
        subst q
        obtain ⟨u, rfl, ru⟩ := rv.one
        cases ru
        exact d_len I (.inl e2) fun t s' I' => ⟨.int ys.length, H, I', ⟨t, rfl⟩, by rw [← rk.length]; exact k_now k rs (.int _)⟩
    · rename_i kvs em
      cases e
      obtain ⟨x, rfl, rx⟩ := ra.one
      cases rx with
      | dic ei =>
        obtain ⟨cc, ho, e1, e2, rc⟩ := rs.there ei
        rw [em] at e1
        cases e1
        obtain ⟨ys, q, rk⟩ := rc
        subst q
        exact call_len_dT pins s g H _ us Q I rv ⟨_, _, rfl, e2, by rw [← rk.length]; exact k_now k rs (.int _)⟩
    · cases e
  · cases e
end
end PyD

-- PyD7
set_option maxRecDepth 100000
set_option maxHeartbeats 4000000
noncomputable section
namespace PyD
open PySem PySem.Spec PyProof.Rows L2
def intsD : List D → Option (List Int)
  | [] => some []
  | .int i :: r => (intsD r).map fun ns => i :: ns
  | _ => none
def blsD : List D → Option (List Bool)
  | [] => some []
  | .bl i :: r => (blsD r).map fun ns => i :: ns
  | _ => none
def strsD : List D → Option (List Str)
  | [] => some []
  | .str i :: r => (strsD r).map fun ns => i :: ns
  | _ => none
theorem ints_of {K : KT} {H : Hp} {io : List Addr} : ∀ {ds : List D} {ns : List Int} {xs : List V}, intsD ds = some ns → RL K H io ds xs → xs = ns.map V.int
  | [], _, _, e, r => by simp only [intsD] at e; cases e; cases r; rfl
  | d :: ds, _, _, e, r => by
    cases d <;> simp only [intsD] at e <;> first | (cases e; done) | skip
    obtain ⟨ms, e1, e2⟩ := map_some e
    cases e2
    cases r with
    | cons r1 r2 => cases r1; rw [List.map_cons, ints_of e1 r2]
theorem bls_of {K : KT} {H : Hp} {io : List Addr} : ∀ {ds : List D} {ns : List Bool} {xs : List V}, blsD ds = some ns → RL K H io ds xs → xs = ns.map V.bl
  | [], _, _, e, r => by simp only [blsD] at e; cases e; cases r; rfl
  | d :: ds, _, _, e, r => by
    cases d <;> simp only [blsD] at e <;> first | (cases e; done) | skip
    obtain ⟨ms, e1, e2⟩ := map_some e
    cases e2
    cases r with
    | cons r1 r2 => cases r1; rw [List.map_cons, bls_of e1 r2]
theorem strs_of {K : KT} {H : Hp} {io : List Addr} : ∀ {ds : List D} {ns : List Str} {xs : List V}, strsD ds = some ns → RL K H io ds xs → xs = ns.map V.str
  | [], _, _, e, r => by simp only [strsD] at e; cases e; cases r; rfl
  | d :: ds, _, _, e, r => by
    cases d <;> simp only [strsD] at e <;> first | (cases e; done) | skip
    obtain ⟨ms, e1, e2⟩ := map_some e
    cases e2
    cases r with
    | cons r1 r2 => cases r1; rw [List.map_cons, strs_of e1 r2]
/-- type(x) -/
def tyOfD (as : List D) (M : Sto) : Option (D × Sto) :=
  match as with
  | [.non] => some (.ty "NoneType", M)
  | [.bl _] => some (.ty "bool", M)
  | [.int _] => some (.ty "int", M)
  | [.str _] => some (.ty "str", M)
  | [.tup _] => some (.ty "tuple", M)
  | [.ktup _] => some (.ty "tuple", M)
  | [.lst j] => match (sGet M j) with
    | some (.lst _) => some (.ty "list", M)
    | _ => none
  | [.dic j] => match (sGet M j) with
    | some (.dk _) => some (.ty "dict", M)
    | _ => none
  | _ => none
/-- list(x) -/
def listD (as : List D) (M : Sto) : Option (D × Sto) :=
  match as with
  | [.tup ds] => some (.lst M.length, (sApp M (.lst ds)))
  | [.ktup ds] => some (.lst M.length, (sApp M (.lst ds)))
  | [.lst j] => match (sGet M j) with
    | some (.lst ds) => some (.lst M.length, (sApp M (.lst ds)))
    | _ => none
  | _ => none
/-- tuple(x) -/
def tupleD (as : List D) (M : Sto) : Option (D × Sto) :=
  match as with
  | [.tup ds] => some (.tup ds, M)
  | [.lst j] => match (sGet M j) with
    | some (.lst ds) => some (.tup ds, M)
    | _ => none
  | _ => none
def lstOf (d : D) (M : Sto) : Option (List D) :=
  match d with
  | .lst j => match (sGet M j) with
    | some (.lst ds) => some ds
    | _ => none
  | _ => none
theorem lstOf_ok {K : KT} {H : Hp} {io : List Addr} {M : Sto} {d : D} {ds : List D} {v : V} (e : lstOf d M = some ds) (rs : RS K H io M) (r : R K H io d v) : ∃ a xs, v = .ref a ∧ H a = some (.lst xs) ∧ RL K H io ds xs := by
  unfold lstOf at e
  split at e
  · split at e
    · rename_i em
      cases e
      obtain ⟨a, xs, e1, e2, e3, e4⟩ := lst_at r rs em
      exact ⟨a, xs, e1, e3, e4⟩
    · cases e
  · cases e
def sumD (as : List D) (M : Sto) : Option (D × Sto) :=
  match as with
  | [d] => match lstOf d M with
    | some ds => (intsD ds).map fun ns => (.int ns.sum, M)
    | none => none
  | _ => none
def allD (as : List D) (M : Sto) : Option (D × Sto) :=
  match as with
  | [d] => match lstOf d M with
    | some ds => (blsD ds).map fun ns => (.bl (ns.all id), M)
    | none => none
  | _ => none
def anyD (as : List D) (M : Sto) : Option (D × Sto) :=
  match as with
  | [d] => match lstOf d M with
    | some ds => (blsD ds).map fun ns => (.bl (ns.any id), M)
    | none => none
  | _ => none
def maxI : List Int → Int
  | [] => 0
  | [a] => a
  | a :: b :: r => max a (maxI (b :: r))
theorem maxI_mem : ∀ (l : List Int), l ≠ [] → maxI l ∈ l
  | [], h => absurd rfl h
  | [a], _ => by simp [maxI]
  | a :: b :: r, _ => by
    have ih := maxI_mem (b :: r) (by simp)
    unfold maxI
    by_cases h : a ≤ maxI (b :: r)
    · rw [Int.max_eq_right h]; exact List.mem_cons_of_mem _ ih
    · rw [Int.max_eq_left (by omega)]; exact List.mem_cons_self
theorem maxI_le : ∀ (l : List Int) (x : Int), x ∈ l → x ≤ maxI l
  | [a], x, h => by simp at h; subst h; simp [maxI]
  | a :: b :: r, x, h => by
    unfold maxI
    rcases List.mem_cons.mp h with e | h
    · subst e; exact Int.le_max_left _ _
    · exact Int.le_trans (maxI_le (b :: r) x h) (Int.le_max_right _ _)
/-- max(a, b), max(xs) -/
def maxDD (as : List D) (M : Sto) : Option (D × Sto) :=
  match as with
  | [.int i, .int j] => some (.int (if j > i then j else i), M)
  | [d] => match lstOf d M with
    | some ds => match intsD ds with
      | some (n :: ns) => some (.int (maxI (n :: ns)), M)
      | _ => none
    | none => none
  | _ => none
def minDD (as : List D) (M : Sto) : Option (D × Sto) :=
  match as with
  | [.int i, .int j] => some (.int (if j < i then j else i), M)
  | _ => none
def absD (as : List D) (M : Sto) : Option (D × Sto) :=
  match as with
  | [.int i] => some (.int (if i < 0 then -i else i), M)
  | _ => none
def intD (as : List D) (M : Sto) : Option (D × Sto) :=
  match as with
  | [.int i] => some (.int i, M)
  | _ => none
def strD (as : List D) (M : Sto) : Option (D × Sto) :=
  match as with
  | [.int i] => if i.natAbs.log2 < 1920 then some (.str (toString i), M) else none
  | _ => none
/-- sorted: of one item at most, for now -/
def sortedD (as : List D) (M : Sto) : Option (D × Sto) :=
  match as with
  | [.dic j] => match (sGet M j) with
    | some (.dk []) => some (.lst M.length, (sApp M (.lst [])))
    | some (.dk [(.inr x, _)]) => some (.lst M.length, (sApp M (.lst [.str x])))
    | _ => none
  | _ => none
section
variable {X : Cx} {c : Cfg}
theorem cr_ty (hK : X.K = c.K.f) : CallR X (.type "type") (sVs c tyOfD) := by
  intro pins s g H xs us Q I rv hh
  obtain ⟨M, io, as, d, M', e, ra, rs, k⟩ := hh
  rw [kt hK] at ra rs k
  unfold tyOfD at e
  split at e
  · cases e
    obtain ⟨x, rfl, rx⟩ := ra.one
    cases rx
    exact call_type1 pins s g H _ us Q I rv ⟨_, _, rfl, .non, k_now k rs (.ty _)⟩
  · cases e
    obtain ⟨x, rfl, rx⟩ := ra.one
    cases rx
    exact call_type1 pins s g H _ us Q I rv ⟨_, _, rfl, .bl _, k_now k rs (.ty _)⟩
  · cases e
    obtain ⟨x, rfl, rx⟩ := ra.one
    cases rx
    exact call_type1 pins s g H _ us Q I rv ⟨_, _, rfl, .int _, k_now k rs (.ty _)⟩
  · cases e
    obtain ⟨x, rfl, rx⟩ := ra.one
    cases rx
    exact call_type1 pins s g H _ us Q I rv ⟨_, _, rfl, .str _, k_now k rs (.ty _)⟩
  · cases e
    obtain ⟨x, rfl, rx⟩ := ra.one
    cases rx with
    | tup h1 rl => exact call_type1 pins s g H _ us Q I rv ⟨_, _, rfl, .tup (SqT.of h1), k_now k rs (.ty _)⟩
  · cases e
    obtain ⟨x, rfl, rx⟩ := ra.one
    cases rx with
    | ktup h1 rl => exact call_type1 pins s g H _ us Q I rv ⟨_, _, rfl, .tup h1.sq, k_now k rs (.ty _)⟩
  · split at e
    · rename_i ds em
      cases e
      obtain ⟨x, rfl, rx⟩ := ra.one
      obtain ⟨a1, xs, rfl, i1, h1, r1⟩ := lst_at rx rs em
      exact call_type1 pins s g H _ us Q I rv ⟨_, _, rfl, .lst (SqL.of h1), k_now k rs (.ty _)⟩
    · cases e
  · split at e
    · rename_i ds em
      cases e
      obtain ⟨x, rfl, rx⟩ := ra.one
      cases rx with
      | dic ei =>
        obtain ⟨cc, ho, e1, e2, rc⟩ := rs.there ei
        rw [em] at e1
        cases e1
        obtain ⟨ys, q, rk⟩ := rc
        subst q
        exact call_type1 pins s g H _ us Q I rv ⟨_, _, rfl, .dK e2, k_now k rs (.ty _)⟩
    · cases e
  · cases e
theorem cr_list (hK : X.K = c.K.f) : CallR X (.type "list") (sVs c listD) := by
  intro pins s g H xs us Q I rv hh
  obtain ⟨M, io, as, d, M', e, ra, rs, k⟩ := hh
  rw [kt hK] at ra rs k
  unfold listD at e
  split at e
  · cases e
    obtain ⟨x, rfl, rx⟩ := ra.one
    cases rx with
    | tup h1 rl => exact call_list_of pins s g H _ us Q I rv ⟨_, _, rfl, .inr (SqT.of h1), fun p n => k_lst k rs rl n⟩
  · cases e
    obtain ⟨x, rfl, rx⟩ := ra.one
    cases rx with
    | ktup h1 rl => exact call_list_of pins s g H _ us Q I rv ⟨_, _, rfl, .inr h1.sq, fun p n => k_lst k rs rl n⟩
  · split at e
    · rename_i ds em
      cases e
      obtain ⟨x, rfl, rx⟩ := ra.one
      obtain ⟨a1, xs, rfl, i1, h1, r1⟩ := lst_at rx rs em
      exact call_list_of pins s g H _ us Q I rv ⟨_, _, rfl, .inl (SqL.of h1), fun p n => k_lst k rs r1 n⟩
    · cases e
  · cases e
theorem cr_tuple (hK : X.K = c.K.f) : CallR X (.type "tuple") (sVs c tupleD) := by
  intro pins s g H xs us Q I rv hh
  obtain ⟨M, io, as, d, M', e, ra, rs, k⟩ := hh
  rw [kt hK] at ra rs k
  unfold tupleD at e
  split at e
  · cases e
    obtain ⟨x, rfl, rx⟩ := ra.one
    cases rx with
    | tup h1 rl => exact call_tuple_of pins s g H _ us Q I rv ⟨_, _, rfl, .inr ⟨SqT.of h1, k_now k rs (.tup h1 rl)⟩⟩
  · split at e
    · rename_i ds em
      cases e
      obtain ⟨x, rfl, rx⟩ := ra.one
      obtain ⟨a1, xs, rfl, i1, h1, r1⟩ := lst_at rx rs em
      exact call_tuple_of pins s g H _ us Q I rv ⟨_, _, rfl, .inl ⟨SqL.of h1, fun p n => k_tup k rs r1 n⟩⟩
    · cases e
  · cases e
theorem cr_sumD (hK : X.K = c.K.f) (hc : X.calm = true) : CallR X (.builtin "sum") (sVs c sumD) := by
  intro pins s g H xs us Q I rv hh
  obtain ⟨M, io, as, d, M', e, ra, rs, k⟩ := hh
  rw [kt hK] at ra rs k
  unfold sumD at e
  split at e
  · obtain ⟨x, rfl, rx⟩ := ra.one
    split at e
    · rename_i ds el
      obtain ⟨ns, e1, e2⟩ := map_some e
      cases e2
      obtain ⟨a, ys, rfl, h1, r1⟩ := lstOf_ok el rs rx
      have z := ints_of e1 r1
      subst z
      exact cr_sum hc pins s g H _ us Q I rv ⟨_, _, rfl, SqL.of h1, k_now k rs (.int _)⟩
    · cases e
  · cases e
theorem cr_allD (hK : X.K = c.K.f) (hc : X.calm = true) : CallR X (.builtin "all") (sVs c allD) := by
  intro pins s g H xs us Q I rv hh
  obtain ⟨M, io, as, d, M', e, ra, rs, k⟩ := hh
  rw [kt hK] at ra rs k
  unfold allD at e
  split at e
  · obtain ⟨x, rfl, rx⟩ := ra.one
    split at e
    · rename_i ds el
      obtain ⟨ns, e1, e2⟩ := map_some e
      cases e2
      obtain ⟨a, ys, rfl, h1, r1⟩ := lstOf_ok el rs rx
      have z := bls_of e1 r1
      subst z
      exact cr_all hc pins s g H _ us Q I rv ⟨_, _, rfl, SqL.of h1, k_now k rs (.bl _)⟩
    · cases e
  · cases e
theorem cr_anyD (hK : X.K = c.K.f) (hc : X.calm = true) : CallR X (.builtin "any") (sVs c anyD) := by
  intro pins s g H xs us Q I rv hh
  obtain ⟨M, io, as, d, M', e, ra, rs, k⟩ := hh
  rw [kt hK] at ra rs k
  unfold anyD at e
  split at e
  · obtain ⟨x, rfl, rx⟩ := ra.one
    split at e
    · rename_i ds el
      obtain ⟨ns, e1, e2⟩ := map_some e
      cases e2
      obtain ⟨a, ys, rfl, h1, r1⟩ := lstOf_ok el rs rx
      have z := bls_of e1 r1
      subst z
      exact cr_any hc pins s g H _ us Q I rv ⟨_, _, rfl, SqL.of h1, k_now k rs (.bl _)⟩
    · cases e
  · cases e
theorem cr_maxDD (hK : X.K = c.K.f) (hc : X.calm = true) : CallR X (.builtin "max") (sVs c maxDD) := by
  intro pins s g H xs us Q I rv hh
  obtain ⟨M, io, as, d, M', e, ra, rs, k⟩ := hh
  rw [kt hK] at ra rs k
  unfold maxDD at e
  split at e
  · cases e
    obtain ⟨x, y, rfl, rx, ry⟩ := ra.two
    cases rx
    cases ry
    exact call_max2 hc pins s g H _ us Q I rv ⟨_, _, rfl, k_now k rs (.int _)⟩
  · obtain ⟨x, rfl, rx⟩ := ra.one
    split at e
    · rename_i ds el
      split at e
      · rename_i n ns e1
        cases e
        obtain ⟨a, ys, rfl, h1, r1⟩ := lstOf_ok el rs rx
        have z := ints_of e1 r1
        subst z
        refine cr_max hc pins s g H _ us Q I rv ⟨_, _, rfl, SqL.of h1, by simp, fun m hm hle => ?_⟩
        have e2 : m = maxI (n :: ns) := Int.le_antisymm (maxI_le _ _ hm) (hle _ (maxI_mem _ (by simp)))
        rw [e2]
        exact k_now k rs (.int _)
      · cases e
    · cases e
  · cases e
theorem cr_minDD (hK : X.K = c.K.f) (hc : X.calm = true) : CallR X (.builtin "min") (sVs c minDD) := by
  intro pins s g H xs us Q I rv hh
  obtain ⟨M, io, as, d, M', e, ra, rs, k⟩ := hh
  rw [kt hK] at ra rs k
  unfold minDD at e
  split at e
  · cases e
    obtain ⟨x, y, rfl, rx, ry⟩ := ra.two
    cases rx
    cases ry
    exact call_min2 hc pins s g H _ us Q I rv ⟨_, _, rfl, k_now k rs (.int _)⟩
  · cases e
theorem cr_absD (hK : X.K = c.K.f) : CallR X (.builtin "abs") (sVs c absD) := by
  intro pins s g H xs us Q I rv hh
  obtain ⟨M, io, as, d, M', e, ra, rs, k⟩ := hh
  rw [kt hK] at ra rs k
  unfold absD at e
  split at e
  · cases e
    obtain ⟨x, rfl, rx⟩ := ra.one
    cases rx
    exact call_abs pins s g H _ us Q I rv ⟨_, rfl, k_now k rs (.int _)⟩
  · cases e
theorem cr_intD (hK : X.K = c.K.f) : CallR X (.type "int") (sVs c intD) := by
  intro pins s g H xs us Q I rv hh
  obtain ⟨M, io, as, d, M', e, ra, rs, k⟩ := hh
  rw [kt hK] at ra rs k
  unfold intD at e
  split at e
  · cases e
    obtain ⟨x, rfl, rx⟩ := ra.one
    cases rx
    exact call_int1 pins s g H _ us Q I rv (.inl ⟨_, rfl, k_now k rs (.int _)⟩)
  · cases e
theorem cr_strD (hK : X.K = c.K.f) : CallR X (.type "str") (sVs c strD) := by
  intro pins s g H xs us Q I rv hh
  obtain ⟨M, io, as, d, M', e, ra, rs, k⟩ := hh
  rw [kt hK] at ra rs k
  unfold strD at e
  split at e
  · split at e
    · rename_i hl
      cases e
      obtain ⟨x, rfl, rx⟩ := ra.one
      cases rx
      exact call_str_int pins s g H _ us Q I rv ⟨_, rfl, hl, k_now k rs (.str _)⟩
    · cases e
  · cases e
theorem cr_sortedD (hK : X.K = c.K.f) (hc : X.calm = true) : CallR X (.builtin "sorted") (sVs c sortedD) := by
  intro pins s g H xs us Q I rv hh
  obtain ⟨M, io, as, d, M', e, ra, rs, k⟩ := hh
  rw [kt hK] at ra rs k
  unfold sortedD at e
  split at e
  · obtain ⟨x, rfl, rx⟩ := ra.one
    cases rx with
    | dic ei =>
      obtain ⟨cc, ho, e1, e2, rc⟩ := rs.there ei
      rw [e1] at e
      split at e
      · rename_i em
        cases em
        cases e
        obtain ⟨ys, q, rk⟩ := rc
        subst q
        cases rk
        exact call_sortedD hc pins s g H _ us Q I rv ⟨_, _, [], rfl, .inl e2, rfl, by simp, fun zs p hp _ n => by
          have z : zs = [] := List.Perm.eq_nil hp
          subst z
          exact k_lst k rs .nil n⟩
      · rename_i kx w em
        cases em
        cases e
        obtain ⟨ys, q, rk⟩ := rc
        subst q
        cases rk with
        | cons z1 z2 =>
          cases z2
          exact call_sortedD hc pins s g H _ us Q I rv ⟨_, _, [kx], rfl, .inl e2, by rw [List.map_cons, List.map_cons, ← z1.1]; rfl, by simp, fun zs p hp _ n => by
            have z : zs = [kx] := List.perm_singleton.mp hp
            subst z
            exact k_lst k rs (.cons (.str _) .nil) n⟩
      · cases e
  · cases e
end
end PyD

-- PyD8
set_option maxRecDepth 100000
set_option maxHeartbeats 4000000
noncomputable section
namespace PyD
open PySem PySem.Spec PyProof.Rows L2
/-! ### statements -/
inductive Fl where
  | nx | rt (d : D) | bk | ct | ex (x : Ex)
abbrev SDen := DEnv → Sto → Option (Fl × DEnv × Sto)
def AftS (c : Cfg) (io : List Addr) (H : Hp) (fl : Fl) (r' : DEnv) (M' : Sto) (Ds : Ends) : Prop :=
  ∀ (io' : List Addr) (H' : Hp), Ext c.K io H io' H' → RS c.K H' io' M' → match fl with
    | .nx => ∀ g', RE c.K H' io' r' g' → Ds.nx g' H'
    | .rt d => ∀ v, R c.K H' io' d v → Ds.rt v H'
    | .bk => ∀ g', RE c.K H' io' r' g' → Ds.bk g' H'
    | .ct => ∀ g', RE c.K H' io' r' g' → Ds.ct g' H'
    | .ex x => ∀ cv dx, RX c.mg c.K c.fl H' io' x cv dx → c.W cv dx H'
def RunS (c : Cfg) (f : SDen) (r : DEnv) (M : Sto) (io : List Addr) (H : Hp) (Ds : Ends) : Prop := ∃ (fl : Fl) (r' : DEnv) (M' : Sto), f r M = some (fl, r', M') ∧ AftS c io H fl r' M' Ds
def sS (c : Cfg) (f : SDen) : TS := fun Ds g H => ∃ (r : DEnv) (M : Sto) (io : List Addr), RE c.K H io r g ∧ RS c.K H io M ∧ RunS c f r M io H Ds
def bindS {α : Type} (f : Den α) (k : α → SDen) : SDen := fun r M => match f r M with
  | none => none
  | some (.ex x, M1) => some (.ex x, r, M1)
  | some (.ok a, M1) => k a r M1
section
variable {α β : Type} {c : Cfg} {Ra : Hp → List Addr → α → β → Prop} {f : Den α} {k : α → SDen} {g : L2.St} {H H1 : Hp} {r r' : DEnv} {M M' : Sto} {io io1 : List Addr} {Ds : Ends} {fl : Fl}
theorem AftS.ext (z : AftS c io H fl r' M' Ds) (e : Ext c.K io H io1 H1) : AftS c io1 H1 fl r' M' Ds := fun io' H' e2 rs => z io' H' (e.trans e2) rs
theorem RunS.bind {T : β → Hp → Prop} (s : RunS c (bindS f k) r M io H Ds)
    (ht : ∀ (a : α) (b : β) (M1 : Sto) (io1 : List Addr) (H1 : Hp), Ext c.K io H io1 H1 → RS c.K H1 io1 M1 → Ra H1 io1 a b → RunS c (k a) r M1 io1 H1 Ds → T b H1) : Run c Ra f r M io g H T := by
  obtain ⟨fl, r', M', e, z⟩ := s
  unfold bindS at e
  cases ef : f r M with
  | none => rw [ef] at e; cases e
  | some p =>
    obtain ⟨y, M1⟩ := p
    rw [ef] at e
    cases y with
    | ex y =>
      cases e
      exact ⟨.ex y, _, ef, fun io' H' ex rs' => z io' H' ex rs'⟩
    | ok a =>
      refine ⟨.ok a, _, ef, fun io1 H1 e1 rs1 b rb => ?_⟩
      exact ht a b _ io1 H1 e1 rs1 rb ⟨fl, r', M', e, z.ext e1⟩
theorem sS.bind {T : β → Hp → Prop} (s : sS c (bindS f k) Ds g H)
    (ht : ∀ (a : α) (b : β) (r : DEnv) (M1 : Sto) (io1 : List Addr) (H1 : Hp), RE c.K H1 io1 r g → RS c.K H1 io1 M1 → Ra H1 io1 a b → RunS c (k a) r M1 io1 H1 Ds → T b H1) : sG c Ra f g H T := by
  obtain ⟨r, M, io, re, rs, run⟩ := s
  exact ⟨r, M, io, re, rs, run.bind fun a b M1 io1 H1 e1 rs1 ra run1 => ht a b r M1 io1 H1 (re.mono e1) rs1 ra run1⟩
end
def skipS : SDen := fun r M => some (.nx, r, M)
def breakS : SDen := fun r M => some (.bk, r, M)
def contS : SDen := fun r M => some (.ct, r, M)
def retS (f : Den D) : SDen := bindS f fun d r M => some (.rt d, r, M)
def retNS : SDen := fun r M => some (.rt .non, r, M)
def exprS (f : Den D) : SDen := bindS f fun _ r M => some (.nx, r, M)
def seqS (a b : SDen) : SDen := fun r M => match a r M with
  | none => none
  | some (.nx, r1, M1) => b r1 M1
  | some (fl, r1, M1) => some (fl, r1, M1)
def ifS (t : Den Bool) (a b : SDen) : SDen := bindS t fun z => if z = true then a else b
/-- a while of at most n turns -/
def whileS (t : Den Bool) (b : SDen) : Nat → SDen
  | 0 => fun _ _ => none
  | n + 1 => bindS t fun z => if z = true then (fun r M => match b r M with
      | none => none
      | some (.nx, r1, M1) => whileS t b n r1 M1
      | some (.ct, r1, M1) => whileS t b n r1 M1
      | some (.bk, r1, M1) => some (.nx, r1, M1)
      | some (fl, r1, M1) => some (fl, r1, M1)) else skipS
/-! targets -/
abbrev TDen := D → DEnv → Sto → Option (DEnv × Sto)
abbrev TsDen := List D → DEnv → Sto → Option (DEnv × Sto)
def sTg (c : Cfg) (t : TDen) : TG := fun v g H Q => ∃ (r : DEnv) (M : Sto) (io : List Addr) (d : D) (r' : DEnv) (M' : Sto), t d r M = some (r', M') ∧ R c.K H io d v ∧ RE c.K H io r g ∧ RS c.K H io M ∧
  ∀ (io' : List Addr) (H' : Hp), Ext c.K io H io' H' → RS c.K H' io' M' → ∀ g', RE c.K H' io' r' g' → Q g' H'
def sTgs (c : Cfg) (t : TsDen) : TGs := fun vs g H Q => ∃ (r : DEnv) (M : Sto) (io : List Addr) (ds : List D) (r' : DEnv) (M' : Sto), t ds r M = some (r', M') ∧ RL c.K H io ds vs ∧ RE c.K H io r g ∧ RS c.K H io M ∧
  ∀ (io' : List Addr) (H' : Hp), Ext c.K io H io' H' → RS c.K H' io' M' → ∀ g', RE c.K H' io' r' g' → Q g' H'
def nmT (i : Nat) : TDen := fun d r M => some (r.set i (some d), M)
def nilT : TsDen := fun ds r M => match ds with
  | [] => some (r, M)
  | _ => none
def consT (t : TDen) (u : TsDen) : TsDen := fun ds r M => match ds with
  | d :: ds => match t d r M with
    | some (r1, M1) => u ds r1 M1
    | none => none
  | [] => none
def tupT (n : Nat) (t : TsDen) : TDen := fun d r M => match d with
  | .tup ds => if ds.length = n then t ds r M else none
  | .ktup ds => if ds.length = n then t ds r M else none
  | _ => none
def setS (f : Den D) (t : TDen) : SDen := bindS f fun d r M => match t d r M with
  | some (r1, M1) => some (.nx, r1, M1)
  | none => none
theorem PG.imp {X : Cx} {e : Expr} {t t' : TG} (h : PG X e t) (i : ∀ v g H Q, t' v g H Q → t v g H Q) : PG X e t' := ⟨fun pins s g H v u Q I r q => h.run pins s g H v u Q I r (i v g H Q q)⟩
theorem PGs.imp {X : Cx} {e : List Expr} {t t' : TGs} (h : PGs X e t) (i : ∀ v g H Q, t' v g H Q → t v g H Q) : PGs X e t' := ⟨fun pins s g H v u Q I r q => h.run pins s g H v u Q I r (i v g H Q q)⟩
section
variable {X : Cx} {c : Cfg} {f h : Den D} {t : Den Bool} {a b : SDen} {e o q : Expr} {es : List Expr} {st : Stmt} {sts : List Stmt} {pos : Pos} {tg : TDen} {tgs : TsDen}
theorem dg_nm {i : Nat} (hg : PG X e (gName i)) : PG X e (sTg c (nmT i)) := PG.imp hg fun v g H Q s => by
  obtain ⟨r, M, io, d, r', M', eq, rd, re, rs, k⟩ := s
  cases eq
  exact k io H Ext.refl rs _ (re.set rd)
theorem dgs_nil : PGs X [] (sTgs c nilT) := PGs.imp pgs_nil fun v g H Q s => by
  obtain ⟨r, M, io, d, r', M', eq, rd, re, rs, k⟩ := s
  unfold nilT at eq
  split at eq
  · cases eq
    cases rd
    exact ⟨rfl, k io H Ext.refl rs _ re⟩
  · cases eq
theorem dgs_cons (h1 : PG X e (sTg c tg)) (h2 : PGs X es (sTgs c tgs)) (hs : (assignEach (e :: es) X.env).map (·.2) = assign e X.env :: (assignEach es X.env).map (·.2) := by rfl) : PGs X (e :: es) (sTgs c (consT tg tgs)) := PGs.imp (pgs_cons h1 h2 hs) fun v g H Q s => by
  obtain ⟨r, M, io, d, r', M', eq, rd, re, rs, k⟩ := s
  unfold consT at eq
  split at eq
  · rename_i d ds
    split at eq
    · rename_i r1 M1 e1
      cases rd with
      | cons z1 z2 =>
        refine ⟨_, _, rfl, r, M, io, d, r1, M1, e1, z1, re, rs, fun io1 H1 x1 rs1 g1 re1 => ?_⟩
        exact ⟨r1, M1, io1, ds, r', M', eq, z2.mono x1, re1, rs1, fun io' H' x2 rs' => k io' H' (x1.trans x2) rs'⟩
    · cases eq
  · cases eq
theorem dg_tup {kk n : Nat} (hK : X.K = c.K.f) (hc : X.calm = true) (h : PGs X es (sTgs c tgs)) (hn : (assignEach es X.env).length = n := by rfl) (hst : (assignEach es X.env).findIdx? (·.1) = none := by rfl) : PG X (.Tuple es kk pos) (sTg c (tupT n tgs)) := PG.imp (pg_tup hc h hn hst) fun v g H Q s => by
  obtain ⟨r, M, io, d, r', M', eq, rd, re, rs, k⟩ := s
  unfold tupT at eq
  split at eq
  · split at eq
    · rename_i hl
      cases rd with
      | tup h1 rl => exact ⟨_, _, rfl, SqT.of h1, by rw [← rl.length]; exact hl, r, M, io, _, r', M', eq, rl, re, rs, k⟩
    · cases eq
  · split at eq
    · rename_i hl
      cases rd with
      | ktup h1 rl =>
        have h2 := h1.sq (H := H)
        rw [kt hK] at h2
        exact ⟨_, _, rfl, h2, by rw [← rl.length]; exact hl, r, M, io, _, r', M', eq, rl, re, rs, k⟩
    · cases eq
  · cases eq
theorem ds_set (ha : PS X st (tAsg (sE c f) (sTg c tg))) : PS X st (sS c (setS f tg)) := PS.imp ha fun Ds g H s => by
  refine sS.bind s fun d x r M1 io1 H1 re rs ra run => ?_
  obtain ⟨fl, r', M', eq, z⟩ := run
  dsimp only at eq
  split at eq
  · rename_i r1 M2 e1
    cases eq
    exact ⟨r, M1, io1, d, _, _, e1, ra, re, rs, z⟩
  · cases eq
theorem ds_skip (hp : PS X st tNext) : PS X st (sS c skipS) := PS.imp hp fun Ds g H s => by
  obtain ⟨r, M, io, re, rs, fl, r', M', eq, z⟩ := s
  cases eq
  exact z io H Ext.refl rs g re
theorem ds_break (hp : PS X st tBreak) : PS X st (sS c breakS) := PS.imp hp fun Ds g H s => by
  obtain ⟨r, M, io, re, rs, fl, r', M', eq, z⟩ := s
  cases eq
  exact z io H Ext.refl rs g re
theorem ds_cont (hp : PS X st tCont) : PS X st (sS c contS) := PS.imp hp fun Ds g H s => by
  obtain ⟨r, M, io, re, rs, fl, r', M', eq, z⟩ := s
  cases eq
  exact z io H Ext.refl rs g re
theorem ds_ret (he : PE X e (sE c f)) : PS X (.Return (some e) pos) (sS c (retS f)) := PS.imp (ps_ret he) fun Ds g H s => by
  refine sS.bind s fun d x r M1 io1 H1 re rs ra run => ?_
  obtain ⟨fl, r', M', eq, z⟩ := run
  cases eq
  exact z io1 H1 Ext.refl rs x ra
theorem ds_retN : PS X (.Return none pos) (sS c retNS) := PS.imp ps_retN fun Ds g H s => by
  obtain ⟨r, M, io, re, rs, fl, r', M', eq, z⟩ := s
  cases eq
  exact z io H Ext.refl rs _ .non
theorem ds_expr (he : PE X e (sE c f)) (hs : swapsWith e none pos.line X.env = pure false := by rfl) : PS X (.Expr e pos) (sS c (exprS f)) := PS.imp (ps_expr he hs) fun Ds g H s => by
  refine sS.bind s fun d x r M1 io1 H1 re rs ra run => ?_
  obtain ⟨fl, r', M', eq, z⟩ := run
  cases eq
  exact z io1 H1 Ext.refl rs g re
theorem ds_nil : PSs X [] (sS c skipS) := PSs.imp pss_nil fun Ds g H s => by
  obtain ⟨r, M, io, re, rs, fl, r', M', eq, z⟩ := s
  cases eq
  exact z io H Ext.refl rs g re
theorem ds_cons (h1 : PS X st (sS c a)) (h2 : PSs X sts (sS c b)) : PSs X (st :: sts) (sS c (seqS a b)) := PSs.imp (pss_cons h1 h2) fun Ds g H s => by
  obtain ⟨r, M, io, re, rs, fl, r', M', eq, z⟩ := s
  unfold seqS at eq
  cases ea : a r M with
  | none => rw [ea] at eq; cases eq
  | some p =>
    obtain ⟨fl1, r1, M1⟩ := p
    rw [ea] at eq
    refine ⟨r, M, io, re, rs, fl1, r1, M1, ea, fun io1 H1 e1 rs1 => ?_⟩
    cases fl1 with
    | nx => exact fun g1 re1 => ⟨r1, M1, io1, re1, rs1, fl, r', M', eq, z.ext e1⟩
    | rt d => cases eq; exact z io1 H1 e1 rs1
    | bk => cases eq; exact z io1 H1 e1 rs1
    | ct => cases eq; exact z io1 H1 e1 rs1
    | ex x => cases eq; exact z io1 H1 e1 rs1
theorem ds_one (h1 : PS X st (sS c a)) : PSs X [st] (sS c a) := pss_one h1
theorem ds_if {sa sb : List Stmt} (hc : PT X q (sT c t)) (ha : PSs X sa (sS c a)) (hb : PSs X sb (sS c b)) : PS X (.If q sa sb pos) (sS c (ifS t a b)) := PS.imp (ps_if hc ha hb) fun Ds g H s => by
  refine sS.bind s fun d x r M1 io1 H1 re rs ra run => ?_
  cases ra
  cases d with
  | true => exact ⟨r, M1, io1, re, rs, run⟩
  | false => exact ⟨r, M1, io1, re, rs, run⟩
theorem ds_while {n : Nat} {body : List Stmt} (hp : PassesOwn (model X.prog X.w) X.A X.env X.xe) (hc : PT X q (sT c t)) (hb : PSs X body (sS c a)) : PS X (.While q body [] pos) (sS c (whileS t a n)) := PS.imp (ps_while hp hc hb) fun Ds g H s => by
  obtain ⟨r, M, io, re, rs, run⟩ := s
  refine ⟨fun m g H => ∃ (r : DEnv) (M : Sto) (io : List Addr), RE c.K H io r g ∧ RS c.K H io M ∧ RunS c (whileS t a m) r M io H Ds, ⟨n, r, M, io, re, rs, run⟩, ?_⟩
  rintro m g H ⟨r, M, io, re, rs, run⟩
  cases m with
  | zero =>
    obtain ⟨_, _, _, e, _⟩ := run
    cases e
  | succ m =>
    refine sS.bind (k := fun z => if z = true then (fun r M => match a r M with
      | none => none
      | some (.nx, r1, M1) => whileS t a m r1 M1
      | some (.ct, r1, M1) => whileS t a m r1 M1
      | some (.bk, r1, M1) => some (.nx, r1, M1)
      | some (fl, r1, M1) => some (fl, r1, M1)) else skipS) ⟨r, M, io, re, rs, run⟩ fun d x r M1 io1 H1 re rs ra run => ?_
    cases ra
    cases d with
    | false =>
      obtain ⟨fl, r', M', eq, z⟩ := run
      cases eq
      exact z io1 H1 Ext.refl rs g re
    | true =>
      obtain ⟨fl, r', M', eq, z⟩ := run
      rw [if_pos rfl] at eq
      refine ⟨fun g' H' => ∃ (r : DEnv) (M : Sto) (io : List Addr), RE c.K H' io r g' ∧ RS c.K H' io M ∧ RunS c (whileS t a m) r M io H' Ds, fun g' H' h => ⟨m, Nat.lt_succ_self m, h⟩, ?_⟩
      cases ea : a r M1 with
      | none => rw [ea] at eq; cases eq
      | some p =>
        obtain ⟨fl1, r1, M2⟩ := p
        rw [ea] at eq
        refine ⟨r, M1, io1, re, rs, fl1, r1, M2, ea, fun io2 H2 e2 rs2 => ?_⟩
        cases fl1 with
        | nx => exact fun g2 re2 => ⟨r1, M2, io2, re2, rs2, fl, r', M', eq, z.ext e2⟩
        | ct => exact fun g2 re2 => ⟨r1, M2, io2, re2, rs2, fl, r', M', eq, z.ext e2⟩
        | bk => cases eq; exact z io2 H2 e2 rs2
        | rt d => cases eq; exact z io2 H2 e2 rs2
        | ex x => cases eq; exact z io2 H2 e2 rs2
end
end PyD

-- PyD9
set_option maxRecDepth 100000
set_option maxHeartbeats 4000000
noncomputable section
namespace PyD
open PySem PySem.Spec PyProof.Rows L2
/-! ### defs -/
abbrev FDen := List D → Sto → Option (Res D × Sto)
def Cfg.to (c : Cfg) (E : XK) : Cfg := ⟨c.K, c.mg, c.fl, E⟩
/-- what a def promises: what its data function says -/
def spF (c : Cfg) (n : Nat) (f : FDen) : Sp := fun vs H Q E => ∃ (M : Sto) (io : List Addr) (ds : List D) (x : Res D) (M' : Sto), f ds M = some (x, M') ∧ RL c.K H io ds vs ∧ RS c.K H io M ∧ ds.length = n ∧ Aft (c.to E) (rD c) [] io H M' x Q
def bodyF (n : Nat) (b : SDen) : FDen := fun ds M => match b (ds.map some ++ List.replicate (n - ds.length) none) M with
  | some (.rt d, _, M') => some (.ok d, M')
  | some (.nx, _, M') => some (.ok .non, M')
  | some (.ex x, _, M') => some (.ex x, M')
  | _ => none
theorem re_start {K : KT} {H : Hp} {io : List Addr} {ds : List D} {vs : List V} {N : List Str} (rl : RL K H io ds vs) : RE K H io (ds.map some ++ List.replicate (N.length - ds.length) none) (L2.start N vs) := by
  unfold L2.start
  refine ⟨by simp [rl.length], fun i d h => ?_⟩
  by_cases hi : i < ds.length
  · rw [List.getElem?_append_left (by simpa using hi), List.getElem?_map] at h
    cases e : ds[i]? with
    | none => rw [e] at h; cases h
    | some d' =>
      rw [e] at h
      cases h
      obtain ⟨v, hv, rv⟩ := rl.get e
      have hl : i < vs.length := (List.getElem?_eq_some_iff.mp hv).1
      exact ⟨v, by rw [List.getElem?_append_left (by simpa using hl), List.getElem?_map, hv]; rfl, rv⟩
  · rw [List.getElem?_append_right (by simpa using hi), List.getElem?_replicate] at h
    split at h <;> cases h
section
variable {P : Program} {w : World} {K : PySem.W.Frag} {mg : Str → Option Value} {base : Heap}
theorem fn_ok {c : Cfg} {x qual : Str} {st : Stmt} {f : Addr} {fd : FuncData} {N ps : List Str} {k n : Nat} {b : SDen} (hK : c.K.f = K) (F : Fun K x qual st f fd) (S : FnScope N ps (defScope st)) (hn : N.length = n)
    (hb : ∀ (cdv : Value) (A : Around) (outer : List Env) (s : Shared) (H : Hp) (E : XK), Room k (A.deeper (envOfC qual (defScope st) s.heap.objs.size f cdv)) →
      PSs (cxOf (L2N.CX P w) P w K mg base N qual (defScope st) f cdv A outer s H E) (defBody st) (sS (c.to E) b)) : FnOk P w K mg base (L2N.CX P w) (k + 1) f fd ps (spF c ps.length (bodyF n b)) := by
  subst hn
  obtain ⟨oc, od, kV, doc, pm, an, cdv, ct, osl, rfl, lk, hcd⟩ := F.ex
  refine fn_of lk hcd S (fun vs H Q E h => ?_) (fun A outer s H vs Q E hr h => ⟨_, hb cdv A outer s H E hr, ?_⟩)
  · obtain ⟨M, io, ds, x, M', _, rl, _, hl, _⟩ := h
    rw [← rl.length]
    exact hl
  · obtain ⟨M, io, ds, x, M', e, rl, rs, hl, k⟩ := h
    unfold bodyF at e
    cases eb : b (ds.map some ++ List.replicate (N.length - ds.length) none) M with
    | none => rw [eb] at e; cases e
    | some p =>
      obtain ⟨fl, r', M1⟩ := p
      rw [eb] at e
      refine ⟨_, M, io, re_start (N := N) rl, rs, fl, r', M1, eb, fun io1 H1 e1 rs1 => ?_⟩
      cases fl with
      | rt d => cases e; exact fun v rv => k io1 H1 e1 rs1 v rv
      | nx => cases e; exact fun g' re => k io1 H1 e1 rs1 _ .non
      | ex x => cases e; exact fun cv dx rx => k io1 H1 e1 rs1 cv dx rx
      | bk => cases e
      | ct => cases e
end
def callE (n : Nat) (fd : FDen) (as : Den (List D)) : Den D := bindD as fun ds _ M => if ds.length = n then fd ds M else none
/-- where nothing may be let out -/
def callN (n : Nat) (fd : FDen) (as : Den (List D)) : Den D := bindD as fun ds _ M => if ds.length = n then (match fd ds M with
  | some (.ok d, M') => some (.ok d, M')
  | _ => none) else none
section
variable {X : Cx} {c : Cfg} {f h : Den D} {hs : Den (List D)} {a b e o : Expr} {es : List Expr} {pos p : Pos} {fa : Addr} {fdt : FuncData} {ps : List Str} {k n : Nat} {fd : FDen} {x : Str}
theorem passLN {X : Cx} : Passes (L2N.CX X.prog X.w) X E0 := fun _ _ _ _ _ _ _ h => by
  obtain ⟨_, _, _, _, _, _, _, _, _, _, _, _, z⟩ := h
  exact z.elim
theorem de_call (tk : L2N.Takes X (fun cls d _ H => c.W cls d H)) (F : FnOk X.prog X.w X.K X.mg X.base (L2N.CX X.prog X.w) k fa fdt ps (spF c n fd)) (hr : Room k X.A) (hg : Gl X x) (hm : X.mg x = some (.ref fa)) (hk : PySem.W.keepIn X.K (.ref fa) = true) (hb : Binds X.K fdt ps [])
    (ha : PA X (e :: es) (sA c hs)) (hdb : (x == ("__debug__" : Str)) = false := by decide) (he : starEach (e :: es) X.env = (false, eval e X.env) :: starEach es X.env := by rfl) (hpl : (backTo pos (starEach es X.env)).any (·.1) = false := by rfl) :
    PE X (.Call (.Name x p) (e :: es) [] pos) (sE c (callE n fd hs)) := PE.imp (pe_call (E := c.W) F hr hg hm hk hb .nil (L2N.passes_call tk fun _ _ _ _ h => h) ha hdb he hpl) fun g H Q s => by
  refine sG.bind s fun ds vs r M1 io1 H1 re rs ra run => ?_
  rw [List.append_nil]
  obtain ⟨y, M', eq, z⟩ := run
  dsimp only at eq
  split at eq
  · rename_i hl
    exact ⟨M1, io1, ds, y, M', eq, ra, rs, hl, z⟩
  · cases eq
theorem de_callN (F : FnOk X.prog X.w X.K X.mg X.base (L2N.CX X.prog X.w) k fa fdt ps (spF c n fd)) (hr : Room k X.A) (hg : Gl X x) (hm : X.mg x = some (.ref fa)) (hk : PySem.W.keepIn X.K (.ref fa) = true) (hb : Binds X.K fdt ps [])
    (ha : PA X (e :: es) (sA c hs)) (hdb : (x == ("__debug__" : Str)) = false := by decide) (he : starEach (e :: es) X.env = (false, eval e X.env) :: starEach es X.env := by rfl) (hpl : (backTo pos (starEach es X.env)).any (·.1) = false := by rfl) :
    PE X (.Call (.Name x p) (e :: es) [] pos) (sE c (callN n fd hs)) := PE.imp (pe_call (E := E0) F hr hg hm hk hb .nil passLN ha hdb he hpl) fun g H Q s => by
  refine sG.bind s fun ds vs r M1 io1 H1 re rs ra run => ?_
  rw [List.append_nil]
  obtain ⟨y, M', eq, z⟩ := run
  dsimp only at eq
  split at eq
  · rename_i hl
    split at eq
    · rename_i d M2 e2
      cases eq
      exact ⟨M1, io1, ds, .ok d, _, e2, ra, rs, hl, z⟩
    · cases eq
  · cases eq
/-! built-ins by name -/
theorem de_callB {id : String} {op : List D → Sto → Option (D × Sto)} (hc : CallR X (.builtin id) (sVs c op)) (hg : Gl X x) (hm : X.mg x = none) (hv : bootBuiltins x = some (.builtin id)) (ha : PA X (e :: es) (sA c hs)) (hn : x ≠ "__name__" := by decide) (hdb : (x == ("__debug__" : Str)) = false := by decide)
    (he : starEach (e :: es) X.env = (false, eval e X.env) :: starEach es X.env := by rfl) (hpl : (backTo pos (starEach es X.env)).any (·.1) = false := by rfl) : PE X (.Call (.Name x p) (e :: es) [] pos) (sE c (opS op hs)) := PE.imp (pe_callB hc hg hm hv ha hn hdb he hpl) fun _ _ _ s => sE_opS s
theorem de_callTy {T : String} {op : List D → Sto → Option (D × Sto)} (hc : CallR X (.type T) (sVs c op)) (hg : Gl X x) (hm : X.mg x = none) (hv : bootBuiltins x = some (.type T)) (ha : PA X (e :: es) (sA c hs)) (hn : x ≠ "__name__" := by decide) (hdb : (x == ("__debug__" : Str)) = false := by decide)
    (he : starEach (e :: es) X.env = (false, eval e X.env) :: starEach es X.env := by rfl) (hpl : (backTo pos (starEach es X.env)).any (·.1) = false := by rfl) : PE X (.Call (.Name x p) (e :: es) [] pos) (sE c (opS op hs)) := PE.imp (pe_callTy hc hg hm hv ha hn hdb he hpl) fun _ _ _ s => sE_opS s
end
/-! ### raise -/
def raiseS (cls : Str) : SDen := fun r M => some (.ex ⟨cls, none⟩, r, M)
section
variable {X : Cx} {c : Cfg} {e : Expr} {pos : Pos} {cls : Str} {C : Addr}
theorem ds_raise (hc : X.calm = true) (tk : L2N.Takes X (fun cls d _ H => c.W cls d H)) (hm : c.mg cls = some (.ref C)) (he : L2N.PMk X e (fun _ H Q => Q (.ref C) none H)) : PS X (.Raise (some e) none pos) (sS c (raiseS cls)) := PS.imp (L2N.ps_raise hc tk he) fun Ds g H s => by
  obtain ⟨r, M, io, re, rs, fl, r', M', eq, z⟩ := s
  cases eq
  exact z io H Ext.refl rs (.ref C) none ⟨hm, rfl⟩
end
/-! ### methods of lists -/
def isLst (a : D) (M : Sto) : Bool := match a with
  | .lst i => match (sGet M i) with
    | some (.lst _) => true
    | _ => false
  | _ => false
def methE (op : D → List D → Sto → Option (D × Sto)) (f : Den D) (as : Den (List D)) : Den D := bindD f fun a r M => if isLst a M = true then (bindD as fun ds => liftD (fun p : D × List D => op p.1 p.2) (a, ds)) r M else none
def meth0 (op : D → List D → Sto → Option (D × Sto)) (f : Den D) : Den D := bindD f fun a _ M => if isLst a M = true then (match op a [] M with
  | some (d, M') => some (.ok d, M')
  | none => none) else none
def sVm (c : Cfg) (op : D → List D → Sto → Option (D × Sto)) : V → List V → Hp → VK → Prop := fun x xs H Q =>
  ∃ (M : Sto) (io : List Addr) (a : D) (ds : List D) (d : D) (M' : Sto), op a ds M = some (d, M') ∧ R c.K H io a x ∧ RL c.K H io ds xs ∧ RS c.K H io M ∧
    ∀ (io' : List Addr) (H' : Hp), Ext c.K io H io' H' → RS c.K H' io' M' → ∀ v, R c.K H' io' d v → Q v H'
def appendD (a : D) (ds : List D) (M : Sto) : Option (D × Sto) :=
  match a, ds with
  | .lst i, [d] => match (sGet M i) with
    | some (.lst xs) => if xs.length < 100000 then some (.non, M.set i (.lst (xs ++ [d]))) else none
    | _ => none
  | _, _ => none
def popD (a : D) (ds : List D) (M : Sto) : Option (D × Sto) :=
  match a, ds with
  | .lst i, [] => match (sGet M i) with
    | some (.lst xs) => match xs[xs.length - 1]? with
      | some d => some (d, M.set i (.lst xs.dropLast))
      | none => none
    | _ => none
  | _, _ => none
def extendD (a : D) (ds : List D) (M : Sto) : Option (D × Sto) :=
  match a, ds with
  | .lst i, [.lst j] => match (sGet M i), (sGet M j) with
    | some (.lst xs), some (.lst ys) => if xs.length + ys.length ≤ 100000 then some (.non, M.set i (.lst (xs ++ ys))) else none
    | _, _ => none
  | .lst i, [.tup ys] => match (sGet M i) with
    | some (.lst xs) => if xs.length + ys.length ≤ 100000 then some (.non, M.set i (.lst (xs ++ ys))) else none
    | _ => none
  | _, _ => none
theorem RS.wlst {K : KT} {H : Hp} {io : List Addr} {M : Sto} {i : Nat} {a : Addr} {xs ys : List V} {ds : List D} (rs : RS K H io M) (ei : io[i]? = some a) (h : H a = some (.lst xs)) (rl : RL K H io ds ys) : Ext K io H io (upd H a (.lst ys)) ∧ RS K (upd H a (.lst ys)) io (M.set i (.lst ds)) := by
  have n : notTup (.lst xs) := nt_lst
  exact ⟨Ext.write h n, rs.write ei h n ⟨ys, rfl, rl.mono (Ext.write h n)⟩⟩
section
variable {X : Cx} {c : Cfg} {f h : Den D} {hs : Den (List D)} {a b e o : Expr} {es : List Expr} {pos p : Pos}
theorem mr_append (hK : X.K = c.K.f) : MtR X "list.append" (sVm c appendD) := by
  intro pins s g H x xs v us Q I rx rv hh
  obtain ⟨M, io, a, ds, d, M', e, ra, rd, rs, k⟩ := hh
  rw [kt hK] at ra rd rs k
  unfold appendD at e
  split at e
  · split at e
    · rename_i ys em
      split at e
      · rename_i hl
        cases e
        obtain ⟨y, rfl, ry⟩ := rd.one
        obtain ⟨a1, zs, rfl, i1, h1, r1⟩ := lst_at ra rs em
        obtain ⟨ex, rs2⟩ := rs.wlst i1 h1 (r1.append (.cons ry .nil))
        exact mt_append pins s g H _ _ v us Q I rx rv ⟨_, _, _, rfl, rfl, h1, by rw [← r1.length]; exact big_lt hl, k io _ ex rs2 _ .non⟩
      · cases e
    · cases e
  · cases e
theorem mr_pop (hK : X.K = c.K.f) : MtR X "list.pop" (sVm c popD) := by
  intro pins s g H x xs v us Q I rx rv hh
  obtain ⟨M, io, a, ds, d, M', e, ra, rd, rs, k⟩ := hh
  rw [kt hK] at ra rd rs k
  unfold popD at e
  split at e
  · split at e
    · rename_i ys em
      split at e
      · rename_i dd ed
        cases e
        cases rd
        obtain ⟨a1, zs, rfl, i1, h1, r1⟩ := lst_at ra rs em
        obtain ⟨ex, rs2⟩ := rs.wlst i1 h1 r1.dropLast
        obtain ⟨w, hw, rw'⟩ := r1.get ed
        rw [r1.length] at hw
        exact mt_pop pins s g H _ _ v us Q I rx rv ⟨_, _, _, rfl, rfl, h1, hw, k io _ ex rs2 _ (rw'.mono ex)⟩
      · cases e
    · cases e
  · cases e
theorem mr_extend (hK : X.K = c.K.f) : MtR X "list.extend" (sVm c extendD) := by
  intro pins s g H x xs v us Q I rx rv hh
  obtain ⟨M, io, a, ds, d, M', e, ra, rd, rs, k⟩ := hh
  rw [kt hK] at ra rd rs k
  unfold extendD at e
  split at e
  · split at e
    · rename_i ys zs em ej
      split at e
      · rename_i hl
        cases e
        obtain ⟨y, rfl, ry⟩ := rd.one
        obtain ⟨a1, ws, rfl, i1, h1, r1⟩ := lst_at ra rs em
        obtain ⟨a2, qs, rfl, i2, h2, r2⟩ := lst_at ry rs ej
        obtain ⟨ex, rs2⟩ := rs.wlst i1 h1 (r1.append r2)
        exact mt_extend pins s g H _ _ v us Q I rx rv ⟨_, _, _, _, rfl, rfl, h1, h2, by rw [← r1.length, ← r2.length]; exact big_le hl, k io _ ex rs2 _ .non⟩
      · cases e
    · cases e
  · split at e
    · rename_i ys em
      split at e
      · rename_i hl
        cases e
        obtain ⟨y, rfl, ry⟩ := rd.one
        obtain ⟨a1, ws, rfl, i1, h1, r1⟩ := lst_at ra rs em
        cases ry with
        | tup h2 r2 =>
          obtain ⟨ex, rs2⟩ := rs.wlst i1 h1 (r1.append r2)
          exact PyDX.mt_extendT pins s g H _ _ v us Q I rx rv ⟨_, _, _, _, rfl, rfl, h1, h2, by rw [← r1.length, ← r2.length]; exact big_le hl, k io _ ex rs2 _ .non⟩
      · cases e
    · cases e
  · cases e
theorem isLst_ty {K : KT} {H : Hp} {io : List Addr} {M : Sto} {a : D} {x : V} (h : isLst a M = true) (rs : RS K H io M) (r : R K H io a x) : tyV K.f "list" x H := by
  unfold isLst at h
  split at h
  · split at h
    · rename_i em
      obtain ⟨a1, ws, rfl, i1, h1, r1⟩ := lst_at r rs em
      exact .inl ⟨rfl, _, SqL.of h1⟩
    · cases h
  · cases h
theorem de_meth {id : String} {name : Str} {apos cpos : Pos} {op : D → List D → Sto → Option (D × Sto)} (hK : X.K = c.K.f) (pa : PlainAttrs "list") (slot : Slot "list" name id) (hty : typeOf (.builtin id) = pure (.type "method_descriptor")) (hm : MtR X id (sVm c op)) (ho : PE X o (sE c f)) (ha : PA X (e :: es) (sA c hs))
    (hbase : attributeBase o name X.env (eval o X.env) = eval o X.env := by rfl)
    (hfew : ((backTo cpos (starEach (e :: es) X.env)).all (fun x => !x.1) && (backToKw cpos (keywordEach [] X.env)).all (fun x => x.1.isSome)
      && decide ((e :: es).length + ([] : List Keyword).length + (if ([] : List Keyword).isEmpty then 0 else 1) < 30)) = true := by rfl)
    (hline : (apos.endLine == cpos.line) = true := by rfl) (hst : starEach (e :: es) X.env = (false, eval e X.env) :: starEach es X.env := by rfl) (hplain : (backTo cpos (starEach es X.env)).any (·.1) = false := by rfl) :
    PE X (.Call (.Attribute o name apos) (e :: es) [] cpos) (sE c (methE op f hs)) := PE.imp (pe_bm pa slot hty hm ho ha hbase hfew hline hst hplain) fun g H Q s => by
  refine sG.bind s fun a x r M1 io1 H1 re rs ra run => ?_
  obtain ⟨y, M', eq, z⟩ := run
  dsimp only at eq
  split at eq
  · rename_i hl
    refine ⟨by rw [hK]; exact isLst_ty hl rs ra, r, M1, io1, re, rs, ?_⟩
    have run2 : Run c (rD c) (bindD hs fun ds => liftD (fun p : D × List D => op p.1 p.2) (a, ds)) r M1 io1 g H1 Q := ⟨y, M', eq, z⟩
    refine run2.bind fun ds vs M2 io2 H2 e2 rs2 rd run3 => ?_
    obtain ⟨d, M3, e3, k3⟩ := run3.lift
    exact ⟨M2, io2, a, ds, d, M3, e3, ra.mono e2, rd, rs2, k3⟩
  · cases eq
theorem de_meth0 {id : String} {name : Str} {apos cpos : Pos} {op : D → List D → Sto → Option (D × Sto)} (hK : X.K = c.K.f) (pa : PlainAttrs "list") (slot : Slot "list" name id) (hty : typeOf (.builtin id) = pure (.type "method_descriptor")) (hm : MtR X id (sVm c op)) (ho : PE X o (sE c f))
    (hbase : attributeBase o name X.env (eval o X.env) = eval o X.env := by rfl) (hline : (apos.endLine == cpos.line) = true := by rfl) : PE X (.Call (.Attribute o name apos) [] [] cpos) (sE c (meth0 op f)) := PE.imp (pe_bm0 pa slot hty hm ho hbase hline) fun g H Q s => by
  refine sG.bind s fun a x r M1 io1 H1 re rs ra run => ?_
  obtain ⟨y, M', eq, z⟩ := run
  dsimp only at eq
  split at eq
  · rename_i hl
    refine ⟨by rw [hK]; exact isLst_ty hl rs ra, ?_⟩
    split at eq
    · rename_i d M2 e2
      cases eq
      exact ⟨M1, io1, a, [], d, _, e2, ra, .nil, rs, z⟩
    · cases eq
  · cases eq
/-! xs[::-1], of a list or a tuple -/
def revDT (a : D) (M : Sto) : Option (D × Sto) :=
  match a with
  | .tup ds => some (.tup ds.reverse, M)
  | _ => none
def revAny (a : D) (M : Sto) : Option (D × Sto) :=
  match a with
  | .tup ds => some (.tup ds.reverse, M)
  | _ => revD a M
theorem de_revT {k : Nat} {p1 p2 p3 : Pos} (hK : X.K = c.K.f) (ha : PE X a (sE c f)) : PE X (.Subscript a (.Slice none none (some (.UnaryOp .USub (.Constant (.int 1) k p1) p2)) p3) pos) (sE c (op1 revDT f)) := PE.imp (PyDX.pe_revT ha) fun g H Q s => by
  refine sG.bind s fun a x r M1 io1 H1 re rs ra run => ?_
  obtain ⟨d, M3, e, k⟩ := run.lift
  unfold revDT at e
  split at e
  · cases e
    cases ra with
    | tup h1 rl => exact ⟨_, _, rfl, SqT.of h1, fun p n => k_tup (fun io' H' ex rs' v rv => k io' H' ex rs' v rv) rs rl.reverse n⟩
  · cases e
theorem op1_congr {op op' : D → Sto → Option (D × Sto)} {r : DEnv} {M M1 : Sto} {a : D} (ef : f r M = some (.ok a, M1)) (q : ∀ M, op a M = op' a M) : op1 op f r M = op1 op' f r M := by
  unfold op1 bindD
  rw [ef]
  simp only
  unfold liftD
  rw [q M1]
theorem de_rev {k : Nat} {p1 p2 p3 : Pos} (hK : X.K = c.K.f) (ha : PE X a (sE c f)) : PE X (.Subscript a (.Slice none none (some (.UnaryOp .USub (.Constant (.int 1) k p1) p2)) p3) pos) (sE c (op1 revAny f)) :=
  PE.imp (PE.or (de_revT hK ha) (de_revL hK ha)) fun g H Q s => by
    obtain ⟨r, M, io, re, rs, x, M', e, k⟩ := s
    cases ef : f r M with
    | none => unfold op1 bindD at e; rw [ef] at e; cases e
    | some p =>
      obtain ⟨y, M1⟩ := p
      cases y with
      | ex y =>
        have e' : op1 revD f r M = some (x, M') := by
          unfold op1 bindD at e ⊢
          rw [ef] at e ⊢
          exact e
        exact .inr ⟨r, M, io, re, rs, x, M', e', k⟩
      | ok a =>
        cases a with
        | tup ds =>
          rw [op1_congr (op := revAny) (op' := revDT) ef fun M => rfl] at e
          exact .inl ⟨r, M, io, re, rs, x, M', e, k⟩
        | _ =>
          rw [op1_congr (op := revAny) (op' := revD) ef fun M => rfl] at e
          exact .inr ⟨r, M, io, re, rs, x, M', e, k⟩
end
end PyD

-- PyD10
set_option maxRecDepth 100000
set_option maxHeartbeats 4000000
noncomputable section
namespace PyD
open PySem PySem.Spec PyProof.Rows L2
/-! ### what is walked -/
inductive Src where
  | seq (d : D)
  | sign (x : Str)
  | rng (lo : Int) (n : Nat)
  | zip (a b : D)
  | enum (d : D)
def itemsD (d : D) (M : Sto) : Option (List D) :=
  match d with
  | .tup ds => some ds
  | .ktup ds => some ds
  | .lst j => match (sGet M j) with
    | some (.lst ds) => some ds
    | _ => none
  | _ => none
/-- the i-th thing; none within: it is over -/
def nextI (s : Src) (i : Nat) (M : Sto) : Option (Option D) :=
  match s with
  | .seq d => (itemsD d M).map fun ds => ds[i]?
  | .sign x => some ((x.cps[i]?).map fun k => .str ⟨#[k]⟩)
  | .rng lo n => some (if i < n then some (.int (lo + i)) else none)
  | .zip a b => match itemsD a M, itemsD b M with
    | some as, some bs => some (match as[i]?, bs[i]? with
      | some x, some y => some (.tup [x, y])
      | _, _ => none)
    | _, _ => none
  | .enum d => (itemsD d M).map fun ds => (ds[i]?).map fun x => .tup [.int (i : Nat), x]
structure JOk (c : Cfg) (io : List Addr) (H : Hp) (J : It) (nxt : Nat → Sto → Option (Option D)) : Prop where
  stop : ∀ (i : Nat) (M : Sto) (io' : List Addr) (H' : Hp), Ext c.K io H io' H' → RS c.K H' io' M → nxt i M = some none → J.stop i H'
  go : ∀ (i : Nat) (M : Sto) (io' : List Addr) (H' : Hp) (d : D), Ext c.K io H io' H' → RS c.K H' io' M → nxt i M = some (some d) →
    J.go i H' ∧ ∀ x H'', J.yld i H' x H'' → Ext c.K io' H' io' H'' ∧ RS c.K H'' io' M ∧ R c.K H'' io' d x
def wS (c : Cfg) (src : Den Src) : TI := fun g H Rr => ∃ (r : DEnv) (M : Sto) (io : List Addr), RE c.K H io r g ∧ RS c.K H io M ∧ ∃ (s : Src) (M' : Sto), src r M = some (.ok s, M') ∧
  ∀ (io1 : List Addr) (H1 : Hp), Ext c.K io H io1 H1 → RS c.K H1 io1 M' → ∀ J, JOk c io1 H1 J (nextI s) → Rr J H1
theorem PI.imp {X : Cx} {a b : Expr} {t t' : TI} (h : PI X a b t) (i : ∀ g H Q, t' g H Q → t g H Q) : PI X a b t' := ⟨fun pins s g H Q I q => h.run pins s g H Q I (i g H Q q)⟩
section
variable {c : Cfg} {io io' : List Addr} {H H' : Hp} {J : It}
theorem jok_list {j : Nat} {a : Addr} (ei : io[j]? = some a) : JOk c io H (Itl c.K.f a) (nextI (.seq (.lst j))) where
  stop := fun i M io' H' e rs h => by
    obtain ⟨ds, e1, e2⟩ := map_some h
    unfold itemsD at e1
    dsimp only at e1
    split at e1
    · rename_i em
      cases e1
      obtain ⟨xs, h1, h2⟩ := rs.lst (e.i _ _ ei) em
      refine ⟨xs, SqL.of h1, ?_⟩
      rw [← h2.length]
      exact List.getElem?_eq_none_iff.mp e2
    · cases e1
  go := fun i M io' H' d e rs h => by
    obtain ⟨ds, e1, e2⟩ := map_some h
    unfold itemsD at e1
    dsimp only at e1
    split at e1
    · rename_i em
      cases e1
      obtain ⟨xs, h1, h2⟩ := rs.lst (e.i _ _ ei) em
      obtain ⟨v, hv, rv⟩ := h2.get e2
      refine ⟨⟨xs, v, SqL.of h1, hv⟩, fun x H'' y => ?_⟩
      obtain ⟨rfl, y⟩ := y
      have hx := y xs (SqL.of h1)
      rw [hv] at hx
      cases hx
      exact ⟨Ext.refl, rs, rv⟩
    · cases e1
theorem jok_tup {ds : List D} {xs : List V} {a : Addr} (h : H a = some (.tup xs)) (rl : RL c.K H io ds xs) : JOk c io H (Itt c.K.f a) (nextI (.seq (.tup ds))) where
  stop := fun i M io' H' e rs h' => by
    have e2 : ds[i]? = none := Option.some.inj h'
    refine ⟨xs, SqT.of (e.t _ _ h), ?_⟩
    rw [← rl.length]
    exact List.getElem?_eq_none_iff.mp e2
  go := fun i M io' H' d e rs h' => by
    have e2 : ds[i]? = some d := Option.some.inj h'
    obtain ⟨v, hv, rv⟩ := rl.get e2
    refine ⟨⟨xs, v, SqT.of (e.t _ _ h), hv⟩, fun x H'' y => ?_⟩
    obtain ⟨rfl, y⟩ := y
    have hx := y xs (SqT.of (e.t _ _ h))
    rw [hv] at hx
    cases hx
    exact ⟨Ext.refl, rs, rv.mono e⟩
theorem jok_ktup {ds : List D} {xs : List V} {a : Addr} (h : SqK c.K.f a xs) (rl : RL c.K H io ds xs) : JOk c io H (Itt c.K.f a) (nextI (.seq (.ktup ds))) where
  stop := fun i M io' H' e rs h' => by
    have e2 : ds[i]? = none := Option.some.inj h'
    refine ⟨xs, h.sq, ?_⟩
    rw [← rl.length]
    exact List.getElem?_eq_none_iff.mp e2
  go := fun i M io' H' d e rs h' => by
    have e2 : ds[i]? = some d := Option.some.inj h'
    obtain ⟨v, hv, rv⟩ := rl.get e2
    refine ⟨⟨xs, v, h.sq, hv⟩, fun x H'' y => ?_⟩
    obtain ⟨rfl, y⟩ := y
    have hx := y xs h.sq
    rw [hv] at hx
    cases hx
    exact ⟨Ext.refl, rs, rv.mono e⟩
theorem jok_str {x : Str} : JOk c io H (Its x) (nextI (.sign x)) where
  stop := fun i M io' H' e rs h => by
    have h' : (x.cps[i]?).map (fun k => D.str ⟨#[k]⟩) = none := Option.some.inj h
    rw [Option.map_eq_none_iff] at h'
    exact Array.getElem?_eq_none_iff.mp h'
  go := fun i M io' H' d e rs h => by
    have h' : (x.cps[i]?).map (fun k => D.str ⟨#[k]⟩) = some d := Option.some.inj h
    obtain ⟨k, e1, e2⟩ := map_some h'
    cases e2
    obtain ⟨hl, _⟩ := Array.getElem?_eq_some_iff.mp e1
    refine ⟨hl, fun v H'' y => ?_⟩
    obtain ⟨rfl, k', e3, rfl⟩ := y
    rw [e1] at e3
    cases e3
    exact ⟨Ext.refl, rs, .str _⟩
theorem jok_rng {lo : Int} {n : Nat} : JOk c io H (Itr lo n) (nextI (.rng lo n)) where
  stop := fun i M io' H' e rs h => by
    have h' : (if i < n then some (D.int (lo + i)) else none) = none := Option.some.inj h
    split at h'
    · cases h'
    · exact Nat.le_of_not_lt (by assumption)
  go := fun i M io' H' d e rs h => by
    have h' : (if i < n then some (D.int (lo + i)) else none) = some d := Option.some.inj h
    split at h'
    · cases h'
      refine ⟨by assumption, fun v H'' y => ?_⟩
      obtain ⟨rfl, rfl⟩ := y
      exact ⟨Ext.refl, rs, .int _⟩
    · cases h'
end
/-! sources -/
def seqSrc (f : Den D) : Den Src := bindD f fun d _ M => match itemsD d M with
  | some _ => some (.ok (.seq d), M)
  | none => none
def strSrc (f : Den D) : Den Src := bindD f fun d _ M => match d with
  | .str x => some (.ok (.sign x), M)
  | _ => none
def anySrc (f : Den D) : Den Src := bindD f fun d _ M => match d with
  | .str x => some (.ok (.sign x), M)
  | _ => match itemsD d M with
    | some _ => some (.ok (.seq d), M)
    | none => none
def rngSrc1 (f : Den (List D)) : Den Src := bindD f fun ds _ M => match ds with
  | [.int j] => if -(2 ^ 62) ≤ j ∧ j < 2 ^ 62 then some (.ok (.rng 0 j.toNat), M) else none
  | _ => none
section
variable {X : Cx} {c : Cfg} {f : Den D} {hs : Den (List D)} {tg e : Expr} {pos p : Pos}
theorem bind_ok {α β : Type} {f : Den α} {k : α → Den β} {r : DEnv} {M M' : Sto} {b : β} (h : bindD f k r M = some (.ok b, M')) : ∃ a M1, f r M = some (.ok a, M1) ∧ k a r M1 = some (.ok b, M') := by
  unfold bindD at h
  cases ef : f r M with
  | none => rw [ef] at h; cases h
  | some q =>
    obtain ⟨y, M1⟩ := q
    rw [ef] at h
    cases y with
    | ex y => cases h
    | ok a => exact ⟨a, M1, rfl, h⟩
/-- a list or a tuple -/
theorem dp_seq (hK : X.K = c.K.f) (he : PE X e (sE c f)) : PI X tg e (wS c (seqSrc f)) := PI.imp (PI.or (pi_list he) (pi_tup he)) fun g H Q s => by
  obtain ⟨r, M, io, re, rs, sx, M', eq, k⟩ := s
  obtain ⟨d, M1, ef, ek⟩ := bind_ok eq
  have last : ∀ (T : V → Hp → Prop), (∀ io1 H1 v, Ext c.K io H io1 H1 → RS c.K H1 io1 M1 → R c.K H1 io1 d v → T v H1) → sE c f g H T := fun T hT =>
    ⟨r, M, io, re, rs, .ok d, M1, ef, fun io1 H1 e1 rs1 v rv => hT io1 H1 v e1 rs1 rv⟩
  unfold itemsD at ek
  cases d with
  | tup ds =>
    cases ek
    refine .inr (last _ fun io1 H1 v e1 rs1 rv => ?_)
    cases rv with
    | tup h1 rl => exact ⟨_, rfl, ⟨_, SqT.of h1⟩, by rw [hK]; exact k io1 H1 e1 rs1 _ (jok_tup h1 rl)⟩
  | ktup ds =>
    cases ek
    refine .inr (last _ fun io1 H1 v e1 rs1 rv => ?_)
    cases rv with
    | ktup h1 rl => exact ⟨_, rfl, ⟨_, by rw [hK]; exact h1.sq⟩, by rw [hK]; exact k io1 H1 e1 rs1 _ (jok_ktup h1 rl)⟩
  | lst j =>
    dsimp only at ek
    split at ek
    · rename_i em
      split at em
      · rename_i em2
        cases em
        cases ek
        refine .inl (last _ fun io1 H1 v e1 rs1 rv => ?_)
        obtain ⟨a1, xs, rfl, i1, h1, r1⟩ := lst_at rv rs1 em2
        exact ⟨_, rfl, ⟨_, SqL.of h1⟩, by rw [hK]; exact k io1 H1 e1 rs1 _ (jok_list i1)⟩
      · cases em
    · cases ek
  | non => cases ek
  | bl _ => cases ek
  | int _ => cases ek
  | str _ => cases ek
  | ty _ => cases ek
  | dic _ => cases ek
  | fn _ => cases ek
  | exn _ _ => cases ek
theorem dp_str (he : PE X e (sE c f)) : PI X tg e (wS c (strSrc f)) := PI.imp (pi_str he) fun g H Q s => by
  obtain ⟨r, M, io, re, rs, sx, M', eq, k⟩ := s
  obtain ⟨d, M1, ef, ek⟩ := bind_ok eq
  cases d with
  | str x =>
    cases ek
    refine ⟨r, M, io, re, rs, .ok (.str x), _, ef, fun io1 H1 e1 rs1 v rv => ?_⟩
    cases rv
    exact ⟨x, rfl, k io1 H1 e1 rs1 _ jok_str⟩
  | _ => cases ek
theorem dp_any (hK : X.K = c.K.f) (he : PE X e (sE c f)) : PI X tg e (wS c (anySrc f)) := PI.imp (PI.or (dp_str (tg := tg) he) (dp_seq hK he)) fun g H Q s => by
  obtain ⟨r, M, io, re, rs, sx, M', eq, k⟩ := s
  obtain ⟨d, M1, ef, ek⟩ := bind_ok eq
  cases d with
  | str x => exact .inl ⟨r, M, io, re, rs, sx, M', by unfold strSrc bindD; rw [ef]; exact ek, k⟩
  | tup ds => exact .inr ⟨r, M, io, re, rs, sx, M', by unfold seqSrc bindD; rw [ef]; exact ek, k⟩
  | ktup ds => exact .inr ⟨r, M, io, re, rs, sx, M', by unfold seqSrc bindD; rw [ef]; exact ek, k⟩
  | lst ds => exact .inr ⟨r, M, io, re, rs, sx, M', by unfold seqSrc bindD; rw [ef]; exact ek, k⟩
  | non => cases ek
  | bl _ => cases ek
  | int _ => cases ek
  | ty _ => cases ek
  | dic _ => cases ek
  | fn _ => cases ek
  | exn _ _ => cases ek
theorem dp_rng1 (hg : Gl X "range") (hm : X.mg "range" = none) (ha : PA X [e] (sA c hs)) (hst : starEach [e] X.env = [(false, eval e X.env)] := by rfl) : PI X tg (.Call (.Name "range" p) [e] [] pos) (wS c (rngSrc1 hs)) := PI.imp (pi_range1 hg hm ha hst) fun g H Q s => by
  obtain ⟨r, M, io, re, rs, sx, M', eq, k⟩ := s
  obtain ⟨ds, M1, ef, ek⟩ := bind_ok eq
  split at ek
  · split at ek
    · rename_i hl
      cases ek
      refine ⟨r, M, io, re, rs, .ok _, _, ef, fun io1 H1 e1 rs1 v rv => ?_⟩
      obtain ⟨x, rfl, rx⟩ := rv.one
      cases rx
      exact ⟨_, rfl, hl.1, hl.2, k io1 H1 e1 rs1 _ jok_rng⟩
    · cases ek
  · cases ek
end
/-! ### for -/
def forL (nxt : Nat → Sto → Option (Option D)) (t : TDen) (b : SDen) : Nat → Nat → SDen
  | 0, _ => fun _ _ => none
  | n + 1, i => fun r M => match nxt i M with
    | none => none
    | some none => some (.nx, r, M)
    | some (some d) => match t d r M with
      | none => none
      | some (r1, M1) => match b r1 M1 with
        | none => none
        | some (.nx, r2, M2) => forL nxt t b n (i + 1) r2 M2
        | some (.ct, r2, M2) => forL nxt t b n (i + 1) r2 M2
        | some (.bk, r2, M2) => some (.nx, r2, M2)
        | some (fl, r2, M2) => some (fl, r2, M2)
def forS (src : Den Src) (t : TDen) (b : SDen) (n : Nat) : SDen := fun r M => match src r M with
  | some (.ok s, M1) => forL (nextI s) t b n 0 r M1
  | _ => none
section
variable {X : Cx} {c : Cfg} {tg : TDen} {b : SDen} {q iter : Expr} {body : List Stmt} {pos : Pos} {src : Den Src}
theorem ds_for {n : Nat} (hp : PassesOwn (model X.prog X.w) X.A X.env X.xe) (hc : X.calm = true) (hi : PI X q iter (wS c src)) (hg : PG X q (sTg c tg)) (hb : PSs X body (sS c b))
    (hs : ∀ x, foldedSetIterable iter X.env x = pure x := by intro _; rfl) : PS X (.For q iter body [] pos) (sS c (forS src tg b n)) := PS.imp (ps_for hp hc hi hg hb hs) fun Ds g H s => by
  obtain ⟨r, M, io, re, rs, fl, r', M', eq, z⟩ := s
  unfold forS at eq
  split at eq
  · rename_i sx M1 es
    refine ⟨r, M, io, re, rs, sx, M1, es, fun io1 H1 e1 rs1 J hJ => ?_⟩
    refine ⟨fun i m g H => ∃ (r : DEnv) (M : Sto) (io : List Addr), Ext c.K io1 H1 io H ∧ RE c.K H io r g ∧ RS c.K H io M ∧ RunS c (forL (nextI sx) tg b m i) r M io H Ds,
      ⟨n, r, M1, io1, Ext.refl, re.mono e1, rs1, fl, r', M', eq, z.ext e1⟩, ?_⟩
    rintro i m g H ⟨r, M, io, ex, re, rs, fl, r', M', eq, z⟩
    cases m with
    | zero => cases eq
    | succ m =>
      unfold forL at eq
      split at eq
      · cases eq
      · rename_i en
        cases eq
        exact .inl ⟨hJ.stop i M io H ex rs en, z io H Ext.refl rs g re⟩
      · rename_i d en
        obtain ⟨go, yl⟩ := hJ.go i M io H d ex rs en
        refine .inr ⟨go, fun g H => ∃ (r : DEnv) (M : Sto) (io : List Addr), Ext c.K io1 H1 io H ∧ RE c.K H io r g ∧ RS c.K H io M ∧ RunS c (forL (nextI sx) tg b m (i + 1)) r M io H Ds, fun g' H' h => ⟨m, Nat.lt_succ_self m, h⟩, fun x H' y => ?_⟩
        obtain ⟨ex2, rs2, rx⟩ := yl x H' y
        split at eq
        · cases eq
        · rename_i r1 M2 et
          refine ⟨r, M, io, d, r1, M2, et, rx, re.mono ex2, rs2, fun io3 H3 ex3 rs3 g3 re3 => ?_⟩
          split at eq
          · cases eq
          · rename_i r2 M3 eb
            exact ⟨r1, M2, io3, re3, rs3, .nx, r2, M3, eb, fun io4 H4 ex4 rs4 g4 re4 => ⟨r2, M3, io4, ((ex.trans ex2).trans ex3).trans ex4, re4, rs4, fl, r', M', eq, z.ext ((ex2.trans ex3).trans ex4)⟩⟩
          · rename_i r2 M3 eb
            exact ⟨r1, M2, io3, re3, rs3, .ct, r2, M3, eb, fun io4 H4 ex4 rs4 g4 re4 => ⟨r2, M3, io4, ((ex.trans ex2).trans ex3).trans ex4, re4, rs4, fl, r', M', eq, z.ext ((ex2.trans ex3).trans ex4)⟩⟩
          · rename_i r2 M3 eb
            cases eq
            exact ⟨r1, M2, io3, re3, rs3, .bk, _, _, eb, fun io4 H4 ex4 rs4 g4 re4 => z io4 H4 ((ex2.trans ex3).trans ex4) rs4 g4 re4⟩
          · rename_i fl2 r2 M3 n1 n2 n3 eb
            cases eq
            refine ⟨r1, M2, io3, re3, rs3, fl, _, _, eb, fun io4 H4 ex4 rs4 => ?_⟩
            have zz := z io4 H4 ((ex2.trans ex3).trans ex4) rs4
            cases fl with
            | nx => first | exact (n1 rfl).elim | exact absurd rfl (n1 _)
            | ct => first | exact (n2 rfl).elim | exact absurd rfl (n2 _)
            | bk => first | exact (n3 rfl).elim | exact absurd rfl (n3 _)
            | rt d => exact zz
            | ex x => exact zz
  · cases eq
end
end PyD

-- PyD11
set_option maxRecDepth 100000
set_option maxHeartbeats 4000000
noncomputable section
namespace PyD
open PySem PySem.Spec PyProof.Rows L2
/-! ### comprehensions -/
theorem wipe_get {σ : L2.St} {j : Nat} : ∀ {vs : List Nat}, (L2.wipe σ vs)[j]? = if j ∈ vs ∧ j < σ.length then some none else σ[j]?
  | [] => by simp [L2.wipe]
  | v :: vs => by
    show ((L2.wipe σ vs).set v none)[j]? = _
    by_cases h : v = j
    · subst h
      by_cases hl : v < σ.length
      · rw [List.getElem?_set_self (by rw [wipe_length]; exact hl), if_pos ⟨List.mem_cons_self, hl⟩]
      · rw [if_neg (fun z => hl z.2), List.getElem?_eq_none (by rw [List.length_set, wipe_length]; omega), List.getElem?_eq_none (by omega)]
    · rw [List.getElem?_set_ne h, wipe_get (vs := vs)]
      have e : (j ∈ v :: vs ∧ j < σ.length) ↔ (j ∈ vs ∧ j < σ.length) := by
        rw [List.mem_cons]
        exact ⟨fun z => ⟨z.1.resolve_left (Ne.symm h), z.2⟩, fun z => ⟨.inr z.1, z.2⟩⟩
      by_cases q : j ∈ vs ∧ j < σ.length
      · rw [if_pos q, if_pos (e.mpr q)]
      · rw [if_neg q, if_neg (fun z => q (e.mp z))]
theorem wipe_set {σ : L2.St} {i : Nat} {x : Option V} {vs : List Nat} (h : i ∈ vs) : L2.wipe (σ.set i x) vs = L2.wipe σ vs := by
  apply List.ext_getElem?
  intro j
  rw [wipe_get, wipe_get, List.length_set]
  by_cases q : j ∈ vs ∧ j < σ.length
  · rw [if_pos q, if_pos q]
  · rw [if_neg q, if_neg q]
    by_cases hj : i = j
    · subst hj
      have hl : ¬ i < σ.length := fun z => q ⟨h, z⟩
      rw [List.getElem?_eq_none (by rw [List.length_set]; omega), List.getElem?_eq_none (by omega)]
    · rw [List.getElem?_set_ne hj]
theorem wipe_wipe {σ : L2.St} {vs : List Nat} : L2.wipe (L2.wipe σ vs) vs = L2.wipe σ vs := by
  apply List.ext_getElem?
  intro j
  rw [wipe_get, wipe_get, wipe_length]
  by_cases q : j ∈ vs ∧ j < σ.length
  · rw [if_pos q, if_pos q]
  · rw [if_neg q, if_neg q]
/-- a comprehension's target: one name, or several -/
inductive CT where
  | one (i : Nat)
  | many (is : List Nat)
def CT.slots : CT → List Nat
  | .one i => [i]
  | .many is => is
def gCs : List Nat → TGs
  | [] => gNil
  | i :: is => gCons (gName i) (gCs is)
def gC (K : PySem.W.Frag) : CT → TG
  | .one i => gName i
  | .many is => gTup K is.length (gCs is)
def setCs : List Nat → List D → DEnv → Option DEnv
  | [], [], r => some r
  | i :: is, d :: ds, r => setCs is ds (r.set i (some d))
  | _, _, _ => none
def setC : CT → D → DEnv → Option DEnv
  | .one i, d, r => some (r.set i (some d))
  | .many is, .tup ds, r => setCs is ds r
  | .many is, .ktup ds, r => setCs is ds r
  | _, _, _ => none
section
variable {K : KT} {H : Hp} {io : List Addr} {vs : List Nat}
theorem setCs_ok : ∀ {is : List Nat} {ds : List D} {xs : List V} {r r' : DEnv} {g : L2.St} {Q : L2.St → Hp → Prop}, setCs is ds r = some r' → RL K H io ds xs → RE K H io r g → (∀ i ∈ is, i ∈ vs) → (∀ g', RE K H io r' g' → L2.wipe g' vs = L2.wipe g vs → Q g' H) → gCs is xs g H Q
  | [], [], _, _, _, _, _, e, rl, re, _, q => by
    simp only [setCs] at e
    cases e
    cases rl
    exact ⟨rfl, q _ re rfl⟩
  | i :: is, d :: ds, _, _, _, g, _, e, rl, re, hv, q => by
    simp only [setCs] at e
    cases rl with
    | cons r1 r2 =>
      exact ⟨_, _, rfl, setCs_ok e r2 (re.set r1) (fun j hj => hv j (List.mem_cons_of_mem _ hj)) fun g' re' w => q g' re' (w.trans (wipe_set (hv i List.mem_cons_self)))⟩
  | [], _ :: _, _, _, _, _, _, e, _, _, _, _ => by simp [setCs] at e
  | _ :: _, [], _, _, _, _, _, e, _, _, _, _ => by simp [setCs] at e
theorem setCs_len : ∀ {is : List Nat} {ds : List D} {r r' : DEnv}, setCs is ds r = some r' → ds.length = is.length
  | [], [], _, _, _ => rfl
  | _ :: is, _ :: ds, _, _, e => by simp only [setCs] at e; rw [List.length_cons, List.length_cons, setCs_len e]
  | [], _ :: _, _, _, e => by simp [setCs] at e
  | _ :: _, [], _, _, e => by simp [setCs] at e
theorem setC_ok {t : CT} {d : D} {v : V} {r r' : DEnv} {g : L2.St} {Q : L2.St → Hp → Prop} (e : setC t d r = some r') (rd : R K H io d v) (re : RE K H io r g) (hv : ∀ i ∈ t.slots, i ∈ vs) (q : ∀ g', RE K H io r' g' → L2.wipe g' vs = L2.wipe g vs → Q g' H) : gC K.f t v g H Q := by
  cases t with
  | one i =>
    simp only [setC] at e
    cases e
    exact q _ (re.set rd) (wipe_set (hv i (List.mem_cons_self)))
  | many is =>
    cases d with
    | tup ds =>
      simp only [setC] at e
      cases rd with
      | tup h1 rl => exact ⟨_, _, rfl, SqT.of h1, by rw [← rl.length]; exact setCs_len e, setCs_ok e rl re hv q⟩
    | ktup ds =>
      simp only [setC] at e
      cases rd with
      | ktup h1 rl => exact ⟨_, _, rfl, h1.sq, by rw [← rl.length]; exact setCs_len e, setCs_ok e rl re hv q⟩
    | _ => simp [setC] at e
end
def yesT : Den Bool := fun _ M => some (.ok true, M)
def compL (nxt : Nat → Sto → Option (Option D)) (ct : CT) (ifs : Den Bool) (elt : Den D) (id : Nat) : Nat → Nat → DEnv → Sto → Option Sto
  | 0, _, _, _ => none
  | n + 1, i, r, M => match nxt i M with
    | none => none
    | some none => some M
    | some (some d) => match setC ct d r with
      | none => none
      | some r1 => match ifs r1 M with
        | some (.ok true, M1) => match elt r1 M1 with
          | some (.ok e, M2) => match (sGet M2 id) with
            | some (.lst acc) => if acc.length < 100000 then compL nxt ct ifs elt id n (i + 1) r (M2.set id (.lst (acc ++ [e]))) else none
            | _ => none
          | _ => none
        | some (.ok false, M1) => compL nxt ct ifs elt id n (i + 1) r M1
        | _ => none
def compE (src : Den Src) (vs : List Nat) (ct : CT) (ifs : Den Bool) (elt : Den D) (n : Nat) : Den D := fun r M => match src r M with
  | some (.ok s, M1) => match compL (nextI s) ct ifs elt M1.length n 0 (wipeD r vs) ((sApp M1 (.lst []))) with
    | some M2 => some (.ok (.lst M1.length), M2)
    | none => none
  | _ => none
theorem compE_lc {c : Cfg} {src : Den Src} {vs : List Nat} {ct : CT} {ifs : Den Bool} {elt : Den D} {n : Nat} {g : L2.St} {H : Hp} {Q : VK} (hv : ∀ i ∈ ct.slots, i ∈ vs)
    (s : sE c (compE src vs ct ifs elt n) g H Q) : tLc (wS c src) (gC c.K.f ct) (sT c ifs) (sE c elt) vs g H Q := by
  obtain ⟨r, M, io, re, rs, x, M', eq, z⟩ := s
  unfold compE at eq
  split at eq
  · rename_i sx M1 es
    split at eq
    · rename_i M2 el
      cases eq
      refine ⟨r, M, io, re, rs, sx, M1, es, fun io1 H1 e1 rs1 J hJ => fun Dd hn => ?_⟩
      have ex0 : Ext c.K io1 H1 (io1 ++ [Dd]) (upd H1 Dd (.lst [])) := Ext.alloc hn
      have rs0 : RS c.K (upd H1 Dd (.lst [])) (io1 ++ [Dd]) ((sApp M1 (.lst []))) := rs1.alloc hn ⟨[], rfl, .nil⟩
      have id0 : (io1 ++ [Dd])[M1.length]? = some Dd := by rw [← rs1.len, List.getElem?_append_right (Nat.le_refl _)]; simp
      have re0 := ((re.mono e1).mono ex0).wipe vs
      refine ⟨fun i m H => ∃ (M : Sto) (io : List Addr), Ext c.K (io1 ++ [Dd]) (upd H1 Dd (.lst [])) io H ∧ RS c.K H io M ∧ ∃ M2, compL (nextI sx) ct ifs elt M1.length m i (wipeD r vs) M = some M2 ∧
        (∀ io' H', Ext c.K io H io' H' → RS c.K H' io' M2 → Q (.ref Dd) H'), ⟨n, (sApp M1 (.lst [])), io1 ++ [Dd], Ext.refl, rs0, _, el, fun io' H' ex rs' => z io' H' ((e1.trans ex0).trans ex) rs' _ (.lst (ex.i _ _ id0))⟩, ?_⟩
      rintro i m H ⟨M, io, ex, rs, M2, el, k⟩
      have re1 := re0.mono ex
      cases m with
      | zero => cases el
      | succ m =>
        unfold compL at el
        split at el
        · cases el
        · rename_i en
          cases el
          exact .inl ⟨hJ.stop i _ io H (ex0.trans ex) rs en, k io H Ext.refl rs⟩
        · rename_i d en
          obtain ⟨go, yl⟩ := hJ.go i M io H d (ex0.trans ex) rs en
          refine .inr ⟨go, fun H => ∃ (M : Sto) (io : List Addr), Ext c.K (io1 ++ [Dd]) (upd H1 Dd (.lst [])) io H ∧ RS c.K H io M ∧ ∃ M2, compL (nextI sx) ct ifs elt M1.length m (i + 1) (wipeD r vs) M = some M2 ∧
            (∀ io' H', Ext c.K io H io' H' → RS c.K H' io' M2 → Q (.ref Dd) H'), fun H' h => ⟨m, Nat.lt_succ_self m, h⟩, fun x H' y => ?_⟩
          obtain ⟨ex2, rs2, rx⟩ := yl x H' y
          split at el
          · cases el
          · rename_i r1 et
            refine setC_ok (vs := vs) et rx (re1.mono ex2) hv fun g2 re2 wp => ⟨wp.trans wipe_wipe, ?_⟩
            split at el
            · rename_i M3 ei
              split at el
              · rename_i e3 M4 ee
                split at el
                · rename_i acc ea
                  split at el
                  · rename_i hl
                    refine ⟨r1, M, io, re2, rs2, .ok true, M3, ei, fun io3 H3 ex3 rs3 b hb => ?_⟩
                    cases hb
                    rw [if_pos rfl]
                    refine ⟨r1, M3, io3, re2.mono ex3, rs3, .ok e3, M4, ee, fun io4 H4 ex4 rs4 v rv => ?_⟩
                    have idD : io4[M1.length]? = some Dd := ex4.i _ _ (ex3.i _ _ (ex2.i _ _ (ex.i _ _ id0)))
                    obtain ⟨xs, hD, rl⟩ := rs4.lst idD ea
                    refine ⟨xs, hD, by rw [← rl.length]; exact big_lt hl, ?_⟩
                    obtain ⟨ex5, rs5⟩ := rs4.wlst idD hD (rl.append (.cons rv .nil))
                    exact ⟨_, io4, (((ex.trans ex2).trans ex3).trans ex4).trans ex5, rs5, M2, el, fun io' H' e rs' => k io' H' ((((ex2.trans ex3).trans ex4).trans ex5).trans e) rs'⟩
                  · cases el
                · cases el
              · cases el
            · rename_i M3 ei
              refine ⟨r1, M, io, re2, rs2, .ok false, M3, ei, fun io3 H3 ex3 rs3 b hb => ?_⟩
              cases hb
              rw [if_neg Bool.false_ne_true]
              exact ⟨M3, io3, (ex.trans ex2).trans ex3, rs3, M2, el, fun io' H' e rs' => k io' H' ((ex2.trans ex3).trans e) rs'⟩
            · cases el
    · cases eq
  · cases eq
theorem PTs.imp {X : Cx} {e : List Expr} {t t' : TT} (h : PTs X e t) (i : ∀ g H Q, t' g H Q → t g H Q) : PTs X e t' := ⟨fun pins s g H Q I q => h.run pins s g H Q I (i g H Q q)⟩
theorem dpts_nil {X : Cx} {c : Cfg} : PTs X [] (sT c yesT) := PTs.imp pts_nil fun g H Q s => by
  obtain ⟨r', M, io, re, rs, run⟩ := s
  exact (run_ok run).ok Ext.refl rs rfl
section
variable {X : Cx} {c : Cfg} {src : Den Src} {ct : CT} {ift : Den Bool} {eltD : Den D} {n : Nat} {elt tg iter : Expr} {ifs : List Expr} {scope : Scope} {own : List (Str × Nat)} {sl : List Nat} {pos spos py : Pos}
theorem de_lc (hK : X.K = c.K.f) (hc : X.calm = true) (hN : X.N.Nodup) (hi : PI X tg iter (wS c src)) (ok : BlkOk X.N X.env.scope scope own) (hv : ∀ i ∈ ct.slots, i ∈ sl)
    (hg : ∀ (s : Shared) (H : Hp) (C : Addr) (cl : List (Str × Addr)) (fp : List Addr), PG (X.blk s H scope (compEnvC scope cl C X.env) fp) tg (gC X.K ct)) (ht : ∀ (s : Shared) (H : Hp) (C : Addr) (cl : List (Str × Addr)) (fp : List Addr), PTs (X.blk s H scope (compEnvC scope cl C X.env) fp) ifs (sT c ift))
    (he : ∀ (s : Shared) (H : Hp) (C : Addr) (cl : List (Str × Addr)) (fp : List Addr), PE (X.blk s H scope (compEnvC scope cl C X.env) fp) elt (sE c eltD)) (hs : ∀ x, foldedSetIterable iter X.env x = pure x := by intro _; rfl) (hsl : own.map (·.2) = sl := by rfl) :
    PE X (.ListComp elt [⟨tg, iter, ifs, 0⟩] scope pos) (sE c (compE src sl ct ift eltD n)) := PE.imp (pe_lc hc hN hi ok hg ht he hs) fun g H Q s => by
  subst hsl
  rw [hK]
  exact compE_lc hv s
theorem ds_setLc {i : Nat} {y : Str} (hK : X.K = c.K.f) (hc : X.calm = true) (hN : X.N.Nodup) (hy : X.N[i]? = some y) (hyl : X.env.scope.names.lookup y = some .local)
    (hsw : swapsWith (.ListComp elt [⟨tg, iter, ifs, 0⟩] scope pos) (some (.Name y py)) spos.line X.env = pure true) (hi : PI X tg iter (wS c src)) (ok : BlkOk X.N X.env.scope scope own) (hv : ∀ i ∈ ct.slots, i ∈ sl)
    (hg : ∀ (s : Shared) (H : Hp) (C : Addr) (cl : List (Str × Addr)) (fp : List Addr), PG (X.blk s H scope (compEnvC scope cl C X.env) fp) tg (gC X.K ct)) (ht : ∀ (s : Shared) (H : Hp) (C : Addr) (cl : List (Str × Addr)) (fp : List Addr), PTs (X.blk s H scope (compEnvC scope cl C X.env) fp) ifs (sT c ift))
    (he : ∀ (s : Shared) (H : Hp) (C : Addr) (cl : List (Str × Addr)) (fp : List Addr), PE (X.blk s H scope (compEnvC scope cl C X.env) fp) elt (sE c eltD)) (hs : ∀ x, foldedSetIterable iter X.env x = pure x := by intro _; rfl) (hsl : own.map (·.2) = sl := by rfl) :
    PS X (.Assign [.Name y py] (.ListComp elt [⟨tg, iter, ifs, 0⟩] scope pos) spos) (sS c (setS (compE src sl ct ift eltD n) (nmT i))) := PS.imp (ps_setLc hc hN hy hyl hsw hi ok hg ht he hs) fun Ds g H s => by
  subst hsl
  have q : sE c (compE src (own.map (·.2)) ct ift eltD n) g H (fun x H1 => gName i x g H1 Ds.nx) := by
    refine sS.bind s fun d x r M1 io1 H1 re rs ra run => ?_
    obtain ⟨fl, r', M', eq, z⟩ := run
    cases eq
    exact z io1 H1 Ext.refl rs _ (re.set ra)
  have q2 := compE_lc hv q
  rw [kt hK] at q2
  exact q2
end
end PyD

-- PyD12
set_option maxRecDepth 100000
set_option maxHeartbeats 4000000
noncomputable section
namespace PyD
open PySem PySem.Spec PyProof.Rows L2
/-! ### short words for defs -/
theorem hu65 {A : Around} {k : Nat} (hr : Room k A) : A.units + 65 < cLine := by have := hr.un; omega
theorem hu1 {A : Around} {k : Nat} (hr : Room k A) : A.units + 1 < cLine := by have := hr.un; omega
def stuckS : SDen := fun _ _ => none
theorem ds_stuck {X : Cx} {c : Cfg} {st : Stmt} : PS X st (sS c stuckS) := PS.imp ps_never fun Ds g H s => by
  obtain ⟨r, M, io, re, rs, fl, r', M', eq, z⟩ := s
  cases eq
theorem dss_stuck {X : Cx} {c : Cfg} {st : List Stmt} : PSs X st (sS c stuckS) := PSs.imp pss_never fun Ds g H s => by
  obtain ⟨r, M, io, re, rs, fl, r', M', eq, z⟩ := s
  cases eq
def stuckE : Den D := fun _ _ => none
theorem de_stuck {X : Cx} {c : Cfg} {e : Expr} : PE X e (sE c stuckE) := PE.stuck
section
variable {X : Cx} {c : Cfg} {x : Str} {pos : Pos}
theorem de_gint {i : Int} (hg : Gl X x) (h : ∃ t, X.mg x = some (.int i t)) (hd : (x == ("__debug__" : Str)) = false := by decide) : PE X (.Name x pos) (sE c (cstD (.int i))) := by
  obtain ⟨t, h⟩ := h
  exact de_cst (pe_glob (v := .int i) hg h ⟨t, rfl⟩ hd) fun _ _ => .int _
theorem de_gstr {i : Str} (hg : Gl X x) (h : ∃ t, X.mg x = some (.str i t)) (hd : (x == ("__debug__" : Str)) = false := by decide) : PE X (.Name x pos) (sE c (cstD (.str i))) := by
  obtain ⟨t, h⟩ := h
  exact de_cst (pe_glob (v := .str i) hg h ⟨t, rfl⟩ hd) fun _ _ => .str _
/-- flat things as data -/
def flatD : V → Option D
  | .non => some .non
  | .bl b => some (.bl b)
  | .int i => some (.int i)
  | .str z => some (.str z)
  | _ => none
def flatDs : List V → Option (List D)
  | [] => some []
  | v :: vs => match flatD v, flatDs vs with
    | some d, some ds => some (d :: ds)
    | _, _ => none
theorem flatD_ok {K : KT} {H : Hp} {io : List Addr} {v : V} {d : D} (e : flatD v = some d) : R K H io d v := by
  cases v <;> simp only [flatD] at e <;> first | (cases e; done) | skip
  · cases e; exact .non
  · cases e; exact .bl _
  · cases e; exact .int _
  · cases e; exact .str _
theorem flatDs_ok {K : KT} {H : Hp} {io : List Addr} : ∀ {vs : List V} {ds : List D}, flatDs vs = some ds → RL K H io ds vs
  | [], _, e => by simp only [flatDs] at e; cases e; exact .nil
  | v :: vs, _, e => by
    simp only [flatDs] at e
    split at e
    · rename_i d ds e1 e2
      cases e
      exact .cons (flatD_ok e1) (flatDs_ok e2)
    · cases e
/-- a written tuple of flat things -/
def KTup (K : PySem.W.Frag) (mg : Str → Option Value) (x : Str) (vs : List V) : Prop := ∃ a, mg x = some (.ref a) ∧ SqK K a vs
theorem de_gtup {vs : List V} {ds : List D} (hK : X.K = c.K.f) (hg : Gl X x) (h : KTup X.K X.mg x vs) (e : flatDs vs = some ds := by rfl) (hd : (x == ("__debug__" : Str)) = false := by decide) : PE X (.Name x pos) (sE c (cstD (.ktup ds))) := by
  obtain ⟨a, h, s⟩ := h
  rw [hK] at s
  exact de_cst (pe_glob (v := .ref a) hg h rfl hd) fun _ _ => .ktup s (flatDs_ok e)
/-- a built-in type as a value -/
theorem de_gty {T : String} (hg : Gl X x) (hm : X.mg x = none) (hv : bootBuiltins x = some (.type T)) (hn : x ≠ "__name__" := by decide) (hd : (x == ("__debug__" : Str)) = false := by decide) : PE X (.Name x pos) (sE c (cstD (.ty T))) :=
  de_cst (pe_bltn (v := .ty T) hg hm hv rfl hn hd) fun _ _ => .ty _
end
/-- a def that is never asked with anything -/
theorem fn_none {P : Program} {w : World} {K : PySem.W.Frag} {mg : Str → Option Value} {base : Heap} {CX : CXT} {k n : Nat} {f : Addr} {fd : FuncData} {ps : List Str} {c : Cfg} : FnOk P w K mg base CX k f fd ps (spF c n fun _ _ => none) := by
  have no : ∀ vs H Q E, ¬ spF c n (fun _ _ => none) vs H Q E := fun vs H Q E h => by
    obtain ⟨M, io, ds, x, M', e, _⟩ := h
    cases e
  exact ⟨fun vs H Q E h => absurd h (no vs H Q E), fun A outer s H args us vs Q E _ _ _ _ h => absurd h (no vs H Q E)⟩
end PyD

-- PyS1
set_option maxRecDepth 100000
set_option maxHeartbeats 4000000
/-! sets of any number of texts: how many are unlike -/
noncomputable section
namespace PyS
open PySem PySem.Spec PyProof.Rows
/-- how many texts are new -/
def dcnt : List Str → Nat → List Str → Nat
  | _, n, [] => n
  | acc, n, x :: r => dcnt (acc ++ [x]) (if acc.any (· == x) then n else n + 1) r
theorem dcnt_le : ∀ (r acc : List Str) (n : Nat), dcnt acc n r ≤ n + r.length
  | [], _, n => by simp [dcnt]
  | x :: r, acc, n => by
    have h := dcnt_le r (acc ++ [x]) (if acc.any (· == x) then n else n + 1)
    simp only [dcnt, List.length_cons]
    split at h <;> rename_i q <;> simp only [q, if_true, if_false] at * <;> first | omega | (simp_all; omega)
section
variable {pr : Program} {w : World} {A : Around} {R : Result → Shared → Prop} {I S : Addr} {fp wr : List Addr} {G : Array GenState → Array GenState → Prop} {N : Nat} {P : Nat → Value → Prop} {St : Nat → Shared → Prop} {xs : List Str}
abbrev Holds (pr : Program) (w : World) (S : Addr) (ys : List Str) (m : Nat) (h : Heap) : Prop := h.SetOf (PySem.strKind pr w) S (fun z => ys.any (· == z)) m
theorem Holds.moved {ys : List Str} {m : Nat} {s t : Shared} (h : Holds pr w S ys m s.heap) (mv : Moved wr G s t) (n : S ∉ wr) : Holds pr w S ys m t.heap := by
  obtain ⟨ob, e1, e2, e3, look, more⟩ := h
  exact ⟨ob, e1, e2, e3, mv.heap S _ n look, more⟩
theorem loopT (W : WalksS pr w A.in1 I fp wr G N P St) (free : S ∉ fp) (len : xs.length = N) (small : xs.length + 1 < scanBound) (val : ∀ j u, P j u → ∃ t, u = .str (xs.getD j Str.empty) t) :
    ∀ (todo acc : List Str) (m : Nat) (s : Shared), acc ++ todo = xs → m ≤ acc.length → St acc.length s → Holds pr w S acc m s.heap →
      (∀ t, Moved (S :: wr) G s t → Holds pr w S xs (dcnt acc m todo) t.heap → R (.ok (.ret .none)) t) → codeAny (model pr w) A (.builtin "set.update.loop" ⟨[.ref S, .ref I], []⟩) R s := by
  have nw : S ∉ wr := fun q => free (W.sub _ q)
  have up : ∀ b ∈ wr, b ∈ S :: wr := fun b q => List.mem_cons_of_mem _ q
  intro todo
  induction todo with
  | nil =>
    intro acc m s e le st h fin
    rw [List.append_nil] at e
    subst e
    rw [len] at st
    refine codeAny_builtin PyProof.Rows.F.entry_set_update_loop ?_
    rw [Around.under_plainId PyProof.Rows.F.plain_set_update_loop _]
    show wpAny _ A.in1 (pyNext (.ref I) >>= _) _ _ s
    exact wpAny_bind (W.done s _ _ st fun t mv => wpAny_pure (fin t (mv.mono up) (h.moved mv nw)))
  | cons x r ih =>
    intro acc m s e le st h fin
    have tot : acc.length + (r.length + 1) = N := by rw [← len, ← e, List.length_append, List.length_cons]
    have at_ : xs.getD acc.length Str.empty = x := by rw [← e, List.getD_eq_getElem?_getD, List.getElem?_append_right (Nat.le_refl _)]; simp
    refine codeAny_builtin PyProof.Rows.F.entry_set_update_loop ?_
    rw [Around.under_plainId PyProof.Rows.F.plain_set_update_loop _]
    show wpAny _ A.in1 (pyNext (.ref I) >>= _) _ _ s
    refine wpAny_bind (W.item acc.length s _ _ (by omega) st fun u t pu st' mv => ?_)
    obtain ⟨k, rfl⟩ := val _ u pu
    rw [at_]
    have h1 := h.moved mv nw
    show wpAny _ A.in1 (holding [Value.str x k] (setAdd S (.str x k)) >>= _) _ _ t
    refine wpAny_bind (wpAny_holding ?_)
    unfold setAdd
    refine wpAny_holding (wpAny_bind ((PySem.strKind pr w).pyHash (k := x) (strKind_is _ _ _ _) ?_))
    refine wpAny_setAddHashed_of (knd := PySem.strKind pr w) (s := { t with toks := t.toks + 1 }) (strKind_is _ _ _ _) rfl h1 (by omega) fun h' same now => ?_
    have now' : Holds pr w S (acc ++ [x]) (if acc.any (· == x) then m else m + 1) h' := by
      refine SetOf_congr now (fun z => ?_) rfl
      rw [List.any_append]
      by_cases q : z = x
      · subst q; simp
      · have q' : (x == z) = false := by simpa [beq_iff_eq] using (fun y : x = z => q y.symm)
        simp [q', q]
    refine wpAny_pure ⟨plainId_quiet PyProof.Rows.F.plain_set_update_loop _, ih (acc ++ [x]) _ _ (by rw [← e, List.append_assoc]; rfl) (by rw [List.length_append, List.length_singleton]; split <;> omega) ?_ now' fun t2 mv2 h2 => ?_⟩
    · rw [List.length_append, List.length_singleton]
      exact W.frame _ t _ _ st' (Nat.le_succ _) fun b hb o q => by
        rw [same.2 b (fun z : b = S => free (by rw [← z]; exact hb))]
        exact q
    · exact fin t2 (Moved.trans W.gtrans ((mv.mono up).then_heap (Nat.le_succ _) fun b o nb q => by
        rw [same.2 b (fun z : b = S => nb (by rw [z]; exact List.mem_cons_self))]
        exact q) mv2) h2
end
end PyS

-- PyS2
set_option maxRecDepth 100000
set_option maxHeartbeats 4000000
noncomputable section
namespace PyS
open PySem PySem.Spec PyProof.Rows L2
section
variable {pr : Program} {w : World} {A : Around} {E : Value → Shared → Prop} {s : Shared} {l : Addr} {its : Array Value} {xs : List Str}
/-- what is there when the set is filled -/
abbrev Full (pr : Program) (w : World) (s : Shared) (xs : List Str) (h' : Heap) : Prop := Holds pr w s.heap.objs.size xs (dcnt [] 0 xs) h' ∧ ∀ b o, b < s.heap.objs.size → s.heap.get? b = some o → h'.get? b = some o
abbrev bareSet (led : Bool) : Obj := { cls := .type "set", dict := none, data := .set #[] 0 (.fresh 0 0 led) }
theorem fill {led : Bool} (hh : A.handled = none) (hl : s.heap.IsList l its) (hi : StrsAre its.toList xs) (small : xs.length + 1 < scanBound) :
    codeAny (model pr w) A (.call (.builtin "set.__init__") ⟨[.ref s.heap.objs.size, .ref l], []⟩) (wants (fun r t => r = .none ∧ ∃ h' tk, t = { s with heap := h', toks := tk } ∧ Full pr w s xs h') E) { s with heap := s.heap.push (bareSet led) } := by
  have nw : (s.heap.push (bareSet led)).get? s.heap.objs.size = some (bareSet led) := Heap.get?_push_size _ rfl
  refine codeAny_call_builtin (R := wants (fun r t => r = .none ∧ ∃ h' tk, t = { s with heap := h', toks := tk } ∧ Full pr w s xs h') E) PySem.F.called_set.init.plain PySem.F.entry_set_init (check_set_init_1 ⟨_, nw, rfl⟩ ?_)
  obtain ⟨⟨ocl, odi, oda, osl⟩, got, e1, cap, e2⟩ := hl
  simp only at e1 e2
  subst e1 e2
  have got' : (s.heap.push (bareSet led)).get? l = some ⟨.type "list", odi, .seq its cap, osl⟩ := Heap.get?_push_of_some _ got
  have il : (s.heap.push (bareSet led)).IsList l its := ⟨_, got', rfl, cap, rfl⟩
  have f1 := PySem.F.sub_list_set
  have f2 := PySem.F.sub_list_frozenset
  have f3 : (Value.type "list" == Value.type "dict") = false := by decide
  unfold Builtin.«set.__init__» noKeywords Builtin.Frozenset.updateFrom
  generalize hgen : pyIter = it
  wp_walk
  subst hgen
  refine wpAny_pyIter_list il (wpAny_bind (wpAny_runValue ?_))
  have lS : l < s.heap.objs.size := Heap.lt_size got
  have sz : (s.heap.push (bareSet led)).objs.size = s.heap.objs.size + 1 := Heap.size_push ..
  have n1 : l ≠ (s.heap.push (bareSet led)).objs.size := by rw [sz]; exact Nat.ne_of_lt (Nat.lt_succ_of_lt lS)
  have n2 : s.heap.objs.size ∉ [(s.heap.push (bareSet led)).objs.size, l] := by
    rw [sz]
    intro z
    rcases List.mem_cons.mp z with z | z
    · exact absurd z (Nat.ne_of_lt (Nat.lt_succ_self _))
    · exact absurd (List.mem_singleton.mp z) (Nat.ne_of_gt lS)
  have len : xs.length = its.size := by rw [← StrsAre.len_eq hi, Array.length_toList]
  refine loopT (xs := xs) ((Walks.list (by simp [hh]) _ l n1 its).toS) n2 len small (fun j u q => SS.strs_at hi j u (by rw [Array.getElem?_toList]; exact q)) xs [] 0 _ rfl (Nat.zero_le _) ⟨⟨_, Heap.get?_push_size _ rfl, rfl, rfl⟩, il.push _⟩ ?_ ?_
  · exact SetOf_congr ((setObjOf_fresh (knd := PySem.strKind pr w) led).setOf (Heap.get?_push_of_some _ nw) (by unfold scanBound; omega)) (fun _ => rfl) rfl
  · rintro ⟨h', g', d', tk', os'⟩ mv full
    obtain rfl : g' = s.gens := mv.gens
    obtain rfl : d' = s.drawn := mv.drawn
    obtain rfl : os' = s.os := mv.os
    show wpAny _ _ _ _ _ _
    refine wpAny_pure ?_
    show wpAny _ _ (ret Value.none) _ _ _
    refine wpAny_pure ⟨rfl, h', tk', rfl, full, fun b o hb q => ?_⟩
    refine mv.heap b o (fun z => ?_) (Heap.get?_push_of_some _ (Heap.get?_push_of_some _ q))
    rcases List.mem_cons.mp z with z | z
    · exact absurd z (Nat.ne_of_lt hb)
    · have z := List.mem_singleton.mp z
      rw [z, sz] at hb
      omega
end
end PyS

-- PyS3
set_option maxRecDepth 100000
set_option maxHeartbeats 4000000
noncomputable section
namespace PyS
open PySem PySem.Spec PyProof.Rows L2
section
variable {pr : Program} {w : World} {A : Around} {E : Value → Shared → Prop} {s : Shared} {l : Addr} {its : Array Value} {xs : List Str}
theorem call_setT {Q : Value → Shared → Prop} (hh : A.handled = none) (hl : s.heap.IsList l its) (hi : StrsAre its.toList xs) (small : xs.length + 1 < scanBound)
    (fin : ∀ (h' : Heap) (tk : Nat), Full pr w s xs h' → Q (.ref s.heap.objs.size) { s with heap := h', toks := tk }) : wpAny (model pr w) A (call (.type "set") [.ref l]) Q E s := by
  obtain ⟨cl, tl, mro⟩ := PySem.F.called_set.mro
  have m1 := PySem.F.called_set.made
  have m2 := PySem.F.called_set.sub
  refine wpAny_call (codeAny_of_tree ?_)
  show wpAny _ _ (callAny (.type "set") _) _ _ _
  refine wpAny_pure ⟨Code.quiet_builtin _ (by decide +kernel), ?_⟩
  refine codeAny_builtin PySem.F.entry_type_call ?_
  rw [Around.under_plain (weight_type_call_type "set" [.ref l] []) rfl]
  have m3 := PySem.F.called_set.notType
  have m4 := PySem.F.called_set.canCreate
  have m5 := PySem.F.typeCall_set_1 (.ref l)
  repeat (any_goals (first | assumption | wp_step))
  refine codeAny_mono (code_set_new_1 (.ref l) (E := E) (Q₁ := fun ob t => ∃ led : Bool, ob = .ref s.heap.objs.size ∧ t = { s with heap := s.heap.push (bareSet led) }) fun led => ⟨led, rfl, rfl⟩) ?_
  intro r t got
  cases r with
  | error e => exact got
  | ok fl =>
    cases fl with
    | ret ob =>
      obtain ⟨led, rfl, rfl⟩ := got
      have t0 : Shared.TypeIs { s with heap := s.heap.push (bareSet led) } (.ref s.heap.objs.size) "set" := ⟨_, Heap.get?_push_size _ rfl, rfl⟩
      have t1 := PySem.F.called_set.init.lookup
      have t2 := PySem.F.called_set.init.bind (.ref s.heap.objs.size)
      repeat (any_goals (first | assumption | wp_step))
      refine codeAny_mono (fill (E := E) (by simpa using hh) hl hi small) ?_
      intro r2 t2 got2
      cases r2 with
      | error e => exact got2
      | ok fl2 =>
        cases fl2 with
        | ret r =>
          obtain ⟨rfl, h', tk, rfl, full⟩ := got2
          repeat (any_goals (first | assumption | wp_step))
          exact fin _ _ full
        | _ => exact got2.elim
    | _ => exact got.elim
end
/-- len(set(texts of a list)) -/
def tLenSetN (K : PySem.W.Frag) (ta : TE) : TE := fun g H Q => ta g H fun x H1 => ∃ l, ∃ xs : List Str, x = .ref l ∧ SqL K H1 l (xs.map V.str) ∧ xs.length < 4000 ∧ Q (.int (dcnt [] 0 xs)) H1
theorem pe_lenSetN {X : Cx} {a : Expr} {ta : TE} {p p2 q pos : Pos} (hc : X.calm = true) (hg : Gl X "len") (hm : X.mg "len" = none) (hg2 : Gl X "set") (hm2 : X.mg "set" = none) (ha : PE X a ta)
    (na : starEach [a] X.env = (false, eval a X.env) :: starEach [] X.env := by rfl) : PE X (.Call (.Name "len" p) [.Call (.Name "set" p2) [a] [] q] [] pos) (tLenSetN X.K ta) := by
  refine ⟨fun pins s g H Q I h => Call_ (ld_blt I hg hm boot_len (callWith_builtin1 (args_cons (Call_ (ld_blt I hg2 hm2 boot_set ?_)) rfl) rfl rfl))⟩
  refine callWith_type1 (args_cons (thn (ha.run pins s g H _ I h) fun v s1 ⟨x, H1, I1, r1, q1⟩ => args_nil ?_) na) na rfl
  obtain ⟨l, xs, rfl, hq, sm, q1⟩ := q1
  cases r1
  obtain ⟨its, r, pl, hz⟩ := I1.list hq
  refine call_setT (I1.ok.hd hc) pl.isList (by simpa using L2.strsAre_of r) (by unfold scanBound; omega) fun h' tk full => args_nil ?_
  obtain ⟨⟨ob, es, ep, t, look, ex, da, _, _, _, hf, hn⟩, kept⟩ := full
  have I2 : Inv X pins g H1 { s1 with heap := h', toks := tk } := I1.kept fun b o e => kept b o (Heap.lt_size e) e
  exact call_len_set look ex da hf (by have z := dcnt_le xs [] 0; rw [hn]; omega) ⟨.int (dcnt [] 0 xs), H1, I2.tok _, ⟨_, by rw [hn]⟩, q1⟩
end PyS

-- PyD13
set_option maxRecDepth 100000
set_option maxHeartbeats 4000000
noncomputable section
namespace PyD
open PySem PySem.Spec PyProof.Rows L2 RZ
/-! ### how many texts are unlike -/
def lenSetD (d : D) (M : Sto) : Option (D × Sto) :=
  match lstOf d M with
  | some ds => match strsD ds with
    | some xs => if xs.length < 4000 then some (.int (PyS.dcnt [] 0 xs), M) else none
    | none => none
  | none => none
section
variable {X : Cx} {c : Cfg} {f h : Den D} {e a b o i v : Expr} {pos : Pos} {tg : Expr}
theorem de_lenSet {p p2 q : Pos} (hK : X.K = c.K.f) (hc : X.calm = true) (hg : Gl X "len") (hm : X.mg "len" = none) (hg2 : Gl X "set") (hm2 : X.mg "set" = none) (ha : PE X a (sE c f))
    (na : starEach [a] X.env = (false, eval a X.env) :: starEach [] X.env := by rfl) : PE X (.Call (.Name "len" p) [.Call (.Name "set" p2) [a] [] q] [] pos) (sE c (op1 lenSetD f)) :=
  PE.imp (PyS.pe_lenSetN hc hg hm hg2 hm2 ha na) fun g H Q s => by
    refine sG.bind s fun d x r M1 io1 H1 re rs ra run => ?_
    obtain ⟨z, M3, e, k⟩ := run.lift
    unfold lenSetD at e
    split at e
    · rename_i ds e1
      split at e
      · rename_i xs e2
        split at e
        · rename_i hl
          cases e
          obtain ⟨p, vs, rfl, hp, rl⟩ := lstOf_ok e1 rs ra
          have z := strs_of e2 rl
          subst z
          rw [hK]
          exact ⟨p, xs, rfl, SqL.of hp, hl, k.ok Ext.refl rs (.int _)⟩
        · cases e
      · cases e
    · cases e
/-! ### zip -/
def isTp : D → Bool
  | .tup _ => true
  | .ktup _ => true
  | _ => false
def isLs : D → Bool
  | .lst _ => true
  | _ => false
def zipSrc (f : Den (List D)) : Den Src := bindD f fun ds _ M => match ds with
  | [a, b] => if (isTp a && isTp b || isLs a && isLs b) && (itemsD a M).isSome && (itemsD b M).isSome then some (.ok (.zip a b), M) else none
  | _ => none
theorem tp_of {K : KT} {H : Hp} {io : List Addr} {d : D} {x : V} (t : isTp d = true) (r : R K H io d x) : ∃ p xs ds, x = .ref p ∧ (∀ M, itemsD d M = some ds) ∧ ∀ io' H', Ext K io H io' H' → SqT K.f H' p xs ∧ RL K H' io' ds xs := by
  cases r <;> first | (cases t; done) | skip
  · rename_i a xs ds h1 rl
    exact ⟨a, xs, ds, rfl, fun M => rfl, fun io' H' e => ⟨SqT.of (e.t _ _ h1), rl.mono e⟩⟩
  · rename_i a xs ds h1 rl
    exact ⟨a, xs, ds, rfl, fun M => rfl, fun io' H' e => ⟨h1.sq, rl.mono e⟩⟩
theorem sqT_uniq {K : KT} {H : Hp} {a : Addr} {xs : List V} (h : SqT K.f H a xs) {io : List Addr} {ds : List D} (rl : RL K H io ds xs) : SqT K.f H a xs := h
theorem jok_zipT {c : Cfg} {io : List Addr} {H : Hp} {a b : D} {x y : V} {p q : Addr} (ta : isTp a = true) (tb : isTp b = true) (ra : R c.K H io a x) (rb : R c.K H io b y) (ex : x = .ref p) (ey : y = .ref q) : JOk c io H (ItzT c.K.f p q) (nextI (.zip a b)) := by
  obtain ⟨p1, xs, ds, e1, i1, k1⟩ := tp_of ta ra
  obtain ⟨p2, ys, es, e2, i2, k2⟩ := tp_of tb rb
  subst ex ey
  cases e1
  cases e2
  refine ⟨fun i M io' H' e rs h => ?_, fun i M io' H' d e rs h => ?_⟩
  · obtain ⟨q1, r1⟩ := k1 io' H' e
    obtain ⟨q2, r2⟩ := k2 io' H' e
    refine ⟨xs, ys, q1, q2, ?_⟩
    have l1 := r1.length
    have l2 := r2.length
    simp only [nextI, i1, i2] at h
    have h := Option.some.inj h
    split at h
    · cases h
    · rename_i hn
      by_cases z1 : i < ds.length
      · by_cases z2 : i < es.length
        · exact absurd (List.getElem?_eq_getElem z2) (fun w => hn _ _ (List.getElem?_eq_getElem z1) w)
        · exact .inr (by omega)
      · exact .inl (by omega)
  · obtain ⟨q1, r1⟩ := k1 io' H' e
    obtain ⟨q2, r2⟩ := k2 io' H' e
    simp only [nextI, i1, i2] at h
    have h := Option.some.inj h
    split at h
    · rename_i u w hu hw
      cases h
      obtain ⟨v1, g1, rv1⟩ := r1.get hu
      obtain ⟨v2, g2, rv2⟩ := r2.get hw
      refine ⟨⟨xs, ys, v1, v2, q1, q2, g1, g2⟩, fun z H'' y => ?_⟩
      obtain ⟨T, x', y', rfl, hT, rfl, f1, f2⟩ := y
      have s1 := f1 xs q1
      have s2 := f2 ys q2
      rw [g1] at s1
      rw [g2] at s2
      cases s1
      cases s2
      exact ⟨Ext.tupNew hT, rs.tupNew hT, .tup upd_same (.cons (rv1.mono (Ext.tupNew hT)) (.cons (rv2.mono (Ext.tupNew hT)) .nil))⟩
    · cases h
theorem jok_zipL {c : Cfg} {io : List Addr} {H : Hp} {j k : Nat} {p q : Addr} (ep : io[j]? = some p) (eq : io[k]? = some q) : JOk c io H (Itz c.K.f p q) (nextI (.zip (.lst j) (.lst k))) := by
  refine ⟨fun i M io' H' e rs h => ?_, fun i M io' H' d e rs h => ?_⟩
  · unfold nextI itemsD at h
    dsimp only at h
    cases m1 : (sGet M j) with
    | none => rw [m1] at h; cases h
    | some c1 =>
      cases m2 : (sGet M k) with
      | none => rw [m1, m2] at h; cases c1 <;> cases h
      | some c2 =>
        rw [m1, m2] at h
        cases c1 <;> cases c2 <;> first | (cases h; done) | skip
        rename_i ds es
        obtain ⟨xs, h1, r1⟩ := rs.lst (e.i _ _ ep) m1
        obtain ⟨ys, h2, r2⟩ := rs.lst (e.i _ _ eq) m2
        refine ⟨xs, ys, SqL.of h1, SqL.of h2, ?_⟩
        have l1 := r1.length
        have l2 := r2.length
        have h := Option.some.inj h
        split at h
        · cases h
        · rename_i hn
          by_cases z1 : i < ds.length
          · by_cases z2 : i < es.length
            · exact absurd (List.getElem?_eq_getElem z2) (fun w => hn _ _ (List.getElem?_eq_getElem z1) w)
            · exact .inr (by omega)
          · exact .inl (by omega)
  · unfold nextI itemsD at h
    dsimp only at h
    cases m1 : (sGet M j) with
    | none => rw [m1] at h; cases h
    | some c1 =>
      cases m2 : (sGet M k) with
      | none => rw [m1, m2] at h; cases c1 <;> cases h
      | some c2 =>
        rw [m1, m2] at h
        cases c1 <;> cases c2 <;> first | (cases h; done) | skip
        rename_i ds es
        obtain ⟨xs, h1, r1⟩ := rs.lst (e.i _ _ ep) m1
        obtain ⟨ys, h2, r2⟩ := rs.lst (e.i _ _ eq) m2
        have h := Option.some.inj h
        split at h
        · rename_i u w hu hw
          cases h
          obtain ⟨v1, g1, rv1⟩ := r1.get hu
          obtain ⟨v2, g2, rv2⟩ := r2.get hw
          refine ⟨⟨xs, ys, v1, v2, SqL.of h1, SqL.of h2, g1, g2⟩, fun z H'' y => ?_⟩
          obtain ⟨T, x', y', rfl, hT, rfl, f1, f2⟩ := y
          have s1 := f1 xs (SqL.of h1)
          have s2 := f2 ys (SqL.of h2)
          rw [g1] at s1
          rw [g2] at s2
          cases s1
          cases s2
          exact ⟨Ext.tupNew hT, rs.tupNew hT, .tup upd_same (.cons (rv1.mono (Ext.tupNew hT)) (.cons (rv2.mono (Ext.tupNew hT)) .nil))⟩
        · cases h
end
end PyD

-- PyD14
set_option maxRecDepth 100000
set_option maxHeartbeats 4000000
noncomputable section
namespace PyD
open PySem PySem.Spec PyProof.Rows L2 RZ
section
variable {X : Cx} {c : Cfg} {f h k : Den D} {hs : Den (List D)} {e e2 a b o i v : Expr} {pos : Pos} {tg : Expr}
theorem ls_of {K : KT} {H : Hp} {io : List Addr} {d : D} {x : V} (t : isLs d = true) (r : R K H io d x) : ∃ j p, d = .lst j ∧ x = .ref p ∧ io[j]? = some p := by
  cases r <;> first | (cases t; done) | skip
  exact ⟨_, _, rfl, rfl, by assumption⟩
theorem itemsD_L {K : KT} {H : Hp} {io : List Addr} {M : Sto} {j : Nat} {p : Addr} (rs : RS K H io M) (e : io[j]? = some p) (h : (itemsD (.lst j) M).isSome = true) : ∃ xs, SqL K.f H p xs := by
  unfold itemsD at h
  dsimp only at h
  split at h
  · rename_i em
    obtain ⟨xs, h1, _⟩ := rs.lst e em
    exact ⟨xs, SqL.of h1⟩
  · cases h
theorem dp_zip {elts : List Expr} {kk : Nat} {tpos p : Pos} (hK : X.K = c.K.f) (hg : Gl X "zip") (hm : X.mg "zip" = none) (ha : PA X [e, e2] (sA c hs))
    (hst : starEach [e, e2] X.env = (false, eval e X.env) :: starEach [e2] X.env := by rfl) (hpl : (backTo pos (starEach [e2] X.env)).any (·.1) = false := by rfl) :
    PI X (.Tuple elts kk tpos) (.Call (.Name "zip" p) [e, e2] [] pos) (wS c (zipSrc hs)) := PI.imp (pi_zipA hg hm ha hst hpl) fun g H Q s => by
  obtain ⟨r, M, io, re, rs, sx, M', eq, k⟩ := s
  obtain ⟨ds, M1, ef, ek⟩ := bind_ok eq
  rw [hK]
  split at ek
  · rename_i a b
    split at ek
    · rename_i hl
      cases ek
      refine ⟨r, M, io, re, rs, .ok _, _, ef, fun io1 H1 e1 rs1 vs rv => ?_⟩
      obtain ⟨x, y, rfl, rx, ry⟩ := rv.two
      rw [Bool.and_eq_true, Bool.and_eq_true, Bool.or_eq_true, Bool.and_eq_true, Bool.and_eq_true] at hl
      obtain ⟨⟨hk, h1⟩, h2⟩ := hl
      rcases hk with ⟨ta, tb⟩ | ⟨ta, tb⟩
      · obtain ⟨p, xs, as, rfl, i1, k1⟩ := tp_of ta rx
        obtain ⟨q, ys, bs, rfl, i2, k2⟩ := tp_of tb ry
        exact ⟨p, q, xs, ys, rfl, .inr ⟨(k1 io1 H1 Ext.refl).1, (k2 io1 H1 Ext.refl).1, k io1 H1 e1 rs1 _ (jok_zipT ta tb rx ry rfl rfl)⟩⟩
      · obtain ⟨j, p, rfl, rfl, ep⟩ := ls_of ta rx
        obtain ⟨l, q, rfl, rfl, eq⟩ := ls_of tb ry
        obtain ⟨xs, hx⟩ := itemsD_L rs1 ep h1
        obtain ⟨ys, hy⟩ := itemsD_L rs1 eq h2
        exact ⟨p, q, xs, ys, rfl, .inl ⟨hx, hy, k io1 H1 e1 rs1 _ (jok_zipL ep eq)⟩⟩
    · cases ek
  · cases ek
/-! ### dicts made, written -/
def dk0 : Den D := fun _ M => some (.ok (.dic M.length), (sApp M (.dk [])))
def dt0 : Den D := fun _ M => some (.ok (.dic M.length), (sApp M (.dt [])))
theorem de_dk0 (hK : X.K = c.K.f) : PE X (.Dict [] [] pos) (sE c dk0) := PE.imp pe_dnewK fun g H Q s => by
  obtain ⟨r, M, io, re, rs, x, M', eq, k⟩ := s
  cases eq
  intro p n
  exact k (io ++ [p]) _ (Ext.alloc n) (rs.alloc n ⟨[], rfl, .nil⟩) _ (.dic (by rw [← rs.len, List.getElem?_append_right (Nat.le_refl _)]; simp))
theorem de_dt0 (hK : X.K = c.K.f) : PE X (.Dict [] [] pos) (sE c dt0) := PE.imp pe_dnewT fun g H Q s => by
  obtain ⟨r, M, io, re, rs, x, M', eq, k⟩ := s
  cases eq
  intro p n
  exact k (io ++ [p]) _ (Ext.alloc n) (rs.alloc n ⟨[], rfl, .nil⟩) _ (.dic (by rw [← rs.len, List.getElem?_append_right (Nat.le_refl _)]; simp))
theorem rkv_len {κ : Type} {K : KT} {H : Hp} {io : List Addr} : ∀ {a : List (κ × D)} {b : List (κ × V)}, RKV K H io a b → a.length = b.length
  | [], _, h => by cases h; rfl
  | _ :: _, _, h => by
    cases h with
    | cons _ t => rw [List.length_cons, List.length_cons, rkv_len t]
theorem rkv_any {κ : Type} [DecidableEq κ] {K : KT} {H : Hp} {io : List Addr} (k : κ) : ∀ {a : List (κ × D)} {b : List (κ × V)}, RKV K H io a b → (a.any fun kv => decide (kv.1 = k)) = (b.any fun kv => decide (kv.1 = k))
  | [], _, h => by cases h; rfl
  | _ :: _, _, h => by
    cases h with
    | cons r t => rw [List.any_cons, List.any_cons, r.1, rkv_any k t]
theorem rkv_map {κ : Type} [DecidableEq κ] {K : KT} {H : Hp} {io : List Addr} (k : κ) {d : D} {v : V} (rv : R K H io d v) : ∀ {a : List (κ × D)} {b : List (κ × V)}, RKV K H io a b →
    RKV K H io (a.map fun kv => if kv.1 = k then (kv.1, d) else kv) (b.map fun kv => if kv.1 = k then (kv.1, v) else kv)
  | [], _, h => by cases h; exact .nil
  | p :: _, _, h => by
    cases h with
    | @cons _ q _ _ r t =>
      rw [List.map_cons, List.map_cons]
      refine .cons ?_ (rkv_map k rv t)
      rw [r.1]
      by_cases z : q.1 = k
      · rw [if_pos z, if_pos z]; exact ⟨rfl, rv⟩
      · rw [if_neg z, if_neg z]; exact ⟨r.1, r.2⟩
theorem rkv_snoc {κ : Type} {K : KT} {H : Hp} {io : List Addr} {p : κ × D} {q : κ × V} (e : p.1 = q.1) (rv : R K H io p.2 q.2) : ∀ {a : List (κ × D)} {b : List (κ × V)}, RKV K H io a b → RKV K H io (a ++ [p]) (b ++ [q])
  | [], _, h => by cases h; exact .cons ⟨e, rv⟩ .nil
  | _ :: _, _, h => by
    cases h with
    | cons r t => exact .cons r (rkv_snoc e rv t)
theorem RKV.put {κ : Type} [DecidableEq κ] {K : KT} {H : Hp} {io : List Addr} {a : List (κ × D)} {b : List (κ × V)} (h : RKV K H io a b) (k : κ) {d : D} {v : V} (rv : R K H io d v) : RKV K H io (putKD a k d) (putK b k v) := by
  unfold putKD putK
  rw [rkv_any k h]
  split
  · exact rkv_map k rv h
  · exact rkv_snoc rfl rv h
def putD (o k v : D) (M : Sto) : Option Sto :=
  match o with
  | .dic i => match (sGet M i) with
    | some (.dk kvs) => match keyD k with
      | some k => if kvs.length < 100000 then some (M.set i (.dk (putKD kvs k v))) else none
      | none => none
    | some (.dt kvs) => match k with
      | .tup ks => match keysD ks with
        | some ks => if kvs.length < 100000 then some (M.set i (.dt (putKD kvs ks v))) else none
        | none => none
      | _ => none
    | _ => none
  | .lst i => match k, (sGet M i) with
    | .int z, some (.lst ds) => match ixN ds.length z with
      | some j => some (M.set i (.lst (ds.set j v)))
      | none => none
    | _, _ => none
  | _ => none
def putS (fo fk fv : Den D) : SDen := bindS fv fun v => bindS fo fun o => bindS fk fun k r M => match putD o k v M with
  | some M' => some (.nx, r, M')
  | none => none
/-- o[i] = v: a dict or a list -/
def sPut (td ty tv : TE) : TS := fun Ds g H => tv g H fun v H1 => td g H1 fun x H2 => ty g H2 fun y H3 => (∃ a H4, x = .ref a ∧ DPut H3 a y v H4 ∧ Ds.nx g H4) ∨ rSetL x y v H3 (fun H4 => Ds.nx g H4)
theorem ps_put {td ty tv : TE} {p' : Pos} (hu : X.A.units + 1 < cLine) (ho : PE X o td) (hi : PE X i ty) (hv : PE X v tv) (hs : swapsWith v (some (.Subscript o i p')) pos.line X.env = pure false) :
    PS X (.Assign [.Subscript o i p'] v pos) (sPut td ty tv) := by
  refine ⟨fun pins s g H Ds I h => wpAny_Assign_Subscript (thn (hv.run pins s g H _ I h) fun r s1 ⟨x1, H1, I1, rv, q1⟩ => thn (ho.run pins s1 g H1 _ I1 q1) fun u s2 ⟨x2, H2, I2, rx, q2⟩ => thn (hi.run pins s2 g H2 _ I2 q2) fun iv s3 ⟨y, H3, I3, ry, q3⟩ => ?_) hs⟩
  rcases q3 with ⟨a, H4, ex, gg, q3⟩ | q3
  · subst ex
    obtain rfl : u = Value.ref a := rx
    exact d_setItem hu I3 gg ry rv fun s4 I4 => ⟨g, H4, I4, q3⟩
  · exact thn (set_list pins s3 g H3 _ _ _ _ _ _ _ I3 rx ry rv q3) fun _ s4 ⟨H4, I4, q4⟩ => ⟨g, H4, I4, q4⟩
theorem ds_put {p' : Pos} (hK : X.K = c.K.f) (hu : X.A.units + 1 < cLine) (ho : PE X o (sE c f)) (hi : PE X i (sE c h)) (hv : PE X v (sE c k)) (hs : swapsWith v (some (.Subscript o i p')) pos.line X.env = pure false := by rfl) :
    PS X (.Assign [.Subscript o i p'] v pos) (sS c (putS f h k)) := PS.imp (ps_put hu ho hi hv hs) fun Ds g H s => by
  refine sS.bind s fun d x r M1 io1 H1 re rs ra run => ?_
  refine ⟨r, M1, io1, re, rs, run.bind fun d2 x2 M2 io2 H2 e2 rs2 ra2 run2 => ?_⟩
  refine ⟨r, M2, io2, re.mono e2, rs2, run2.bind fun d3 x3 M3 io3 H3 e3 rs3 ra3 run3 => ?_⟩
  obtain ⟨fl, r', M', eq, z⟩ := run3
  dsimp only at eq
  split at eq
  · rename_i M4 e4
    cases eq
    have rd := ra.mono (e2.trans e3)
    have ro := ra2.mono e3
    have re3 := (re.mono e2).mono e3
    unfold putD at e4
    split at e4
    · rename_i j
      cases ro with
      | dic ei =>
        obtain ⟨cc, ob, m1, h1, rc⟩ := rs3.there ei
        rw [m1] at e4
        cases cc with
        | lst ds => cases e4
        | dead => cases e4
        | ob cl fs => cases e4
        | dk kvs =>
          dsimp only at e4
          obtain ⟨xs, rfl, rk⟩ := rc
          split at e4
          · rename_i kk ek
            split at e4
            · rename_i hl
              cases e4
              have nt : notTup (.dK xs) := nt_dk
              have ex := Ext.write (K := c.K) (io := io3) (o := .dK (putK xs kk x)) h1 nt
              rw [key_of_D ek ra3]
              exact .inl ⟨_, _, rfl, DPut.k h1 (by rw [← rkv_len rk]; exact big_lt hl), z io3 _ ex (rs3.write ei h1 nt ⟨_, rfl, (RKV.put rk kk rd).mono ex⟩) g (re3.mono ex)⟩
            · cases e4
          · cases e4
        | dt kvs =>
          dsimp only at e4
          obtain ⟨xs, rfl, rk⟩ := rc
          split at e4
          · rename_i ks
            split at e4
            · rename_i kk ek
              split at e4
              · rename_i hl
                cases e4
                cases ra3 with
                | tup hb rl =>
                  have zz := keys_of_D ek rl
                  subst zz
                  have nt : notTup (.dT xs) := nt_dt
                  have ex := Ext.write (K := c.K) (io := io3) (o := .dT (putK xs kk x)) h1 nt
                  exact .inl ⟨_, _, rfl, DPut.t h1 hb (by rw [← rkv_len rk]; exact big_lt hl), z io3 _ ex (rs3.write ei h1 nt ⟨_, rfl, (RKV.put rk kk rd).mono ex⟩) g (re3.mono ex)⟩
              · cases e4
            · cases e4
          · cases e4
    · rename_i j
      split at e4
      · rename_i zz ds m1
        split at e4
        · rename_i n en
          cases e4
          cases ra3
          obtain ⟨a1, xs, rfl, i1, h1, r1⟩ := lst_at ro rs3 m1
          have nt : notTup (.lst xs) := nt_lst
          have ex := Ext.write (K := c.K) (io := io3) (o := .lst (xs.set n x)) h1 nt
          refine .inr ⟨a1, xs, zz, n, rfl, rfl, h1, by rw [← r1.length]; exact en, ?_⟩
          exact z io3 _ ex (rs3.write i1 h1 nt ⟨_, rfl, (r1.set rd n).mono ex⟩) g (re3.mono ex)
        · cases e4
      · cases e4
    · cases e4
  · cases eq
end
end PyD

-- PyD15
set_option maxRecDepth 100000
set_option maxHeartbeats 4000000
noncomputable section
namespace PyD
open PySem PySem.Spec PyProof.Rows L2 RZ
section
variable {X : Cx} {c : Cfg} {f h k : Den D} {hs : Den (List D)} {e e2 a b o i v : Expr} {pos : Pos} {tg : Expr}
/-! ### texts put together -/
def fmtD (d : D) (M : Sto) : Option (D × Sto) :=
  match d with
  | .str y => if y.length ≤ 100000 then some (.str y, M) else none
  | .int i => if i.natAbs.log2 < 1900 then some (.str (toString i), M) else none
  | _ => none
theorem de_fmt (he : PE X e (sE c f)) : PE X (.FormattedValue e (-1) none pos) (sE c (op1 fmtD f)) := PE.imp (pe_fmt he) fun g H Q s => by
  refine sG.bind s fun d x r M1 io1 H1 re rs ra run => ?_
  obtain ⟨z, M3, eq, k⟩ := run.lift
  unfold fmtD at eq
  split at eq
  · split at eq
    · rename_i hl
      cases eq; cases ra
      exact .inl ⟨_, rfl, big_le hl, k.ok Ext.refl rs (.str _)⟩
    · cases eq
  · split at eq
    · rename_i hl
      cases eq; cases ra
      exact .inr ⟨_, rfl, by omega, k.ok Ext.refl rs (.str _)⟩
    · cases eq
  · cases eq
def joinF : List (Den D) → Str → Den D
  | [], acc => fun _ M => some (.ok (.str acc), M)
  | p :: ps, acc => bindD p fun d => match d with
    | .str y => if (acc ++ y).length ≤ 100000 then joinF ps (acc ++ y) else fun _ _ => none
    | _ => fun _ _ => none
inductive PJD (X : Cx) (c : Cfg) : List Expr → List (Den D) → Prop where
  | nil : PJD X c [] []
  | cons {e : Expr} {t : Den D} {es : List Expr} {ts : List (Den D)} (h : PE X e (sE c t)) (r : PJD X c es ts) : PJD X c (e :: es) (t :: ts)
theorem PJD.to {es : List Expr} {ts : List (Den D)} (h : PJD X c es ts) : PJ X es (ts.map (sE c)) := by
  induction h with
  | nil => exact .nil
  | cons h r ih => exact .cons h ih
theorem joinF_ok : ∀ (ts : List (Den D)) (acc : Str) (g : L2.St) (H : Hp) (Q : VK), sE c (joinF ts acc) g H Q → tJs (ts.map (sE c)) acc g H fun out H1 => Q (.str out) H1
  | [], acc, g, H, Q, s => by
    obtain ⟨r, M, io, re, rs, x, M', eq, k⟩ := s
    cases eq
    exact k.ok Ext.refl rs (.str _)
  | p :: ps, acc, g, H, Q, s => by
    refine sG.bind s fun d x r M1 io1 H1 re rs ra run => ?_
    cases d with
    | str y =>
      dsimp only at run
      split at run
      · rename_i hl
        cases ra
        exact ⟨y, rfl, big_le hl, joinF_ok ps _ g H1 Q ⟨r, M1, io1, re, rs, run⟩⟩
      · obtain ⟨x, M', eq, k⟩ := run
        cases eq
    | _ => obtain ⟨x, M', eq, k⟩ := run; cases eq
theorem de_joined {v1 v2 : Expr} {rest : List Expr} {ts : List (Den D)} (h : PJD X c (v1 :: v2 :: rest) ts) : PE X (.JoinedStr (v1 :: v2 :: rest) pos) (sE c (joinF ts Str.empty)) := PE.imp (pe_joined h.to) fun g H Q s => joinF_ok ts _ g H Q s
theorem de_joined1 (h : PE X e (sE c f)) : PE X (.JoinedStr [e] pos) (sE c f) := pe_joined1 h
/-! ### raise with what is worked out -/
theorem pmk_ownN {C : Addr} {bmB : List Value} {B newId initId : String} {x : Str} {p : Pos} {es : List Expr} {t : TA} (F : ExcBaseFacts B newId initId bmB) (q : PySem.W.excIn X.K C bmB newId = true) (gC : X.mg x = some (.ref C)) (kC : PySem.W.keepIn X.K (.ref C) = true) (r : Raises X (.ref C)) (hg : Gl X x) (ha : PA X (e :: es) t)
    (hd : (x == ("__debug__" : Str)) = false := by decide) (hst : starEach (e :: es) X.env = (false, eval e X.env) :: starEach es X.env := by rfl) (hpl : (backTo pos (starEach es X.env)).any (·.1) = false := by rfl) :
    L2N.PMk X (.Call (.Name x p) (e :: es) [] pos) (fun g H Q => t g H fun vs H1 => vs.length ≤ sizeLine ∧ Q (.ref C) none H1) := by
  intro pins s g H Q I h
  refine wpAny_Call_Name_kw (ld_glob I hg gC (PySem.W.callWith_K (h₀ := X.base) I.ok.mod.kin kC (thn (ha.run pos pins s g H _ I h) fun us s1 ⟨vs, H1, I1, r1, hz, q1⟩ => ⟨I1.kIn, ?_⟩) hst hpl) hd)
  show wpAny _ _ (call (.ref C) us) _ _ _
  obtain ⟨bm, N, nm, qn, bs, hdct, sn, sub, ab, col, dd, k0, k1, k2, k3, k5, mN, hC, hN, hni, T⟩ := exc_obj I1.kIn q
  exact wpAny_call_exc_subT F T hC hN hni (fun h' e hm => L2N.mk_of I1 hm r q1 (I1.hok.gone hm.new)) (by rw [← r1.length]; exact hz)
def raiseAS (cls : Str) (as : Den (List D)) : SDen := bindS as fun ds r M => if ds.length ≤ 100000 then some (.ex ⟨cls, none⟩, r, M) else none
theorem ds_raiseA {cls : Str} {C : Addr} (hc : X.calm = true) (tk : L2N.Takes X (fun cls d _ H => c.W cls d H)) (hm : c.mg cls = some (.ref C)) (he : L2N.PMk X e (fun g H Q => sA c hs g H fun vs H1 => vs.length ≤ sizeLine ∧ Q (.ref C) none H1)) :
    PS X (.Raise (some e) none pos) (sS c (raiseAS cls hs)) := PS.imp (L2N.ps_raise hc tk he) fun Ds g H s => by
  refine sS.bind s fun ds vs r M1 io1 H1 re rs ra run => ?_
  obtain ⟨fl, r', M', eq, z⟩ := run
  dsimp only at eq
  split at eq
  · rename_i hl
    cases eq
    exact ⟨by rw [← ra.length]; exact big_le hl, z io1 H1 Ext.refl rs (.ref C) none ⟨hm, rfl⟩⟩
  · cases eq
/-! ### a written dict -/
def lookS (kds : List (Str × D)) (d : D) (M : Sto) : Option (D × Sto) :=
  match d with
  | .str z => match kds.find? fun p => sbeq p.1 z with
    | some p => some (p.2, M)
    | none => none
  | _ => none
/-- the dict of the written part that x names: its texts and what they lead to -/
def KDic (K : PySem.W.Frag) (w : World) (mg : Str → Option Value) (x : Str) (kds : List (Str × D)) : Prop := ∃ a, mg x = some (.ref a) ∧ ∀ p ∈ kds, ∃ v, KDct K w a p.1 v ∧ ∀ (T : List (Addr × Str)) (lam : Nat → Addr → HO → Addr → HO → Prop) (ex : Str → Addr → Option (Addr × Str) → Prop) (H : Hp) (io : List Addr), R ⟨K, T, lam, ex⟩ H io p.2 v
theorem de_kdict {kds : List (Str × D)} {x : Str} {p : Pos} (hK : X.K = c.K.f) (hg : Gl X x) (h : KDic X.K X.w X.mg x kds) (hb : PE X b (sE c f)) (hs : PlainIx b := by intro _ _; rfl) (hd : (x == ("__debug__" : Str)) = false := by decide) :
    PE X (.Subscript (.Name x p) b pos) (sE c (op1 (lookS kds) f)) := by
  obtain ⟨a, hm, all⟩ := h
  refine PE.imp (pe_ix ix_kdict (pe_glob (v := .ref a) hg hm rfl hd) hb hs) fun g H Q s => ?_
  refine sG.bind s fun d x r M1 io1 H1 re rs ra run => ?_
  obtain ⟨z, M3, eq, k⟩ := run.lift
  unfold lookS at eq
  split at eq
  · split at eq
    · rename_i q hq
      cases eq; cases ra
      obtain ⟨v, h1, h2⟩ := all _ (List.mem_of_find?_eq_some hq)
      have e0 := List.find?_some hq
      have e1 := sbeq_iff.mp e0
      rw [e1] at h1
      refine ⟨a, _, v, rfl, rfl, h1, ?_⟩
      have h3 := h2 c.K.T c.K.lam c.K.exn H1 io1
      rw [← kt hK] at h3
      exact k.ok Ext.refl rs h3
    · cases eq
  · cases eq
end
end PyD

-- PyD16
set_option maxRecDepth 100000
set_option maxHeartbeats 4000000
noncomputable section
namespace PyD
open PySem PySem.Spec PyProof.Rows L2 RZ
/-! ### {k: d[k] for k in d} -/
def copyK : List (Key × D) → List (Key × D) → List (Key × D) → Option (List (Key × D))
  | _, [], acc => some acc
  | all, p :: r, acc => match lookK all p.1 with
    | some d => copyK all r (putKD acc p.1 d)
    | none => none
def copyKV : List (Key × V) → List (Key × V) → List (Key × V) → List (Key × V)
  | _, [], acc => acc
  | all, p :: r, acc => copyKV all r (putK acc p.1 ((valV all p.1).getD .non))
def copyDict (i j : Nat) : Den D := fun r M => match r[j]? with
  | some (some (.dic n)) => match (sGet M n) with
    | some (.dk kvs) => if kvs.length < 100000 ∧ i < r.length then (match copyK kvs kvs [] with
      | some out => some (.ok (.dic M.length), (sApp M (.dk out)))
      | none => none) else none
    | _ => none
  | _ => none
theorem copyK_ok {K : KT} {H : Hp} {io : List Addr} {all : List (Key × D)} {xall : List (Key × V)} (ra : RKV K H io all xall) : ∀ {todo : List (Key × D)} {xt : List (Key × V)} {acc out : List (Key × D)} {xa : List (Key × V)}, RKV K H io todo xt → RKV K H io acc xa → copyK all todo acc = some out →
    RKV K H io out (copyKV xall xt xa)
  | [], _, _, _, _, rt, rc, e => by
    cases rt
    cases e
    exact rc
  | p :: r, _, _, _, _, rt, rc, e => by
    cases rt with
    | @cons _ q _ t h1 h2 =>
      unfold copyK at e
      split at e
      · rename_i d hd
        have ro := lookK_val p.1 ra
        rw [hd] at ro
        rw [h1.1] at ro
        unfold copyKV
        cases ev : valV xall q.1 with
        | none => rw [ev] at ro; exact ro.elim
        | some v =>
          rw [ev] at ro
          rw [h1.1] at e
          exact copyK_ok ra h2 (RKV.put rc q.1 ro) e
      · cases e
theorem copyKV_snoc {all : List (Key × V)} {p : Key × V} : ∀ {t acc : List (Key × V)}, copyKV all (t ++ [p]) acc = putK (copyKV all t acc) p.1 ((valV all p.1).getD .non)
  | [], acc => rfl
  | q :: t, acc => by
    rw [List.cons_append]
    unfold copyKV
    rw [copyKV_snoc]
theorem putK_len {kvs : List (Key × V)} {k : Key} {v : V} : (putK kvs k v).length ≤ kvs.length + 1 := by
  unfold putK
  split <;> simp
theorem copyKV_len {all : List (Key × V)} : ∀ {t acc : List (Key × V)}, (copyKV all t acc).length ≤ acc.length + t.length
  | [], acc => by simp [copyKV]
  | q :: t, acc => by
    unfold copyKV
    have h := copyKV_len (all := all) (t := t) (acc := putK acc q.1 ((valV all q.1).getD .non))
    have h2 := putK_len (kvs := acc) (k := q.1) (v := (valV all q.1).getD .non)
    rw [List.length_cons]
    omega
theorem valV_some {xs : List (Key × V)} {i : Nat} {k : Key} {v : V} (e : xs[i]? = some (k, v)) : ∃ u, valV xs k = some u := by
  have h : (xs.find? fun kv => decide (kv.1 = k)).isSome = true := by
    rw [List.find?_isSome]
    exact ⟨(k, v), List.mem_of_getElem? e, by simp⟩
  obtain ⟨q, hq⟩ := Option.isSome_iff_exists.mp h
  exact ⟨q.2, by unfold valV; rw [hq]; rfl⟩
section
variable {X : Cx} {c : Cfg} {scope : Scope} {own : List (Str × Nat)} {pos p1 p2 p3 p4 p5 p6 : Pos} {x t : Str} {i j : Nat}
theorem copy_read {c : Cfg} {i j : Nat} (hij : j ≠ i) {g : L2.St} {H : Hp} {Q : VK} (s : sE c (copyDict i j) g H Q) : tLockE (tDc (iKeys (tVar j)) (gName i) tYes (tVar i) (tDGet (tVar j) (tVar i)) [i]) g H Q := by
  obtain ⟨r, M, io, re, rs, z, M', eq, k⟩ := s
  unfold copyDict at eq
  split at eq
  · rename_i n hr
    split at eq
    · rename_i kvs hm
      split at eq
      · rename_i hl
        split at eq
        · rename_i out ho
          cases eq
          obtain ⟨v, hv, rv⟩ := re.2 j _ hr
          cases rv with
          | @dic _ d ei =>
            obtain ⟨cc, ob, e1, hd, rc⟩ := rs.there ei
            rw [hm] at e1
            cases e1
            obtain ⟨xs, rfl, rk⟩ := rc
            have gj : ∀ y : V, ((L2.wipe g [i]).set i (some y))[j]? = some (some (.ref d)) := fun y => by
              rw [List.getElem?_set_ne (Ne.symm hij)]
              show (g.set i none)[j]? = _
              rw [List.getElem?_set_ne (Ne.symm hij)]
              exact hv
            refine ⟨d, .dK xs, hd, trivial, fun od => ⟨.ref d, hv, d, od, rfl, .inl ⟨xs, upd_same, fun Dd hn => ?_⟩⟩⟩
            have nd : Dd ≠ d := fun q => by rw [q, upd_same] at hn; cases hn
            have hn0 : H Dd = none := by rw [upd_ne nd] at hn; exact hn
            refine ⟨fun ix m H' => m = xs.length - ix ∧ ix ≤ xs.length ∧ H' = upd (upd H d (.frz od (.dK xs))) Dd (.dK (copyKV xs (xs.take ix) [])), ⟨xs.length, by simp, Nat.zero_le _, rfl⟩, ?_⟩
            rintro ix m H' ⟨rfl, hi, rfl⟩
            have frz : upd (upd H d (.frz od (.dK xs))) Dd (.dK (copyKV xs (xs.take ix) [])) d = some (.frz od (.dK xs)) := by rw [upd_ne (Ne.symm nd), upd_same]
            by_cases hlt : ix < xs.length
            · refine .inr ⟨⟨frz, hlt⟩, fun H2 => H2 = upd (upd H d (.frz od (.dK xs))) Dd (.dK (copyKV xs (xs.take (ix + 1)) [])), fun H2 e => ⟨_, by omega, rfl, hlt, e⟩, fun y H2 yd => ?_⟩
              obtain ⟨rfl, kk, vv, e2, rfl⟩ := yd
              have gi : ((L2.wipe g [i]).set i (some (kV kk)))[i]? = some (some (kV kk)) := by
                refine List.getElem?_set_self ?_
                rw [wipe_length, ← re.1]
                exact hl.2
              refine ⟨(wipe_set List.mem_cons_self).trans wipe_wipe, ?_⟩
              unfold tYes
              dsimp only
              rw [if_pos rfl]
              obtain ⟨u, hu2⟩ := valV_some e2
              refine ⟨kV kk, gi, .ref d, gj _, kV kk, gi, d, u, rfl, .inl ⟨xs, kk, .inr ⟨od, frz⟩, rfl, hu2.symm⟩, _, kk, rfl, upd_same, ?_, ?_⟩
              · have z := copyKV_len (all := xs) (t := xs.take ix) (acc := [])
                have z2 := rkv_len rk
                rw [List.length_take] at z
                have z3 := big_lt hl.1
                simp at z
                omega
              · have e3 : xs.take (ix + 1) = xs.take ix ++ [(kk, vv)] := by
                  rw [List.take_add_one, e2]
                  rfl
                rw [e3, copyKV_snoc, hu2]
                funext b
                by_cases hb : b = Dd
                · subst hb; rw [upd_same, upd_same]; rfl
                · rw [upd_ne hb, upd_ne hb, upd_ne hb]
            · have e : ix = xs.length := by omega
              subst e
              refine .inl ⟨⟨frz, Nat.le_refl _⟩, frz, ?_⟩
              rw [List.take_length]
              have e2 : upd (upd (upd H d (.frz od (.dK xs))) Dd (.dK (copyKV xs xs []))) d (.dK xs) = upd H Dd (.dK (copyKV xs xs [])) := by
                funext b
                by_cases hb : b = d
                · subst hb; rw [upd_same, upd_ne (Ne.symm nd), hd]
                · rw [upd_ne hb]
                  by_cases hb2 : b = Dd
                  · subst hb2; rw [upd_same, upd_same]
                  · rw [upd_ne hb2, upd_ne hb2, upd_ne hb]
              rw [e2]
              have ex := Ext.alloc (K := c.K) (io := io) (o := .dK (copyKV xs xs [])) hn0
              exact k (io ++ [Dd]) _ ex (rs.alloc hn0 ⟨_, rfl, (copyK_ok rk rk .nil ho).mono ex⟩) _ (.dic (by rw [← rs.len, List.getElem?_append_right (Nat.le_refl _)]; simp))
        · cases eq
      · cases eq
    · cases eq
  · cases eq
theorem de_copy (hK : X.K = c.K.f) (hu : X.A.units + 1 < cLine) (hc : X.calm = true) (hN : X.N.Nodup) (ok : BlkOk X.N X.env.scope scope own) (hij : j ≠ i) (ht : PE X (.Name t p2) (tVar j))
    (hg : ∀ (s : Shared) (H : Hp) (C : Addr) (cl : List (Str × Addr)) (fp : List Addr), PG (X.blk s H scope (compEnvC scope cl C X.env) fp) (.Name x p1) (gName i))
    (hk : ∀ (s : Shared) (H : Hp) (C : Addr) (cl : List (Str × Addr)) (fp : List Addr), PE (X.blk s H scope (compEnvC scope cl C X.env) fp) (.Name x p3) (tVar i))
    (ht2 : ∀ (s : Shared) (H : Hp) (C : Addr) (cl : List (Str × Addr)) (fp : List Addr), PE (X.blk s H scope (compEnvC scope cl C X.env) fp) (.Name t p4) (tVar j))
    (hk2 : ∀ (s : Shared) (H : Hp) (C : Addr) (cl : List (Str × Addr)) (fp : List Addr), PE (X.blk s H scope (compEnvC scope cl C X.env) fp) (.Name x p5) (tVar i))
    (hs : ∀ z, foldedSetIterable (.Name t p2) X.env z = pure z := by intro _; rfl) (hsl : own.map (·.2) = [i] := by rfl) :
    PE X (.DictComp (.Name x p3) (.Subscript (.Name t p4) (.Name x p5) p6) [⟨.Name x p1, .Name t p2, [], 0⟩] scope pos) (sE c (copyDict i j)) :=
  PE.imp (pe_lock (pe_dc (own := own) hc hN (pi_keys ht) ok hg (fun s H C cl fp => pts_nil) hk (fun s H C cl fp => pe_dget hu (ht2 s H C cl fp) (hk2 s H C cl fp) (by intro _ _; rfl)) hs)) fun g H Q s => by
    rw [hsl]
    exact copy_read hij s
/-- name = {.. for ..} on one line, the name a local -/
theorem swd_true {kx vx : Expr} {gs : List Comprehension} {scope : Scope} {pos py : Pos} {y : Str} {l : Nat} {env : Env} (h1 : env.scope.kind = .function) (h2 : env.scope.names.lookup y = some .local) (h3 : (py.line == pos.line) = true)
    (h4 : (scope.names.any fun (n, k) => n == y && (k == .local || k == .cell)) = false) : swapsWith (.DictComp kx vx gs scope pos) (some (.Name y py)) l env = pure true := by
  have e1 : env.kindOf y = some .local := h2
  have e2 : env.blockKind = .function := by unfold Env.blockKind; rw [h1]; rfl
  unfold swapsWith
  simp only [e2, e1, h4, Expr.pos, h3]
  rfl
theorem ps_setDc {y : Str} {py spos : Pos} {kx vx tg iter : Expr} {ifs : List Expr} {n : Nat} {wi : TI} {g : TG} {tt : TT} {tk tv : TE} (hc : X.calm = true) (hN : X.N.Nodup) (hy : X.N[n]? = some y) (hl : X.env.scope.names.lookup y = some .local)
    (hw : swapsWith (.DictComp kx vx [⟨tg, iter, ifs, 0⟩] scope pos) (some (.Name y py)) spos.line X.env = pure true) (hi : PI X tg iter wi) (ok : BlkOk X.N X.env.scope scope own)
    (hg : ∀ (s : Shared) (H : Hp) (C : Addr) (cl : List (Str × Addr)) (fp : List Addr), PG (X.blk s H scope (compEnvC scope cl C X.env) fp) tg g) (ht : ∀ (s : Shared) (H : Hp) (C : Addr) (cl : List (Str × Addr)) (fp : List Addr), PTs (X.blk s H scope (compEnvC scope cl C X.env) fp) ifs tt)
    (hk : ∀ (s : Shared) (H : Hp) (C : Addr) (cl : List (Str × Addr)) (fp : List Addr), PE (X.blk s H scope (compEnvC scope cl C X.env) fp) kx tk) (he : ∀ (s : Shared) (H : Hp) (C : Addr) (cl : List (Str × Addr)) (fp : List Addr), PE (X.blk s H scope (compEnvC scope cl C X.env) fp) vx tv)
    (hs : ∀ x, foldedSetIterable iter X.env x = pure x := by intro _; rfl) : PS X (.Assign [.Name y py] (.DictComp kx vx [⟨tg, iter, ifs, 0⟩] scope pos) spos) (tAsg (tDc wi g tt tk tv (own.map (·.2))) (gName n)) := by
  refine ⟨fun pins s r H Ds I run => ?_⟩
  rw [exec_Assign_Name_used _ _ _ _ hw]
  refine wpAny_bind (wpAny_standAt (wpAny_bind ?_))
  have run : tDc wi g tt tk tv (own.map (·.2)) r H (fun x H1 => gName n x r H1 Ds.nx) := run
  refine wpAny_bind (thn (dc_core (use := some (assign (.Name y py) X.env)) (Qf := fun _ s1 => SP X pins Ds .next s1) (pos' := firstIterPos [⟨tg, iter, ifs, 0⟩] pos) hc hN I hi ok hg ht hk he hs run fun L C s1 m H1 I1 q ns f => ?_) fun _ s1 z => wpAny_pure (wpAny_pure z))
  show wpAny _ _ (assign (.Name y py) X.env (.ref L)) _ _ _
  refine wpAny_assign_Name (store_ok2 (v := V.ref L) I1 hN hy (.inl hl) rfl (fun s2 I2 ⟨a, sb, ha⟩ => ?_) (.inr hl))
  obtain ⟨f0, f1, f2, f3, f4, f5⟩ := f
  have away : C ≠ a := ha.elim (fun z => by rw [z]; exact f1) fun z e => f4 y a z e.symm
  exact ⟨m, ns.sameBut sb away, fun h3 sb3 => ⟨_, H1, I2.turned (t' := s2.toks) (fun b o nb look => (sb3.2 b nb).trans look) f0 f1 f3 f4 f5, q⟩⟩
theorem ds_setCopy {y : Str} {py spos : Pos} {n : Nat} (hK : X.K = c.K.f) (hu : X.A.units + 1 < cLine) (hc : X.calm = true) (hN : X.N.Nodup) (hy : X.N[n]? = some y) (hl : X.env.scope.names.lookup y = some .local) (ok : BlkOk X.N X.env.scope scope own) (hij : j ≠ i)
    (hw : swapsWith (.DictComp (.Name x p3) (.Subscript (.Name t p4) (.Name x p5) p6) [⟨.Name x p1, .Name t p2, [], 0⟩] scope pos) (some (.Name y py)) spos.line X.env = pure true) (ht : PE X (.Name t p2) (tVar j))
    (hg : ∀ (s : Shared) (H : Hp) (C : Addr) (cl : List (Str × Addr)) (fp : List Addr), PG (X.blk s H scope (compEnvC scope cl C X.env) fp) (.Name x p1) (gName i))
    (hk : ∀ (s : Shared) (H : Hp) (C : Addr) (cl : List (Str × Addr)) (fp : List Addr), PE (X.blk s H scope (compEnvC scope cl C X.env) fp) (.Name x p3) (tVar i))
    (ht2 : ∀ (s : Shared) (H : Hp) (C : Addr) (cl : List (Str × Addr)) (fp : List Addr), PE (X.blk s H scope (compEnvC scope cl C X.env) fp) (.Name t p4) (tVar j))
    (hk2 : ∀ (s : Shared) (H : Hp) (C : Addr) (cl : List (Str × Addr)) (fp : List Addr), PE (X.blk s H scope (compEnvC scope cl C X.env) fp) (.Name x p5) (tVar i))
    (hs : ∀ z, foldedSetIterable (.Name t p2) X.env z = pure z := by intro _; rfl) (hsl : own.map (·.2) = [i] := by rfl) :
    PS X (.Assign [.Name y py] (.DictComp (.Name x p3) (.Subscript (.Name t p4) (.Name x p5) p6) [⟨.Name x p1, .Name t p2, [], 0⟩] scope pos) spos) (sS c (setS (copyDict i j) (nmT n))) :=
  PS.imp (ps_lock (ps_setDc (own := own) hc hN hy hl hw (pi_keys ht) ok hg (fun s H C cl fp => pts_nil) hk (fun s H C cl fp => pe_dget hu (ht2 s H C cl fp) (hk2 s H C cl fp) (by intro _ _; rfl)) hs)) fun Ds g H s => by
    rw [hsl]
    have q : sE c (copyDict i j) g H (fun x H1 => gName n x g H1 Ds.nx) := by
      refine sS.bind s fun d x r M1 io1 H1 re rs ra run => ?_
      obtain ⟨fl, r', M', eq, z⟩ := run
      cases eq
      exact z io1 H1 Ext.refl rs _ (re.set ra)
    exact copy_read hij q
end
end PyD

-- PyD17
set_option maxRecDepth 100000
set_option maxHeartbeats 4000000
noncomputable section
namespace PyD
open PySem PySem.Spec PyProof.Rows L2
/-- where a def of the program stands -/
structure DefAt (K : PySem.W.Frag) (mg : Str → Option Value) (x : Str) (st : Stmt) (ps : List Str) where
  a : Addr
  u : FuncData
  F : Fun K x x st a u
  m : mg x = some (.ref a)
  b : Binds K u ps []
/-- where a class of exceptions stands -/
structure ClsAt (K : PySem.W.Frag) (mg : Str → Option Value) (y : Str) where
  a : Addr
  m : mg y = some (.ref a)
  x : PySem.W.excIn K a [.type "ValueError", .type "Exception", .type "BaseException", .type "object"] "ValueError.__new__" = true
  k : PySem.W.keepIn K (.ref a) = true
  s : PySem.W.subIn K (.ref a) (.type "BaseException") = some true
  t : PySem.W.typeIn K (.ref a) = some (.type "type")
end PyD

-- PyH1
set_option maxRecDepth 100000
set_option maxHeartbeats 4000000
/-! iterators that end while an exception is handled -/
noncomputable section
namespace PyH
open PySem PySem.Spec PyProof.Rows HotX
section
variable {pr : Program} {w : World} {A : Around} {E : Value → Shared → Prop} {s : Shared} {x1 it l : Addr} {i : Nat} {its : Array Value}
/-- what was there is there -/
abbrev More (h h' : Heap) : Prop := ∀ b o, h.get? b = some o → h'.get? b = some o
theorem HotAt.more {h h' : Heap} (a : HotAt A x1 h) (k : ∀ o, h.get? x1 = some o → h'.get? x1 = some o) : HotAt A x1 h' := ⟨a.1, by
  obtain ⟨o, vs, e, r⟩ := a.2
  exact ⟨o, vs, k o e, r⟩⟩
theorem stop_hot {α : Type} {Q : α → Shared → Prop} (hot : HotAt A x1 s.heap)
    (fin : ∀ h' e, More s.heap h' → (∃ o, h'.get? e = some o ∧ o.cls = .type "StopIteration") → E (.ref e) { s with heap := h' }) : wpAny (model pr w) A (newExc (.type "StopIteration") [] >>= (raiseNew : Value → Sem α)) Q E s := by
  refine wpAny_bind ?_
  simp only [newExc, newTuple]
  refine wpAny_bind (wpAny_newObj_type ?_ (by size_fits))
  refine wpAny_bind (m := firstArgMember _ _) (wpAny_of_eq (a := Value.none) (by first | rfl | (simp only [firstArgMember]; rfl)) (wpAny_newObj_type ?_ (by size_fits)))
  have hot2 := HotAt.more (h' := s.heap.push { cls := .type "tuple", data := .seq ([] : List Value).toArray }) hot fun o e => Heap.get?_push_of_some _ e
  refine raiseNew_hot (HotAt.more hot2 fun o e => Heap.get?_push_of_some _ e) ?_ (Heap.get?_push_size _ rfl) rfl (by first | (simp; done) | (simp; omega) | (simp only [Array.size_append]; simp; omega)) ?_
  · obtain ⟨_, o, vs, e, _⟩ := hot2
    exact Nat.ne_of_lt (Heap.lt_size e)
  · refine fin _ _ (fun b o e => ?_) ⟨_, Heap.get?_update_self _ (Heap.get?_push_size _ rfl) rfl, rfl⟩
    have e2 := Heap.get?_push_of_some { cls := .type "tuple", data := .seq ([] : List Value).toArray } e
    rw [Heap.get?_update_other _ _ (Nat.ne_of_gt (Heap.lt_size e2))]
    exact Heap.get?_push_of_some _ e2
/-- the body of next of a list's iterator that is at its end -/
theorem list_stop {Q : Fin → Shared → Prop} (hot : HotAt A x1 s.heap) (nx : x1 ≠ it) (hit : s.heap.IsListIter it l i) (hl : s.heap.IsList l its) (no : its[i]? = none)
    (fin : ∀ h' e, Heap.ExtBut it s.heap h' → (∃ o, h'.get? e = some o ∧ o.cls = .type "StopIteration") → E (.ref e) { s with heap := h' }) : wpAny (model pr w) A (Builtin.«list_iterator.__next__» ⟨[.ref it], []⟩) Q E s := by
  obtain ⟨o, ho, hc, hd⟩ := id hit
  obtain ⟨ol, hol, _, nl, hdl⟩ := hl
  show wpAny _ _ (field (.ref it) 0 >>= _) _ _ s
  refine wpAny_bind (wpAny_field ho hd (x := .ref l) rfl ?_)
  show wpAny _ _ (if (Value.ref l == Value.none) = true then _ else _) _ _ s
  rw [if_neg (fun z : (Value.ref l == Value.none) = true => Bool.false_ne_true z)]
  show wpAny _ _ (field (.ref it) 1 >>= _) _ _ s
  refine wpAny_bind (wpAny_field ho hd (x := .int i 0) rfl ?_)
  show wpAny _ _ (seqItems? (.ref l) >>= _) _ _ s
  refine wpAny_bind (wpAny_seqItems hol hdl ?_)
  simp only [Int.toNat_natCast, no]
  refine wpAny_bind (wpAny_rule (wpAny_bind (wpAny_setField ho hd (by simp) ?_)))
  refine stop_hot (HotAt.more hot fun o e => (Heap.SameBut.update ..).extBut _ _ nx e) fun h' e k st => fin h' e (fun b o nb look => k _ _ ((Heap.SameBut.update ..).extBut _ _ nb look)) st
theorem nextOf_list_hot {Q : Value → Shared → Prop} (hot : HotAt A x1 s.heap) (nx : x1 ≠ it) (hit : s.heap.IsListIter it l i) (hl : s.heap.IsList l its) (no : its[i]? = none)
    (fin : ∀ h' e, Heap.ExtBut it s.heap h' → (∃ o, h'.get? e = some o ∧ o.cls = .type "StopIteration") → E (.ref e) { s with heap := h' }) : wpAny (model pr w) A (Builtin.SmallTypes.nextOf (.ref it)) Q E s := by
  unfold Builtin.SmallTypes.nextOf
  exact wpAny_bind (wpAny_callSpecial?_slot (name := Str.ofString "__next__") hit.typeIs slot_listiter_next (wpAny_call_entry slot_listiter_next hit.typeIs entry_listiter_next (list_stop (by exact ⟨hot.1, hot.2⟩) nx hit hl no fin) (args_listiter_next _)))
theorem pyNext_list_hot {Q : Option Value → Shared → Prop} (hot : HotAt A x1 s.heap) (nx : x1 ≠ it) (hit : s.heap.IsListIter it l i) (hl : s.heap.IsList l its) (no : its[i]? = none)
    (fin : ∀ h', Heap.ExtBut it s.heap h' → Q none { s with heap := h' }) : wpAny (model pr w) A (pyNext (.ref it)) Q E s := by
  unfold pyNext
  refine wpAny_bind (wpAny_attempt (wpAny_callSpecial?_slot (name := Str.ofString "__next__") hit.typeIs slot_listiter_next (wpAny_call_entry slot_listiter_next hit.typeIs entry_listiter_next (list_stop (by exact ⟨hot.1, hot.2⟩) nx hit hl no fun h' e k st => ?_) (args_listiter_next _))))
  obtain ⟨o, ho, hc⟩ := st
  exact wpAny_bind (wpAny_isInstance (T := "StopIteration") (b := true) ⟨o, ho, hc⟩ isSubtype_stop (wpAny_pure (fin _ k)))
/-- a tuple's iterator that is at its end -/
theorem pyNext_tuple_hot {Q : Option Value → Shared → Prop} (hot : HotAt A x1 s.heap) (nx : x1 ≠ it) (hit : s.heap.IsTupleIter it l i) (hl : s.heap.IsTuple l its) (no : its[i]? = none)
    (fin : ∀ h', Heap.ExtBut it s.heap h' → Q none { s with heap := h' }) : wpAny (model pr w) A (pyNext (.ref it)) Q E s := by
  obtain ⟨o, ho, hc, hd⟩ := id hit
  obtain ⟨ol, hol, _, nl, hdl⟩ := hl
  unfold pyNext
  refine wpAny_bind (wpAny_attempt (wpAny_callSpecial?_slot (name := Str.ofString "__next__") hit.typeIs F.slot_tuple_iterator_next (wpAny_call_entry F.slot_tuple_iterator_next hit.typeIs F.entry_tuple_iterator_next ?_ (F.args_tuple_iterator_next_1 _))))
  show wpAny _ _ (field (.ref it) 0 >>= _) _ _ s
  refine wpAny_bind (wpAny_field ho hd (x := .ref l) rfl ?_)
  show wpAny _ _ (if (Value.ref l == Value.none) = true then _ else _) _ _ s
  rw [if_neg (fun z : (Value.ref l == Value.none) = true => Bool.false_ne_true z)]
  show wpAny _ _ (field (.ref it) 1 >>= _) _ _ s
  refine wpAny_bind (wpAny_field ho hd (x := .int i 0) rfl ?_)
  show wpAny _ _ (seqItems? (.ref l) >>= _) _ _ s
  refine wpAny_bind (wpAny_seqItems hol hdl ?_)
  simp only [Int.toNat_natCast, no]
  refine wpAny_bind (wpAny_rule (wpAny_bind (wpAny_setField ho hd (by simp) ?_)))
  refine stop_hot (x1 := x1) (HotAt.more (h := s.heap) ⟨hot.1, hot.2⟩ fun o e => (Heap.SameBut.update ..).extBut _ _ nx e) fun h' e k st => ?_
  obtain ⟨o2, ho2, hc2⟩ := st
  exact wpAny_bind (wpAny_isInstance (T := "StopIteration") (b := true) ⟨o2, ho2, hc2⟩ isSubtype_stop (wpAny_pure (fin _ fun b o nb look => k _ _ ((Heap.SameBut.update ..).extBut _ _ nb look))))
end
end PyH

-- PyH2
set_option maxRecDepth 100000
set_option maxHeartbeats 4000000
noncomputable section
namespace PyH
open PySem PySem.Spec PyProof.Rows HotX L2
section
variable {pr : Program} {w : World} {A : Around} {E : Value → Shared → Prop} {s : Shared} {x1 t : Addr} {its : Array Value}
theorem unpackItems_hot {Q : List Value → Shared → Prop} (hot : HotAt A x1 s.heap) (ht : s.heap.IsTuple t its) (fin : ∀ h', Heap.ExtBut s.heap.objs.size s.heap h' → Q its.toList { s with heap := h' }) :
    wpAny (model pr w) A (unpackItems (.ref t) its.size none) Q E s := by
  have tl : t ≠ s.heap.objs.size := by obtain ⟨o, look, _⟩ := ht; exact Nat.ne_of_lt (Heap.lt_size look)
  have xl : x1 ≠ s.heap.objs.size := by obtain ⟨_, o, vs, look, _⟩ := hot; exact Nat.ne_of_lt (Heap.lt_size look)
  unfold unpackItems
  refine wpAny_bind ?_
  unfold notIterableAtAll
  refine wpAny_bind (wpAny_specialOf ht.typeIs F.slot_tuple_iter.lookup (wpAny_pure ?_))
  simp only [Bool.false_eq_true, if_false]
  refine wpAny_bind (wpAny_holding (wpAny_pyIter_tuple ht (wpAny_bind (wpAny_holding (wpAny_draw_tuple tl its.size 0 _ _ ⟨_, Heap.get?_push_size _ rfl, rfl, rfl⟩ (ht.push _) (by omega) fun h1 i1 s1 => ?_)))))
  have all : List.take its.size (List.drop 0 its.toList) = its.toList := by rw [List.drop_zero]; exact List.take_of_length_le (by simp)
  rw [all, if_neg (by simp)]
  refine wpAny_bind (wpAny_holding (pyNext_tuple_hot (x1 := x1) ?_ xl i1 ((ht.push _).extBut s1.extBut tl) (by simp) fun h2 k2 => ?_))
  · exact HotAt.more (h := s.heap) ⟨hot.1, hot.2⟩ fun o look => s1.extBut _ _ xl (Heap.get?_push_of_some _ look)
  · simp only [Option.isSome_none, Bool.false_eq_true, if_false]
    exact wpAny_pure (fin h2 fun b o nb look => k2 b o nb (s1.extBut b o nb (Heap.get?_push_of_some _ look)))
end
section
variable {X : Cx} {pos : Pos}
/-- a, b, .. = a tuple of that length, while an exception is handled -/
theorem pg_tupH {es : List Expr} {k : Nat} {t : TGs} {n : Nat} (hot : ∀ (pins : List (Addr × Obj)) (s : Shared) (g : L2.St) (H : Hp), Inv X pins g H s → ∃ x1, HotAt X.A x1 s.heap) (h : PGs X es t)
    (hn : (assignEach es X.env).length = n := by rfl) (hst : (assignEach es X.env).findIdx? (·.1) = none := by rfl) : PG X (.Tuple es k pos) (gTup X.K n t) := by
  refine ⟨fun pins s g H v u Q I r hw => ?_⟩
  obtain ⟨a, xs, rfl, hq, hl, hw⟩ := hw
  obtain rfl : u = Value.ref a := r
  obtain ⟨its, rv, ht, hz⟩ := I.tuple hq
  obtain ⟨x1, hx⟩ := hot pins s g H I
  have len : (assignEach es X.env).length = its.toArray.size := by simp [hn, ← hl, rv.length]
  rw [arm_assign_Tuple]
  refine wpAny_bind (wpAny_standAt ?_)
  unfold unpack
  rw [len, hst]
  refine wpAny_bind (wpAny_holding (unpackItems_hot hx ht fun h' kp => ?_))
  have I1 : Inv X pins g H { s with heap := h' } := I.kept (t' := s.toks) fun b o e => kp b o (Nat.ne_of_lt (Heap.lt_size e)) e
  exact h.run pins _ g H xs _ Q I1 (by simpa using rv) hw
end
end PyH

-- PyH3
set_option maxRecDepth 100000
set_option maxHeartbeats 4000000
noncomputable section
namespace PyH
open PySem PySem.Spec PyProof.Rows HotX L2
section
variable {pr : Program} {w : World} {A : Around} {E : Value → Shared → Prop} {s : Shared} {x1 z TI TO i1 i2 l1 l2 : Addr} {k1 k2 : Nat} {xs ys : Array Value} {a b : Value}
/-- what zip's own objects change -/
abbrev But4 (z TO i1 i2 : Addr) (h h' : Heap) : Prop := ∀ c o, c ≠ z → c ≠ TO → c ≠ i1 → c ≠ i2 → h.get? c = some o → h'.get? c = some o
theorem zip_stop {Q : Fin → Shared → Prop} (hot : HotAt A x1 s.heap) (nz : x1 ≠ z) (nT : x1 ≠ TO) (n1 : x1 ≠ i1) (n2 : x1 ≠ i2) (D : ZipApart z TI TO i1 i2 l1 l2) (hz : IsZip s.heap z TI TO .none) (hTI : IsPair s.heap TI (.ref i1) (.ref i2)) (hTO : IsPair s.heap TO a b)
    (h1 : s.heap.IsListIter i1 l1 k1) (h2 : s.heap.IsListIter i2 l2 k2) (g1 : s.heap.IsList l1 xs) (g2 : s.heap.IsList l2 ys) (stop : xs[k1]? = none ∨ ys[k2]? = none)
    (fin : ∀ h' e, But4 z TO i1 i2 s.heap h' → (∃ o, h'.get? e = some o ∧ o.cls = .type "StopIteration") → E (.ref e) { s with heap := h' }) : wpAny (model pr w) A (Builtin.«zip.__next__» ⟨[.ref z], []⟩) Q E s := by
  show wpAny _ _ (field (.ref z) 2 >>= _) _ _ _
  refine wpAny_bind (wpAny_field hz rfl (x := .bool false) rfl ?_)
  show wpAny _ _ (field (.ref z) 3 >>= _) _ _ _
  refine wpAny_bind (wpAny_field hz rfl (x := .ref TI) rfl (wpAny_bind (wpAny_seqItems hTI rfl ?_)))
  show wpAny _ _ (Builtin.SmallTypes.ownedTupleIsFree (.ref z) >>= _) _ _ _
  refine wpAny_bind ?_
  unfold Builtin.SmallTypes.ownedTupleIsFree
  refine wpAny_bind (wpAny_field hz rfl (x := .none) rfl (wpAny_pure ?_))
  simp only [if_true]
  refine wpAny_bind (wpAny_rule (wpAny_bind (wpAny_field hz rfl (x := .ref TO) rfl (wpAny_bind (wpAny_setField_rec hz (by simp) fun ha za sa => ?_)))))
  replace za : IsZip ha z TI TO .ellipsis := za
  refine wpAny_bind ?_
  simp only [List.zipIdx_cons, List.zipIdx_nil, List.forIn_cons, List.forIn_nil]
  refine wpAny_bind (wpAny_bind (wpAny_onRaise ?_))
  show wpAny _ _ (Builtin.SmallTypes.nextOf (.ref i1) >>= _) _ _ _
  have hota : HotAt A x1 ha := HotAt.more hot fun o e => sa.extBut _ _ nz e
  cases hx : xs[k1]? with
  | none =>
    refine wpAny_bind (nextOf_list_hot (x1 := x1) ⟨hota.1, hota.2⟩ n1 (h1.extBut sa.extBut D.i1z) (g1.extBut sa.extBut D.l1z) hx fun hb e kb st => ?_)
    obtain ⟨oe, look, ce⟩ := st
    have zb : IsZip hb z TI TO .ellipsis := kb _ _ D.i1z.symm za
    have ez : e ≠ z := fun q => by subst q; rw [zb] at look; cases look; simp at ce
    exact wpAny_setField_rec zb (by simp) fun hc _ sc => fin hc e (fun c o c1 _ c3 _ q => sc.extBut _ _ c1 (kb _ _ c3 (sa.extBut _ _ c1 q))) ⟨oe, sc.extBut _ _ ez look, ce⟩
  | some x =>
    have hy : ys[k2]? = none := stop.resolve_left fun q => by rw [hx] at q; cases q
    refine wpAny_bind (wpAny_nextOf_list_item (h1.extBut sa.extBut D.i1z) (g1.extBut sa.extBut D.l1z) hx fun hb ib sb => wpAny_pure ?_)
    have pb : IsPair hb TO a b := sb.extBut _ _ D.TOi1 (sa.extBut _ _ D.TOz hTO)
    refine wpAny_bind (wpAny_seqItems pb rfl (wpAny_bind (wpAny_updateSeq_pair pb fun hc pc sc => ?_)))
    refine wpAny_bind (wpAny_letGo (wpAny_pure (wpAny_bind (wpAny_bind (wpAny_onRaise ?_)))))
    show wpAny _ _ (Builtin.SmallTypes.nextOf (.ref i2) >>= _) _ _ _
    have hotc : HotAt A x1 hc := HotAt.more hota fun o e => sc.extBut _ _ nT (sb.extBut _ _ n1 e)
    refine wpAny_bind (nextOf_list_hot (x1 := x1) ⟨hotc.1, hotc.2⟩ n2 (((h2.extBut sa.extBut D.i2z).extBut sb.extBut D.i12.symm).extBut sc.extBut D.TOi2.symm) (((g2.extBut sa.extBut D.l2z).extBut sb.extBut D.l2i1).extBut sc.extBut D.l2TO) hy fun hd e kd st => ?_)
    obtain ⟨oe, look, ce⟩ := st
    have zd : IsZip hd z TI TO .ellipsis := kd _ _ D.i2z.symm (sc.extBut _ _ D.TOz.symm (sb.extBut _ _ D.i1z.symm za))
    have ez : e ≠ z := fun q => by subst q; rw [zd] at look; cases look; simp at ce
    exact wpAny_setField_rec zd (by simp) fun he _ se => fin he e (fun c o c1 c2 c3 c4 q => se.extBut _ _ c1 (kd _ _ c4 (sc.extBut _ _ c2 (sb.extBut _ _ c3 (sa.extBut _ _ c1 q))))) ⟨oe, se.extBut _ _ ez look, ce⟩
theorem pyNext_zip_hot {Q : Option Value → Shared → Prop} (hot : HotAt A x1 s.heap) (nz : x1 ≠ z) (nT : x1 ≠ TO) (n1 : x1 ≠ i1) (n2 : x1 ≠ i2) (D : ZipApart z TI TO i1 i2 l1 l2) (hz : IsZip s.heap z TI TO .none) (hTI : IsPair s.heap TI (.ref i1) (.ref i2)) (hTO : IsPair s.heap TO a b)
    (h1 : s.heap.IsListIter i1 l1 k1) (h2 : s.heap.IsListIter i2 l2 k2) (g1 : s.heap.IsList l1 xs) (g2 : s.heap.IsList l2 ys) (stop : xs[k1]? = none ∨ ys[k2]? = none)
    (fin : ∀ h', But4 z TO i1 i2 s.heap h' → Q none { s with heap := h' }) : wpAny (model pr w) A (pyNext (.ref z)) Q E s := by
  have ty : s.TypeIs (.ref z) "zip" := ⟨_, hz, rfl⟩
  unfold pyNext
  refine wpAny_bind (wpAny_attempt (wpAny_callSpecial?_slot (name := Str.ofString "__next__") ty F.slot_zip_next (wpAny_call_entry F.slot_zip_next ty F.entry_zip_next (zip_stop (x1 := x1) ⟨hot.1, hot.2⟩ nz nT n1 n2 D hz hTI hTO h1 h2 g1 g2 stop fun h' e k st => ?_) (F.args_zip_next_1 _))))
  obtain ⟨o, look, ce⟩ := st
  exact wpAny_bind (wpAny_isInstance (T := "StopIteration") (b := true) ⟨o, look, ce⟩ isSubtype_stop (wpAny_pure (fin _ k)))
end
end PyH

-- PyH4
set_option maxRecDepth 100000
set_option maxHeartbeats 4000000
noncomputable section
namespace PyH
open PySem PySem.Spec PyProof.Rows HotX L2 L2H
/-- a walk's turns, in the contexts of one kind, where the heap is ready -/
structure TurnR (P : Program) (w : World) (K : PySem.W.Frag) (A : Around) (cm : Bool) (Rd : Heap → Prop) (tg : Expr) (J : It) (fp : List Addr) (it : Addr) (tn : Nat → Heap → Prop) : Prop where
  obj : ∀ i h, tn i h → ∀ b ∈ fp, ∃ o, h.get? b = some o ∧ ∀ v, o.data ≠ .cell v
  keep : ∀ i h h', tn i h → (∀ b ∈ fp, ∀ o, h.get? b = some o → h'.get? b = some o) → tn i h'
  item : ∀ (X : Cx), X.prog = P → X.w = w → X.K = K → X.A = A → X.calm = cm → ∀ (i : Nat) (pins : List (Addr × Obj)) (s : Shared) (g : L2.St) (H : Hp) (E : Value → Shared → Prop), Rd s.heap → Inv X pins g H s → (∀ b ∈ fp, FpOk X pins H b) → tn i s.heap → J.go i H →
    wpAny (model P w) A (pyNext (.ref it)) (fun r s1 => ∃ u, r = some u ∧ wpAny (model P w) A (letOwnedTupleGo tg (.ref it) u) (fun _ s2 => ∃ x H', Inv X pins g H' s2 ∧ RelV x u ∧ J.yld i H x H' ∧ tn (i + 1) s2.heap ∧ ∀ b ∈ fp, H' b = none) E s1) E s
  done : ∀ (X : Cx), X.prog = P → X.w = w → X.K = K → X.A = A → X.calm = cm → ∀ (i : Nat) (pins : List (Addr × Obj)) (s : Shared) (g : L2.St) (H : Hp) (E : Value → Shared → Prop), Rd s.heap → Inv X pins g H s → (∀ b ∈ fp, FpOk X pins H b) → tn i s.heap → J.stop i H →
    wpAny (model P w) A (pyNext (.ref it)) (fun r s1 => r = none ∧ Inv X pins g H s1) E s
  self : ∀ (i : Nat) (s : Shared) (Q : Value → Shared → Prop) (E : Value → Shared → Prop), tn i s.heap → Q (.ref it) s → wpAny (model P w) A (pyIter (.ref it)) Q E s
theorem TurnR.calm {P : Program} {w : World} {K : PySem.W.Frag} {A : Around} {tg : Expr} {J : It} {fp : List Addr} {it : Addr} {tn : Nat → Heap → Prop} (T : Turn P w K tg J fp it tn) : TurnR P w K A true (fun _ => True) tg J fp it tn where
  obj := T.obj
  keep := T.keep
  item := fun X h1 h2 h3 h4 h5 i pins s g H E _ I f st go => by subst h4; exact T.item X h1 h2 h3 h5 i pins s g H E I f st go
  done := fun X h1 h2 h3 h4 h5 i pins s g H E _ I f st go => by subst h4; exact T.done X h1 h2 h3 h5 i pins s g H E I f st go
  self := fun i s Q E => T.self A i s Q E
/-- what a comprehension walks -/
structure PIR (X : Cx) (Rd : Heap → Prop) (tg iter : Expr) (wi : TI) : Prop where
  run : ∀ (pins : List (Addr × Obj)) (s : Shared) (g : L2.St) (H : Hp) (R : It → Hp → Prop), Inv X pins g H s → wi g H R → wpAny (model X.prog X.w) X.A (eval iter X.env) (fun v s1 => wpAny (model X.prog X.w) X.A (pyIter v) (fun itv s2 =>
    ∃ (it : Addr) (fp : List Addr) (tn : Nat → Heap → Prop) (J : It) (H' : Hp), itv = .ref it ∧ Inv X pins g H' s2 ∧ TurnR X.prog X.w X.K X.A X.calm Rd tg J fp it tn ∧ tn 0 s2.heap ∧ (∀ b ∈ fp, FpOk X pins H' b) ∧ R J H') X.xe s1) X.xe s
theorem PIR.calm {X : Cx} {tg iter : Expr} {wi : TI} (hc : X.calm = true) (h : PI X tg iter wi) : PIR X (fun _ => True) tg iter wi := ⟨fun pins s g H R I q => by
  refine thn (h.run pins s g H R I q) fun v s1 h1 => thn h1 fun itv s2 ⟨it, fp, tn, J, H2, e, I2, T, st, f, r⟩ => ⟨it, fp, tn, J, H2, e, I2, ?_, st, f, r⟩
  rw [hc]
  exact TurnR.calm T⟩
/-- the heap stays ready within the comprehension's own frame -/
def Stays (X : Cx) (Rd : Heap → Prop) : Prop := ∀ (pins : List (Addr × Obj)) (s s' : Shared) (g : L2.St) (H H' : Hp) (fp : List Addr), Inv X pins g H s → (∀ b ∈ fp, FpOk X pins H b) → Un (frs X.stack) fp H H' s.heap s'.heap → Rd s'.heap
theorem stays_true {X : Cx} : Stays X fun _ => True := fun _ _ _ _ _ _ _ _ _ _ => trivial
theorem stays_hot {X : Cx} {p : Addr × Obj} (hp : p ∈ X.pn) (hot : Hot1 X.A p) (ns : p.1 ∉ frs X.stack) : Stays X fun h => ∃ x1, x1 = p.1 ∧ HotAt X.A x1 h := fun pins s s' g H H' fp I f un => by
  obtain ⟨hh, vs, e1, c1⟩ := hot
  obtain ⟨look, nH, _⟩ := I.pin p (List.mem_append_left _ hp)
  exact ⟨p.1, rfl, hh, p.2, vs, un.keep _ _ look nH ns fun z => (f _ z).2.2.2.2.2 p (List.mem_append_left _ hp) rfl, e1, c1⟩
/-- zip of two lists, while the exception at x1 is handled -/
theorem turn_zipR {P : Program} {w : World} {K : PySem.W.Frag} {A : Around} {elts : List Expr} {kk : Nat} {tpos : Pos} {a b z TI TO i1 i2 y1 : Addr} (D : ZipApart z TI TO i1 i2 a b) (ny : ∀ c ∈ [z, TI, TO, i1, i2], y1 ≠ c) :
    TurnR P w K A false (fun h => ∃ x1, x1 = y1 ∧ HotAt A x1 h) (.Tuple elts kk tpos) (Itz K a b) [z, TI, TO, i1, i2] z (fun i h => IsZip h z TI TO .none ∧ IsPair h TI (.ref i1) (.ref i2) ∧ (∃ x y, IsPair h TO x y) ∧ h.IsListIter i1 a i ∧ h.IsListIter i2 b i) where
  obj := fun i h st c hc => by
    obtain ⟨hz, hTI, ⟨x, y, hTO⟩, ⟨o1, e1, _, d1⟩, ⟨o2, e2, _, d2⟩⟩ := st
    have cases5 : c = z ∨ c = TI ∨ c = TO ∨ c = i1 ∨ c = i2 := by simpa using hc
    rcases cases5 with rfl | rfl | rfl | rfl | rfl
    · exact ⟨_, hz, fun v q => nomatch q⟩
    · exact ⟨_, hTI, fun v q => nomatch q⟩
    · exact ⟨_, hTO, fun v q => nomatch q⟩
    · exact ⟨o1, e1, fun v q => by rw [d1] at q; cases q⟩
    · exact ⟨o2, e2, fun v q => by rw [d2] at q; cases q⟩
  keep := fun i h h' st k => by
    obtain ⟨hz, hTI, ⟨x, y, hTO⟩, h1, h2⟩ := st
    exact ⟨k z (by simp) _ hz, k TI (by simp) _ hTI, ⟨x, y, k TO (by simp) _ hTO⟩, h1.at fun o => k i1 (by simp) o, h2.at fun o => k i2 (by simp) o⟩
  item := by
    intro X e1 e2 e3 e4 _ i pins s g H E _ I f st go
    subst e1 e2 e3 e4
    obtain ⟨hz, hTI, ⟨x0, y0, hTO⟩, h1, h2⟩ := st
    obtain ⟨xs, ys, x, y, qx, qy, hx, hy⟩ := go
    obtain ⟨its, rv, p, _⟩ := I.list qx
    obtain ⟨its2, rv2, p2, _⟩ := I.list qy
    obtain ⟨u, hu, ru⟩ := rv.get hx
    obtain ⟨u2, hu2, ru2⟩ := rv2.get hy
    have zl : z < s.heap.objs.size := Heap.lt_size hz
    refine wpAny_pyNext_zip_item D hz hTI hTO h1 h2 p.isList p2.isList (x := u) (y := u2) (by simpa using hu) (by simpa using hu2) fun ha za TOa h1a h2a hT _ k => ⟨_, rfl, wpAny_letOwnedTupleGo_zip (s := { s with heap := ha }) za fun hb zb sb => ?_⟩
    have TT : hb.get? s.heap.objs.size = some { cls := .type "tuple", data := .seq #[u, u2] } := (sb.2 _ (Nat.ne_of_gt zl)).trans hT
    have ok : ObjOk X.prog X.w (upd H s.heap.objs.size (.tup [x, y])) hb s.heap.objs.size (.tup [x, y]) := ⟨by show 2 ≤ sizeLine; decide, [u, u2], .cons ru (.cons ru2 .nil), ⟨_, TT, rfl, _, rfl⟩⟩
    have all : ∀ c o, c ∉ [z, TI, TO, i1, i2] → s.heap.get? c = some o → hb.get? c = some o := fun c o nb q => by
      have m : ∀ d ∈ [z, TI, TO, i1, i2], c ≠ d := fun d hd e => nb (e ▸ hd)
      exact (sb.2 c (m z (by simp))).trans (k c o (m z (by simp)) (m TO (by simp)) (m i1 (by simp)) (m i2 (by simp)) q)
    have I1 : Inv X pins g (upd H s.heap.objs.size (.tup [x, y])) { s with heap := hb } := I.turnedNew (t' := s.toks) (ch := [z, TI, TO, i1, i2]) all f (Nat.le_refl _) ok
    have old : ∀ c ∈ [z, TI, TO, i1, i2], c < s.heap.objs.size := fun c hc => by
      have cases5 : c = z ∨ c = TI ∨ c = TO ∨ c = i1 ∨ c = i2 := by simpa using hc
      rcases cases5 with rfl | rfl | rfl | rfl | rfl
      · exact zl
      · exact Heap.lt_size hTI
      · exact Heap.lt_size hTO
      · obtain ⟨_, q, _⟩ := h1; exact Heap.lt_size q
      · obtain ⟨_, q, _⟩ := h2; exact Heap.lt_size q
    refine ⟨.ref s.heap.objs.size, _, I1, rfl, ⟨_, x, y, rfl, I.hok.fresh (Nat.le_refl _), rfl, fun l hl => by rw [I.list_inj hl qx]; exact hx, fun l hl => by rw [I.list_inj hl qy]; exact hy⟩, ⟨zb, ?_, ⟨u, u2, (sb.2 _ D.TOz).trans TOa⟩, h1a.at fun o q => (sb.2 _ D.i1z).trans q, h2a.at fun o q => (sb.2 _ D.i2z).trans q⟩, fun c hc => by rw [upd_ne (Nat.ne_of_lt (old c hc))]; exact (f c hc).1⟩
    exact (sb.2 _ D.TIz).trans (k _ _ D.TIz D.TITO D.TIi1 D.TIi2 hTI)
  done := by
    intro X e1 e2 e3 e4 _ i pins s g H E rd I f st stop
    subst e1 e2 e3 e4
    obtain ⟨_, rfl, hot⟩ := rd
    obtain ⟨hz, hTI, ⟨x0, y0, hTO⟩, h1, h2⟩ := st
    obtain ⟨xs, ys, qx, qy, fin⟩ := stop
    obtain ⟨its, rv, p, _⟩ := I.list qx
    obtain ⟨its2, rv2, p2, _⟩ := I.list qy
    have l1 := rv.length
    have l2 := rv2.length
    refine pyNext_zip_hot hot (ny z (by simp)) (ny TO (by simp)) (ny i1 (by simp)) (ny i2 (by simp)) D hz hTI hTO h1 h2 p.isList p2.isList (fin.imp (fun q => by simp; omega) fun q => by simp; omega) fun h' k => ⟨rfl, ?_⟩
    refine I.turnedL (t' := s.toks) (ch := [z, TI, TO, i1, i2]) (fun c o nb q => ?_) f
    have m : ∀ d ∈ [z, TI, TO, i1, i2], c ≠ d := fun d hd e => nb (e ▸ hd)
    exact k c o (m z (by simp)) (m TO (by simp)) (m i1 (by simp)) (m i2 (by simp)) q
  self := fun i s Q E st h => wpAny_pyIter_zip st.1 h
theorem pi_zipR {X : Cx} {p0 : Addr × Obj} {e e2 : Expr} {ta : TA} {p pos tpos : Pos} {elts : List Expr} {kk : Nat} (hp : p0 ∈ X.pn) (hc : X.calm = false) (hg : Gl X "zip") (hm : X.mg "zip" = none) (ha : PA X [e, e2] ta)
    (hs : starEach [e, e2] X.env = (false, eval e X.env) :: starEach [e2] X.env := by rfl) (hpl : (backTo pos (starEach [e2] X.env)).any (·.1) = false := by rfl) :
    PIR X (fun h => ∃ x1, x1 = p0.1 ∧ HotAt X.A x1 h) (.Tuple elts kk tpos) (.Call (.Name "zip" p) [e, e2] [] pos) (iZip X.K ta) := by
  refine ⟨fun pins s g H R I h => Call_ (ld_blt I hg hm boot_zip (callWith_type1 (thn (ha.run pos pins s g H _ I h) fun us s1 ⟨vs, H1, I1, r1, q1⟩ => ?_) hs hpl))⟩
  obtain ⟨a, b, xs, ys, ex, qx, qy, q⟩ := q1
  subst ex
  cases r1 with
  | cons r rr =>
    cases rr with
    | cons r' rr =>
      cases rr
      cases r
      cases r'
      obtain ⟨its, rv, p1, _⟩ := I1.list qx
      obtain ⟨its2, rv2, p2, _⟩ := I1.list qy
      refine call_zip_2 p1.isList p2.isList fun h' hz hTI hTO h1 h2 hsz hk => wpAny_pyIter_zip hz ?_
      have new : ∀ c ∈ [s1.heap.objs.size + 4, s1.heap.objs.size + 2, s1.heap.objs.size + 3, s1.heap.objs.size, s1.heap.objs.size + 1], s1.heap.objs.size ≤ c := fun c hc => by
        have cases5 : c = s1.heap.objs.size + 4 ∨ c = s1.heap.objs.size + 2 ∨ c = s1.heap.objs.size + 3 ∨ c = s1.heap.objs.size ∨ c = s1.heap.objs.size + 1 := by simpa using hc
        omega
      have I2 : Inv X pins g H1 { s1 with heap := h' } := I1.kept (t' := s1.toks) hk
      have old : p0.1 < s1.heap.objs.size := Heap.lt_size (I1.pin p0 (List.mem_append_left _ hp)).1
      have T := turn_zipR (P := X.prog) (w := X.w) (K := X.K) (A := X.A) (elts := elts) (kk := kk) (tpos := tpos) (PySem.W.ktu_apart s1.heap.objs.size a b p1.lt p2.lt) fun c hc => Nat.ne_of_lt (Nat.lt_of_lt_of_le old (new c hc))
      rw [← hc] at T
      exact ⟨_, _, _, _, H1, rfl, I2, T, ⟨hz, hTI, ⟨_, _, hTO⟩, h1, h2⟩, fun c hcm => I1.fpOk (new c hcm) (I1.hok.fresh (new c hcm)), q⟩
end PyH

-- PyH5
set_option maxRecDepth 100000
set_option maxHeartbeats 4000000
noncomputable section
namespace PyH
open PySem PySem.Spec PyProof.Rows HotX L2 L2H
section
variable {X : Cx} {Rd : Heap → Prop} {elt tg iter : Expr} {ifs : List Expr} {scope : Scope} {own : List (Str × Nat)} {pos : Pos} {wi : TI} {tgt : TG} {tt : TT} {te : TE}
/-- [e for t in .. if c], in any context, what is known of the maker's frame at hand within -/
theorem pe_lcR (hN : X.N.Nodup) (stays : Stays X Rd) (hi : PIR X Rd tg iter wi) (ok : BlkOk X.N X.env.scope scope own)
    (hg : ∀ (pins : List (Addr × Obj)) (g : L2.St) (s : Shared) (H : Hp) (C : Addr) (cl : List (Str × Addr)) (fp : List Addr), Inv X pins g H s → (∀ b ∈ fp, FpOk X pins H b) → PG (X.blk s H scope (compEnvC scope cl C X.env) fp) tg tgt)
    (ht : ∀ (pins : List (Addr × Obj)) (g : L2.St) (s : Shared) (H : Hp) (C : Addr) (cl : List (Str × Addr)) (fp : List Addr), Inv X pins g H s → (∀ b ∈ fp, FpOk X pins H b) → PTs (X.blk s H scope (compEnvC scope cl C X.env) fp) ifs tt)
    (he : ∀ (pins : List (Addr × Obj)) (g : L2.St) (s : Shared) (H : Hp) (C : Addr) (cl : List (Str × Addr)) (fp : List Addr), Inv X pins g H s → (∀ b ∈ fp, FpOk X pins H b) →
      PE (X.blk s H scope (compEnvC scope cl C X.env) fp) elt (fun r H Q => L2.wipe r (own.map (·.2)) = L2.wipe g (own.map (·.2)) ∧ te r H Q)) (hs : ∀ x, foldedSetIterable iter X.env x = pure x := by intro _; rfl) :
    PE X (.ListComp elt [⟨tg, iter, ifs, 0⟩] scope pos) (tLc wi tgt tt te (own.map (·.2))) := by
  refine ⟨fun pins s g H Q I run => ?_⟩
  have fr : ∀ y ∈ scope.names, y.2 = .free → ∃ c, X.env.cells.lookup y.1 = some c := fun y hy e => (ok.free y hy e).elim (fun k => I.ok.has _ (.inl k)) fun k => I.ok.has _ (.inr k)
  rw [arm_eval_ListComp]
  refine wpAny_comprehension_free (use := none) rfl hs (closure_ok fr) ok.kind (fun y hy e => by rw [ok.uniq y hy, e]) (thn (hi.run pins s g H _ I run) fun _ s1 h1 => thn h1 fun _ s2 h2 => ?_)
  obtain ⟨it, fp, tn, J, Ha, rfl, Ia, T, sta, fa, q⟩ := h2
  refine wpAny_newObj_type (newEnv_comp ?_) (by show 0 ≤ sizeLine; decide)
  obtain ⟨W, ⟨m0, w0⟩, turn⟩ := q s2.heap.objs.size (Ia.hok.fresh (Nat.le_refl _))
  generalize eL : s2.heap.objs.size = L at w0 turn ⊢
  -- the list, empty
  generalize eb : ({ s2 with heap := s2.heap.push { cls := .type "list", data := .seq ([] : List Value).toArray } } : Shared) = sb
  have hb : sb.heap = s2.heap.push { cls := .type "list", data := .seq ([] : List Value).toArray } := by rw [← eb]
  have Ib : Inv X pins g (upd Ha L (.lst [])) sb := by
    rw [← eb]
    exact Ia.laid (t' := s2.toks) (fun b o e => Heap.get?_push_of_some _ e) (Nat.le_of_eq eL) ⟨Nat.zero_le _, [], 0, .nil, by rw [← eL]; exact Heap.get?_push_size _ rfl⟩
  have lt2 : ∀ b ∈ fp, b < s2.heap.objs.size := fun b m => by obtain ⟨o, e, _⟩ := T.obj _ _ sta b m; exact Heap.lt_size e
  have fb : ∀ b ∈ fp, FpOk X pins (upd Ha L (.lst [])) b ∧ b < sb.heap.objs.size := fun b m =>
    ⟨⟨by rw [upd_ne (by rw [← eL]; exact Nat.ne_of_lt (lt2 b m))]; exact (fa b m).1, (fa b m).2⟩, by rw [hb, Heap.size_push]; exact Nat.lt_succ_of_lt (lt2 b m)⟩
  have fb1 : ∀ b ∈ fp, FpOk X pins (upd Ha L (.lst [])) b := fun b m => (fb b m).1
  have stb : tn 0 sb.heap := T.keep _ _ _ sta fun b _ o e => by rw [hb]; exact Heap.get?_push_of_some _ e
  have Ic := block_start Ib ok hN fb
  have pg := hg pins g sb (upd Ha L (.lst [])) sb.heap.objs.size (cellsFrom (sb.heap.objs.size + 1) scope.names (cloFrom X.env.cells scope.names [])) fp Ib fb1
  have pt := ht pins g sb (upd Ha L (.lst [])) sb.heap.objs.size (cellsFrom (sb.heap.objs.size + 1) scope.names (cloFrom X.env.cells scope.names [])) fp Ib fb1
  have pe := he pins g sb (upd Ha L (.lst [])) sb.heap.objs.size (cellsFrom (sb.heap.objs.size + 1) scope.names (cloFrom X.env.cells scope.names [])) fp Ib fb1
  show codeAny _ _ (.compStart (.ListComp elt [⟨tg, iter, ifs, 0⟩] scope pos) 0 (.ref it) (.ref L) (compEnvC scope (cellsFrom (sb.heap.objs.size + 1) scope.names (cloFrom X.env.cells scope.names [])) sb.heap.objs.size X.env))
    (compPost (model X.prog X.w) X.A X.xe none (EP X pins g Q) (.ref L) sb.heap.objs.size) { sb with heap := pushCells (sb.heap.push { cls := .type "dict", data := .dict #[] }) scope.names }
  generalize ec : compEnvC scope (cellsFrom (sb.heap.objs.size + 1) scope.names (cloFrom X.env.cells scope.names [])) sb.heap.objs.size X.env = ce at Ic pg pt pe ⊢
  have locC : ce.locals = sb.heap.objs.size := by subst ec; rfl
  generalize eH : upd Ha L (.lst []) = Hb at Ib Ic pg pt pe w0 fb fb1
  generalize ed : ({ sb with heap := pushCells (sb.heap.push { cls := .type "dict", data := .dict #[] }) scope.names } : Shared) = sc at Ic ⊢
  have stc : tn 0 sc.heap := T.keep _ _ _ stb fun b _ o e => by rw [← ed]; exact pushCells_keeps _ _ _ _ (Heap.get?_push_of_some _ e)
  have rd : ∀ {ps : List (Addr × Obj)} {r : L2.St} {H' : Hp} {s' : Shared}, Inv (X.blk sb Hb scope ce fp) ps r H' s' → Rd s'.heap := fun {ps r H' s'} I' => stays pins sb s' g Hb H' fp Ib fb1 I'.base
  have own' : ∀ {r : L2.St} {H' : Hp} {s' : Shared}, Inv (X.blk sb Hb scope ce fp) [] r H' s' → (∀ b ∈ fp, H' b = none) → ∀ b ∈ fp, FpOk (X.blk sb Hb scope ce fp) [] H' b := fun {r H' s'} I' no b m =>
    ⟨no b m, (I'.ok.exf b m).1, I'.ok.exfs b m, .inl m, fun x c e => (I'.ok.exf b m).2 x c e, fun p hp => absurd (show p ∈ ([] : List (Addr × Obj)) ++ [] from hp) (by simp)⟩
  have loop : codeAny (model X.prog X.w) X.A (.compLoop (.ListComp elt [⟨tg, iter, ifs, 0⟩] scope pos) 0 (.ref it) (.ref L) ce) (compPost (model X.prog X.w) X.A X.xe none (EP X pins g Q) (.ref L) sb.heap.objs.size) sc := by
    refine compLoop_any (fun n s' => ∃ i H', Inv (X.blk sb Hb scope ce fp) [] (L2.wipe g (own.map (·.2))) H' s' ∧ tn i s'.heap ∧ (∀ b ∈ fp, H' b = none) ∧ W i n H') ?_ m0 ⟨0, Hb, Ic, stc, fun b m => (fb1 b m).1, w0⟩
    rintro n s5 ⟨i, H5, I5, st5, n5, w5⟩
    rcases turn i n H5 w5 with ⟨stop, qq⟩ | ⟨go, Nx, hNx, step⟩
    · refine thnF (T.done (X.blk sb Hb scope ce fp) rfl rfl rfl rfl rfl i [] s5 _ H5 (fun _ _ => False) (rd I5) I5 (own' I5 n5) st5 stop) fun _ s6 ⟨e, I6⟩ => ?_
      subst e
      have I7 : Inv X pins g H5 s6 := Ib.call' (ch := fp) I6.os I6.base I6.hok I6.bare fun b m => ⟨(fb1 b m).2.2.2.1, (fb1 b m).2.1, (fb1 b m).2.2.2.2.1, (fb1 b m).2.2.2.2.2⟩
      have nC : H5 sb.heap.objs.size = none := by have z : H5 ce.locals = none := I6.free; rw [locC] at z; exact z
      obtain ⟨m, ns, _⟩ := I6.loc
      have ns : s6.heap.Ns ce.locals m := ns
      rw [locC] at ns
      obtain ⟨f0, f1, f2, f3, f4, f5⟩ := Ib.fpOk (Nat.le_refl _) nC
      exact ⟨m, ns, fun h3 sb3 => ⟨.ref L, H5, I7.turned (t' := s6.toks) (fun b o nb e => (sb3.2 b nb).trans e) f0 f1 f3 f4 f5, rfl, qq⟩⟩
    · refine thnF (T.item (X.blk sb Hb scope ce fp) rfl rfl rfl rfl rfl i [] s5 _ H5 (fun _ _ => False) (rd I5) I5 (own' I5 n5) st5 go) fun _ s6 ⟨u, e, h6⟩ => ?_
      subst e
      refine thnF h6 fun _ s7 ⟨x, H7, I7, r7, y7, st7, n7⟩ => ?_
      have I7' := I7.pinned (own' I7 n7) (T.obj _ _ st7)
      refine thnF (pg.run _ s7 _ H7 x u _ I7' r7 (step x H7 y7)) fun _ s8 ⟨g8, H8, I8, w8, q8⟩ => thnF (pt.run _ s8 g8 H8 _ I8 q8) fun b s9 ⟨H9, I9, q9⟩ => ?_
      have fin : ∀ {s' : Shared} {H' : Hp}, Inv (X.blk sb Hb scope ce fp) ([] ++ pinsAt fp s7.heap) g8 H' s' → Nx H' → ∃ m, m < n ∧ ∃ i H', Inv (X.blk sb Hb scope ce fp) [] (L2.wipe g (own.map (·.2))) H' s' ∧ tn i s'.heap ∧ (∀ b ∈ fp, H' b = none) ∧ W i m H' := fun {s' H'} I' nx => by
        obtain ⟨m', lm, wn⟩ := hNx H' nx
        have at7 : ∀ b ∈ fp, ∀ o, s7.heap.get? b = some o → s'.heap.get? b = some o ∧ H' b = none := fun b m o e => by
          have z := I'.pin (b, o) (List.mem_append_right _ (List.mem_append_right _ (mem_pinsAt m e)))
          exact ⟨z.1, z.2.1⟩
        refine ⟨m', lm, i + 1, H', (I'.unpinned (pins := [])).weak (by rw [← w8, wipe_length]) (fun j v e => by rw [← w8] at e; exact (wipe_some e).1), T.keep _ _ _ st7 fun b m o e => (at7 b m o e).1, fun b m => ?_, wn⟩
        obtain ⟨o, e, _⟩ := T.obj _ _ st7 b m
        exact (at7 b m o e).2
      cases b with
      | false =>
        simp only [Bool.false_eq_true, if_false] at q9 ⊢
        exact fin I9 q9
      | true =>
        simp only [if_true] at q9 ⊢
        have w8' : L2.wipe g8 (own.map (·.2)) = L2.wipe g (own.map (·.2)) := w8
        refine thnF (pe.run _ s9 g8 H9 _ I9 ⟨w8', q9⟩) fun z s10 ⟨v, H10, I10, r10, acc, hD, hz, nx⟩ => ?_
        exact app_ok (X := X.blk sb Hb scope ce fp) I10 hD hz r10 fun s11 I11 => fin I11 nx
  exact codeAny_compStart_list loop (T.self 0 _ _ _ stc loop)
end
end PyH

-- PyL1
set_option maxRecDepth 100000
set_option maxHeartbeats 4000000
noncomputable section
namespace PyL
open PySem PySem.Spec PyProof.Rows L2 PyD
/-! ### an exception that stands in the context's pins -/
section
variable {X : Cx} {c : Cfg} {p : Addr × Obj} {C0 : Addr} {z : Option (Addr × Str)} {cls : Str}
/-- what is known of it -/
structure ExAt (X : Cx) (c : Cfg) (p : Addr × Obj) (C0 : Addr) (z : Option (Addr × Str)) (cls : Str) : Prop where
  only : ∀ cl a y, c.K.exn cl a y → cl = cls ∧ a = p.1 ∧ y = z
  pin : p ∈ X.pn
  cl : ExcC X.K C0
  zc : Zc (.ref C0) (z.map (·.1)) p.2
  fl : ∃ vs, p.2.data = .fields vs
theorem ExAt.inst {pins : List (Addr × Obj)} {g : L2.St} {H : Hp} {s : Shared} {io : List Addr} {v : V} (h : ExAt X c p C0 z cls) (I : Inv X pins g H s) {cl : Str} {ds : List D} (r : R c.K H io (.exn cl ds) v) :
    v = .ref p.1 ∧ ∃ od, PySem.W.InstAt s.heap p.1 p.2 C0 od ∧ ∀ d, ds = [d] → ∃ (f : Str) (o : Obj) (u : V) (w : Value), (∃ dx, z = some (dx, f)) ∧ od = some o ∧ PySem.W.lookIn f o = some (some w) ∧ RelV u w ∧ R c.K H io d u := by
  obtain ⟨look, _⟩ := I.pin p (List.mem_append_left _ h.pin)
  obtain ⟨vs, hd⟩ := h.fl
  obtain ⟨z1, z2⟩ := h.zc
  have nc : PySem.W.notCls p.2 = true := by unfold PySem.W.notCls; rw [hd]
  cases r with
  | exn0 e =>
    obtain ⟨_, rfl, rfl⟩ := h.only _ _ _ e
    exact ⟨rfl, none, ⟨look, z1, nc, by rw [z2]; exact trivial⟩, fun d e => by cases e⟩
  | @exn1 _ f _ dx d u e hx rd =>
    obtain ⟨_, ea, ez⟩ := h.only _ _ _ e
    subst ea
    obtain ⟨mA, hns, hr⟩ := (show ObjOk X.prog X.w H s.heap dx (.xd [(f, u)]) from I.hok _ _ hx)
    obtain ⟨od, ho, hl⟩ := lookIn_ns hns
    obtain ⟨w, hw, rw'⟩ := RelO.some_of (v := u) (o := mA f) (by have q := hr f; simpa using q)
    refine ⟨rfl, some od, ⟨look, z1, nc, by rw [z2, ← ez]; exact ho⟩, fun d' e' => ?_⟩
    cases e'
    exact ⟨f, od, u, w, ⟨dx, ez.symm⟩, rfl, by rw [hl, hw], rw', rd⟩
/-- isinstance(e, C) -/
def isExD (b : Bool) (d : D) (M : Sto) : Option (D × Sto) :=
  match d with
  | .exn _ _ => some (.bl b, M)
  | _ => none
theorem de_isex {CA : Addr} {b : Bool} {e : Expr} {f : Den D} {x : Str} {p1 p2 pos : Pos} (hK : X.K = c.K.f) (h : ExAt X c p C0 z cls) (hg : Gl X "isinstance") (hm : X.mg "isinstance" = none) (hgx : Gl X x) (hmx : X.mg x = some (.ref CA)) (hk : PySem.W.kitOne X.K (.ref C0) (.ref CA) = some b)
    (he : PE X e (sE c f)) (hd : (x == ("__debug__" : Str)) = false := by decide) (hst : starEach [e, .Name x p2] X.env = (false, eval e X.env) :: starEach [.Name x p2] X.env := by rfl) (hst2 : starEach [.Name x p2] X.env = (false, eval (.Name x p2) X.env) :: starEach [] X.env := by rfl)
    (hpl : (backTo pos (starEach [.Name x p2] X.env)).any (·.1) = false := by rfl) : PE X (.Call (.Name "isinstance" p1) [e, .Name x p2] [] pos) (sE c (op1 (isExD b) f)) := by
  have cl : (PySem.W.clsIn X.K C0).isSome = true := by
    obtain ⟨cd, q, _⟩ := PySem.W.any_some h.cl.hd
    rw [q]
    rfl
  refine PE.imp (pe_callB (r := fun xs H Q => ∃ (M : Sto) (io : List Addr) (cl : Str) (ds : List D) (v : V), xs = [v, .ref CA] ∧ R c.K H io (.exn cl ds) v ∧ Q (.bl b) H) ?_ hg hm boot_isinstance (pa_cons he (pa_cons (pe_glob (v := .ref CA) hgx hmx rfl hd) pa_nil hst2) hst) (by decide) (by decide) hst hpl) fun g H Q s => ?_
  · intro pins s g H xs us Q I r q
    obtain ⟨M, io, cl', ds, v, rfl, rd, q⟩ := q
    obtain ⟨rfl, od, J, _⟩ := h.inst I rd
    cases r with
    | cons r1 r2 =>
      cases r2 with
      | cons r2 r3 =>
        cases r3
        cases r1
        cases r2
        exact PySem.W.kia_one (PySem.W.kitx_exc (od := od) cl h.cl.hg h.cl.hk h.cl.hs h.cl.ha h.cl.hn h.cl.ht h.cl.hm) I.kIn J hk (fun z => nomatch z) fun tk => ⟨.bl b, H, I.kept (t' := tk) fun _ _ z => z, rfl, q⟩
  · refine sG.bind s fun d x r M1 io1 H1 re rs ra run => ?_
    obtain ⟨y, M3, eq, k⟩ := run.lift
    unfold isExD at eq
    split at eq
    · cases eq
      exact ⟨M1, io1, _, _, x, rfl, ra, k.ok Ext.refl rs (.bl _)⟩
    · cases eq
/-- e.f -/
def fldD (d : D) (M : Sto) : Option (D × Sto) :=
  match d with
  | .exn _ [v] => some (v, M)
  | _ => none
theorem pe_fldX {e : Expr} {te : TE} {pos : Pos} {n : Str} (h : ExAt X c p C0 z cls) (T : XfC X.K C0) (hno : PySem.W.findIn X.K (.ref C0) n = some none) (hn : ∀ dx f, z = some (dx, f) → f = n) (he : PE X e te) (hb : attributeBase e n X.env (eval e X.env) = eval e X.env := by rfl) :
    PE X (.Attribute e n pos) (fun g H Q => te g H fun x H1 => ∃ (io : List Addr) (cl : Str) (d : D), R c.K H1 io (.exn cl [d]) x ∧ ∀ v, R c.K H1 io d v → Q v H1) := by
  refine ⟨fun pins s g H Q I q => attr_of hb (thn (he.run pins s g H _ I q) fun u s1 hh => ?_)⟩
  obtain ⟨x, H1, I1, rx, io, cl, d, rd, q⟩ := hh
  obtain ⟨rfl, od, J, more⟩ := h.inst I1 rd
  obtain rfl : u = Value.ref p.1 := rx
  obtain ⟨f, o, v, w, ⟨dx, ez⟩, eo, look, rw', rv⟩ := more d rfl
  subst eo
  have ef := hn _ _ ez
  subst ef
  exact HandSPX.exc_get I1.kIn J T.ga T.gg T.exC (PySem.W.findObj_own T.hdC hno rfl look) (handed_of rw') ⟨v, H1, I1.tok _, rw', q v rv⟩
theorem de_fldX {e : Expr} {f : Den D} {pos : Pos} {n : Str} (h : ExAt X c p C0 z cls) (T : XfC X.K C0) (hno : PySem.W.findIn X.K (.ref C0) n = some none) (hn : ∀ dx f, z = some (dx, f) → f = n) (he : PE X e (sE c f)) (hb : attributeBase e n X.env (eval e X.env) = eval e X.env := by rfl) :
    PE X (.Attribute e n pos) (sE c (op1 fldD f)) := PE.imp (pe_fldX h T hno hn he hb) fun g H Q s => by
  refine sG.bind s fun d x r M1 io1 H1 re rs ra run => ?_
  obtain ⟨y, M3, eq, k⟩ := run.lift
  unfold fldD at eq
  split at eq
  · cases eq
    exact ⟨io1, _, _, ra, fun v rv => k.ok Ext.refl rs rv⟩
  · cases eq
end
end PyL

-- PyL2
set_option maxRecDepth 100000
set_option maxHeartbeats 4000000
noncomputable section
namespace PyL
open PySem PySem.Spec PyProof.Rows L2 PyD PyH HotX L2H
section
variable {X : Cx} {c : Cfg} {p0 : Addr × Obj}
abbrev RdX (X : Cx) (p0 : Addr × Obj) : Heap → Prop := fun h => ∃ x1, x1 = p0.1 ∧ HotAt X.A x1 h
theorem stays_pin (hp : p0 ∈ X.pn) (hot : Hot1 X.A p0) : Stays X (RdX X p0) := fun pins s s' g H H' fp I f un => by
  obtain ⟨look, nH, nl, nf, _⟩ := I.pin p0 (List.mem_append_left _ hp)
  exact stays_hot hp hot (fun z => (List.mem_cons.mp (I.stkSub _ z)).elim nl nf) pins s s' g H H' fp I f un
theorem PIR.imp {Rd : Heap → Prop} {a b : Expr} {t t' : TI} (h : PIR X Rd a b t) (i : ∀ g H Q, t' g H Q → t g H Q) : PIR X Rd a b t' := ⟨fun pins s g H Q I q => h.run pins s g H Q I (i g H Q q)⟩
/-- zip of two lists -/
def zipSrcL (f : Den (List D)) : Den Src := bindD f fun ds _ M => match ds with
  | [a, b] => if isLs a && isLs b && (itemsD a M).isSome && (itemsD b M).isSome then some (.ok (.zip a b), M) else none
  | _ => none
theorem dp_zipR {elts : List Expr} {kk : Nat} {tpos p pos : Pos} {e e2 : Expr} {hs : Den (List D)} (hp : p0 ∈ X.pn) (hc : X.calm = false) (hK : X.K = c.K.f) (hg : Gl X "zip") (hm : X.mg "zip" = none) (ha : PA X [e, e2] (sA c hs))
    (hst : starEach [e, e2] X.env = (false, eval e X.env) :: starEach [e2] X.env := by rfl) (hpl : (backTo pos (starEach [e2] X.env)).any (·.1) = false := by rfl) :
    PIR X (RdX X p0) (.Tuple elts kk tpos) (.Call (.Name "zip" p) [e, e2] [] pos) (wS c (zipSrcL hs)) := PIR.imp (pi_zipR hp hc hg hm ha hst hpl) fun g H Q s => by
  obtain ⟨r, M, io, re, rs, sx, M', eq, k⟩ := s
  obtain ⟨ds, M1, ef, ek⟩ := bind_ok eq
  rw [hK]
  split at ek
  · rename_i a b
    split at ek
    · rename_i hl
      cases ek
      refine ⟨r, M, io, re, rs, .ok _, _, ef, fun io1 H1 e1 rs1 vs rv => ?_⟩
      obtain ⟨x, y, rfl, rx, ry⟩ := rv.two
      rw [Bool.and_eq_true, Bool.and_eq_true, Bool.and_eq_true] at hl
      obtain ⟨⟨⟨ta, tb⟩, h1⟩, h2⟩ := hl
      obtain ⟨j, p, rfl, rfl, ep⟩ := ls_of ta rx
      obtain ⟨l, q, rfl, rfl, eq⟩ := ls_of tb ry
      obtain ⟨xs, hx⟩ := itemsD_L rs1 ep h1
      obtain ⟨ys, hy⟩ := itemsD_L rs1 eq h2
      exact ⟨p, q, xs, ys, rfl, hx, hy, k io1 H1 e1 rs1 _ (jok_zipL ep eq)⟩
    · cases ek
  · cases ek
/-- [e for t in src if c] while an exception is handled, the target a tuple of names -/
theorem de_lcR {Rd : Heap → Prop} {src : Den Src} {ct : CT} {ift : Den Bool} {eltD : Den D} {n : Nat} {elt tg iter : Expr} {ifs : List Expr} {scope : Scope} {own : List (Str × Nat)} {sl : List Nat} {pos : Pos} (hK : X.K = c.K.f) (hN : X.N.Nodup) (stays : Stays X Rd) (hi : PIR X Rd tg iter (wS c src)) (ok : BlkOk X.N X.env.scope scope own) (hv : ∀ i ∈ ct.slots, i ∈ sl)
    (hg : ∀ (pins : List (Addr × Obj)) (g : L2.St) (s : Shared) (H : Hp) (C : Addr) (cl : List (Str × Addr)) (fp : List Addr), Inv X pins g H s → (∀ b ∈ fp, FpOk X pins H b) → PG (X.blk s H scope (compEnvC scope cl C X.env) fp) tg (gC X.K ct))
    (ht : ∀ (pins : List (Addr × Obj)) (g : L2.St) (s : Shared) (H : Hp) (C : Addr) (cl : List (Str × Addr)) (fp : List Addr), Inv X pins g H s → (∀ b ∈ fp, FpOk X pins H b) → PTs (X.blk s H scope (compEnvC scope cl C X.env) fp) ifs (sT c ift))
    (he : ∀ (pins : List (Addr × Obj)) (g : L2.St) (s : Shared) (H : Hp) (C : Addr) (cl : List (Str × Addr)) (fp : List Addr), Inv X pins g H s → (∀ b ∈ fp, FpOk X pins H b) →
      PE (X.blk s H scope (compEnvC scope cl C X.env) fp) elt (fun r H Q => L2.wipe r sl = L2.wipe g sl ∧ sE c eltD r H Q)) (hs : ∀ x, foldedSetIterable iter X.env x = pure x := by intro _; rfl) (hsl : own.map (·.2) = sl := by rfl) :
    PE X (.ListComp elt [⟨tg, iter, ifs, 0⟩] scope pos) (sE c (compE src sl ct ift eltD n)) := by
  subst hsl
  refine PE.imp (pe_lcR hN stays hi ok hg ht he hs) fun g H Q s => ?_
  rw [hK]
  exact compE_lc hv s
/-- the target of two names, within -/
theorem pg_two {scope : Scope} {C : Addr} {cl : List (Str × Addr)} {fp : List Addr} {pins : List (Addr × Obj)} {g : L2.St} {s : Shared} {H : Hp} {es : List Expr} {kk n : Nat} {pos : Pos} {t : TGs} (hp : p0 ∈ X.pn) (hot : Hot1 X.A p0) (I : Inv X pins g H s) (f : ∀ b ∈ fp, FpOk X pins H b)
    (h : PGs (X.blk s H scope (compEnvC scope cl C X.env) fp) es t) (hn : (assignEach es (X.blk s H scope (compEnvC scope cl C X.env) fp).env).length = n := by rfl) (hst : (assignEach es (X.blk s H scope (compEnvC scope cl C X.env) fp).env).findIdx? (·.1) = none := by rfl) :
    PG (X.blk s H scope (compEnvC scope cl C X.env) fp) (.Tuple es kk pos) (gTup X.K n t) :=
  pg_tupH (X := X.blk s H scope (compEnvC scope cl C X.env) fp) (fun ps s' g' H' I' => by
    obtain ⟨x1, _, hx⟩ := stays_pin hp hot pins s s' g H H' fp I f I'.base
    exact ⟨x1, hx⟩) h hn hst
/-! ### texts cut and put together -/
def splitE (f h : Den D) : Den D := bindD f fun a => match a with
  | .str x => bindD h fun b _ M => match b with
    | .str y => if (y.length == 0) = false ∧ x.length ≤ 90000 then some (.ok (.lst M.length), (sApp M (.lst ((Txt.split x y).map D.str)))) else none
    | _ => none
  | _ => fun _ _ => none
theorem rl_strs {K : KT} {H : Hp} {io : List Addr} : ∀ ys : List Str, RL K H io (ys.map D.str) (ys.map V.str)
  | [] => .nil
  | y :: r => .cons (.str y) (rl_strs r)
theorem de_split {o e : Expr} {f h : Den D} {apos pos : Pos} (ho : PE X o (sE c f)) (he : PE X e (sE c h)) (hs : starEach [e] X.env = [(false, eval e X.env)] := by rfl) (hbase : attributeBase o "split" X.env (eval o X.env) = eval o X.env := by rfl) (hline : (apos.endLine == pos.line) = true := by rfl) :
    PE X (.Call (.Attribute o "split" apos) [e] [] pos) (sE c (splitE f h)) := PE.imp (pe_split ho he hs hbase hline) fun g H Q s => by
  refine sG.bind s fun d x r M1 io1 H1 re rs ra run => ?_
  cases d with
  | str x =>
    cases ra
    refine ⟨⟨x, rfl⟩, r, M1, io1, re, rs, run.bind fun d2 y M2 io2 H2 e2 rs2 rb run2 => ?_⟩
    obtain ⟨z, M3, eq, k⟩ := run2
    split at eq
    · split at eq
      · rename_i hl
        cases eq; cases rb
        refine ⟨x, _, rfl, rfl, hl.1, Nat.le_trans (Nat.add_le_add_right hl.2 2) (by decide), fun q n => ?_⟩
        exact k (io2 ++ [q]) _ (Ext.alloc n) (rs2.alloc n ⟨_, rfl, (rl_strs _).mono (Ext.alloc n)⟩) _ (.lst (by rw [← rs2.len, List.getElem?_append_right (Nat.le_refl _)]; simp))
      · cases eq
    · cases eq
  | _ => obtain ⟨x, M', eq, k⟩ := run; cases eq
def joinE (f h : Den D) : Den D := bindD f fun a => match a with
  | .str x => bindD h fun b _ M => match lstOf b M with
    | some ds => match strsD ds with
      | some ys => if (ys.map (·.length)).sum + ys.length * x.length ≤ 16777216 then some (.ok (.str (Txt.join x ys)), M) else none
      | none => none
    | none => none
  | _ => fun _ _ => none
theorem de_join {o e : Expr} {f h : Den D} {apos pos : Pos} (hK : X.K = c.K.f) (ho : PE X o (sE c f)) (he : PE X e (sE c h)) (hs : starEach [e] X.env = [(false, eval e X.env)] := by rfl) (hbase : attributeBase o "join" X.env (eval o X.env) = eval o X.env := by rfl) (hline : (apos.endLine == pos.line) = true := by rfl) :
    PE X (.Call (.Attribute o "join" apos) [e] [] pos) (sE c (joinE f h)) := PE.imp (pe_join ho he hs hbase hline) fun g H Q s => by
  refine sG.bind s fun d x r M1 io1 H1 re rs ra run => ?_
  cases d with
  | str x =>
    cases ra
    refine ⟨⟨x, rfl⟩, r, M1, io1, re, rs, run.bind fun d2 y M2 io2 H2 e2 rs2 rb run2 => ?_⟩
    obtain ⟨z, M3, eq, k⟩ := run2
    dsimp only at eq
    split at eq
    · rename_i ds e1
      split at eq
      · rename_i ys e2
        split at eq
        · rename_i hl
          cases eq
          obtain ⟨q, vs, rfl, hq, rl⟩ := lstOf_ok e1 rs2 rb
          have z := strs_of e2 rl
          subst z
          exact ⟨x, q, ys, rfl, rfl, .inl (SqL.of hq), hl, k.ok Ext.refl rs2 (.str _)⟩
        · cases eq
      · cases eq
    · cases eq
  | _ => obtain ⟨x, M', eq, k⟩ := run; cases eq
end
end PyL

-- PyL3
set_option maxRecDepth 100000
set_option maxHeartbeats 4000000
noncomputable section
namespace PyL
open PySem PySem.Spec PyProof.Rows L2 PyD PyH HotX L2H
/-- a def of one parameter, called where the exception p is handled: what stands within is told of p -/
theorem pe_hot1 {X : Cx} {p : Addr × Obj} {x a : Str} {st : Stmt} {f : Addr} {fd : FuncData} {N : List Str} {k : Nat} {e : Expr} {te : TE} {t : TS} {q pos : Pos} (hp : p ∈ X.pn) (hot : Hot1 X.A p) (F : Fun X.K x x st f fd) (S : FnScope N [a] (defScope st)) (hr : RoomH (k + 1) X.A)
    (hb : Binds X.K fd [a] []) (hg : Gl X x) (hm : X.mg x = some (.ref f)) (he : PE X e te)
    (hbody : ∀ (cdv : Value) (s : Shared) (H : Hp), RoomH k (X.A.deeper (envOfC x (defScope st) s.heap.objs.size f cdv)) → PSs (cxH C8.CX0 X.prog X.w X.K X.mg X.base N x (defScope st) f cdv X.A X.stack s H C8.E0 p) (defBody st) t)
    (hd : (x == ("__debug__" : Str)) = false := by decide) (hst : starEach [e] X.env = (false, eval e X.env) :: starEach [] X.env := by rfl) (hpl : (backTo pos (starEach [] X.env)).any (·.1) = false := by rfl) :
    PE X (.Call (.Name x q) [e] [] pos) (fun g H Q => te g H fun v H1 => t { nx := fun _ H' => Q .non H', rt := Q } (L2.start N [v]) H1) := by
  have pa : PA X [e] (tCons te tNil) := pa_cons he pa_nil hst
  refine ⟨fun pins s g H Q I run => wpAny_Call_Name_kw (ld_glob I hg hm ?_ hd)⟩
  refine PySem.W.callWith_K (h₀ := X.base) I.ok.mod.kin F.kp (thn (pa.run pos pins s g H (fun vs H1 => match vs with
    | [v] => t { nx := fun _ H' => Q .non H', rt := Q } (L2.start N [v]) H1
    | _ => False) I run) fun us s1 ⟨vs, H1, I1, r1, q⟩ => ⟨I1.kIn, ?_⟩) hst hpl
  obtain ⟨v, u, rfl, r, q7⟩ : ∃ v u, us = [u] ∧ RelV v u ∧ t { nx := fun _ H' => Q .non H', rt := Q } (L2.start N [v]) H1 := by
    cases r1 with
    | nil => exact q.elim
    | cons r rr =>
      cases rr with
      | nil => exact ⟨_, _, rfl, r, q⟩
      | cons _ _ => exact q.elim
  obtain ⟨oc, od, kV, doc, pm, an, cdv, ct, osl, efd, lk, hcd⟩ := F.ex
  have b := hb s1 [u] I1.kIn rfl
  rw [List.append_nil] at b
  have P1 := I1.pin p (List.mem_append_left _ hp)
  have ok : PinOk X.stack H1 s1 p := ⟨P1.1, P1.2.1, fun z => (List.mem_cons.mp (I1.stkSub p.1 z)).elim P1.2.2.1 P1.2.2.2.1, P1.2.2.2.2⟩
  have e0 := I1.env0
  have KX : X.K.In s1.heap := I1.kIn
  have rc : codeAny (model X.prog X.w) X.A (.call (.ref f) ⟨[u], []⟩) (CR C8.CX0 X.stack X.prog X.w H1 s1 Q C8.E0) s1 := by
    rw [efd] at b lk
    refine codeAny_call_function hr.depth (KX _ _ lk) rfl S.co S.gen rfl (PySem.W.codeRec_of KX hcd) (b _ _ _ _ (wpAny_newFunctionEnv_cells S.kind (fun ⟨n, y⟩ hy => ?_) fun env eq s2 xx => ?_))
    · exact (S.par n (List.of_mem_zip hy).1).imp id fun z => ⟨z, PySem.W.cellsFrom_some _ _ _ (.inl z)⟩
    · subst eq
      refine ⟨(e0.mod.nolimit.keeps fun b o e => (e0.bs b o e).1).keeps xx.toInCall.keep, codeAny_func ?_⟩
      have I2 : Inv (cxH C8.CX0 X.prog X.w X.K X.mg X.base N x (defScope st) f cdv X.A X.stack s1 H1 C8.E0 p) [] (L2.start N [v]) H1 s2 := inv_startH S ok e0 rfl (.cons r .nil) xx
      refine wpAny_mono ((hbody cdv s1 H1 (hr.deeper _)).run [] s2 (L2.start N [v]) H1 _ I2 q7) (fun fl s3 z => ?_) fun _ _ z => z
      cases fl with
      | ret w => obtain ⟨y, g', H', J, rv, q⟩ := z; exact ⟨y, H', J.os, J.bare, J.base, J.hok, rv, q⟩
      | next => obtain ⟨g', H', J, q⟩ := z; exact ⟨.non, H', J.os, J.bare, J.base, J.hok, rfl, q⟩
      | brk => obtain ⟨_, _, _, z⟩ := z; exact False.elim z
      | cont => obtain ⟨_, _, _, z⟩ := z; exact False.elim z
  refine wpAny_call (codeAny_mono rc fun r s2 z => ?_)
  cases r with
  | error e => exact (show False from z).elim
  | ok fl =>
    cases fl with
    | ret u => exact I1.after z
    | next => exact False.elim z
    | brk => exact False.elim z
    | cont => exact False.elim z
end PyL

-- PyL4
set_option maxRecDepth 100000
set_option maxHeartbeats 4000000
noncomputable section
namespace PyL
open PySem PySem.Spec PyProof.Rows L2 PyD PyH HotX L2H
/-! ### the same data, other exceptions at hand -/
mutual
def noEx : D → Bool
  | .exn _ _ => false
  | .tup ds => noExs ds
  | .ktup ds => noExs ds
  | _ => true
def noExs : List D → Bool
  | [] => true
  | d :: ds => noEx d && noExs ds
end
def noExKV {κ : Type} (kvs : List (κ × D)) : Bool := kvs.all fun p => noEx p.2
def noExC : Cell → Bool
  | .lst ds => noExs ds
  | .dk kvs => noExKV kvs
  | .dt kvs => noExKV kvs
  | .ob _ kvs => noExKV kvs
  | .dead => true
def noExM (M : Sto) : Bool := M.all noExC
section
variable {F : PySem.W.Frag} {T : List (Addr × Str)} {lam : Nat → Addr → HO → Addr → HO → Prop} {x x' : Str → Addr → Option (Addr × Str) → Prop} {H : Hp} {io : List Addr}
mutual
theorem R.conv : ∀ {d : D} {v : V}, noEx d = true → R ⟨F, T, lam, x⟩ H io d v → R ⟨F, T, lam, x'⟩ H io d v
  | _, _, _, .non => .non
  | _, _, _, .bl b => .bl b
  | _, _, _, .int i => .int i
  | _, _, _, .str z => .str z
  | _, _, _, .ty n => .ty n
  | _, _, h, .tup e r => .tup e (RL.conv (by simpa only [noEx] using h) r)
  | _, _, h, .ktup e r => .ktup e (RL.conv (by simpa only [noEx] using h) r)
  | _, _, _, .lst e => .lst e
  | _, _, _, .dic e => .dic e
  | _, _, _, .fn l e q e2 q2 => .fn l e q e2 q2
  | _, _, h, .exn0 _ => by simp only [noEx] at h; cases h
  | _, _, h, .exn1 _ _ _ => by simp only [noEx] at h; cases h
theorem RL.conv : ∀ {ds : List D} {vs : List V}, noExs ds = true → RL ⟨F, T, lam, x⟩ H io ds vs → RL ⟨F, T, lam, x'⟩ H io ds vs
  | _, _, _, .nil => .nil
  | _, _, h, .cons r t => by
    simp only [noExs, Bool.and_eq_true] at h
    exact .cons (R.conv h.1 r) (RL.conv h.2 t)
end
theorem RKV.conv {κ : Type} : ∀ {a : List (κ × D)} {b : List (κ × V)}, noExKV a = true → RKV ⟨F, T, lam, x⟩ H io a b → RKV ⟨F, T, lam, x'⟩ H io a b
  | [], _, _, h => by cases h; exact .nil
  | p :: r, _, e, h => by
    cases h with
    | cons h1 h2 =>
      unfold noExKV at e
      rw [List.all_cons, Bool.and_eq_true] at e
      exact .cons ⟨h1.1, R.conv e.1 h1.2⟩ (RKV.conv e.2 h2)
theorem RC.conv {c : Cell} {o : HO} (e : noExC c = true) (h : RC ⟨F, T, lam, x⟩ H io c o) : RC ⟨F, T, lam, x'⟩ H io c o := by
  cases c with
  | lst ds => obtain ⟨xs, q, r⟩ := h; exact ⟨xs, q, RL.conv e r⟩
  | dk ds => obtain ⟨xs, q, r⟩ := h; exact ⟨xs, q, RKV.conv e r⟩
  | dt ds => obtain ⟨xs, q, r⟩ := h; exact ⟨xs, q, RKV.conv e r⟩
  | ob cl fs => obtain ⟨dx, xs, q, r⟩ := h; exact ⟨dx, xs, q, RKV.conv e r⟩
  | dead => exact h
theorem RS.conv {M : Sto} (e : noExM M = true) (h : RS ⟨F, T, lam, x⟩ H io M) : RS ⟨F, T, lam, x'⟩ H io M := ⟨h.len, h.nd, h.tab, fun i c ei => by
  obtain ⟨a, o, e1, e2, rc⟩ := h.cell i c ei
  exact ⟨a, o, e1, e2, RC.conv (List.all_eq_true.mp e c (sGet_mem ei)) rc⟩⟩
/-- where there is no exception at all -/
abbrev none3 : Str → Addr → Option (Addr × Str) → Prop := fun _ _ _ => False
mutual
theorem R.up : ∀ {d : D} {v : V}, R ⟨F, T, lam, none3⟩ H io d v → R ⟨F, T, lam, x'⟩ H io d v
  | _, _, .non => .non
  | _, _, .bl b => .bl b
  | _, _, .int i => .int i
  | _, _, .str z => .str z
  | _, _, .ty n => .ty n
  | _, _, .tup e r => .tup e (RL.up r)
  | _, _, .ktup e r => .ktup e (RL.up r)
  | _, _, .lst e => .lst e
  | _, _, .dic e => .dic e
  | _, _, .fn l e q e2 q2 => .fn l e q e2 q2
  | _, _, .exn0 h => h.elim
  | _, _, .exn1 h _ _ => h.elim
theorem RL.up : ∀ {ds : List D} {vs : List V}, RL ⟨F, T, lam, none3⟩ H io ds vs → RL ⟨F, T, lam, x'⟩ H io ds vs
  | _, _, .nil => .nil
  | _, _, .cons r t => .cons (R.up r) (RL.up t)
end
theorem RKV.up {κ : Type} : ∀ {a : List (κ × D)} {b : List (κ × V)}, RKV ⟨F, T, lam, none3⟩ H io a b → RKV ⟨F, T, lam, x'⟩ H io a b
  | [], _, h => by cases h; exact .nil
  | p :: r, _, h => by
    cases h with
    | cons h1 h2 => exact .cons ⟨h1.1, R.up h1.2⟩ (RKV.up h2)
theorem RC.up {c : Cell} {o : HO} (h : RC ⟨F, T, lam, none3⟩ H io c o) : RC ⟨F, T, lam, x'⟩ H io c o := by
  cases c with
  | lst ds => obtain ⟨xs, q, r⟩ := h; exact ⟨xs, q, RL.up r⟩
  | dk ds => obtain ⟨xs, q, r⟩ := h; exact ⟨xs, q, RKV.up r⟩
  | dt ds => obtain ⟨xs, q, r⟩ := h; exact ⟨xs, q, RKV.up r⟩
  | ob cl fs => obtain ⟨dx, xs, q, r⟩ := h; exact ⟨dx, xs, q, RKV.up r⟩
  | dead => exact h
theorem RS.up {M : Sto} (h : RS ⟨F, T, lam, none3⟩ H io M) : RS ⟨F, T, lam, x'⟩ H io M := ⟨h.len, h.nd, h.tab, fun i c ei => by
  obtain ⟨a, o, e1, e2, rc⟩ := h.cell i c ei
  exact ⟨a, o, e1, e2, RC.up rc⟩⟩
end
theorem Ext.k {K K' : KT} {io io' : List Addr} {H H' : Hp} (e : Ext K io H io' H') : Ext K' io H io' H' := ⟨e.u, e.i⟩
/-! ### what is asked of a class of exceptions -/
structure ClsF (K : PySem.W.Frag) (mg : Str → Option Value) (NE : Addr) (tab : List (Str × Addr)) (sub : Str → Str → Bool) (fld : Str) (cls : Str) : Prop where
  ex : ∃ C0, mg cls = some (.ref C0) ∧ PySem.W.exmOne K (.ref C0) (.ref NE) = some true ∧ ExcC K C0 ∧ XfC K C0 ∧ PySem.W.findIn K (.ref C0) fld = some none ∧ ∀ p ∈ tab, PySem.W.kitOne K (.ref C0) (.ref p.2) = some (sub cls p.1)
/-- the word for what the call of a lambda raises -/
def errE (known : List Str) (name : Str → FDen) (f : Den D) : Den D := fun r M => match f r M with
  | some (.ok _, M1) => some (.ok (.str "none"), M1)
  | some (.ex x, M1) => if hasS known x.cls then (match name x.cls [.exn x.cls x.arg.toList] M1 with
      | some (.ok (.str z), M2) => if noExM M2 then some (.ok (.str z), M2) else none
      | _ => none) else none
  | none => none
/-- a statement's reading, the number of slots known -/
theorem PSs.len {X : Cx} {st : List Stmt} {t : TS} (h : PSs X st t) : PSs X st (fun Ds g H => g.length = X.N.length → t Ds g H) := ⟨fun pins s g H Ds I q => h.run pins s g H Ds I (q I.len)⟩
end PyL

-- PyL5
set_option maxRecDepth 100000
set_option maxHeartbeats 4000000
noncomputable section
namespace PyL
open PySem PySem.Spec PyProof.Rows L2 PyD PyH HotX L2H
/-- a lambda: what is written of it -/
structure LamS where
  params : Arguments
  body : Expr
  scope : Scope
/-- the function object at f -/
def FnO (f : Addr) (q : Str) (l : LamS) (clos : List (Str × Addr)) (b : Addr) (pm ctv : Value) : HO := .ext fun h => h.get? f = some (PySem.W.kla_obj "<lambda>" q l.params l.body l.scope clos pm b ctv)
theorem fnO_ok {P : Program} {w : World} {H : Hp} {h : Heap} {f : Addr} {q : Str} {l : LamS} {clos : List (Str × Addr)} {b : Addr} {pm ctv : Value} (e : h.get? f = some (PySem.W.kla_obj "<lambda>" q l.params l.body l.scope clos pm b ctv)) : ObjOk P w H h f (FnO f q l clos b pm ctv) :=
  ⟨e, ⟨_, e⟩, fun h1 h2 y st => st _ y⟩
section
variable {X : Cx} {l : LamS} {c P : Addr} {pos : Pos} {T : List (Addr × Str)}
abbrev lq (X : Cx) : Str := X.env.qual ++ "<lambda>"
/-- a lambda as a value -/
theorem pe_lam (TB : LamX.TabB X.base X.mg c P) (hcode : X.env.code = .ref c) (hm : (P, lq X) ∈ T) (hu : ∀ p ∈ T, p.1 = P → p.2 = lq X) (hdef : defaultsOf l.params X.env = ([], [])) (hfree : X.Ok → ∀ y ∈ l.scope.names, y.2 = .free → ∃ c, X.env.cells.lookup y.1 = some c) :
    PE X (.Lambda l.params l.body l.scope pos) (fun g H Q => LamX.Tabs T H ∧ ∀ (f b : Addr) (pm ctv : Value) (H1 : Hp), (∀ a o, H a = some o → (∀ ps, o ≠ .tbl ps) → H1 a = some o) → LamX.Tabs T H1 → H1 b = some (LamX.CodeO b (lq X)) → H1 f = none →
      Q (.ref f) (upd H1 f (FnO f (lq X) l (cloFrom X.env.cells l.scope.names []) b pm ctv))) := by
  refine ⟨fun pins s g H Q I run => ?_⟩
  obtain ⟨hT, run⟩ := run
  obtain ⟨ps, tabP, tri, known⟩ := hT _ hm
  refine PySem.W.kla_eval hdef ?_
  have bP : s.heap.BuiltinsAt X.mg P := TB.bm.keeps I.bk
  have look : s.heap.get? P = some { cls := .none, data := .fields ps } := I.hok P _ tabP
  have put : ∀ {H1 : Hp} {h' : Heap} {tk tk' : Nat} {b : Addr} {pm ctv : Value}, Inv X pins g H1 { s with heap := h', toks := tk } → LamX.ExtN H H1 → LamX.Tabs T H1 → H1 b = some (LamX.CodeO b (lq X)) →
      EP X pins g Q (.ref h'.objs.size) { s with heap := h'.push (PySem.W.kla_obj "<lambda>" (lq X) l.params l.body l.scope (cloFrom X.env.cells l.scope.names []) pm b ctv), toks := tk' } := fun {H1 h' tk tk' b pm ctv} I1 e1 t1 co =>
    ⟨.ref h'.objs.size, _, I1.laid (t' := tk') (fun b o e => Heap.get?_push_of_some _ e) (Nat.le_refl _) (fnO_ok (Heap.get?_push_size _ rfl)), rfl, run h'.objs.size b pm ctv H1 (fun a o e n => e1 a o e n) t1 co (I1.hok.fresh (Nat.le_refl _))⟩
  cases hc : codeAmong pos ps.toList with
  | none =>
    refine PySem.W.kla_makeFunction (mg := X.mg) (c := c) (P := P) (ps := ps) (closure_ok (hfree I.ok)) I.ok.glob (I.mod.glob.keeps I.bk) hcode (TB.code.keeps I.bk) look tri hc TB.gP bP fun c' ctv h' tk kept new lt rc tab => ?_
    obtain ⟨c2, oc, vs, t, ec, hoc, hd, hv⟩ := rc
    cases ec
    have nC : H c' = none := I.hok.fresh new
    have I1 := LamX.inv_table (t' := tk) (more := #[rawInt pos.line, rawInt pos.col, .ref c']) (h' := h') (q := lq X) I tabP (fun b o nb e => kept b o nb e) tab new ⟨oc, vs, t, hoc, hd, hv⟩
    have e1 : LamX.ExtN H (upd (upd H P (.tbl (ps ++ #[rawInt pos.line, rawInt pos.col, .ref c']))) c' (LamX.CodeO c' (lq X))) := fun b o e n => by
      rw [upd_ne (ne_of_none e nC), upd_ne (fun z => n ps (Option.some.inj (e.symm.trans (by rw [z]; exact tabP))))]
      exact e
    refine put I1 e1 (fun p hp => ?_) upd_same
    by_cases hb : p.1 = P
    · rw [hu p hp hb, hb]
      refine ⟨_, by rw [upd_ne (ne_of_none tabP nC), upd_same], by rw [Array.toList_append]; exact PySem.TriplesOk_snoc _ _ _ _ tri, fun p' cv hcv => ?_⟩
      rw [Array.toList_append] at hcv
      rcases LamX.among_app _ tri hcv with z | z
      · obtain ⟨c0, z1, z2⟩ := known p' cv z
        exact ⟨c0, z1, e1 _ _ z2 LamX.codeO_ne⟩
      · exact ⟨c', z, upd_same⟩
    · obtain ⟨ps', a1, a2, a3⟩ := hT p hp
      refine ⟨ps', by rw [upd_ne (ne_of_none a1 nC), upd_ne hb]; exact a1, a2, fun p' cv hcv => ?_⟩
      obtain ⟨c0, z1, z2⟩ := a3 p' cv hcv
      exact ⟨c0, z1, e1 _ _ z2 LamX.codeO_ne⟩
  | some cv =>
    obtain ⟨c', rfl, co⟩ := known pos cv hc
    refine PySem.W.kla_makeFunctionHit (mg := X.mg) (c := c) (P := P) (ps := ps) (closure_ok (hfree I.ok)) I.ok.glob (I.mod.glob.keeps I.bk) hcode (TB.code.keeps I.bk) look tri hc bP fun ctv h' tk kept sz => ?_
    exact put (tk := tk) (I.kept fun b o e => kept b o e) (LamX.ExtN.refl H) hT co
/-- the lambda numbered n of this frame -/
def lamD (n : Nat) : Den D := fun _ M => some (.ok (.fn n), M)
theorem de_lam {cf : Cfg} {n : Nat} (TB : LamX.TabB X.base X.mg c P) (hcode : X.env.code = .ref c) (hm : (P, lq X) ∈ cf.K.T) (hu : ∀ p ∈ cf.K.T, p.1 = P → p.2 = lq X) (hdef : defaultsOf l.params X.env = ([], [])) (hfree : X.Ok → ∀ y ∈ l.scope.names, y.2 = .free → ∃ c, X.env.cells.lookup y.1 = some c)
    (hl : ∀ (f b : Addr) (pm ctv : Value), cf.K.lam n f (FnO f (lq X) l (cloFrom X.env.cells l.scope.names []) b pm ctv) b (LamX.CodeO b (lq X))) : PE X (.Lambda l.params l.body l.scope pos) (sE cf (lamD n)) := PE.imp (pe_lam TB hcode hm hu hdef hfree) fun g H Q s => by
  obtain ⟨r, M, io, re, rs, x, M', eq, k⟩ := s
  cases eq
  refine ⟨rs.tab, fun f b pm ctv H1 e1 t1 co no => ?_⟩
  have stb : ∀ o, Stb o → ∀ ps, o ≠ .tbl ps := fun o so ps z => by subst z; exact so
  have ex : Ext cf.K io H io H1 := ⟨fun a o e so => e1 a o e (stb o so), fun _ _ h => h⟩
  have rs1 : RS cf.K H1 io M := ⟨rs.len, rs.nd, t1, fun i c ei => by
    obtain ⟨a, o, z1, z2, rc⟩ := rs.cell i c ei
    exact ⟨a, o, z1, e1 a o z2 rc.notTup.2, rc.mono ex⟩⟩
  have nb : b ≠ f := fun z => by rw [z, no] at co; cases co
  exact k io _ (ex.trans (Ext.tupNew no)) (rs1.tupNew no) _ (.fn (hl f b pm ctv) upd_same trivial (by rw [upd_ne nb]; exact co) trivial)
end
end PyL

-- PyL6
set_option maxRecDepth 100000
set_option maxHeartbeats 4000000
noncomputable section
namespace PyL
open PySem PySem.Spec PyProof.Rows L2 PyD PyH HotX L2H
/-- the cells that a lambda holds, and what stands in them -/
structure Cells (N : List Str) (l : LamS) (clos : List (Str × Addr)) (g : L2.St) (H : Hp) (h : Heap) : Prop where
  inj : ∀ x y c, clos.lookup x = some c → clos.lookup y = some c → x = y
  has : ∀ y, l.scope.names.lookup y = some .free → ∃ c, clos.lookup y = some c
  cell : ∀ y c, clos.lookup y = some c → H c = none ∧ ∃ v, h.IsCell c v
  val : ∀ (i : Nat) (y : Str) (v : V) (c : Addr), N[i]? = some y → g[i]? = some (some v) → clos.lookup y = some c → ∃ u, RelV v u ∧ h.IsCell c (some u)
theorem Cells.un {N : List Str} {l : LamS} {clos : List (Str × Addr)} {g : L2.St} {fs ex : List Addr} {H H1 : Hp} {h h1 : Heap} (a : Cells N l clos g H h) (u : Un fs ex H H1 h h1) (nx : ∀ y c, clos.lookup y = some c → c ∉ ex) : Cells N l clos g H1 h1 := by
  have mv : ∀ {y c v}, clos.lookup y = some c → h.IsCell c v → h1.IsCell c v := fun {y c v} e ⟨o, ho, hd⟩ => by
    obtain ⟨sl, q⟩ := u.any ho (a.cell y c e).1 (nx y c e)
    exact ⟨_, q, hd⟩
  exact ⟨a.inj, a.has, fun y c e => by
    obtain ⟨n, v, o, ho, hd⟩ := a.cell y c e
    exact ⟨u.free c o ho n (nx y c e), v, mv e ⟨o, ho, hd⟩⟩, fun i y v c e1 e2 e3 => by
    obtain ⟨w, r, q⟩ := a.val i y v c e1 e2 e3
    exact ⟨w, r, mv e3 q⟩⟩
/-- in the maker's own frame -/
theorem Cells.of {X : Cx} {l : LamS} {pins : List (Addr × Obj)} {g : L2.St} {H : Hp} {s : Shared} (I : Inv X pins g H s) (L : LamX.LamS X.env.scope l.scope) : Cells X.N l (cloFrom X.env.cells l.scope.names []) g H s.heap := by
  have hf := L.has I.ok
  have cm : ∀ {y c}, (cloFrom X.env.cells l.scope.names []).lookup y = some c → X.env.cells.lookup y = some c ∧ (y, NameKind.free) ∈ l.scope.names := fun {y c} e => by
    rcases cloFrom_mem (PySem.mem_of_lookup e) with hm | ⟨h1, h2⟩
    · cases hm
    · obtain ⟨c1, hc⟩ := hf _ h1 rfl
      have hc : X.env.cells.lookup y = some c1 := hc
      have e2 : c = c1 := by rw [h2, hc]; rfl
      exact ⟨by rw [e2]; exact hc, h1⟩
  refine ⟨fun x y c e1 e2 => I.ok.inj x y c (cm e1).1 (cm e2).1, fun y hy => mem_lookup (cloFrom_has (cells := X.env.cells) (acc := []) (PySem.mem_of_lookup hy)), fun y c e => ⟨I.freeC y c (cm e).1, I.cell y c (cm e).1⟩, fun i y v c e1 e2 e3 => ?_⟩
  obtain ⟨m, hn, hl⟩ := I.loc
  obtain ⟨u, r, q⟩ := hl i y v e1 e2 ((L.free _ (cm e3).2 rfl).elim (fun k => .inr (.inl k)) fun k => .inr (.inr k))
  refine ⟨u, r, ?_⟩
  rcases q with ⟨k, _⟩ | ⟨_, c3, e', z⟩
  · have k : X.env.scope.names.lookup y = some .local := k
    rcases L.free _ (cm e3).2 rfl with k2 | k2 <;> rw [show X.env.scope.names.lookup y = _ from k2] at k <;> cases k
  · rw [(cm e3).1] at e'
    cases e'
    exact z
abbrev lEnv (q : Str) (l : LamS) (clos : List (Str × Addr)) (L f b : Addr) : Env := PySem.W.envX q l.scope L f (.ref b) clos
/-- within the lambda -/
def lCx (P : Program) (w : World) (K : PySem.W.Frag) (mg : Str → Option Value) (base : Heap) (N : List Str) (q : Str) (l : LamS) (clos : List (Str × Addr)) (f b : Addr) (A : Around) (outer : List Env) (s : Shared) (H : Hp) (E : XK) : Cx where
  prog := P
  w := w
  K := K
  mg := mg
  base := base
  A := A.deeper (lEnv q l clos s.heap.objs.size f b)
  N := N
  s_0 := s
  H_0 := H
  env := lEnv q l clos s.heap.objs.size f b
  outer := outer
  stack := lEnv q l clos s.heap.objs.size f b :: outer
  ex := []
  fn := fun _ => false
  calm := true
  pn := []
  xe := fun e s' => wpAny (model P w) (A.deeper (lEnv q l clos s.heap.objs.size f b)) (leaving (lEnv q l clos s.heap.objs.size f b) e) (fun _ s'' => L2N.CX P w outer H s E e s'') (fun e' s'' => L2N.CX P w outer H s E e' s'') s'
/-- a lambda without parameters: captured names and globals alone -/
structure LOk (l : LamS) : Prop where
  kind : l.scope.kind = .function
  co : l.scope.isCoroutine = false
  gen : l.scope.isGenerator = false
  own : ∀ y ∈ l.scope.names, y.2 ≠ .local ∧ y.2 ≠ .cell
theorem lam_startN {P : Program} {w : World} {K : PySem.W.Frag} {mg : Str → Option Value} {base : Heap} {N : List Str} {q : Str} {l : LamS} {clos : List (Str × Addr)} {f b : Addr} {A : Around} {outer : List Env} {s : Shared} {H : Hp} {E : XK} {g : L2.St} {h₁ : Heap} {tk : Nat} (L : LOk l) (C : Cells N l clos g H s.heap) (len : g.length = N.length)
    (e0 : Env0 P w K mg base A outer s H) (hd : A.handled = none) (hns : h₁.Ns s.heap.objs.size fun y => ([] : List (Str × Value)).reverse.lookup y) (kp : ∀ b o, s.heap.get? b = some o → h₁.get? b = some o) : Inv (lCx P w K mg base N q l clos f b A outer s H E) [] g H { s with heap := h₁, toks := tk } := by
  have noA : ∀ c : Addr, c ∉ (lCx P w K mg base N q l clos f b A outer s H E).ex := fun c z => absurd (show c ∈ ([] : List Addr) from z) (by simp)
  have up : ∀ {c : Addr} {v : Option Value}, s.heap.IsCell c v → h₁.IsCell c v := fun {c v} ⟨o, ho, hv⟩ => ⟨o, kp _ _ ho, hv⟩
  have ok : (lCx P w K mg base N q l clos f b A outer s H E).Ok := {
    mod := e0.mod
    kind := L.kind
    glob := rfl
    blt := rfl
    above := Nat.le_refl _
    inj := fun x y c e1 e2 => C.inj x y c e1 e2
    has := fun y hy => by
      have hy : l.scope.names.lookup y = some .cell ∨ l.scope.names.lookup y = some .free := hy
      rcases hy with hy | hy
      · exact absurd rfl (L.own _ (PySem.mem_of_lookup hy)).2
      · exact C.has y hy
    cab := fun y c z => by
      have z : false = true := z
      cases z
    hd := fun _ => hd
    frames := Around.frames_deeper e0.frames
    stk := .inr ⟨rfl, rfl⟩
    exf := fun c z => absurd z (noA c)
    bs := e0.bs
    bsz := e0.bsz
    noex := fun c _ _ => noA c
    exfs := fun c z => absurd z (noA c)
    funs := e0.funs
    frf := e0.frf }
  exact {
    ok := ok
    os := rfl
    bare := e0.bare
    base := Un.kept kp
    loc := ⟨_, hns, fun i y v e1 e2 e3 => by
      have e3 : Vis l.scope y := e3
      rcases e3 with k | k | k
      · exact absurd rfl (L.own _ (PySem.mem_of_lookup k)).1
      · exact absurd rfl (L.own _ (PySem.mem_of_lookup k)).2
      · obtain ⟨c, hc⟩ := C.has y k
        obtain ⟨u, r, z⟩ := C.val i y v c e1 e2 hc
        exact ⟨u, r, .inr ⟨.inr k, c, hc, up z⟩⟩⟩
    cell := fun y c e => by
      obtain ⟨_, v, z⟩ := C.cell y c e
      exact ⟨v, up z⟩
    free := e0.hok.fresh (Nat.le_refl _)
    freeC := fun y c e => (C.cell y c e).1
    pin := fun p hp => absurd (show p ∈ ([] : List (Addr × Obj)) ++ [] from hp) (by simp)
    hok := e0.hok.kept kp
    len := len }
end PyL

-- PyL7
set_option maxRecDepth 100000
set_option maxHeartbeats 4000000
noncomputable section
namespace PyL
open PySem PySem.Spec PyProof.Rows L2 PyD PyH HotX L2H
/-- a(): a holds a lambda -/
theorem pe_actN {Y : Cx} {W : WX} {E : XK} {N : List Str} {q a : Str} {l : LamS} {clos : List (Str × Addr)} {g : L2.St} {f b : Addr} {pm ctv : Value} {k i : Nat} {tb : TE} {p1 p2 : Pos} (L : LOk l) (C : Cells N l clos g Y.H_0 Y.s_0.heap) (len : g.length = N.length) (hex : Y.ex = [])
    (hbind : ∀ pm cv ctv : Value, bindArgs (PySem.W.kla_fn "<lambda>" q l.params l.body l.scope clos pm cv ctv) ⟨[], []⟩ = pure []) (tk : L2N.Takes Y W) (hW : ∀ cls d σ' H', E cls d H' → W cls d σ' H') (hr : Room (k + 1) Y.A)
    (hbody : ∀ (s : Shared) (H : Hp), Room k (Y.A.deeper (lEnv q l clos s.heap.objs.size f b)) → PE (lCx Y.prog Y.w Y.K Y.mg Y.base N q l clos f b Y.A Y.stack s H E) l.body tb)
    (hN : Y.N[i]? = some a) (hv : Vis Y.env.scope a) (hd : (a == ("__debug__" : Str)) = false := by decide) (hcd : (a == ("__classdict__" : Str)) = false := by decide) :
    PE Y (.Call (.Name a p1) [] [] p2) (fun r H Q => r[i]? = some (some (.ref f)) ∧ H f = some (FnO f q l clos b pm ctv) ∧ H b = some (LamX.CodeO b q) ∧ tb g H Q) := by
  refine ⟨fun pins s r H Q I h => ?_⟩
  obtain ⟨hs, hf, hc, ht⟩ := h
  refine wpAny_Call_Name_kw (thn ((pe_var (pos := p1) (i := i) hN hv hd hcd).run pins s r H (fun v H1 => v = .ref f ∧ H1 = H) I ⟨.ref f, hs, rfl, rfl⟩) fun u s1 ⟨v, H1, I1, r1, ev, eH⟩ => ?_)
  subst ev
  rw [eH] at I1
  obtain rfl : u = Value.ref f := r1
  have of1 : s1.heap.get? f = some (PySem.W.kla_obj "<lambda>" q l.params l.body l.scope clos pm b ctv) := (I1.hok f _ hf).1
  have un : Un Y.fs [] Y.H_0 H Y.s_0.heap s1.heap := by have z := I1.base; rw [hex] at z; exact z
  obtain ⟨⟨oc, vs, t, hoc, hdc, hvc⟩, _, _⟩ := I1.hok b _ hc
  refine PySem.W.callWith_F0 ⟨_, _, _, _, of1⟩ ?_
  have rc : codeAny (model Y.prog Y.w) Y.A (.call (.ref f) ⟨[], []⟩) (CR (L2N.CX Y.prog Y.w) Y.stack Y.prog Y.w H s1 Q E) s1 := by
    refine PySem.W.kla_callFunE hr.depth of1 rfl L.co L.gen rfl ⟨b, oc, vs, t, rfl, hoc, hdc, hvc⟩ ?_
    rw [hbind]
    refine wpAny_pure (wpAny_newFunctionEnv (fun y hy => (L.own y hy).2) (fun y hy => absurd hy (by simp)) (fun h₁ hns hsb => ⟨I1.nolimit.fresh _ hsb, ?_⟩) L.kind)
    show codeAny _ _ (.expr l.body (lEnv q l clos s1.heap.objs.size f b)) _ _
    have kp : ∀ c o, s1.heap.get? c = some o → h₁.get? c = some o := fun c o e => hsb.extBut c o (Nat.ne_of_lt (Heap.lt_size e)) (Heap.get?_push_of_some _ e)
    have J : Inv (lCx Y.prog Y.w Y.K Y.mg Y.base N q l clos f b Y.A Y.stack s1 H E) [] g H { s1 with heap := h₁, toks := s1.toks + ([] : List (Str × Value)).length } :=
      lam_startN L (C.un un fun _ _ _ z => absurd z (by simp)) len I1.env0 hr.hd hns kp
    refine PySem.W.kla_codeExpr (wpAny_mono ((hbody s1 H (hr.deeper _)).run [] _ _ H Q J ht) (fun v s2 z => ?_) fun _ _ z => z)
    obtain ⟨w, H2, J2, rv, z⟩ := z
    exact ⟨w, H2, J2.os, J2.bare, J2.base, J2.hok, rv, z⟩
  refine wpAny_call (codeAny_mono rc fun r s2 z => ?_)
  cases r with
  | error e => exact L2N.passes_call (E := E) tk hW pins r H s1 e s2 I1 z
  | ok fl =>
    cases fl with
    | ret u => exact I1.after z
    | next => exact False.elim z
    | brk => exact False.elim z
    | cont => exact False.elim z
end PyL

-- PyL8
set_option maxRecDepth 100000
set_option maxHeartbeats 4000000
noncomputable section
namespace PyL
open PySem PySem.Spec PyProof.Rows L2 PyD PyH HotX L2H
/-- the setting where the exception p is handled; where there is none -/
def cHx (K : PySem.W.Frag) (tb : List (Addr × Str)) (lam : Nat → Addr → HO → Addr → HO → Prop) (mg : Str → Option Value) (fl : Flds) (p : Addr × Obj) (z : Option (Addr × Str)) (cls : Str) : Cfg := ⟨⟨K, tb, lam, fun cl a y => cl = cls ∧ a = p.1 ∧ y = z⟩, mg, fl, C8.E0⟩
def k0x (K : PySem.W.Frag) (tb : List (Addr × Str)) (lam : Nat → Addr → HO → Addr → HO → Prop) : KT := ⟨K, tb, lam, none3⟩
structure NameOk (P : Program) (w : World) (K : PySem.W.Frag) (mg : Str → Option Value) (base : Heap) (tb : List (Addr × Str)) (lam : Nat → Addr → HO → Addr → HO → Prop) (fl : Flds) (fld : Str) (tab : List (Str × Addr)) (sub : Str → Str → Bool) (nm : Str) (st : Stmt) (aN : Addr) (uN : FuncData) (Nn : List Str) (pa : Str) (dN : Str → SDen) (k : Nat) : Prop where
  F : Fun K nm nm st aN uN
  S : FnScope Nn [pa] (defScope st)
  m : mg nm = some (.ref aN)
  b : Binds K uN [pa] []
  body : ∀ {cdv : Value} {A : Around} {outer : List Env} {s : Shared} {H : Hp} {p : Addr × Obj} {C0 : Addr} {z : Option (Addr × Str)} {cls : Str}, Hot1 A p → ExcC K C0 → Zc (.ref C0) (z.map (·.1)) p.2 → (∃ vs, p.2.data = .fields vs) → XfC K C0 → PySem.W.findIn K (.ref C0) fld = some none →
    (∀ q ∈ tab, PySem.W.kitOne K (.ref C0) (.ref q.2) = some (sub cls q.1)) → (∀ dx f, z = some (dx, f) → f = fld) → RoomH k (A.deeper (envOfC nm (defScope st) s.heap.objs.size aN cdv)) →
    PSs (cxH C8.CX0 P w K mg base Nn nm (defScope st) aN cdv A outer s H C8.E0 p) (defBody st) (sS (cHx K tb lam mg fl p z cls) (dN cls))
section
variable {P : Program} {w : World} {K : PySem.W.Frag} {mg : Str → Option Value} {base : Heap} {tb : List (Addr × Str)} {lam : Nat → Addr → HO → Addr → HO → Prop} {fl : Flds} {fld : Str} {tab : List (Str × Addr)} {sub : Str → Str → Bool} {nm : Str} {st : Stmt} {aN : Addr} {uN : FuncData} {Nn : List Str} {pa : Str} {dN : Str → SDen} {k : Nat} {NE : Addr}
/-- what is wished of an exception that the lambda lets out -/
def Eerr (K : PySem.W.Frag) (mg : Str → Option Value) (tb : List (Addr × Str)) (lam : Nat → Addr → HO → Addr → HO → Prop) (fl : Flds) (fld : Str) (tab : List (Str × Addr)) (sub : Str → Str → Bool) (n : Nat) (dN : Str → SDen) (NE : Addr) (Q : VK) : XK := fun cls d H =>
  ∃ (M M' : Sto) (io : List Addr) (ex : Ex) (w : Str), RX mg (k0x K tb lam) fl H io ex cls d ∧ RS (k0x K tb lam) H io M ∧ ClsF K mg NE tab sub fld ex.cls ∧ bodyF n (dN ex.cls) [.exn ex.cls ex.arg.toList] M = some (.ok (.str w), M') ∧ noExM M' = true ∧
    ∀ io' H', Ext (k0x K tb lam) io H io' H' → RS (k0x K tb lam) H' io' M' → Q (.str w) H'
/-- the suite: found = name(e) -/
theorem suite_ok {Y : Cx} {a : Addr} {oe : Obj} {cls : Value} {d : Option Addr} {pn : List (Addr × Obj)} {x e : Str} {q1 q2 q3 q4 q5 : Pos} (hP : Y.prog = P) (hw : Y.w = w) (hK : Y.K = K) (hmg : Y.mg = mg) (hb : Y.base = base) (NK : NameOk P w K mg base tb lam fl fld tab sub nm st aN uN Nn pa dN k) (hfl : ∀ y f, fl y = some f → f = fld)
    (hr : RoomH (k + 1) (Y.A.mark (some (.ref a)))) (hY : Y.N = [x, x2, e]) (ndY : Y.N.Nodup) (hx : Y.env.scope.names.lookup x2 = some .local) (he : Vis Y.env.scope e) (hg : Gl Y nm) (hz : L2N.Zn cls d oe) (hf : ∃ vs, oe.data = .fields vs)
    (sw : swapsWithSole [.Name x2 q1] (.Call (.Name nm q2) [.Name e q3] [] q4) q5.line Y.env = pure false := by rfl) (sw2 : swappedStores [.Name x2 q1] (.Call (.Name nm q2) [.Name e q3] [] q4) Y.env = pure none := by rfl)
    (h1 : (assignEach [.Name x2 q1] Y.env).map (·.2) = [assign (.Name x2 q1) Y.env] := by rfl) (hd : (nm == ("__debug__" : Str)) = false := by decide) (hd2 : (e == ("__debug__" : Str)) = false := by decide) (hcd : (e == ("__classdict__" : Str)) = false := by decide)
    (hst : starEach [.Name e q3] Y.env = (false, eval (.Name e q3) Y.env) :: starEach [] Y.env := by rfl) (hpl : (backTo q4 (starEach [] Y.env)).any (·.1) = false := by rfl) :
    PSs (Y.suite a ((a, oe) :: pn)) [.Assign [.Name x2 q1] (.Call (.Name nm q2) [.Name e q3] [] q4) q5] (fun Ds g H => g.length = 3 → g[2]? = some (some (.ref a)) ∧ Eerr K mg tb lam fl fld tab sub Nn.length dN NE (fun v H' => Ds.nx (g.set 1 (some v)) H') cls d H) := by
  subst hP hw hK hmg hb
  refine ⟨fun pins s g H Ds I h => ?_⟩
  have len : g.length = 3 := by
    have z := I.len
    have z2 : (Y.suite a ((a, oe) :: pn)).N = Y.N := rfl
    rw [z2, hY] at z
    exact z
  obtain ⟨at2, M, M', io, ex, w', rx, rs, ⟨C0, hC, _, cl, xf, hno, kit⟩, eq, nox, fin⟩ := h len
  obtain ⟨hcls, harg⟩ := rx
  rw [hC] at hcls
  cases hcls
  -- the class's field
  obtain ⟨z, hzd, zf, rarg⟩ : ∃ z : Option (Addr × Str), d = z.map (·.1) ∧ (∀ dx f, z = some (dx, f) → f = fld) ∧ R ⟨Y.K, tb, lam, fun cl a' y => cl = ex.cls ∧ a' = a ∧ y = z⟩ H io (.exn ex.cls ex.arg.toList) (.ref a) := by
    cases ea : ex.arg with
    | none =>
      rw [ea] at harg
      exact ⟨none, harg, (fun _ _ z => by cases z), .exn0 ⟨rfl, rfl, rfl⟩⟩
    | some dd =>
      rw [ea] at harg
      obtain ⟨f, a', v, hf1, hd1, hx1, rv⟩ := harg
      exact ⟨some (a', f), hd1, (fun dx f' e => by cases e; exact hfl _ _ hf1), .exn1 ⟨rfl, rfl, rfl⟩ hx1 (R.up rv)⟩
  subst hzd
  obtain ⟨vs, hvs⟩ := hf
  have hot : Hot1 (Y.suite a ((a, oe) :: pn)).A (a, oe) := ⟨rfl, vs, hvs, hz.2.2 vs hvs⟩
  have pe := pe_hot1 (X := Y.suite a ((a, oe) :: pn)) (p := (a, oe)) (x := nm) (a := pa) (q := q2) (pos := q4) (List.mem_cons_self) hot NK.F NK.S hr NK.b hg NK.m (pe_var (X := Y.suite a ((a, oe) :: pn)) (i := 2) (x := e) (pos := q3) (by show Y.N[2]? = _; rw [hY]; rfl) he hd2 hcd)
    (fun cdv s H hr' => NK.body (z := z) (cls := ex.cls) hot cl hz.zc ⟨vs, hvs⟩ xf hno kit zf hr') hd hst hpl
  refine (pss_one (ps_asg (pos := q5) pe (pg_name (X := Y.suite a ((a, oe) :: pn)) (i := 1) (x := x2) (pos := q1) ndY (by show Y.N[1]? = _; rw [hY]; rfl) (.inl hx) (.inr hx)) sw sw2 h1)).run pins s g H Ds I ?_
  -- the reading
  refine ⟨.ref a, at2, [some (.exn ex.cls ex.arg.toList)] ++ List.replicate (Nn.length - 1) none, M, io, ?_, ?_, ?_⟩
  · exact re_start (N := Nn) (ds := [.exn ex.cls ex.arg.toList]) (vs := [.ref a]) (.cons rarg .nil)
  · exact RS.up rs
  · unfold bodyF at eq
    cases eb : dN ex.cls ([D.exn ex.cls ex.arg.toList].map some ++ List.replicate (Nn.length - [D.exn ex.cls ex.arg.toList].length) none) M with
    | none => rw [eb] at eq; cases eq
    | some p =>
      obtain ⟨fl', r', MM⟩ := p
      rw [eb] at eq
      cases fl' with
      | rt d0 =>
        cases eq
        refine ⟨.rt (.str w'), r', _, eb, fun io1 H1 e1 rs1 v rv => ?_⟩
        cases rv
        exact fin io1 H1 (Ext.k e1) (RS.conv nox rs1)
      | nx => cases eq
      | ex _ => cases eq
      | bk => cases eq
      | ct => cases eq
end
end PyL

-- PyL9
set_option maxRecDepth 100000
set_option maxHeartbeats 4000000
noncomputable section
namespace PyL
open PySem PySem.Spec PyProof.Rows L2 PyD PyH HotX L2H
theorem takes0N {X : Cx} : L2N.Takes X (fun _ _ _ _ => False) := fun _ _ x => by
  obtain ⟨_, _, _, _, _, _, _, _, _, _, _, _, _, _, _, _, z⟩ := x
  exact z.elim
section
variable {P : Program} {w : World} {K : PySem.W.Frag} {mg : Str → Option Value} {base : Heap} {tb : List (Addr × Str)} {lam : Nat → Addr → HO → Addr → HO → Prop} {fl : Flds} {fld : Str} {tab : List (Str × Addr)} {sub : Str → Str → Bool} {nm : Str} {st : Stmt} {aN : Addr} {uN : FuncData} {Nn : List Str} {pa : Str} {dN : Str → SDen} {k : Nat} {NE : Addr}
theorem Eerr.mono {n : Nat} {Q Q' : VK} {cls : Value} {d : Option Addr} {H : Hp} (h : Eerr K mg tb lam fl fld tab sub n dN NE Q cls d H) (i : ∀ v H', Q v H' → Q' v H') : Eerr K mg tb lam fl fld tab sub n dN NE Q' cls d H := by
  obtain ⟨M, M', io, ex, w, h1, h2, h3, h4, h5, h6⟩ := h
  exact ⟨M, M', io, ex, w, h1, h2, h3, h4, h5, fun io' H' e r => i _ _ (h6 io' H' e r)⟩
/-- found = 'none'; try: call() / except X as e: found = name(e); return found -/
theorem err_body {Y : Cx} {N : List Str} {q x0 x1 x2 NEn : Str} {l : LamS} {clos : List (Str × Addr)} {gM : L2.St} {f b : Addr} {pm ctv : Value} {kl j : Nat} {tbody : XK → TE} {a1 a2 a3 a4 a5 a6 a7 a8 a9 a10 a11 a12 a13 a14 a15 a16 : Pos} (hP : Y.prog = P) (hw : Y.w = w) (hK : Y.K = K) (hmg : Y.mg = mg) (hb : Y.base = base)
    (NK : NameOk P w K mg base tb lam fl fld tab sub nm st aN uN Nn pa dN k) (hfl : ∀ y f, fl y = some f → f = fld) (hY : Y.N = [x0, x1, x2]) (ndY : Y.N.Nodup) (hs : Y.stack = Y.env :: Y.outer) (hfr : Y.env.frame = some Y.env.locals) (hex : Y.ex = []) (hr : Room (kl + 1) Y.A) (hk : k + 1 ≤ kl + 1)
    (v0 : Y.env.scope.names.lookup x0 = some .local) (v1 : Y.env.scope.names.lookup x1 = some .local) (v2 : Y.env.scope.names.lookup x2 = some .local) (hg : Gl Y nm) (hNE : Names Y NEn (.ref NE))
    (L : LOk l) (C : Cells N l clos gM Y.H_0 Y.s_0.heap) (len : gM.length = N.length) (hbind : ∀ pm cv ctv : Value, bindArgs (PySem.W.kla_fn "<lambda>" q l.params l.body l.scope clos pm cv ctv) ⟨[], []⟩ = pure [])
    (hbody : ∀ (E : XK) (s : Shared) (H : Hp), Room kl (Y.A.deeper (lEnv q l clos s.heap.objs.size f b)) → PE (lCx P w K mg base N q l clos f b Y.A Y.stack s H E) l.body (tbody E))
    (hmo : ∀ E g H Q Q', tbody E g H Q → (∀ v H', Q v H' → Q' v H') → tbody E g H Q') (hd : (nm == ("__debug__" : Str)) = false) (d0 : (x0 == ("__debug__" : Str)) = false) (c0 : (x0 == ("__classdict__" : Str)) = false) (d1 : (x1 == ("__debug__" : Str)) = false) (c1 : (x1 == ("__classdict__" : Str)) = false) (d2 : (x2 == ("__debug__" : Str)) = false) (c2 : (x2 == ("__classdict__" : Str)) = false)
    (s1 : swapsWithSole [.Name x1 a1] (.Constant (.str "none") j a2) a3.line Y.env = pure false := by rfl) (s2 : swappedStores [.Name x1 a1] (.Constant (.str "none") j a2) Y.env = pure none := by rfl) (s3 : (assignEach [.Name x1 a1] Y.env).map (·.2) = [assign (.Name x1 a1) Y.env] := by rfl)
    (s4 : swapsWith (.Call (.Name x0 a4) [] [] a5) none a6.line Y.env = pure false := by rfl) (s5 : swapsWithSole [.Name x1 a8] (.Call (.Name nm a9) [.Name x2 a10] [] a11) a12.line Y.env = pure false := by rfl) (s6 : swappedStores [.Name x1 a8] (.Call (.Name nm a9) [.Name x2 a10] [] a11) Y.env = pure none := by rfl)
    (s7 : (assignEach [.Name x1 a8] Y.env).map (·.2) = [assign (.Name x1 a8) Y.env] := by rfl) (s8 : starEach [.Name x2 a10] Y.env = (false, eval (.Name x2 a10) Y.env) :: starEach [] Y.env := by rfl) (s9 : (backTo a11 (starEach [] Y.env)).any (·.1) = false := by rfl) :
    PSs Y [.Assign [.Name x1 a1] (.Constant (.str "none") j a2) a3,
      .Try [.Expr (.Call (.Name x0 a4) [] [] a5) a6] [.ExceptHandler (some (.Name NEn a7)) (some x2) [.Assign [.Name x1 a8] (.Call (.Name nm a9) [.Name x2 a10] [] a11) a12] a13] [] [] a14, .Return (some (.Name x1 a15)) a16]
      (fun Ds g H => g.length = 3 → g[0]? = some (some (.ref f)) ∧ H f = some (FnO f q l clos b pm ctv) ∧ H b = some (LamX.CodeO b q) ∧ tbody (Eerr K mg tb lam fl fld tab sub Nn.length dN NE Ds.rt) gM H (fun _ H' => Ds.rt (.str "none") H')) := by
  have i0 : Y.N[0]? = some x0 := by rw [hY]; rfl
  have i1 : Y.N[1]? = some x1 := by rw [hY]; rfl
  have i2 : Y.N[2]? = some x2 := by rw [hY]; rfl
  have try_ := L2N.ps_try_as (X := Y) (c := .ref NE) (i := 2) (n := x2) (x := NEn) (np := a7) (pos := a14) (pos' := a13) (Wout := fun _ _ _ _ => False) (suite := []) (b₀ := .Assign [.Name x1 a8] (.Call (.Name nm a9) [.Name x2 a10] [] a11) a12) (body := [.Expr (.Call (.Name x0 a4) [] [] a5) a6])
    (tb := fun W Ds g H => g[0]? = some (some (.ref f)) ∧ H f = some (FnO f q l clos b pm ctv) ∧ H b = some (LamX.CodeO b q) ∧ ∃ E : XK, (∀ cls d g' H', E cls d H' → W cls d g' H') ∧ tbody E gM H fun _ H' => Ds.nx g H')
    (ts := fun a cls d Ds g H => g.length = 3 → g[2]? = some (some (.ref a)) ∧ Eerr K mg tb lam fl fld tab sub Nn.length dN NE (fun v H' => Ds.nx (g.set 1 (some v)) H') cls d H)
    hs hfr ndY i2 v2 hNE takes0N (fun W pn xe tk _ => ?_) (fun a oe cls d pn hz hf => ?_)
  · refine ⟨fun pins s g H Ds I h => (pss_cons (ps_asg pe_str (pg_name ndY i1 (.inl v1) (.inr v1)) s1 s2 s3) (pss_cons try_ (pss_one (ps_ret (pe_var i1 (.inl v1) d1 c1))))).run pins s g H Ds I ?_⟩
    have lg : g.length = 3 := by
      have z := I.len
      rw [hY] at z
      exact z
    obtain ⟨h0, h1, h2, run⟩ := h lg
    have at1 : ∀ (r : L2.St) (v : V), r.length = 3 → (r.set 1 (some v))[1]? = some (some v) := fun r v e => List.getElem?_set_self (by rw [e]; decide)
    refine ⟨by rw [List.getElem?_set_ne (by decide)]; exact h0, h1, h2, Eerr K mg tb lam fl fld tab sub Nn.length dN NE Ds.rt, fun cls d g' H' e => ?_, hmo _ _ _ _ _ run fun v H' q => ⟨.str "none", at1 _ _ lg, q⟩⟩
    have e' := e
    obtain ⟨M, M', io, ex, w', ⟨hc, _⟩, _, ⟨C0, hC, one, _⟩, _⟩ := e'
    rw [hC] at hc
    cases hc
    refine ⟨true, by rw [hK]; exact one, fun _ a na lx => ⟨?_, ?_⟩, fun z => by cases z⟩
    · rw [List.length_set] at lx
      exact List.getElem?_set_self (by rw [lx]; decide)
    · rw [List.length_set] at lx
      refine e.mono fun v H' q => ⟨v, ?_, q⟩
      rw [List.getElem?_set_ne (by decide)]
      exact at1 _ v (by rw [List.length_set, lx])
  · refine ⟨fun pins s g H Ds I h => ?_⟩
    obtain ⟨h0, h1, h2, E, hW, run⟩ := h
    have act := pe_actN (Y := Y.tr pn xe) (W := W) (E := E) (g := gM) (f := f) (b := b) (pm := pm) (ctv := ctv) (i := 0) (p1 := a4) (p2 := a5) (tb := tbody E) L C len hex hbind tk hW hr (fun s H hr' => by subst hP hw hK hmg hb; exact hbody E s H hr') i0 (.inl v0) d0 c0
    exact (pss_one (ps_expr (pos := a6) act s4)).run pins s g H Ds I ⟨h0, h1, h2, run⟩
  · have rH : RoomH (k + 1) (Y.A.mark (some (.ref a))) := RoomH.mono (k := kl + 1) ⟨hr.dp, hr.un⟩ hk
    exact suite_ok hP hw hK hmg hb NK hfl rH hY ndY v1 (.inl v2) hg hz hf s5 s6 s7 hd d2 c2 s8 s9
end
end PyL

-- PyL10
set_option maxRecDepth 100000
set_option maxHeartbeats 4000000
noncomputable section
namespace PyL
open PySem PySem.Spec PyProof.Rows L2 PyD PyH HotX L2H
theorem sE.mono {c : Cfg} {f : Den D} {g : L2.St} {H : Hp} {Q Q' : VK} (s : sE c f g H Q) (i : ∀ v H', Q v H' → Q' v H') : sE c f g H Q' := by
  obtain ⟨r, M, io, re, rs, x, M', e, k⟩ := s
  refine ⟨r, M, io, re, rs, x, M', e, fun io' H' ex rs' => ?_⟩
  have z := k io' H' ex rs'
  cases x with
  | ok a => exact fun b rb => i _ _ (z b rb)
  | ex x => exact z
/-- the lambdas of a frame -/
structure LSpec where
  l : LamS
  clos : List (Str × Addr)
/-- the word for what the call of the lambda that fe gives raises; the frame's own slots vs are not the maker's -/
def errC (known : List Str) (n1 : Nat) (dN : Str → SDen) (vs : List Nat) (bd : Nat → Option (Den D)) (fe : Den D) : Den D := bindD fe fun d r M => match d with
  | .fn n => match bd n with
    | some f => errE known (fun cls => bodyF n1 (dN cls)) f (wipeD r vs) M
    | none => none
  | _ => none
/-- the def that calls what it gets, and tells what that raises -/
structure ErrOk (K : PySem.W.Frag) (mg : Str → Option Value) (nm NEn : Str) (NE : Addr) (xE : Str) (stE : Stmt) (gE : Addr) (uE : FuncData) (x0 x1 x2 : Str) : Prop where
  F : Fun K xE xE stE gE uE
  S : FnScope [x0, x1, x2] [x0] (defScope stE)
  m : mg xE = some (.ref gE)
  b : Binds K uE [x0] []
  body : ∃ (j : Nat) (a1 a2 a3 a4 a5 a6 a7 a8 a9 a10 a11 a12 a13 a14 a15 a16 : Pos), defBody stE = [.Assign [.Name x1 a1] (.Constant (.str "none") j a2) a3,
      .Try [.Expr (.Call (.Name x0 a4) [] [] a5) a6] [.ExceptHandler (some (.Name NEn a7)) (some x2) [.Assign [.Name x1 a8] (.Call (.Name nm a9) [.Name x2 a10] [] a11) a12] a13] [] [] a14, .Return (some (.Name x1 a15)) a16]
  v0 : (defScope stE).names.lookup x0 = some .local
  v1 : (defScope stE).names.lookup x1 = some .local
  v2 : (defScope stE).names.lookup x2 = some .local
  gn : (defScope stE).names.lookup nm = some .globalImplicit
  ge : (defScope stE).names.lookup NEn = some .globalImplicit
  me : mg NEn = some (.ref NE)
  de : (NEn == ("__debug__" : Str)) = false
  dn : (nm == ("__debug__" : Str)) = false
  d0 : (x0 == ("__debug__" : Str)) = false
  c0 : (x0 == ("__classdict__" : Str)) = false
  d1 : (x1 == ("__debug__" : Str)) = false
  c1 : (x1 == ("__classdict__" : Str)) = false
  d2 : (x2 == ("__debug__" : Str)) = false
  c2 : (x2 == ("__classdict__" : Str)) = false
section
variable {P : Program} {w : World} {K : PySem.W.Frag} {mg : Str → Option Value} {base : Heap} {tb : List (Addr × Str)} {lam : Nat → Addr → HO → Addr → HO → Prop} {fl : Flds} {fld : Str} {tab : List (Str × Addr)} {sub : Str → Str → Bool} {nm : Str} {st : Stmt} {aN : Addr} {uN : FuncData} {Nn : List Str} {pa : Str} {dN : Str → SDen} {k : Nat} {NE : Addr}
theorem de_err {X : Cx} {N : List Str} {E0 : XK} {q xE NEn x0 x1 x2 : Str} {stE : Stmt} {gE : Addr} {uE : FuncData} {kl : Nat} {known : List Str} {vs : List Nat} {ls : Nat → LSpec} {bd : Nat → Option (Den D)} {fe : Den D} {e : Expr} {p pos : Pos} {G : L2.St → Prop} (hP : X.prog = P) (hw : X.w = w) (hK : X.K = K) (hmg : X.mg = mg) (hb : X.base = base)
    (NK : NameOk P w K mg base tb lam fl fld tab sub nm st aN uN Nn pa dN k) (hfl : ∀ y f, fl y = some f → f = fld) (EK : ErrOk K mg nm NEn NE xE stE gE uE x0 x1 x2) (nd3 : [x0, x1, x2].Nodup) (hcls : ∀ cls, hasS known cls = true → ClsF K mg NE tab sub fld cls)
    (hlam : ∀ n f o b u, lam n f o b u → (bd n).isSome = true → ∃ pm ctv, o = FnO f q (ls n).l (ls n).clos b pm ctv ∧ u = LamX.CodeO b q) (hL : ∀ n, (bd n).isSome = true → LOk (ls n).l)
    (hbind : ∀ (n : Nat), (bd n).isSome = true → ∀ (pm cv ctv : Value), bindArgs (PySem.W.kla_fn "<lambda>" q (ls n).l.params (ls n).l.body (ls n).l.scope (ls n).clos pm cv ctv) ⟨[], []⟩ = pure [])
    (mk : ∀ ps r H s, Inv X ps r H s → G r → ∃ gM, L2.wipe r vs = L2.wipe gM vs ∧ gM.length = N.length ∧ ∀ n, (bd n).isSome = true → Cells N (ls n).l (ls n).clos gM H s.heap)
    (hbody : ∀ (n : Nat) (f : Den D), bd n = some f → ∀ (A : Around) (outer : List Env) (s : Shared) (H : Hp) (E : XK) (f0 b0 : Addr), Room kl (A.deeper (lEnv q (ls n).l (ls n).clos s.heap.objs.size f0 b0)) → PE (lCx P w K mg base N q (ls n).l (ls n).clos f0 b0 A outer s H E) (ls n).l.body (sE ⟨k0x K tb lam, mg, fl, E⟩ f))
    (hr : Room (kl + 2) X.A) (hk : k + 1 ≤ kl + 1) (hg : Gl X xE) (he : PE X e (sE ⟨k0x K tb lam, mg, fl, E0⟩ fe)) (hd : (xE == ("__debug__" : Str)) = false := by decide) (hst : starEach [e] X.env = (false, eval e X.env) :: starEach [] X.env := by rfl) (hpl : (backTo pos (starEach [] X.env)).any (·.1) = false := by rfl) :
    PE X (.Call (.Name xE p) [e] [] pos) (fun r H Q => G r ∧ sE ⟨k0x K tb lam, mg, fl, E0⟩ (errC known Nn.length dN vs bd fe) r H Q) := by
  have pa : PA X [e] (tCons (sE ⟨k0x K tb lam, mg, fl, E0⟩ fe) tNil) := pa_cons he pa_nil hst
  refine ⟨fun pins s g H Q I run => ?_⟩
  obtain ⟨hG, run⟩ := run
  subst hP hw hK hmg hb
  refine wpAny_Call_Name_kw (ld_glob I hg EK.m ?_ hd)
  -- the argument
  have arg : sE ⟨k0x X.K tb lam, X.mg, fl, E0⟩ fe g H (fun v H1 => ∃ (r : DEnv) (M1 : Sto) (io1 : List Addr) (d : D), RE (k0x X.K tb lam) H1 io1 r g ∧ RS (k0x X.K tb lam) H1 io1 M1 ∧ R (k0x X.K tb lam) H1 io1 d v ∧
      PyD.Run ⟨k0x X.K tb lam, X.mg, fl, E0⟩ (rD ⟨k0x X.K tb lam, X.mg, fl, E0⟩) (fun r M => match d with
        | .fn n => match bd n with
          | some f => errE known (fun cls => bodyF Nn.length (dN cls)) f (wipeD r vs) M
          | none => none
        | _ => none) r M1 io1 g H1 Q) := sG.bind run fun d v r M1 io1 H1 re rs rd run1 => ⟨r, M1, io1, d, re, rs, rd, run1⟩
  refine PySem.W.callWith_K (h₀ := X.base) I.ok.mod.kin EK.F.kp (thn (pa.run pos pins s g H (fun us H1 => match us with
    | [v] => ∃ (r : DEnv) (M1 : Sto) (io1 : List Addr) (d : D), RE (k0x X.K tb lam) H1 io1 r g ∧ RS (k0x X.K tb lam) H1 io1 M1 ∧ R (k0x X.K tb lam) H1 io1 d v ∧
      PyD.Run ⟨k0x X.K tb lam, X.mg, fl, E0⟩ (rD ⟨k0x X.K tb lam, X.mg, fl, E0⟩) (fun r M => match d with
        | .fn n => match bd n with
          | some f => errE known (fun cls => bodyF Nn.length (dN cls)) f (wipeD r vs) M
          | none => none
        | _ => none) r M1 io1 g H1 Q
    | _ => False) I arg) fun us s1 ⟨ws, H1, I1, r1, q1⟩ => ⟨I1.kIn, ?_⟩) hst hpl
  obtain ⟨v, u, rfl, rv, r, M1, io1, d, re, rs, rd, x, M', eq, aft⟩ : ∃ v u, us = [u] ∧ RelV v u ∧ ∃ (r : DEnv) (M1 : Sto) (io1 : List Addr) (d : D), RE (k0x X.K tb lam) H1 io1 r g ∧ RS (k0x X.K tb lam) H1 io1 M1 ∧ R (k0x X.K tb lam) H1 io1 d v ∧
      PyD.Run ⟨k0x X.K tb lam, X.mg, fl, E0⟩ (rD ⟨k0x X.K tb lam, X.mg, fl, E0⟩) (fun r M => match d with
        | .fn n => match bd n with
          | some f => errE known (fun cls => bodyF Nn.length (dN cls)) f (wipeD r vs) M
          | none => none
        | _ => none) r M1 io1 g H1 Q := by
    cases r1 with
    | nil => exact q1.elim
    | cons r rr =>
      cases rr with
      | nil => exact ⟨_, _, rfl, r, q1⟩
      | cons _ _ => exact q1.elim
  dsimp only at eq
  cases d with
  | fn n =>
    dsimp only at eq
    cases eb : bd n with
    | none => rw [eb] at eq; cases eq
    | some f =>
      rw [eb] at eq
      dsimp only at eq
      have hs : (bd n).isSome = true := by rw [eb]; rfl
      cases rd with
      | @fn _ a b o uo hl hf qf hb2 qb =>
        obtain ⟨pm, ctv, rfl, rfl⟩ := hlam _ _ _ _ _ hl hs
        obtain rfl : u = Value.ref a := rv
        obtain ⟨gM, hw, len, cells⟩ := mk pins g H1 s1 I1 hG
        have re' : RE (k0x X.K tb lam) H1 io1 (wipeD r vs) gM := by
          have z := re.wipe vs
          rw [hw] at z
          exact ⟨by rw [z.1, wipe_length], fun i d e => by
            obtain ⟨v, e1, e2⟩ := z.2 i d e
            exact ⟨v, (wipe_some e1).1, e2⟩⟩
        -- what is wished of the lambda's body
        have want : sE ⟨k0x X.K tb lam, X.mg, fl, Eerr X.K X.mg tb lam fl fld tab sub Nn.length dN NE Q⟩ f gM H1 (fun _ H' => Q (.str "none") H') := by
          unfold errE at eq
          cases ef : f (wipeD r vs) M1 with
          | none => rw [ef] at eq; cases eq
          | some pr =>
            obtain ⟨y, M2⟩ := pr
            rw [ef] at eq
            refine ⟨wipeD r vs, M1, io1, re', rs, y, M2, ef, fun io' H' ex rs' => ?_⟩
            cases y with
            | ok d0 =>
              cases eq
              exact fun _ _ => aft io' H' ex rs' _ (.str _)
            | ex x0 =>
              dsimp only at eq
              split at eq
              · rename_i hk2
                split at eq
                · rename_i z M3 en
                  split at eq
                  · rename_i nx
                    cases eq
                    exact fun cv dx rx => ⟨M2, _, io', x0, z, rx, rs', hcls _ hk2, en, nx, fun io'' H'' e2 rs'' => aft io'' H'' (ex.trans e2) rs'' _ (.str _)⟩
                  · cases eq
                · cases eq
              · cases eq
        obtain ⟨oc, od, kV, doc, pmE, anE, cdv, ct, osl, efd, lk, hcd⟩ := EK.F.ex
        obtain ⟨j, a1, a2, a3, a4, a5, a6, a7, a8, a9, a10, a11, a12, a13, a14, a15, a16, hbE⟩ := EK.body
        have bnd := EK.b s1 [.ref a] I1.kIn rfl
        rw [List.append_nil] at bnd
        have rc : codeAny (model X.prog X.w) X.A (.call (.ref gE) ⟨[.ref a], []⟩) (CR C8.CX0 X.stack X.prog X.w H1 s1 Q C8.E0) s1 := by
          rw [efd] at bnd lk
          refine LamX.run_ofS (N := [x0, x1, x2]) (ps := [x0]) (us := [.ref a]) (vs := [.ref a]) lk hcd EK.S hr I1.env0 bnd (.cons rfl .nil) rfl fun hr' => ?_
          rw [hbE]
          refine ⟨_, (err_body (Y := (cxOf C8.CX0 X.prog X.w X.K X.mg X.base [x0, x1, x2] xE (defScope stE) gE cdv X.A X.stack s1 H1 C8.E0).nox) (l := (ls n).l) (clos := (ls n).clos) (gM := gM) (f := a) (b := b) (pm := pm) (ctv := ctv) (kl := kl) (tbody := fun E => sE ⟨k0x X.K tb lam, X.mg, fl, E⟩ f) rfl rfl rfl rfl rfl NK hfl rfl nd3 rfl rfl rfl hr' hk
            EK.v0 EK.v1 EK.v2 EK.gn ⟨EK.ge, EK.de, .inl EK.me⟩ (hL n hs) (cells n hs) len (hbind n hs) (fun E s H hr2 => hbody n f eb _ _ s H E a b hr2) (fun E g H Q Q' s i => sE.mono s i) EK.dn EK.d0 EK.c0 EK.d1 EK.c1 EK.d2 EK.c2).nox, ?_⟩
          exact fun _ => ⟨rfl, hf, hb2, want⟩
        refine wpAny_call (codeAny_mono rc fun r s2 z => ?_)
        cases r with
        | error e => exact (show False from z).elim
        | ok fl =>
          cases fl with
          | ret u => exact I1.after z
          | next => exact False.elim z
          | brk => exact False.elim z
          | cont => exact False.elim z
  | _ => cases eq
end
end PyL

-- PyL11
set_option maxRecDepth 100000
set_option maxHeartbeats 4000000
noncomputable section
namespace PyL
open PySem PySem.Spec PyProof.Rows L2 PyD PyH HotX L2H
/-! ### data without lambdas and exceptions -/
mutual
def pureD : D → Bool
  | .exn _ _ => false
  | .fn _ => false
  | .tup ds => pureDs ds
  | .ktup ds => pureDs ds
  | _ => true
def pureDs : List D → Bool
  | [] => true
  | d :: ds => pureD d && pureDs ds
end
def pureKV {κ : Type} (kvs : List (κ × D)) : Bool := kvs.all fun p => pureD p.2
def pureC : Cell → Bool
  | .lst ds => pureDs ds
  | .dk kvs => pureKV kvs
  | .dt kvs => pureKV kvs
  | .ob _ kvs => pureKV kvs
  | .dead => true
def pureM (M : Sto) : Bool := M.all pureC
def sweepC (c : Cell) : Cell := if pureC c then c else .dead
def sweepM (M : Sto) : Sto := M.map sweepC
section
variable {F : PySem.W.Frag} {T : List (Addr × Str)} {lam lam' : Nat → Addr → HO → Addr → HO → Prop} {x x' : Str → Addr → Option (Addr × Str) → Prop} {H : Hp} {io : List Addr}
mutual
theorem R.cv : ∀ {d : D} {v : V}, pureD d = true → R ⟨F, T, lam, x⟩ H io d v → R ⟨F, T, lam', x'⟩ H io d v
  | _, _, _, .non => .non
  | _, _, _, .bl b => .bl b
  | _, _, _, .int i => .int i
  | _, _, _, .str z => .str z
  | _, _, _, .ty n => .ty n
  | _, _, h, .tup e r => .tup e (RL.cv (by simpa only [pureD] using h) r)
  | _, _, h, .ktup e r => .ktup e (RL.cv (by simpa only [pureD] using h) r)
  | _, _, _, .lst e => .lst e
  | _, _, _, .dic e => .dic e
  | _, _, h, .fn _ _ _ _ _ => by simp only [pureD] at h; cases h
  | _, _, h, .exn0 _ => by simp only [pureD] at h; cases h
  | _, _, h, .exn1 _ _ _ => by simp only [pureD] at h; cases h
theorem RL.cv : ∀ {ds : List D} {vs : List V}, pureDs ds = true → RL ⟨F, T, lam, x⟩ H io ds vs → RL ⟨F, T, lam', x'⟩ H io ds vs
  | _, _, _, .nil => .nil
  | _, _, h, .cons r t => by
    simp only [pureDs, Bool.and_eq_true] at h
    exact .cons (R.cv h.1 r) (RL.cv h.2 t)
end
theorem RKV.cv {κ : Type} : ∀ {a : List (κ × D)} {b : List (κ × V)}, pureKV a = true → RKV ⟨F, T, lam, x⟩ H io a b → RKV ⟨F, T, lam', x'⟩ H io a b
  | [], _, _, h => by cases h; exact .nil
  | p :: r, _, e, h => by
    cases h with
    | cons h1 h2 =>
      unfold pureKV at e
      rw [List.all_cons, Bool.and_eq_true] at e
      exact .cons ⟨h1.1, R.cv e.1 h1.2⟩ (RKV.cv e.2 h2)
theorem RC.cv {c : Cell} {o : HO} (e : pureC c = true) (h : RC ⟨F, T, lam, x⟩ H io c o) : RC ⟨F, T, lam', x'⟩ H io c o := by
  cases c with
  | lst ds => obtain ⟨xs, q, r⟩ := h; exact ⟨xs, q, RL.cv e r⟩
  | dk ds => obtain ⟨xs, q, r⟩ := h; exact ⟨xs, q, RKV.cv e r⟩
  | dt ds => obtain ⟨xs, q, r⟩ := h; exact ⟨xs, q, RKV.cv e r⟩
  | ob cl fs => obtain ⟨dx, xs, q, r⟩ := h; exact ⟨dx, xs, q, RKV.cv e r⟩
  | dead => exact h
theorem RS.cv {M : Sto} (e : pureM M = true) (h : RS ⟨F, T, lam, x⟩ H io M) : RS ⟨F, T, lam', x'⟩ H io M := ⟨h.len, h.nd, h.tab, fun i c ei => by
  obtain ⟨a, o, e1, e2, rc⟩ := h.cell i c ei
  exact ⟨a, o, e1, e2, RC.cv (List.all_eq_true.mp e c (sGet_mem ei)) rc⟩⟩
theorem RS.sweep {M : Sto} (h : RS ⟨F, T, lam, x⟩ H io M) : RS ⟨F, T, lam', x'⟩ H io (sweepM M) := ⟨by rw [h.len, sweepM, List.length_map], h.nd, h.tab, fun i c ei => by
  unfold sweepM at ei
  rw [sGet_eq, List.getElem?_map, ← sGet_eq] at ei
  cases em : (sGet M i) with
  | none => rw [em] at ei; cases ei
  | some c0 =>
    rw [em] at ei
    cases ei
    obtain ⟨a, o, e1, e2, rc⟩ := h.cell i c0 em
    refine ⟨a, o, e1, e2, ?_⟩
    unfold sweepC
    split
    · rename_i hp
      exact RC.cv hp rc
    · exact rc.notTup⟩
end
/-- a def that makes lambdas: none comes in, none goes out -/
def bodyL (n : Nat) (b : SDen) : FDen := fun ds M => if pureDs ds && pureM M then (match bodyF n b ds M with
  | some (.ok d, M') => if pureD d then some (.ok d, sweepM M') else none
  | _ => none) else none
section
variable {P : Program} {w : World} {K : PySem.W.Frag} {mg : Str → Option Value} {base : Heap} {tb : List (Addr × Str)} {fl : Flds}
theorem fn_okL {lam : Nat → Addr → HO → Addr → HO → Prop} {W : XK} {x qual : Str} {st : Stmt} {f : Addr} {fd : FuncData} {N ps : List Str} {k n : Nat} {b : SDen} (F : Fun K x qual st f fd) (S : FnScope N ps (defScope st)) (hn : N.length = n)
    (hb : ∀ (cdv : Value) (A : Around) (outer : List Env) (s : Shared) (H : Hp) (E : XK), Room k (A.deeper (envOfC qual (defScope st) s.heap.objs.size f cdv)) → fd.code = cdv →
      ∃ lam' : Nat → Addr → HO → Addr → HO → Prop, PSs (cxOf (L2N.CX P w) P w K mg base N qual (defScope st) f cdv A outer s H E) (defBody st) (sS ⟨k0x K tb lam', mg, fl, E⟩ b)) :
    FnOk P w K mg base (L2N.CX P w) (k + 1) f fd ps (spF ⟨k0x K tb lam, mg, fl, W⟩ ps.length (bodyL n b)) := by
  subst hn
  obtain ⟨oc, od, kV, doc, pm, an, cdv, ct, osl, rfl, lk, hcd⟩ := F.ex
  refine fn_of lk hcd S (fun vs H Q E h => ?_) (fun A outer s H vs Q E hr h => ?_)
  · obtain ⟨M, io, ds, x, M', _, rl, _, hl, _⟩ := h
    rw [← rl.length]
    exact hl
  · obtain ⟨M, io, ds, x, M', e, rl, rs, hl, kk⟩ := h
    obtain ⟨lam', hP⟩ := hb cdv A outer s H E hr rfl
    refine ⟨_, hP, ?_⟩
    unfold bodyL at e
    split at e
    · rename_i hp
      rw [Bool.and_eq_true] at hp
      split at e
      · rename_i d M1 e1
        split at e
        · rename_i hd
          cases e
          unfold bodyF at e1
          cases eb : b (ds.map some ++ List.replicate (N.length - ds.length) none) M with
          | none => rw [eb] at e1; cases e1
          | some p =>
            obtain ⟨fl', r', M2⟩ := p
            rw [eb] at e1
            refine ⟨_, M, io, re_start (N := N) (RL.cv hp.1 rl), RS.cv hp.2 rs, fl', r', M2, eb, fun io1 H1 ex rs1 => ?_⟩
            cases fl' with
            | rt d0 => cases e1; exact fun v rv => kk io1 H1 (Ext.k ex) (RS.sweep rs1) v (R.cv hd rv)
            | nx => cases e1; exact fun g' re => kk io1 H1 (Ext.k ex) (RS.sweep rs1) _ .non
            | ex x => cases e1
            | bk => cases e1
            | ct => cases e1
        · cases e
      · cases e
    · cases e
end
end PyL

-- PyL12
set_option maxRecDepth 100000
set_option maxHeartbeats 4000000
noncomputable section
namespace PyL
open PySem PySem.Spec PyProof.Rows L2 PyD PyH HotX L2H
/-- the lambdas of an expression, as they are written -/
def lamsE : Nat → Expr → List LamS
  | 0, _ => []
  | _ + 1, .Lambda a b s _ => [⟨a, b, s⟩]
  | n + 1, .List es _ => es.flatMap (lamsE n)
  | n + 1, .Tuple es _ _ => es.flatMap (lamsE n)
  | n + 1, .BoolOp _ es _ => es.flatMap (lamsE n)
  | n + 1, .BinOp a _ b _ => lamsE n a ++ lamsE n b
  | n + 1, .UnaryOp _ a _ => lamsE n a
  | n + 1, .Compare a _ es _ => lamsE n a ++ es.flatMap (lamsE n)
  | n + 1, .Call f es _ _ => lamsE n f ++ es.flatMap (lamsE n)
  | n + 1, .Attribute a _ _ => lamsE n a
  | n + 1, .Subscript a b _ => lamsE n a ++ lamsE n b
  | _, _ => []
def lamsS (n : Nat) : Stmt → List LamS
  | .Assign _ e _ => lamsE n e
  | .Expr e _ => lamsE n e
  | .Return (some e) _ => lamsE n e
  | .If e _ _ _ => lamsE n e
  | _ => []
def noLam : LamS := ⟨⟨[], [], none, [], [], none, []⟩, .Constant .none 0 ⟨0, 0, 0, 0⟩, ⟨.function, [], false, false, []⟩⟩
def lamsOf (st : Stmt) (n : Nat) : LamS := ((defBody st).flatMap (lamsS 20)).getD n noLam
/-- a closed term by its head, worked out when it is read -/
def theVal {A : Type} {a : A} (y : A) (_ : a = y) : A := y
/-- where the table of a maker's code is -/
structure LamAt (base : Heap) (mg : Str → Option Value) (tb : List (Addr × Str)) (cd : Value) (q : Str) : Prop where
  ex : ∃ c P : Addr, cd = .ref c ∧ LamX.TabB base mg c P ∧ (P, q ++ "<lambda>") ∈ tb ∧ ∀ p ∈ tb, p.1 = P → p.2 = q ++ "<lambda>"
/-- the lambdas that a frame makes -/
def lamOf (q : Str) (ls : Nat → LSpec) : Nat → Addr → HO → Addr → HO → Prop := fun n f o b u => ∃ pm ctv, o = FnO f q (ls n).l (ls n).clos b pm ctv ∧ u = LamX.CodeO b q
section
variable {P : Program} {w : World} {K : PySem.W.Frag} {mg : Str → Option Value} {base : Heap} {tb : List (Addr × Str)} {lam : Nat → Addr → HO → Addr → HO → Prop} {fl : Flds} {fld : Str} {tab : List (Str × Addr)} {sub : Str → Str → Bool} {nm : Str} {st : Stmt} {aN : Addr} {uN : FuncData} {Nn : List Str} {pa : Str} {dN : Str → SDen} {k : Nat} {NE : Addr}
theorem de_lamN {X : Cx} {E0 : XK} {a : Arguments} {b : Expr} {sc : Scope} {pos : Pos} {n : Nat} {ls : Nat → LSpec} {q : Str} (hq : X.env.qual = q) (hb : X.base = base) (hmg : X.mg = mg) (LA : LamAt base mg tb X.env.code q) (L : LamX.LamS X.env.scope sc) (hdef : defaultsOf a X.env = ([], []))
    (hl : ls n = ⟨⟨a, b, sc⟩, cloFrom X.env.cells sc.names []⟩) : PE X (.Lambda a b sc pos) (sE ⟨k0x K tb (lamOf (q ++ "<lambda>") ls), mg, fl, E0⟩ (lamD n)) := by
  subst hq hb hmg
  obtain ⟨c, P, hc, TB, hm, hu⟩ := LA.ex
  exact de_lam (l := ⟨a, b, sc⟩) TB hc hm hu hdef (fun ok => L.has ok) fun f b0 pm ctv => ⟨pm, ctv, by rw [hl], rfl⟩
/-- what stands fixed for the telling of errors -/
structure ErrAll (P : Program) (w : World) (K : PySem.W.Frag) (mg : Str → Option Value) (base : Heap) (tb : List (Addr × Str)) (fl : Flds) (fld : Str) (tab : List (Str × Addr)) (sub : Str → Str → Bool) (nm : Str) (st : Stmt) (aN : Addr) (uN : FuncData) (Nn : List Str) (pa : Str) (dN : Str → SDen) (k : Nat) (NE : Addr) (NEn xE : Str) (stE : Stmt) (gE : Addr) (uE : FuncData) (x0 x1 x2 : Str) (known : List Str) : Prop where
  NK : ∀ lam : Nat → Addr → HO → Addr → HO → Prop, NameOk P w K mg base tb lam fl fld tab sub nm st aN uN Nn pa dN k
  fl1 : ∀ y f, fl y = some f → f = fld
  EK : ErrOk K mg nm NEn NE xE stE gE uE x0 x1 x2
  nd : [x0, x1, x2].Nodup
  cls : ∀ cls, hasS known cls = true → ClsF K mg NE tab sub fld cls
variable {NEn xE x0 x1 x2 : Str} {stE : Stmt} {gE : Addr} {uE : FuncData} {known : List Str}
/-- tell(lambda), where the maker's frame stands -/
theorem de_errD {X : Cx} {E0 : XK} {q : Str} {kl : Nat} {LS : Nat → LamS} {bd : Nat → Option (Den D)} {fe : Den D} {e : Expr} {p pos : Pos} (hP : X.prog = P) (hw : X.w = w) (hK : X.K = K) (hmg : X.mg = mg) (hb : X.base = base) (EA : ErrAll P w K mg base tb fl fld tab sub nm st aN uN Nn pa dN k NE NEn xE stE gE uE x0 x1 x2 known)
    (hLS : ∀ n, (bd n).isSome = true → LOk (LS n) ∧ LamX.LamS X.env.scope (LS n).scope ∧ ∀ (q : Str) (clos : List (Str × Addr)) (pm cv ctv : Value), bindArgs (PySem.W.kla_fn "<lambda>" q (LS n).params (LS n).body (LS n).scope clos pm cv ctv) ⟨[], []⟩ = pure [])
    (hbody : ∀ (n : Nat) (f : Den D), bd n = some f → ∀ (A : Around) (outer : List Env) (s : Shared) (H : Hp) (E : XK) (f0 b0 : Addr), Room kl (A.deeper (lEnv q (LS n) (cloFrom X.env.cells (LS n).scope.names []) s.heap.objs.size f0 b0)) →
      PE (lCx P w K mg base X.N q (LS n) (cloFrom X.env.cells (LS n).scope.names []) f0 b0 A outer s H E) (LS n).body (sE ⟨k0x K tb (lamOf q fun n => ⟨LS n, cloFrom X.env.cells (LS n).scope.names []⟩), mg, fl, E⟩ f))
    (hr : Room (kl + 2) X.A) (hk : k + 1 ≤ kl + 1) (hg : Gl X xE) (he : PE X e (sE ⟨k0x K tb (lamOf q fun n => ⟨LS n, cloFrom X.env.cells (LS n).scope.names []⟩), mg, fl, E0⟩ fe)) (hd : (xE == ("__debug__" : Str)) = false := by decide)
    (hst : starEach [e] X.env = (false, eval e X.env) :: starEach [] X.env := by rfl) (hpl : (backTo pos (starEach [] X.env)).any (·.1) = false := by rfl) :
    PE X (.Call (.Name xE p) [e] [] pos) (sE ⟨k0x K tb (lamOf q fun n => ⟨LS n, cloFrom X.env.cells (LS n).scope.names []⟩), mg, fl, E0⟩ (errC known Nn.length dN [] bd fe)) :=
  PE.imp (de_err (N := X.N) (vs := []) (G := fun _ => True) (ls := fun n => ⟨LS n, cloFrom X.env.cells (LS n).scope.names []⟩) hP hw hK hmg hb (EA.NK _) EA.fl1 EA.EK EA.nd EA.cls (fun n f o b u h _ => h) (fun n h => (hLS n h).1) (fun n h pm cv ctv => (hLS n h).2.2 _ _ _ _ _) (fun ps r H s I _ => ⟨r, rfl, I.len, fun n h => Cells.of I (hLS n h).2.1⟩) hbody hr hk hg he hd hst hpl) fun g H Q s => ⟨trivial, s⟩
/-- tell(x), within a comprehension of the maker's frame -/
theorem de_errB {X : Cx} {E0 : XK} {q : Str} {kl : Nat} {LS : Nat → LamS} {bd : Nat → Option (Den D)} {fe : Den D} {e : Expr} {p pos : Pos} {scope : Scope} {sl : List Nat} {pins0 : List (Addr × Obj)} {g0 : L2.St} {s0 : Shared} {H0 : Hp} {C0 : Addr} {cl0 : List (Str × Addr)} {fp : List Addr} (I0 : Inv X pins0 g0 H0 s0) (F0 : ∀ b ∈ fp, FpOk X pins0 H0 b)
    (hP : X.prog = P) (hw : X.w = w) (hK : X.K = K) (hmg : X.mg = mg) (hb : X.base = base) (EA : ErrAll P w K mg base tb fl fld tab sub nm st aN uN Nn pa dN k NE NEn xE stE gE uE x0 x1 x2 known)
    (hLS : ∀ n, (bd n).isSome = true → LOk (LS n) ∧ LamX.LamS X.env.scope (LS n).scope ∧ ∀ (q : Str) (clos : List (Str × Addr)) (pm cv ctv : Value), bindArgs (PySem.W.kla_fn "<lambda>" q (LS n).params (LS n).body (LS n).scope clos pm cv ctv) ⟨[], []⟩ = pure [])
    (hbody : ∀ (n : Nat) (f : Den D), bd n = some f → ∀ (A : Around) (outer : List Env) (s : Shared) (H : Hp) (E : XK) (f0 b0 : Addr), Room kl (A.deeper (lEnv q (LS n) (cloFrom X.env.cells (LS n).scope.names []) s.heap.objs.size f0 b0)) →
      PE (lCx P w K mg base X.N q (LS n) (cloFrom X.env.cells (LS n).scope.names []) f0 b0 A outer s H E) (LS n).body (sE ⟨k0x K tb (lamOf q fun n => ⟨LS n, cloFrom X.env.cells (LS n).scope.names []⟩), mg, fl, E⟩ f))
    (hr : Room (kl + 2) X.A) (hk : k + 1 ≤ kl + 1) (hg : Gl (X.blk s0 H0 scope (compEnvC scope cl0 C0 X.env) fp) xE) (he : PE (X.blk s0 H0 scope (compEnvC scope cl0 C0 X.env) fp) e (sE ⟨k0x K tb (lamOf q fun n => ⟨LS n, cloFrom X.env.cells (LS n).scope.names []⟩), mg, fl, E0⟩ fe)) (hd : (xE == ("__debug__" : Str)) = false := by decide)
    (hst : starEach [e] (X.blk s0 H0 scope (compEnvC scope cl0 C0 X.env) fp).env = (false, eval e (X.blk s0 H0 scope (compEnvC scope cl0 C0 X.env) fp).env) :: starEach [] (X.blk s0 H0 scope (compEnvC scope cl0 C0 X.env) fp).env := by rfl) (hpl : (backTo pos (starEach [] (X.blk s0 H0 scope (compEnvC scope cl0 C0 X.env) fp).env)).any (·.1) = false := by rfl) :
    PE (X.blk s0 H0 scope (compEnvC scope cl0 C0 X.env) fp) (.Call (.Name xE p) [e] [] pos) (fun r H Q => L2.wipe r sl = L2.wipe g0 sl ∧ sE ⟨k0x K tb (lamOf q fun n => ⟨LS n, cloFrom X.env.cells (LS n).scope.names []⟩), mg, fl, E0⟩ (errC known Nn.length dN sl bd fe) r H Q) :=
  de_err (X := X.blk s0 H0 scope (compEnvC scope cl0 C0 X.env) fp) (N := X.N) (vs := sl) (G := fun r => L2.wipe r sl = L2.wipe g0 sl) (ls := fun n => ⟨LS n, cloFrom X.env.cells (LS n).scope.names []⟩) hP hw hK hmg hb (EA.NK _) EA.fl1 EA.EK EA.nd EA.cls (fun n f o b u h _ => h) (fun n h => (hLS n h).1) (fun n h pm cv ctv => (hLS n h).2.2 _ _ _ _ _)
    (fun ps r H s I hG => ⟨g0, hG, I0.len, fun n h => (Cells.of I0 (hLS n h).2.1).un I.base fun y c hc z => by
      have hm : X.env.cells.lookup y = some c := by
        rcases cloFrom_mem (PySem.mem_of_lookup hc) with hm | ⟨h1, h2⟩
        · cases hm
        · obtain ⟨c1, hc1⟩ := (hLS n h).2.1.has I0.ok _ h1 rfl
          have hc1 : X.env.cells.lookup y = some c1 := hc1
          rw [h2, hc1]
          rfl
      exact (F0 c z).2.2.2.2.1 y c hm rfl⟩) hbody hr hk hg he hd hst hpl
end
end PyL

-- PyM4
set_option maxRecDepth 100000
set_option maxHeartbeats 4000000
noncomputable section
namespace PyM
open PySem PySem.Spec PyProof.Rows L2 PyD
/-! ### what is built on the way is forgotten: the store cut to its first k cells -/
mutual
def okR (k : Nat) : D → Bool
  | .lst i => decide (i < k)
  | .dic i => decide (i < k)
  | .tup ds => okRL k ds
  | .ktup ds => okRL k ds
  | .exn _ ds => okRL k ds
  | _ => true
def okRL (k : Nat) : List D → Bool
  | [] => true
  | d :: ds => okR k d && okRL k ds
end
def okCell (k : Nat) : Cell → Bool
  | .lst ds => okRL k ds
  | .dk kvs => kvs.all fun p => okR k p.2
  | .dt kvs => kvs.all fun p => okR k p.2
  | .ob _ kvs => kvs.all fun p => okR k p.2
  | .dead => true
def okEnv (k : Nat) (r : DEnv) : Bool := r.all fun x => match x with
  | some d => okR k d
  | none => true
section
variable {K : KT} {H : Hp} {io : List Addr} {k : Nat}
mutual
theorem R.cut : ∀ {d : D} {v : V}, okR k d = true → R K H io d v → R K H (io.take k) d v
  | .non, _, _, h => by cases h; exact .non
  | .bl _, _, _, h => by cases h; exact .bl _
  | .int _, _, _, h => by cases h; exact .int _
  | .str _, _, _, h => by cases h; exact .str _
  | .ty _, _, _, h => by cases h; exact .ty _
  | .tup ds, _, e, h => by
    unfold okR at e
    cases h with
    | tup h1 h2 => exact .tup h1 (RL.cut e h2)
  | .ktup ds, _, e, h => by
    unfold okR at e
    cases h with
    | ktup h1 h2 => exact .ktup h1 (RL.cut e h2)
  | .lst i, _, e, h => by
    unfold okR at e
    cases h with
    | lst h1 => exact .lst (by rw [List.getElem?_take_of_lt (of_decide_eq_true e)]; exact h1)
  | .dic i, _, e, h => by
    unfold okR at e
    cases h with
    | dic h1 => exact .dic (by rw [List.getElem?_take_of_lt (of_decide_eq_true e)]; exact h1)
  | .fn n, _, _, h => by
    cases h with
    | fn h1 h2 h3 h4 h5 => exact .fn h1 h2 h3 h4 h5
  | .exn c ds, _, e, h => by
    unfold okR at e
    cases h with
    | exn0 h1 => exact .exn0 h1
    | exn1 h1 h2 h3 =>
      unfold okRL at e
      rw [Bool.and_eq_true] at e
      exact .exn1 h1 h2 (R.cut e.1 h3)
theorem RL.cut : ∀ {ds : List D} {vs : List V}, okRL k ds = true → RL K H io ds vs → RL K H (io.take k) ds vs
  | [], _, _, h => by cases h; exact .nil
  | d :: ds, _, e, h => by
    unfold okRL at e
    rw [Bool.and_eq_true] at e
    cases h with
    | cons h1 h2 => exact .cons (R.cut e.1 h1) (RL.cut e.2 h2)
end
theorem RKV.cut {κ : Type} : ∀ {a : List (κ × D)} {b : List (κ × V)}, (a.all fun p => okR k p.2) = true → RKV K H io a b → RKV K H (io.take k) a b
  | [], _, _, h => by cases h; exact .nil
  | p :: r, _, e, h => by
    rw [List.all_cons, Bool.and_eq_true] at e
    cases h with
    | cons h1 h2 => exact .cons ⟨h1.1, R.cut e.1 h1.2⟩ (RKV.cut e.2 h2)
theorem RC.cut {c : Cell} {o : HO} (e : okCell k c = true) (h : RC K H io c o) : RC K H (io.take k) c o := by
  cases c with
  | lst ds => obtain ⟨xs, q, r⟩ := h; exact ⟨xs, q, RL.cut e r⟩
  | dk kvs => obtain ⟨xs, q, r⟩ := h; exact ⟨xs, q, RKV.cut e r⟩
  | dt kvs => obtain ⟨xs, q, r⟩ := h; exact ⟨xs, q, RKV.cut e r⟩
  | ob cl fs => obtain ⟨dx, xs, q, r⟩ := h; exact ⟨dx, xs, q, RKV.cut e r⟩
  | dead => exact h
theorem RS.cut {M : Sto} (e : ((M.take k).all (okCell k)) = true) (h : RS K H io M) : RS K H (io.take k) (M.take k) := by
  refine ⟨by rw [List.length_take, List.length_take, h.len], h.nd.sublist (List.take_sublist _ _), h.tab, fun i c ei => ?_⟩
  rw [sGet_eq] at ei
  have hm : c ∈ M.take k := List.mem_of_getElem? ei
  have hi : i < k := by
    have := (List.getElem?_eq_some_iff.mp ei).1
    rw [List.length_take] at this
    omega
  rw [List.getElem?_take_of_lt hi, ← sGet_eq] at ei
  obtain ⟨a, o, e1, e2, rc⟩ := h.cell i c ei
  exact ⟨a, o, by rw [List.getElem?_take_of_lt hi]; exact e1, e2, RC.cut (List.all_eq_true.mp e c hm) rc⟩
theorem RE.cut {r : DEnv} {g : L2.St} (e : okEnv k r = true) (h : RE K H io r g) : RE K H (io.take k) r g := ⟨h.1, fun i d q => by
  obtain ⟨v, a, b⟩ := h.2 i d q
  refine ⟨v, a, R.cut ?_ b⟩
  have z := List.all_eq_true.mp e _ (List.mem_of_getElem? q)
  exact z⟩
end
/-- a statement, what it leaves beyond the cells that were there forgotten -/
def trimS (b : SDen) : SDen := fun r M => match b r M with
  | some (.nx, r', M') => if okEnv M.length r' && (M'.take M.length).all (okCell M.length) then some (.nx, r', M'.take M.length) else none
  | some (.rt d, r', M') => if okR M.length d && (M'.take M.length).all (okCell M.length) then some (.rt d, r', M'.take M.length) else none
  | _ => none
theorem ds_trim {X : Cx} {c : Cfg} {st : Stmt} {b : SDen} (h : PS X st (sS c b)) : PS X st (sS c (trimS b)) := PS.imp h fun Ds g H s => by
  obtain ⟨r, M, io, re, rs, fl, r', M2, eq, z⟩ := s
  have ioL : ∀ {io' : List Addr} {H' : Hp}, Ext c.K io H io' H' → Ext c.K io H (io'.take M.length) H' := fun {io' H'} e => ⟨e.u, fun j a hj => by
    rw [List.getElem?_take_of_lt (by rw [← rs.len]; exact (List.getElem?_eq_some_iff.mp hj).1)]
    exact e.i j a hj⟩
  unfold trimS at eq
  split at eq
  · rename_i r1 M1 eb
    split at eq
    · rename_i ho
      rw [Bool.and_eq_true] at ho
      cases eq
      exact ⟨r, M, io, re, rs, _, _, _, eb, fun io' H' ex rs' g' re' => z _ _ (ioL ex) (RS.cut ho.2 rs') g' (RE.cut ho.1 re')⟩
    · cases eq
  · rename_i d r1 M1 eb
    split at eq
    · rename_i ho
      rw [Bool.and_eq_true] at ho
      cases eq
      exact ⟨r, M, io, re, rs, _, _, _, eb, fun io' H' ex rs' v rv => z _ _ (ioL ex) (RS.cut ho.2 rs') v (R.cut ho.1 rv)⟩
    · cases eq
  · cases eq
end PyM

-- PyM6
set_option maxRecDepth 100000
set_option maxHeartbeats 4000000
noncomputable section
namespace PyM
open PySem PySem.Spec PyProof.Rows L2 PyD
/-! ### an expression's value; what was built on the way forgotten where nothing names it -/
/-- the first n cells, each naming none but the first k -/
def keepM (k : Nat) : Nat → Sto → Option Sto
  | 0, _ => some []
  | _ + 1, [] => none
  | n + 1, c :: M => match okCell k c with
    | true => match keepM k n M with
      | some M2 => some (c :: M2)
      | none => none
    | false => none
theorem keepM_ok {k : Nat} : ∀ {n : Nat} {M M2 : Sto}, keepM k n M = some M2 → M2 = M.take n ∧ (M.take n).all (okCell k) = true
  | 0, _, _, e => by
    cases e
    simp
  | n + 1, [], _, e => by cases e
  | n + 1, c :: M, _, e => by
    unfold keepM at e
    split at e
    · rename_i hc
      split at e
      · rename_i M3 h3
        cases e
        obtain ⟨h4, h5⟩ := keepM_ok h3
        rw [List.take_succ_cons, List.all_cons, hc, h5, h4]
        exact ⟨rfl, rfl⟩
      · cases e
    · cases e
def trimE (f : Den D) : Den D := fun r M => match f r M with
  | some (.ok d, M1) => match Nat.ble M1.length M.length with
    | true => some (.ok d, M1)
    | false => match okR M.length d with
      | true => match keepM M.length M.length M1 with
        | some M2 => some (.ok d, M2)
        | none => some (.ok d, M1)
      | false => some (.ok d, M1)
  | x => x
theorem sE_trim {c : Cfg} {f : Den D} {g : L2.St} {H : Hp} {Q : VK} (s : sE c (trimE f) g H Q) : sE c f g H Q := by
  obtain ⟨r, M, io, re, rs, x, M2, eq, z⟩ := s
  unfold trimE at eq
  cases ef : f r M with
  | none =>
    rw [ef] at eq
    cases eq
  | some p =>
    obtain ⟨y, M1⟩ := p
    rw [ef] at eq
    cases y with
    | ex e =>
      cases eq
      exact ⟨r, M, io, re, rs, _, _, ef, z⟩
    | ok d =>
      dsimp only at eq
      split at eq
      · cases eq
        exact ⟨r, M, io, re, rs, _, _, ef, z⟩
      split at eq
      · rename_i ho
        split at eq
        · rename_i M3 hk
          cases eq
          obtain ⟨rfl, ha⟩ := keepM_ok hk
          refine ⟨r, M, io, re, rs, _, _, ef, fun io1 H1 ex rs1 v rv => z (io1.take M.length) H1 ⟨ex.u, fun j a hj => ?_⟩ (RS.cut ha rs1) v (R.cut ho rv)⟩
          rw [List.getElem?_take_of_lt (by rw [← rs.len]; exact (List.getElem?_eq_some_iff.mp hj).1)]
          exact ex.i j a hj
        · cases eq
          exact ⟨r, M, io, re, rs, _, _, ef, z⟩
      · cases eq
        exact ⟨r, M, io, re, rs, _, _, ef, z⟩
theorem de_trim {X : Cx} {c : Cfg} {e : Expr} {f : Den D} (h : PE X e (sE c f)) : PE X e (sE c (trimE f)) := PE.imp h fun _ _ _ s => sE_trim s
theorem de_trimB {X : Cx} {c : Cfg} {e : Expr} {f : Den D} {A : L2.St → Prop} (h : PE X e (fun r H Q => A r ∧ sE c f r H Q)) : PE X e (fun r H Q => A r ∧ sE c (trimE f) r H Q) := PE.imp h fun _ _ _ s => ⟨s.1, sE_trim s.2⟩
end PyM

-- PyM7
set_option maxRecDepth 100000
set_option maxHeartbeats 4000000
noncomputable section
namespace PyM
open PySem PySem.Spec PyProof.Rows L2 PyD
/-! ### a loop's turn: what it leaves in the store is forgotten, and the names that lead there -/
def cleanEnv (k : Nat) (r : DEnv) : DEnv := r.map fun x => match x with
  | some d => (match okR k d with
    | true => some d
    | false => none)
  | none => none
theorem RE.clean {K : KT} {H : Hp} {io : List Addr} {k : Nat} {r : DEnv} {g : L2.St} (h : RE K H io r g) : RE K H (io.take k) (cleanEnv k r) g := ⟨by rw [cleanEnv, List.length_map, h.1], fun i d q => by
  unfold cleanEnv at q
  rw [List.getElem?_map] at q
  cases e : r[i]? with
  | none => rw [e] at q; cases q
  | some x =>
    rw [e] at q
    have q := Option.some.inj q
    cases x with
    | none => cases q
    | some d' =>
      dsimp only at q
      split at q
      · rename_i ho
        cases q
        obtain ⟨v, a, b⟩ := h.2 i _ e
        exact ⟨v, a, R.cut ho b⟩
      · cases q⟩
def trimW (b : SDen) : SDen := fun r M => match b r M with
  | some (.nx, r', M') => (match Nat.ble M'.length M.length with
    | true => some (.nx, r', M')
    | false => match keepM M.length M.length M' with
      | some M2 => some (.nx, cleanEnv M.length r', M2)
      | none => some (.nx, r', M'))
  | x => x
theorem sS_trimW {c : Cfg} {b : SDen} {Ds : Ends} {g : L2.St} {H : Hp} (s : sS c (trimW b) Ds g H) : sS c b Ds g H := by
  obtain ⟨r, M, io, re, rs, fl, r', M2, eq, z⟩ := s
  refine ⟨r, M, io, re, rs, ?_⟩
  unfold trimW at eq
  split at eq
  · rename_i r1 M1 eb
    split at eq
    · cases eq
      exact ⟨_, _, _, eb, z⟩
    · split at eq
      · rename_i M3 hk
        cases eq
        obtain ⟨rfl, ha⟩ := keepM_ok hk
        refine ⟨_, _, _, eb, fun io1 H1 ex rs1 g' re' => z (io1.take M.length) H1 ⟨ex.u, fun j a hj => ?_⟩ (RS.cut ha rs1) g' (RE.clean re')⟩
        rw [List.getElem?_take_of_lt (by rw [← rs.len]; exact (List.getElem?_eq_some_iff.mp hj).1)]
        exact ex.i j a hj
      · cases eq
        exact ⟨_, _, _, eb, z⟩
  · exact ⟨_, _, _, eq, z⟩
theorem dss_trimW {X : Cx} {c : Cfg} {st : List Stmt} {b : SDen} (h : PSs X st (sS c b)) : PSs X st (sS c (trimW b)) := PSs.imp h fun _ _ _ s => sS_trimW s
def trimIf (q : Bool) (f : Den D) : Den D := match q with
  | true => trimE f
  | false => f
theorem de_trimIf {X : Cx} {c : Cfg} {e : Expr} {f : Den D} {q : Bool} (h : PE X e (sE c f)) : PE X e (sE c (trimIf q f)) := by
  cases q with
  | true => exact de_trim h
  | false => exact h
end PyM

-- PyO1
set_option maxRecDepth 100000
set_option maxHeartbeats 4000000
noncomputable section
namespace PyM
open PySem PySem.Spec PyProof.Rows L2 PyD
/-! ### objects of an own class: a cell of fields -/
def fldPut (f : Str) (v : D) : List (Str × D) → List (Str × D)
  | [] => [(f, v)]
  | (g, x) :: r => match sbeq g f with
    | true => (g, v) :: r
    | false => (g, x) :: fldPut f v r
def fldGet (f : Str) : List (Str × D) → Option D
  | [] => none
  | (g, x) :: r => match sbeq f g with
    | true => some x
    | false => fldGet f r
section
variable {K : KT} {H : Hp} {io : List Addr} {f : Str} {d : D} {v : V}
theorem fld_get : ∀ {fs : List (Str × D)} {vs : List (Str × V)}, RKV K H io fs vs → fldGet f fs = some d → ∃ v, vs.lookup f = some v ∧ R K H io d v
  | [], _, _, e => by cases e
  | (g, x) :: r, _, h, e => by
    cases h with
    | @cons _ b _ _ h1 h2 =>
      obtain ⟨g', y⟩ := b
      obtain ⟨e1, r1⟩ := h1
      have e1 : g = g' := e1
      subst e1
      unfold fldGet at e
      cases q : sbeq f g with
      | true =>
        rw [q] at e
        cases e
        have z : f = g := sbeq_iff.mp q
        subst z
        exact ⟨y, by simp only [List.lookup, beq_self_eq_true], r1⟩
      | false =>
        rw [q] at e
        obtain ⟨v, hv, rv⟩ := fld_get h2 e
        have z : f ≠ g := fun z => by rw [sbeq_iff.mpr z] at q; cases q
        exact ⟨v, by simp only [List.lookup, beq_eq_false_iff_ne.mpr z]; exact hv, rv⟩
theorem fld_none : ∀ {fs : List (Str × D)} {vs : List (Str × V)}, RKV K H io fs vs → fldGet f fs = none → vs.lookup f = none
  | [], _, h, _ => by cases h; rfl
  | (g, x) :: r, _, h, e => by
    cases h with
    | @cons _ b _ _ h1 h2 =>
      obtain ⟨g', y⟩ := b
      have e1 : g = g' := h1.1
      subst e1
      unfold fldGet at e
      cases q : sbeq f g with
      | true => rw [q] at e; cases e
      | false =>
        rw [q] at e
        have z : f ≠ g := fun z => by rw [sbeq_iff.mpr z] at q; cases q
        simp only [List.lookup, beq_eq_false_iff_ne.mpr z]
        exact fld_none h2 e
theorem fld_put (rv : R K H io d v) : ∀ {fs : List (Str × D)} {vs : List (Str × V)}, RKV K H io fs vs → RKV K H io (fldPut f d fs) (putF f v vs)
  | [], _, h => by cases h; exact .cons ⟨rfl, rv⟩ .nil
  | (g, x) :: r, _, h => by
    cases h with
    | @cons _ b _ _ h1 h2 =>
      obtain ⟨g', y⟩ := b
      obtain ⟨e1, r1⟩ := h1
      have e1 : g = g' := e1
      subst e1
      unfold fldPut putF
      cases q : sbeq g f with
      | true =>
        have z : g = f := sbeq_iff.mp q
        rw [if_pos z]
        exact .cons ⟨rfl, rv⟩ h2
      | false =>
        have z : g ≠ f := fun z => by rw [sbeq_iff.mpr z] at q; cases q
        rw [if_neg z]
        exact .cons ⟨rfl, r1⟩ (fld_put rv h2)
end
/-- the object of the class cl that a datum names -/
def obOf (cl : Str) (o : D) (M : Sto) : Option (Nat × List (Str × D)) := match o with
  | .lst i => (match (sGet M i) with
    | some (.ob c' fs) => (match sbeq c' cl with
      | true => some (i, fs)
      | false => none)
    | _ => none)
  | _ => none
theorem ob_at {c : Cfg} {H : Hp} {io : List Addr} {M : Sto} {cl : Str} {o : D} {x : V} {i : Nat} {fs : List (Str × D)} (rs : RS c.K H io M) (r : R c.K H io o x) (e : obOf cl o M = some (i, fs)) :
    o = .lst i ∧ (sGet M i) = some (.ob cl fs) ∧ ∃ (a dx : Addr) (vs : List (Str × V)), x = .ref a ∧ io[i]? = some a ∧ H a = some (.ins (He.ga c.K.f cl) dx vs) ∧ RKV c.K H io fs vs := by
  unfold obOf at e
  split at e
  · split at e
    · rename_i c' fs' em
      split at e
      · rename_i hc
        cases e
        have z := sbeq_iff.mp hc
        subst z
        cases r with
        | lst hi =>
          obtain ⟨a, u, e1, ho, rc⟩ := rs.cell _ _ em
          rw [hi] at e1
          cases e1
          obtain ⟨dx, vs, rfl, rk⟩ := rc
          exact ⟨rfl, em, _, dx, vs, rfl, hi, ho, rk⟩
      · cases e
    · cases e
  · cases e
def fldO (cl f : Str) (o : D) (M : Sto) : Option (D × Sto) := match obOf cl o M with
  | some (_, fs) => (match fldGet f fs with
    | some d => some (d, M)
    | none => none)
  | none => none
/-- self.f = e -/
def fldS (cl f : Str) (o v : Den D) : SDen := bindS v fun y => bindS o fun x r M => match obOf cl x M with
  | some (i, fs) => if fs.length < 900 then some (.nx, r, M.set i (.ob cl (fldPut f y fs))) else none
  | none => none
section
variable {X : Cx} {c : Cfg} {d dv : Den D} {hs : Den (List D)} {a e o : Expr} {es : List Expr} {pos pos' p apos : Pos} {cl f m x : Str}
theorem de_fldO (hK : X.K = c.K.f) (C : Cls X.K (He.ga X.K cl)) (N : NoAttr X.K (He.ga X.K cl) f) (ha : PE X a (sE c d)) (hb : attributeBase a f X.env (eval a X.env) = eval a X.env := by rfl) : PE X (.Attribute a f pos) (sE c (op1 (fldO cl f) d)) := PE.imp (pe_fld ha hb) fun g H Q s => by
  refine sG.bind s fun y x r M1 io1 H1 re rs ra run => ?_
  obtain ⟨w, M3, e, k⟩ := run.lift
  unfold fldO at e
  split at e
  · rename_i i fs eo
    split at e
    · rename_i dd eg
      cases e
      obtain ⟨_, _, a1, dx, vs, rfl, hi, ho, rk⟩ := ob_at rs ra eo
      obtain ⟨v, hv, rv⟩ := fld_get rk eg
      rw [← hK] at ho
      exact ⟨a1, _, dx, vs, v, rfl, ho, C, N, hv, k io1 H1 Ext.refl rs v rv⟩
    · cases e
  · cases e
theorem nt_ins {C dx : Addr} {vs : List (Str × V)} : notTup (.ins C dx vs) := ⟨id, fun _ z => nomatch z⟩
theorem ds_fldO (hK : X.K = c.K.f) (C : Cls X.K (He.ga X.K cl)) (N : NoAttr X.K (He.ga X.K cl) f) (ha : PE X o (sE c d)) (hv : PE X e (sE c dv)) (hs : swapsWith e (some (.Attribute o f pos')) pos.line X.env = pure false := by rfl) :
    PS X (.Assign [.Attribute o f pos'] e pos) (sS c (fldS cl f d dv)) := PS.imp (ps_fld ha hv hs) fun Ds g H s => by
  refine sS.bind s fun y vy r M1 io1 H1 re rs ry run => ?_
  refine ⟨r, M1, io1, re, rs, run.bind fun x vx M2 io2 H2 e2 rs2 rx run2 => ?_⟩
  obtain ⟨fl, r', M', eq, z⟩ := run2
  dsimp only at eq
  split at eq
  · rename_i i fs eo
    split at eq
    · rename_i hl
      cases eq
      obtain ⟨_, _, a1, dx, vs, rfl, hi, ho, rk⟩ := ob_at rs2 rx eo
      have ex : Ext c.K io2 H2 io2 (upd H2 a1 (.ins (He.ga c.K.f cl) dx (putF f vy vs))) := Ext.write ho nt_ins
      have rs3 := rs2.write hi ho nt_ins (c := .ob cl (fldPut f y fs)) ⟨dx, _, rfl, fld_put ((ry.mono e2).mono ex) (RKV.mono ex rk)⟩
      have hl2 : vs.length < 1000 := by
        have q : fs.length = vs.length := Paired.length rk
        omega
      rw [← hK] at ho ex rs3
      exact ⟨a1, _, dx, vs, rfl, ho, C, N, hl2, z io2 _ ex rs3 g ((re.mono e2).mono ex)⟩
    · cases eq
  · cases eq
/-! methods -/
def mcallE (cl m : Str) (n : Nat) (fd : FDen) (o : Den D) (as : Den (List D)) : Den D := bindD o fun x r M => match obOf cl x M with
  | some (_, fs) => (match fldGet m fs with
    | none => (bindD as fun ds _ M => if ds.length + 1 = n then fd (x :: ds) M else none) r M
    | some _ => none)
  | none => none
def mcall0 (cl m : Str) (fd : FDen) (o : Den D) : Den D := bindD o fun x _ M => match obOf cl x M with
  | some (_, fs) => (match fldGet m fs with
    | none => fd [x] M
    | some _ => none)
  | none => none
theorem de_mcall {pl : Sem Bool} {fa : Addr} {fdt : FuncData} {ps : List Str} {k n : Nat} {fd : FDen} (tk : L2N.Takes X (fun cls d _ H => c.W cls d H)) (hK : X.K = c.K.f) (C : Cls X.K (He.ga X.K cl)) (hm : Meth X.K (He.ga X.K cl) m fa)
    (F : FnOk X.prog X.w X.K X.mg X.base (L2N.CX X.prog X.w) k fa fdt ps (spF c n fd)) (hr : Room k X.A) (hb : Binds X.K fdt ps []) (ho : PE X o (sE c d)) (ha : PA X (e :: es) (sA c hs))
    (hst : starEach (e :: es) X.env = (false, eval e X.env) :: starEach es X.env := by rfl) (hpl : (backTo pos (starEach es X.env)).any (·.1) = false := by rfl)
    (ht : eval (.Call (.Attribute o m apos) (e :: es) [] pos) X.env = (do
      let ov ← eval o X.env
      standAt apos.atName
      let (f, first) ← holding [ov] (getMethod ov m pl)
      callWith pos f first (backTo pos (starEach (e :: es) X.env)) (backToKw pos (keywordEach [] X.env))) := by rfl) :
    PE X (.Call (.Attribute o m apos) (e :: es) [] pos) (sE c (mcallE cl m n fd d hs)) := PE.imp (pe_meth (E := c.W) (pl := pl) ho C hm F hr hb .nil (L2N.passes_call tk fun _ _ _ _ h => h) ha hst hpl ht) fun g H Q s => by
  refine sG.bind s fun x vx r M1 io1 H1 re rs rx run => ?_
  obtain ⟨y, M', eq, z⟩ := run
  dsimp only at eq
  split at eq
  · rename_i i fs eo
    split at eq
    · rename_i en
      obtain ⟨_, _, a1, dx, vs, rfl, hi, ho, rk⟩ := ob_at rs rx eo
      rw [← hK] at ho
      refine ⟨a1, dx, vs, rfl, ho, fld_none rk en, r, M1, io1, re, rs, ?_⟩
      have run2 : Run c (rD c) (bindD hs fun ds _ M => if ds.length + 1 = n then fd (x :: ds) M else none) r M1 io1 g H1 Q := ⟨y, M', eq, z⟩
      refine run2.bind fun ds ws M2 io2 H2 e2 rs2 rd run3 => ?_
      rw [List.append_nil]
      obtain ⟨y3, M3, eq3, z3⟩ := run3
      dsimp only at eq3
      split at eq3
      · rename_i hl
        exact ⟨M2, io2, x :: ds, y3, M3, eq3, .cons (rx.mono e2) rd, rs2, hl, z3⟩
      · cases eq3
    · cases eq
  · cases eq
theorem de_mcall0 {pl : Sem Bool} {fa : Addr} {fdt : FuncData} {ps : List Str} {k : Nat} {fd : FDen} (tk : L2N.Takes X (fun cls d _ H => c.W cls d H)) (hK : X.K = c.K.f) (C : Cls X.K (He.ga X.K cl)) (hm : Meth X.K (He.ga X.K cl) m fa)
    (F : FnOk X.prog X.w X.K X.mg X.base (L2N.CX X.prog X.w) k fa fdt ps (spF c 1 fd)) (hr : Room k X.A) (hb : Binds X.K fdt ps []) (ho : PE X o (sE c d))
    (ht : eval (.Call (.Attribute o m apos) [] [] pos) X.env = (do
      let ov ← eval o X.env
      standAt apos.atName
      let (f, first) ← holding [ov] (getMethod ov m pl)
      callWith pos f first (backTo pos (starEach [] X.env)) (backToKw pos (keywordEach [] X.env))) := by rfl) :
    PE X (.Call (.Attribute o m apos) [] [] pos) (sE c (mcall0 cl m fd d)) := PE.imp (pe_meth0 (E := c.W) (pl := pl) ho C hm F hr hb .nil (L2N.passes_call tk fun _ _ _ _ h => h) ht) fun g H Q s => by
  refine sG.bind s fun x vx r M1 io1 H1 re rs rx run => ?_
  obtain ⟨y, M', eq, z⟩ := run
  dsimp only at eq
  split at eq
  · rename_i i fs eo
    split at eq
    · rename_i en
      obtain ⟨_, _, a1, dx, vs, rfl, hi, ho, rk⟩ := ob_at rs rx eo
      rw [← hK] at ho
      exact ⟨a1, dx, vs, rfl, ho, fld_none rk en, M1, io1, [x], y, M', eq, .cons rx .nil, rs, rfl, z⟩
    · cases eq
  · cases eq
/-! C(..) -/
def makeE (cl : Str) (n : Nat) (fd : FDen) (as : Den (List D)) : Den D := bindD as fun ds _ M => if ds.length + 1 = n then (match fd (.lst M.length :: ds) ((sApp M (.ob cl []))) with
  | some (.ok .non, M') => some (.ok (.lst M.length), M')
  | some (.ex x, M') => some (.ex x, M')
  | _ => none) else none
theorem de_make {fa : Addr} {fdt : FuncData} {ps : List Str} {k n : Nat} {fd : FDen} (tk : L2N.Takes X (fun cls d _ H => c.W cls d H)) (hK : X.K = c.K.f) (Mk1 : Mk X.K (He.ga X.K cl) fa)
    (F : FnOk X.prog X.w X.K X.mg X.base (L2N.CX X.prog X.w) k fa fdt ps (spF c n fd)) (hr : Room (k + 1) X.A) (hg : Gl X x) (hm : X.mg x = some (.ref (He.ga X.K cl))) (hb : Binds X.K fdt ps [])
    (ha : PA X (e :: es) (sA c hs)) (hdb : (x == ("__debug__" : Str)) = false := by decide) (he : starEach (e :: es) X.env = (false, eval e X.env) :: starEach es X.env := by rfl) (hpl : (backTo pos (starEach es X.env)).any (·.1) = false := by rfl) :
    PE X (.Call (.Name x p) (e :: es) [] pos) (sE c (makeE cl n fd hs)) := PE.imp (pe_make (E := c.W) Mk1 F hr hg hm hb .nil (L2N.passes_call tk fun _ _ _ _ h => h) ha hdb he hpl) fun g H Q s => by
  refine sG.bind s fun ds vs r M1 io1 H1 re rs rd run => ?_
  intro y dx hy hd ne
  rw [List.append_nil]
  obtain ⟨w, M', eq, z⟩ := run
  dsimp only at eq
  split at eq
  · rename_i hl
    have ny : upd H1 dx (.own y) y = none := by rw [upd_ne (Ne.symm ne)]; exact hy
    have x1 : Ext c.K io1 H1 io1 (upd H1 dx (.own y)) := Ext.tupNew hd
    have rs1 : RS c.K (upd H1 dx (.own y)) io1 M1 := rs.tupNew hd
    have x2 : Ext c.K io1 (upd H1 dx (.own y)) (io1 ++ [y]) (upd (upd H1 dx (.own y)) y (.ins (He.ga c.K.f cl) dx [])) := Ext.alloc ny
    have rs2 := rs1.alloc (c := .ob cl []) (o := .ins (He.ga c.K.f cl) dx []) ny ⟨dx, [], rfl, .nil⟩
    have hio : (io1 ++ [y])[M1.length]? = some y := by
      rw [← rs.len, List.getElem?_append_right (Nat.le_refl _)]
      simp
    have rl : RL c.K (upd (upd H1 dx (.own y)) y (.ins (He.ga c.K.f cl) dx [])) (io1 ++ [y]) (.lst M1.length :: ds) (.ref y :: vs) := .cons (.lst hio) (rd.mono (x1.trans x2))
    rw [← hK] at rl rs2 x2
    split at eq
    · rename_i M2 ef
      cases eq
      refine ⟨_, _, _, .ok .non, _, ef, rl, rs2, hl, fun io' H' ex rs' v rv => ?_⟩
      cases rv
      exact ⟨rfl, z io' H' ((x1.trans x2).trans ex) rs' (.ref y) (.lst (ex.i _ _ hio))⟩
    · rename_i xx M2 ef
      cases eq
      exact ⟨_, _, _, .ex xx, _, ef, rl, rs2, hl, fun io' H' ex rs' cv dx' rx => z io' H' ((x1.trans x2).trans ex) rs' cv dx' rx⟩
    · cases eq
  · cases eq
end
end PyM

-- PyR1
set_option maxRecDepth 100000
set_option maxHeartbeats 4000000
noncomputable section
namespace PyM
open PySem PySem.Spec PyProof.Rows L2 PyD
/-! ### defs that call themselves: room counted call by call -/
structure RoomR (n : Nat) (A : Around) : Prop where
  hd : A.handled = none
  dp : A.depth + n + 100 < recursionLimit
  un : A.units + 5 * n + 800 < cLine
theorem RoomR.plain {n : Nat} {A : Around} (r : RoomR n A) : Room 20 A := ⟨r.hd, by have := r.dp; omega, by have := r.un; omega⟩
theorem RoomR.of {k n : Nat} {A : Around} (r : Room k A) (h1 : n + 95 ≤ 3 * k) (h2 : 5 * n + 600 ≤ 16 * k) : RoomR n A := ⟨r.hd, by have := r.dp; omega, by have := r.un; omega⟩
theorem RoomR.step {n : Nat} {A : Around} (r : RoomR (n + 1) A) (env : Env) : RoomR n (A.deeper env) :=
  ⟨r.hd, by have := r.dp; show A.depth + 1 + n + 100 < _; omega, by have := r.un; show A.units + 3 + 5 * n + 800 < _; omega⟩
theorem RoomR.depth {n : Nat} {A : Around} (r : RoomR n A) : A.depth < recursionLimit := by have := r.dp; omega
structure FnOkR (P : Program) (w : World) (K : PySem.W.Frag) (mg : Str → Option Value) (base : Heap) (CX : CXT) (n : Nat) (f : Addr) (fd : FuncData) (ps : List Str) (sp : Sp) : Prop where
  len : ∀ vs H Q E, sp vs H Q E → vs.length = ps.length
  run : ∀ (B : Around) (stack : List Env) (s : Shared) (H : Hp) (ar : Args) (us : List Value) (vs : List V) (Q : VK) (E : XK), RoomR n B → Env0 P w K mg base B stack s H → BindsTo s fd ar (ps.zip us) → Vals vs us → sp vs H Q E →
    codeAny (model P w) B (.call (.ref f) ar) (CR CX stack P w H s Q E) s
theorem FnOkR.flat {P : Program} {w : World} {K : PySem.W.Frag} {mg : Str → Option Value} {base : Heap} {CX : CXT} {n k : Nat} {f : Addr} {fd : FuncData} {ps : List Str} {sp : Sp} (F : FnOkR P w K mg base CX n f fd ps sp) (h1 : n + 95 ≤ 3 * k) (h2 : 5 * n + 600 ≤ 16 * k) :
    FnOk P w K mg base CX k f fd ps sp := ⟨F.len, fun B st s H ar us vs Q E r => F.run B st s H ar us vs Q E (RoomR.of r h1 h2)⟩
section
variable {P : Program} {w : World} {K : PySem.W.Frag} {mg : Str → Option Value} {base : Heap} {CX : CXT}
theorem fn_stepR {n : Nat} {f : Addr} {name qual : Str} {params : Arguments} {body : List Stmt} {scope : Scope} {dV kV doc pm cdv ct oc : Value} {an od : Option Addr}
    {osl : Array (Option Value)} {N ps : List Str} {sp : Sp} (at_ : K.lookup f = some ⟨oc, od, .func (PySem.W.fnOf name qual params body scope dV kV doc pm an cdv ct), osl⟩) (code : PySem.W.codeIn K cdv qual = true) (S : FnScope N ps scope)
    (len : ∀ vs H Q E, sp vs H Q E → vs.length = ps.length)
    (inner : ∀ (B : Around) (stack : List Env) (s : Shared) (H : Hp) (vs : List V) (Q : VK) (E : XK), RoomR n (B.deeper (envOfC qual scope s.heap.objs.size f cdv)) → sp vs H Q E →
      ∃ t, PSs (cxOf CX P w K mg base N qual scope f cdv B stack s H E) body t ∧ t { nx := fun _ H' => Q .non H', rt := Q } (start N vs) H) :
    FnOkR P w K mg base CX (n + 1) f (PySem.W.fnOf name qual params body scope dV kV doc pm an cdv ct) ps sp := by
  constructor
  · exact len
  intro B stack s H ar us vs Q E room e0 bind rel want
  have lens := len _ _ _ _ want
  have inK : K.In s.heap := e0.mod.kin.keeps fun b o q => (e0.bs b o q).1
  have noLim : s.heap.NoLimit := e0.mod.nolimit.keeps fun b o q => (e0.bs b o q).1
  have kinds : ∀ y ∈ ps.zip us, scope.names.lookup y.1 = some .local ∨ (scope.names.lookup y.1 = some .cell ∧ ((cellsFrom (s.heap.objs.size + 1) scope.names []).lookup y.1).isSome = true) := by
    rintro ⟨y, u⟩ hy
    cases S.par y (List.of_mem_zip hy).1 with
    | inl q => exact .inl q
    | inr q => exact .inr ⟨q, PySem.W.cellsFrom_some _ _ _ (.inl q)⟩
  refine codeAny_call_function room.depth (inK _ _ at_) rfl S.co S.gen rfl (PySem.W.codeRec_of inK code) (bind _ _ _ _ (wpAny_newFunctionEnv_cells S.kind kinds fun env he s1 x => ?_))
  subst he
  refine ⟨noLim.keeps x.toInCall.keep, codeAny_func ?_⟩
  obtain ⟨t, ht, got⟩ := inner B stack s H vs Q E (room.step _) want
  have I0 := inv_start (CX := CX) (E := E) (vs := vs) S room.hd e0 lens rel x
  refine wpAny_mono (ht.run [] s1 (start N vs) H _ I0 got) (fun fl s' done => ?_) fun e s' done => done
  cases fl with
  | ret u =>
    obtain ⟨v, g', H', J, rv, q⟩ := done
    exact ⟨v, H', J.os, J.bare, J.base, J.hok, rv, q⟩
  | next =>
    obtain ⟨g', H', J, q⟩ := done
    exact ⟨V.non, H', J.os, J.bare, J.base, J.hok, rfl, q⟩
  | brk => exact done.elim fun _ z => z.elim fun _ z => z.2.elim
  | cont => exact done.elim fun _ z => z.elim fun _ z => z.2.elim
theorem fn_okR {c : Cfg} {x qual : Str} {st : Stmt} {f : Addr} {fd : FuncData} {N ps : List Str} {k n : Nat} {b : SDen} (hK : c.K.f = K) (F : Fun K x qual st f fd) (S : FnScope N ps (defScope st)) (hn : N.length = n)
    (hb : ∀ (cdv : Value) (A : Around) (outer : List Env) (s : Shared) (H : Hp) (E : XK), RoomR k (A.deeper (envOfC qual (defScope st) s.heap.objs.size f cdv)) →
      PSs (cxOf (L2N.CX P w) P w K mg base N qual (defScope st) f cdv A outer s H E) (defBody st) (sS (c.to E) b)) : FnOkR P w K mg base (L2N.CX P w) (k + 1) f fd ps (spF c ps.length (bodyF n b)) := by
  subst hn
  obtain ⟨oc, od, kV, doc, pm, an, cdv, ct, osl, rfl, at_, code⟩ := F.ex
  refine fn_stepR at_ code S ?_ ?_
  · rintro vs H Q E ⟨M, io, ds, x, M', _, rl, _, hl, _⟩
    rw [← rl.length]
    exact hl
  · rintro A outer s H vs Q E room ⟨M, io, ds, x, M', e, rl, rs, hl, k⟩
    refine ⟨_, hb cdv A outer s H E room, ?_⟩
    unfold bodyF at e
    split at e
    · rename_i d r1 M1 eb
      cases e
      exact ⟨_, M, io, re_start (N := N) rl, rs, _, _, _, eb, fun io1 H1 e1 rs1 v rv => k io1 H1 e1 rs1 v rv⟩
    · rename_i r1 M1 eb
      cases e
      exact ⟨_, M, io, re_start (N := N) rl, rs, _, _, _, eb, fun io1 H1 e1 rs1 g' re => k io1 H1 e1 rs1 _ .non⟩
    · rename_i y r1 M1 eb
      cases e
      exact ⟨_, M, io, re_start (N := N) rl, rs, _, _, _, eb, fun io1 H1 e1 rs1 cv dx rx => k io1 H1 e1 rs1 cv dx rx⟩
    · cases e
/-- nothing is promised -/
theorem fn_noneR {c : Cfg} {f : Addr} {fd : FuncData} {ps : List Str} {n k : Nat} : FnOkR P w K mg base CX n f fd ps (spF c k fun _ _ => none) := by
  constructor
  · rintro vs H Q E ⟨_, _, _, _, _, e, _⟩
    cases e
  · rintro B stack s H ar us vs Q E _ _ _ _ ⟨_, _, _, _, _, e, _⟩
    cases e
end
section
variable {X : Cx} {c : Cfg} {hs : Den (List D)} {e : Expr} {es : List Expr} {pos p : Pos} {fa : Addr} {fdt : FuncData} {ps : List Str} {k n : Nat} {fd : FDen} {x : Str}
theorem pe_callR {CX : CXT} {sp : Sp} {E : XK} {t : TA} (F : FnOkR X.prog X.w X.K X.mg X.base CX k fa fdt ps sp) (room : RoomR k X.A) (hg : Gl X x) (hm : X.mg x = some (.ref fa)) (kept : PySem.W.keepIn X.K (.ref fa) = true) (bind : Binds X.K fdt ps []) (pass : Passes CX X E)
    (ha : PA X (e :: es) t) (hdb : (x == ("__debug__" : Str)) = false) (he : starEach (e :: es) X.env = (false, eval e X.env) :: starEach es X.env) (hpl : (backTo pos (starEach es X.env)).any (·.1) = false) :
    PE X (.Call (.Name x p) (e :: es) [] pos) (tCall sp [] E t) := by
  constructor
  intro pins s g H Q I h
  refine wpAny_Call_Name_kw (ld_glob I hg hm (PySem.W.callWith_K (h₀ := X.base) I.ok.mod.kin kept (thn (ha.run pos pins s g H _ I h) fun us s1 z => ?_) he hpl) hdb)
  obtain ⟨vs, H1, I1, rel, want⟩ := z
  refine ⟨I1.kIn, ?_⟩
  rw [List.append_nil] at want
  have lens : us.length = ps.length := by rw [← rel.length]; exact F.len _ _ _ _ want
  have bd : BindsTo s1 fdt ⟨us, []⟩ (ps.zip us) := by
    have q := bind s1 us I1.kIn (by rw [List.append_nil]; exact lens)
    rw [List.append_nil] at q
    exact q
  refine wpAny_call (codeAny_mono (F.run X.A X.stack s1 H1 ⟨us, []⟩ us vs Q E room I1.env0 bd rel want) fun r s' fin => ?_)
  cases r with
  | error y => exact pass pins g H1 s1 y s' I1 fin
  | ok fl =>
    cases fl with
    | ret u => exact I1.after fin
    | next => exact fin.elim
    | brk => exact fin.elim
    | cont => exact fin.elim
theorem de_callR (tk : L2N.Takes X (fun cls d _ H => c.W cls d H)) (F : FnOkR X.prog X.w X.K X.mg X.base (L2N.CX X.prog X.w) k fa fdt ps (spF c n fd)) (room : RoomR k X.A) (hg : Gl X x) (hm : X.mg x = some (.ref fa)) (hk : PySem.W.keepIn X.K (.ref fa) = true) (hb : Binds X.K fdt ps [])
    (ha : PA X (e :: es) (sA c hs)) (hdb : (x == ("__debug__" : Str)) = false := by decide) (he : starEach (e :: es) X.env = (false, eval e X.env) :: starEach es X.env := by rfl) (hpl : (backTo pos (starEach es X.env)).any (·.1) = false := by rfl) :
    PE X (.Call (.Name x p) (e :: es) [] pos) (sE c (callE n fd hs)) := PE.imp (pe_callR (E := c.W) F room hg hm hk hb (L2N.passes_call tk fun _ _ _ _ h => h) ha hdb he hpl) fun g H Q s => by
  refine sG.bind s fun ds vs r M1 io1 H1 re rs ra run => ?_
  rw [List.append_nil]
  obtain ⟨y, M', eq, z⟩ := run
  dsimp only at eq
  split at eq
  · rename_i hl
    exact ⟨M1, io1, ds, y, M', eq, ra, rs, hl, z⟩
  · cases eq
/-- f() -/
def call0E (fd : FDen) : Den D := fun _ M => fd [] M
theorem de_call0 (tk : L2N.Takes X (fun cls d _ H => c.W cls d H)) (F : FnOk X.prog X.w X.K X.mg X.base (L2N.CX X.prog X.w) k fa fdt ps (spF c 0 fd)) (hr : Room k X.A) (hg : Gl X x) (hm : X.mg x = some (.ref fa)) (hk : PySem.W.keepIn X.K (.ref fa) = true) (hb : Binds X.K fdt ps [])
    (hdb : (x == ("__debug__" : Str)) = false := by decide) : PE X (.Call (.Name x p) [] [] pos) (sE c (call0E fd)) := PE.imp (pe_call0 (E := c.W) F hr hg hm hk hb .nil (L2N.passes_call tk fun _ _ _ _ h => h) hdb) fun g H Q s => by
  obtain ⟨r, M, io, re, rs, y, M', eq, z⟩ := s
  exact ⟨M, io, [], y, M', eq, .nil, rs, rfl, z⟩
/-- a letter made small -/
def lowTab : List (Str × Str) := [("A", "a"), ("B", "b"), ("C", "c"), ("D", "d"), ("E", "e"), ("F", "f"), ("G", "g"), ("H", "h"), ("I", "i"), ("J", "j"), ("K", "k"), ("L", "l"), ("M", "m"), ("N", "n"), ("O", "o"), ("P", "p"), ("Q", "q"), ("R", "r"), ("S", "s"), ("T", "t"), ("U", "u"), ("V", "v"), ("W", "w"), ("X", "x"), ("Y", "y"), ("Z", "z")]
def lowD (a : D) (M : Sto) : Option (D × Sto) := match a with
  | .str x => (match lowTab.find? fun p => sbeq p.1 x with
    | some p => some (.str p.2, M)
    | none => none)
  | _ => none
theorem low_ok : ∀ p ∈ lowTab, Txt.lower p.1 = p.2 ∧ p.1.length ≤ 5592405 := by decide +kernel
theorem de_lower {o : Expr} {d : Den D} {apos : Pos} (ho : PE X o (sE c d)) (hbase : attributeBase o "lower" X.env (eval o X.env) = eval o X.env := by rfl) (hline : (apos.endLine == pos.line) = true := by rfl) :
    PE X (.Call (.Attribute o "lower" apos) [] [] pos) (sE c (op1 lowD d)) := PE.imp (pe_lower ho hbase hline) fun g H Q s => by
  refine sG.bind s fun a x r M1 io1 H1 re rs ra run => ?_
  obtain ⟨w, M3, e, k⟩ := run.lift
  unfold lowD at e
  split at e
  · split at e
    · rename_i p hp
      cases e
      cases ra
      have h1 := List.mem_of_find?_eq_some hp
      have h0 := List.find?_some (p := fun p : Str × Str => sbeq p.1 _) hp
      have h2 := sbeq_iff.mp h0
      subst h2
      obtain ⟨h3, h4⟩ := low_ok p h1
      exact ⟨⟨_, rfl⟩, _, rfl, rfl, h4, by rw [h3]; exact k io1 H1 Ext.refl rs _ (.str _)⟩
    · cases e
  · cases e
end
/-! where methods stand -/
structure MethAt (K : PySem.W.Frag) (cl m q : Str) (st : Stmt) (ps : List Str) where
  a : Addr
  u : FuncData
  F : Fun K m q st a u
  m : Meth K (He.ga K cl) m a
  b : Binds K u ps []
structure AliAt (K : PySem.W.Frag) (mg : Str → Option Value) (x y : Str) (st : Stmt) (ps : List Str) where
  a : Addr
  u : FuncData
  F : Fun K y y st a u
  m : mg x = some (.ref a)
  b : Binds K u ps []
structure ObAt (K : PySem.W.Frag) (mg : Str → Option Value) (cl : Str) : Prop where
  m : mg cl = some (.ref (He.ga K cl))
  c : Cls K (He.ga K cl)
end PyM

-- PyZ1
set_option maxRecDepth 100000
set_option maxHeartbeats 4000000
noncomputable section
namespace PyZ
open PySem PySem.Spec PyProof.Rows
/-! ### list(zip(a, b)): every pair is held -/
section
variable {prog : Program} {w : World} {A : Around} {E : Value → Shared → Prop} {s : Shared} {zp ti tO j1 j2 S : Addr} {fa fb : List Addr} {na nb i : Nat} {Pa Pb : Nat → Value → Prop} {Sa Sb : Nat → Heap → Prop}
theorem held_item {T : Addr} {f : Bool} {oT : Obj} {Q : Value → Shared → Prop} (Sp : ZipSep2 zp ti tO j1 j2 fa fb) (Da : Draws prog w A j1 fa na Pa Sa) (Db : Draws prog w A j2 fb nb Pb Sb)
    (zh : IsZipHeld s.heap zp ti tO T f) (th : s.heap.get? T = some oT) (tih : IsTupOf2 s.heap ti (.ref j1) (.ref j2)) (sa : Sa i s.heap) (sb : Sb i s.heap) (la : i < na) (lb : i < nb)
    (fin : ∀ xa xb h' tk, Pa i xa → Pb i xb → IsZipHeld h' zp ti tO T true → Sa (i + 1) h' → Sb (i + 1) h' → IsTupOf2 h' s.heap.objs.size xa xb → h'.objs.size = s.heap.objs.size + 1 →
      (∀ c o, c ≠ zp → c ≠ j1 → c ≠ j2 → s.heap.get? c = some o → h'.get? c = some o) → Q (.ref s.heap.objs.size) { s with heap := h', toks := tk }) :
    wpAny (model prog w) A (Builtin.«zip.__next__» ⟨[.ref zp], []⟩) (fun r s' => ∃ v, r = .done (.ret v) ∧ Q v s') E s := by
  obtain ⟨hp, g, d, t0, os⟩ := s
  show wpAny _ _ (field (.ref zp) 2 >>= _) _ _ _
  refine wpAny_bind (wpAny_field zh rfl (x := .bool false) rfl ?_)
  show wpAny _ _ (field (.ref zp) 3 >>= _) _ _ _
  refine wpAny_bind (wpAny_field zh rfl (x := .ref ti) rfl (wpAny_bind (wpAny_seqItems tih rfl ?_)))
  show wpAny _ _ (Builtin.SmallTypes.ownedTupleIsFree (.ref zp) >>= _) _ _ _
  refine wpAny_bind (wpAny_tupleHeld_zip zh th fun p0 zh0 b0 => ?_)
  replace b0 : Heap.SameBut zp hp p0 := b0
  simp only [if_false, Bool.false_eq_true]
  refine wpAny_bind ?_
  rw [← Array.forIn_toList]
  simp only [List.forIn_nil, List.forIn_cons]
  refine wpAny_bind <| wpAny_bind <| wpAny_holding ?_
  show wpAny _ _ (Builtin.SmallTypes.nextOf (.ref j1) >>= _) _ _ ⟨p0, g, d, t0, os⟩
  refine wpAny_bind (Da.item i _ _ _ la (Da.over sa b0 Sp.zf1) fun xa p1 t1 ha na1 b1 => wpAny_pure (wpAny_pure ?_))
  replace b1 : Heap.SameBut j1 p0 p1 := b1
  refine wpAny_bind <| wpAny_bind <| wpAny_holding ?_
  show wpAny _ _ (Builtin.SmallTypes.nextOf (.ref j2) >>= _) _ _ ⟨p1, g, d, t1, os⟩
  refine wpAny_bind (Db.item i _ _ _ lb (Db.over (Db.over sb b0 Sp.zf2) b1 Sp.sep1_2) fun xb p2 t2 hb nb2 b2 => wpAny_pure (wpAny_pure (wpAny_pure ?_)))
  replace b2 : Heap.SameBut j2 p1 p2 := b2
  show wpAny _ _ (newTuple [xa, xb] >>= _) _ _ ⟨p2, g, d, t2, os⟩
  refine wpAny_bind (wpAny_newTuple (wpAny_pure ⟨_, rfl, ?_⟩))
  show Q (.ref p2.objs.size) ⟨p2.push { cls := .type "tuple", data := .seq #[xa, xb] }, g, d, t2, os⟩
  have same : p2.objs.size = hp.objs.size := by rw [b2.1, b1.1, b0.1]
  have zh2 : IsZipHeld p2 zp ti tO T true := b2.extBut _ _ Sp.zi2 (b1.extBut _ _ Sp.zi1 zh0)
  have keep : ∀ c o, c ≠ zp → c ≠ j1 → c ≠ j2 → hp.get? c = some o → p2.get? c = some o := fun c o c1 c2 c3 e => b2.extBut _ _ c3 (b1.extBut _ _ c2 (b0.extBut _ _ c1 e))
  have up : ∀ c o, p2.get? c = some o → (p2.push { cls := .type "tuple", data := .seq #[xa, xb] }).get? c = some o := fun c o e => Heap.get?_push_of_some _ e
  have tup : IsTupOf2 (p2.push { cls := .type "tuple", data := .seq #[xa, xb] }) p2.objs.size xa xb := Heap.get?_push_size _ rfl
  have grown : (p2.push { cls := .type "tuple", data := .seq #[xa, xb] }).objs.size = p2.objs.size + 1 := Heap.size_push ..
  rw [same] at tup grown ⊢
  exact fin xa xb _ t2 ha hb (up _ _ zh2) (Da.frame _ _ _ (Da.over na1 b2 Sp.sep2_1) fun b _ o e => up b o e) (Db.frame _ _ _ nb2 fun b _ o e => up b o e) tup grown fun c o c1 c2 c3 e => up c o (keep c o c1 c2 c3 e)
theorem held_end {T : Addr} {f : Bool} {oT : Obj} {Q : Fin → Shared → Prop} (Sp : ZipSep2 zp ti tO j1 j2 fa fb) (Da : Draws prog w A j1 fa na Pa Sa) (Db : Draws prog w A j2 fb nb Pb Sb)
    (zh : IsZipHeld s.heap zp ti tO T f) (th : s.heap.get? T = some oT) (tih : IsTupOf2 s.heap ti (.ref j1) (.ref j2)) (sa : Sa i s.heap) (sb : Sb i s.heap) (la : i ≤ na) (lb : i ≤ nb) (last : i = na ∨ i = nb)
    (fin : ∀ h' tk e, (∀ c o, c ≠ zp → c ≠ j1 → c ≠ j2 → s.heap.get? c = some o → h'.get? c = some o) → (∃ o, h'.get? e = some o ∧ o.cls = .type "StopIteration") → E (.ref e) { s with heap := h', toks := tk }) :
    wpAny (model prog w) A (Builtin.«zip.__next__» ⟨[.ref zp], []⟩) Q E s := by
  obtain ⟨hp, g, d, t0, os⟩ := s
  show wpAny _ _ (field (.ref zp) 2 >>= _) _ _ _
  refine wpAny_bind (wpAny_field zh rfl (x := .bool false) rfl ?_)
  show wpAny _ _ (field (.ref zp) 3 >>= _) _ _ _
  refine wpAny_bind (wpAny_field zh rfl (x := .ref ti) rfl (wpAny_bind (wpAny_seqItems tih rfl ?_)))
  show wpAny _ _ (Builtin.SmallTypes.ownedTupleIsFree (.ref zp) >>= _) _ _ _
  refine wpAny_bind (wpAny_tupleHeld_zip zh th fun p0 zh0 b0 => ?_)
  replace b0 : Heap.SameBut zp hp p0 := b0
  simp only [if_false, Bool.false_eq_true]
  refine wpAny_bind ?_
  rw [← Array.forIn_toList]
  simp only [List.forIn_nil, List.forIn_cons]
  refine wpAny_bind <| wpAny_bind <| wpAny_holding ?_
  show wpAny _ _ (Builtin.SmallTypes.nextOf (.ref j1) >>= _) _ _ ⟨p0, g, d, t0, os⟩
  rcases Nat.lt_or_ge i na with ia | ia
  · refine wpAny_bind (Da.item i _ _ _ ia (Da.over sa b0 Sp.zf1) fun xa p1 t1 ha na1 b1 => wpAny_pure (wpAny_pure ?_))
    replace b1 : Heap.SameBut j1 p0 p1 := b1
    refine wpAny_bind <| wpAny_bind <| wpAny_holding ?_
    show wpAny _ _ (Builtin.SmallTypes.nextOf (.ref j2) >>= _) _ _ ⟨p1, g, d, t1, os⟩
    have ib : i = nb := by omega
    refine wpAny_bind (Db.done ⟨p1, g, d, t1, os⟩ _ _ (by rw [← ib]; exact Db.over (Db.over sb b0 Sp.zf2) b1 Sp.sep1_2) fun p2 e b2 stop => ?_)
    exact fin p2 t1 e (fun c o c1 c2 c3 q => b2 _ _ c3 (b1.extBut _ _ c2 (b0.extBut _ _ c1 q))) stop
  · have ib : i = na := by omega
    refine wpAny_bind (Da.done ⟨p0, g, d, t0, os⟩ _ _ (by rw [← ib]; exact Da.over sa b0 Sp.zf1) fun p1 e b1 stop => ?_)
    exact fin p1 t0 e (fun c o c1 c2 _ q => b1 _ _ c2 (b0.extBut _ _ c1 q)) stop
/-- a zip before its turn i: nothing given out yet, or a pair that is held -/
def ZAt (zp ti tO j1 j2 S : Addr) (Sa Sb : Nat → Heap → Prop) (i : Nat) (h : Heap) : Prop := IsTupOf2 h ti (.ref j1) (.ref j2) ∧ Sa i h ∧ Sb i h ∧
  ((IsZip h zp ti tO .none ∧ ∃ a b, IsTupOf2 h tO a b) ∨ ∃ T f oT, IsZipHeld h zp ti tO T f ∧ h.get? T = some oT ∧ T ≠ zp ∧ T ≠ j1 ∧ T ≠ j2 ∧ T ≠ S)
theorem zat_item {Q : Option Value → Shared → Prop} (Sp : ZipSep2 zp ti tO j1 j2 fa fb) (Da : Draws prog w A.in1 j1 fa na Pa Sa) (Db : Draws prog w A.in1 j2 fb nb Pb Sb) (st : ZAt zp ti tO j1 j2 S Sa Sb i s.heap) (la : i < na) (lb : i < nb) (below : S < s.heap.objs.size)
    (fin : ∀ xa xb h' tk, Pa i xa → Pb i xb → ZAt zp ti tO j1 j2 S Sa Sb (i + 1) h' → IsTupOf2 h' s.heap.objs.size xa xb → h'.objs.size = s.heap.objs.size + 1 →
      (∀ c o, c ≠ zp → c ≠ tO → c ≠ j1 → c ≠ j2 → s.heap.get? c = some o → h'.get? c = some o) → Q (some (.ref s.heap.objs.size)) { s with heap := h', toks := tk }) :
    wpAny (model prog w) A (pyNext (.ref zp)) Q E s := by
  obtain ⟨tih, sa, sb, alt⟩ := st
  have new : ∀ {c : Addr} {o : Obj}, s.heap.get? c = some o → s.heap.objs.size ≠ c := fun e => Nat.ne_of_gt (Heap.lt_size e)
  have n1 : s.heap.objs.size ≠ j1 := let ⟨_, e⟩ := Da.live _ _ sa; new e
  have n2 : s.heap.objs.size ≠ j2 := let ⟨_, e⟩ := Db.live _ _ sb; new e
  rcases alt with ⟨zh, a, b, toh⟩ | ⟨T, f, oT, zh, th, r1, r2, r3, r4⟩
  · refine wpAny_pyNext_zipD2_item Sp Da Db zh tih toh sa sb la lb fun xa xb h' tk pa pb zz _ na1 nb1 tup sz keep => ?_
    exact fin xa xb h' tk pa pb ⟨keep _ _ Sp.TIz Sp.TITO Sp.TIi1 Sp.TIi2 tih, na1, nb1, .inr ⟨s.heap.objs.size, false, _, zz, tup, new zh, n1, n2, Nat.ne_of_gt below⟩⟩ tup sz keep
  · have ty : s.TypeIs (.ref zp) "zip" := ⟨_, zh, rfl⟩
    unfold pyNext
    refine wpAny_bind (wpAny_attempt (wpAny_callSpecial?_slot (name := Str.ofString "__next__") ty F.slot_zip_next (wpAny_call_entry F.slot_zip_next ty F.entry_zip_next
      (held_item Sp Da Db zh th tih sa sb la lb fun xa xb h' tk pa pb zz na1 nb1 tup sz keep => wpAny_pure ?_) (F.args_zip_next_1 _))))
    exact fin xa xb h' tk pa pb ⟨keep _ _ Sp.TIz Sp.TIi1 Sp.TIi2 tih, na1, nb1, .inr ⟨T, true, oT, zz, keep _ _ r1 r2 r3 th, r1, r2, r3, r4⟩⟩ tup sz fun c o c1 _ c3 c4 e => keep c o c1 c3 c4 e
theorem zat_end {Q : Option Value → Shared → Prop} (Sp : ZipSep2 zp ti tO j1 j2 fa fb) (Da : Draws prog w A.in1 j1 fa na Pa Sa) (Db : Draws prog w A.in1 j2 fb nb Pb Sb) (st : ZAt zp ti tO j1 j2 S Sa Sb i s.heap) (la : i ≤ na) (lb : i ≤ nb) (last : i = na ∨ i = nb)
    (fin : ∀ h' tk, (∀ c o, c ≠ zp → c ≠ tO → c ≠ j1 → c ≠ j2 → s.heap.get? c = some o → h'.get? c = some o) → Q none { s with heap := h', toks := tk }) :
    wpAny (model prog w) A (pyNext (.ref zp)) Q E s := by
  obtain ⟨tih, sa, sb, alt⟩ := st
  rcases alt with ⟨zh, a, b, toh⟩ | ⟨T, f, oT, zh, th, r1, r2, r3, r4⟩
  · exact wpAny_pyNext_zipD2_end Sp Da Db zh tih toh sa sb la lb last fin
  · have ty : s.TypeIs (.ref zp) "zip" := ⟨_, zh, rfl⟩
    unfold pyNext
    refine wpAny_bind (wpAny_attempt (wpAny_callSpecial?_slot (name := Str.ofString "__next__") ty F.slot_zip_next (wpAny_call_entry F.slot_zip_next ty F.entry_zip_next
      (held_end Sp Da Db zh th tih sa sb la lb last fun h' tk e keep stop => ?_) (F.args_zip_next_1 _))))
    obtain ⟨o, ho, hc⟩ := stop
    exact wpAny_bind (wpAny_isInstance (T := "StopIteration") (b := true) ⟨o, ho, hc⟩ isSubtype_stop (wpAny_pure (fin _ _ fun c o c1 _ c3 c4 e => keep c o c1 c3 c4 e)))
/-- the pairs that stand in the list -/
structure TupG (S : Addr) (Pa Pb : Nat → Value → Prop) (h : Heap) (as : List Addr) : Prop where
  rise : as.Pairwise (· < ·)
  above : ∀ a ∈ as, S < a
  at_ : ∀ (j : Nat) (a : Addr), as[j]? = some a → ∃ xa xb, Pa j xa ∧ Pb j xb ∧ IsTupOf2 h a xa xb
structure Low (zp ti tO j1 j2 S : Addr) (fa fb : List Addr) : Prop where
  z : zp < S
  t : ti < S
  o : tO < S
  a : j1 < S
  b : j2 < S
  fa : S ∉ fa
  fb : S ∉ fb
theorem ZAt.keep {h h' : Heap} (st : ZAt zp ti tO j1 j2 S Sa Sb i h) (L : Low zp ti tO j1 j2 S fa fb) (Da : Draws prog w A j1 fa na Pa Sa) (Db : Draws prog w A j2 fb nb Pb Sb) (k : ∀ b o, b ≠ S → h.get? b = some o → h'.get? b = some o) : ZAt zp ti tO j1 j2 S Sa Sb i h' := by
  obtain ⟨tih, sa, sb, alt⟩ := st
  refine ⟨k _ _ (Nat.ne_of_lt L.t) tih, Da.frame _ _ _ sa fun b hb o e => k b o (fun z => L.fa (z ▸ hb)) e, Db.frame _ _ _ sb fun b hb o e => k b o (fun z => L.fb (z ▸ hb)) e, ?_⟩
  rcases alt with ⟨zh, a, b, toh⟩ | ⟨T, f, oT, zh, th, r1, r2, r3, r4⟩
  · exact .inl ⟨k _ _ (Nat.ne_of_lt L.z) zh, a, b, k _ _ (Nat.ne_of_lt L.o) toh⟩
  · exact .inr ⟨T, f, oT, k _ _ (Nat.ne_of_lt L.z) zh, k _ _ r4 th, r1, r2, r3, r4⟩
theorem zl_loop {R : Result → Shared → Prop} (Sp : ZipSep2 zp ti tO j1 j2 fa fb) (L : Low zp ti tO j1 j2 S fa fb) (Da : Draws prog w A.in1.in1 j1 fa na Pa Sa) (Db : Draws prog w A.in1.in1 j2 fb nb Pb Sb) (few : min na nb ≤ sizeLine) (res : Value) {h0 : Heap}
    (fin : ∀ h' tk acc c as, (∀ b o, b ≠ S → b ≠ zp → b ≠ tO → b ≠ j1 → b ≠ j2 → h0.get? b = some o → h'.get? b = some o) → h'.get? S = some { cls := .type "list", dict := none, data := .seq acc c, slots := #[] } → as.length = min na nb → TupG S Pa Pb h' as →
      acc.toList = as.map Value.ref → R (.ok (.ret res)) { s with heap := h', toks := tk }) :
    ∀ (k i : Nat) (h : Heap) (tk c : Nat) (acc : Array Value) (as : List Addr), min na nb - i = k → i ≤ min na nb → ZAt zp ti tO j1 j2 S Sa Sb i h → (∀ b o, b ≠ S → b ≠ zp → b ≠ tO → b ≠ j1 → b ≠ j2 → h0.get? b = some o → h.get? b = some o) →
      h.get? S = some { cls := .type "list", dict := none, data := .seq acc c, slots := #[] } → acc.toList = as.map Value.ref → as.length = i → TupG S Pa Pb h as →
      codeAny (model prog w) A (.builtin "list.extend.loop" ⟨[.ref S, .ref zp, res], []⟩) R { s with heap := h, toks := tk } := by
  have off : ∀ {x : Addr}, S < x → x ≠ zp ∧ x ≠ tO ∧ x ≠ j1 ∧ x ≠ j2 := fun {x} q => ⟨Nat.ne_of_gt (Nat.lt_trans L.z q), Nat.ne_of_gt (Nat.lt_trans L.o q), Nat.ne_of_gt (Nat.lt_trans L.a q), Nat.ne_of_gt (Nat.lt_trans L.b q)⟩
  intro k
  induction k with
  | zero =>
    intro i h tk c acc as hk hi st kept hS hacc hal G
    refine codeAny_builtin PySem.F.entry_extend_loop ?_
    rw [Around.under_plainId PySem.F.plain_extend_loop _]
    show wpAny _ A.in1 (pyNext (.ref zp) >>= _) _ _ _
    refine wpAny_bind (zat_end (s := { s with heap := h, toks := tk }) (A := A.in1) Sp Da Db st (by omega) (by omega) (by omega) fun h' tk' keep => ?_)
    refine wpAny_pure (fin h' tk' acc c as (fun b o d1 d2 d3 d4 d5 e => keep b o d2 d3 d4 d5 (kept b o d1 d2 d3 d4 d5 e)) (keep S _ (Nat.ne_of_gt L.z) (Nat.ne_of_gt L.o) (Nat.ne_of_gt L.a) (Nat.ne_of_gt L.b) hS) (by omega) ⟨G.rise, G.above, fun j a hj => ?_⟩ hacc)
    obtain ⟨xa, xb, e1, e2, e3⟩ := G.at_ j a hj
    obtain ⟨o1, o2, o3, o4⟩ := off (G.above a (List.mem_of_getElem? hj))
    exact ⟨xa, xb, e1, e2, keep a _ o1 o2 o3 o4 e3⟩
  | succ k ih =>
    intro i h tk c acc as hk hi st kept hS hacc hal G
    have many : acc.size = i := by rw [← Array.length_toList, hacc, List.length_map, hal]
    have below : S < h.objs.size := Heap.lt_size hS
    refine codeAny_builtin PySem.F.entry_extend_loop ?_
    rw [Around.under_plainId PySem.F.plain_extend_loop _]
    show wpAny _ A.in1 (pyNext (.ref zp) >>= _) _ _ _
    refine wpAny_bind (zat_item (s := { s with heap := h, toks := tk }) (A := A.in1) (S := S) Sp Da Db st (by omega) (by omega) below fun xa xb h' tk' pa pb st' tup sz keep => ?_)
    dsimp only at tup sz keep ⊢
    have hS' := keep S _ (Nat.ne_of_gt L.z) (Nat.ne_of_gt L.o) (Nat.ne_of_gt L.a) (Nat.ne_of_gt L.b) hS
    have up : ∀ b o, b ≠ S → h'.get? b = some o → (h'.update S (Obj.mapSeq (·.push (Value.ref h.objs.size)))).get? b = some o := fun b o d e => (Heap.get?_update_other _ _ (Ne.symm d)).trans e
    show wpAny _ A.in1 (updateSeq S (·.push (Value.ref h.objs.size)) >>= _) _ _ _
    refine wpAny_bind ?_
    refine wpAny_updateSeq hS' rfl (wpAny_pure ⟨plainId_quiet PySem.F.plain_extend_loop _, ih (i + 1) _ tk' _ (acc.push (Value.ref h.objs.size)) (as ++ [h.objs.size]) (by omega) (by omega) (st'.keep L Da Db up)
      (fun b o d1 d2 d3 d4 d5 e => up b o d1 (keep b o d2 d3 d4 d5 (kept b o d1 d2 d3 d4 d5 e))) (Heap.get?_update_self _ hS' rfl) (by rw [Array.toList_push, hacc, List.map_append]; rfl) (by rw [List.length_append, hal]; rfl) ⟨?_, ?_, ?_⟩⟩) (by rw [many]; omega) (by show (acc.push (Value.ref h.objs.size)).size ≤ sizeLine + 1; rw [Array.size_push, many]; omega)
    · refine List.pairwise_append.mpr ⟨G.rise, List.pairwise_singleton _ _, fun a ha b hb => ?_⟩
      obtain rfl := List.mem_singleton.mp hb
      obtain ⟨j, hj⟩ := List.mem_iff_getElem?.mp ha
      obtain ⟨_, _, _, _, e⟩ := G.at_ j a hj
      exact Heap.lt_size e
    · intro a ha
      rcases List.mem_append.mp ha with ha | ha
      · exact G.above a ha
      · obtain rfl := List.mem_singleton.mp ha
        exact below
    · intro j b hj
      by_cases h1 : j < as.length
      · rw [List.getElem?_append_left h1] at hj
        obtain ⟨ya, yb, e1, e2, e3⟩ := G.at_ j b hj
        have hb := G.above b (List.mem_of_getElem? hj)
        obtain ⟨o1, o2, o3, o4⟩ := off hb
        exact ⟨ya, yb, e1, e2, up b _ (Nat.ne_of_gt hb) (keep b _ o1 o2 o3 o4 e3)⟩
      · rw [List.getElem?_append_right (Nat.not_lt.mp h1)] at hj
        have j0 : j - as.length = 0 := by
          have q := (List.getElem?_eq_some_iff.mp hj).1
          simp only [List.length_singleton] at q
          omega
        rw [j0] at hj
        obtain rfl : h.objs.size = b := by simpa using hj
        have ji : j = i := by omega
        subst ji
        exact ⟨xa, xb, pa, pb, up _ _ (Nat.ne_of_gt below) tup⟩
theorem zip_no_len : typeLookup (.type "zip") "__len__" = pure none := am_miss_of_fast (by decide +kernel)
theorem zip_no_hint : typeLookup (.type "zip") "__length_hint__" = pure none := am_miss_of_fast (by decide +kernel)
theorem zl_extend {R : Result → Shared → Prop} (Sp : ZipSep2 zp ti tO j1 j2 fa fb) (L : Low zp ti tO j1 j2 S fa fb) (Da : Draws prog w A.in1.in1 j1 fa na Pa Sa) (Db : Draws prog w A.in1.in1 j2 fb nb Pb Sb) (few : min na nb ≤ sizeLine) (res : Value) (c0 : Nat)
    (zh : IsZip s.heap zp ti tO .none) (st : ZAt zp ti tO j1 j2 S Sa Sb 0 s.heap) (hS : s.heap.get? S = some { cls := .type "list", data := .seq #[] c0 })
    (fin : ∀ h' tk acc c as, (∀ b o, b ≠ S → b ≠ zp → b ≠ tO → b ≠ j1 → b ≠ j2 → s.heap.get? b = some o → h'.get? b = some o) → h'.get? S = some { cls := .type "list", dict := none, data := .seq acc c, slots := #[] } → as.length = min na nb → TupG S Pa Pb h' as →
      acc.toList = as.map Value.ref → R (.ok (.ret res)) { s with heap := h', toks := tk }) :
    wpAny (model prog w) A.in1 (Builtin.List.listExtendWith (.ref S) (.ref zp) res)
      (fun r s' => match r with | .done f => R (.ok f) s' | .again c' => c'.quiet = true ∧ codeAny (model prog w) A c' R s') (fun e s' => R (.error e) s') s := by
  have ty : s.TypeIs (.ref zp) "zip" := ⟨_, zh, rfl⟩
  have q1 : Builtin.List.listSameRef (.ref S) (.ref zp) = false := by simp [Builtin.List.listSameRef, Nat.ne_of_gt L.z]
  have q2 : (Value.type "zip" == Value.type "list") = false := by decide
  have q3 : (Value.type "zip" == Value.type "tuple") = false := by decide
  unfold Builtin.List.listExtendWith
  refine wpAny_bind (wpAny_typeOf (T := "zip") ty ?_)
  simp only [q1, q2, q3, Bool.or_false, if_false, Bool.false_eq_true]
  refine wpAny_bind (wpAny_pyIter_zip zh (wpAny_bind (wpAny_holding ?_)))
  unfold Builtin.List.listLengthHint
  refine wpAny_bind (wpAny_specialOf ty zip_no_len ?_)
  show wpAny _ A.in1 (specialOf (Value.ref zp) (Str.ofString "__length_hint__") >>= _) _ _ _
  refine wpAny_bind (wpAny_specialOf ty zip_no_hint (wpAny_pure ?_))
  show wpAny _ A.in1 (rule "list.extend.makes-room" >>= fun _ => Builtin.List.listTouch (.ref S) >>= fun _ =>
    again (.builtin "list.extend.loop" ⟨[.ref S, .ref zp, res], []⟩)) _ _ _
  refine wpAny_bind (wpAny_rule (wpAny_bind ?_))
  show wpAny _ A.in1 (updateSeq S (·.push .none) >>= fun _ => updateSeq S (·.pop)) _ _ _
  refine wpAny_bind (wpAny_updateSeq hS rfl ?_)
  have hS2 := Heap.get?_update_self (Obj.mapSeq (·.push Value.none)) hS rfl
  refine wpAny_updateSeq (hz := by seq_fits) hS2 rfl ?_
  have hS3 := Heap.get?_update_self (Obj.mapSeq (·.pop)) hS2 rfl
  have oth : ∀ b o, b ≠ S → s.heap.get? b = some o → ((s.heap.update S (Obj.mapSeq (·.push Value.none))).update S (Obj.mapSeq (·.pop))).get? b = some o :=
    fun b o d e => (Heap.get?_update_other _ _ (Ne.symm d)).trans ((Heap.get?_update_other _ _ (Ne.symm d)).trans e)
  exact wpAny_pure ⟨plainId_quiet PySem.F.plain_extend_loop _, zl_loop (s := s) (h0 := s.heap) Sp L Da Db few res fin _ 0 _ s.toks _ #[] [] rfl (Nat.zero_le _) (st.keep L Da Db oth) (fun b o d _ _ _ _ e => oth b o d e) hS3 rfl rfl ⟨List.Pairwise.nil, (fun _ z => nomatch z), fun j a z => by simp at z⟩⟩
end
end PyZ

-- PyZ2
set_option maxRecDepth 100000
set_option maxHeartbeats 4000000
noncomputable section
namespace PyZ
open PySem PySem.Spec PyProof.Rows
section
variable {prog : Program} {w : World} {A : Around} {E : Value → Shared → Prop} {s : Shared} {zp ti tO j1 j2 S : Addr} {fa fb : List Addr} {na nb i : Nat} {Pa Pb : Nat → Value → Prop} {Sa Sb : Nat → Heap → Prop}
theorem zl_init {R : Result → Shared → Prop} (Sp : ZipSep2 zp ti tO j1 j2 fa fb) (L : Low zp ti tO j1 j2 S fa fb) (Da : Draws prog w A.in1.in1 j1 fa na Pa Sa) (Db : Draws prog w A.in1.in1 j2 fb nb Pb Sb) (few : min na nb ≤ sizeLine)
    (zh : IsZip s.heap zp ti tO .none) (st : ZAt zp ti tO j1 j2 S Sa Sb 0 s.heap) (hS : s.heap.get? S = some { cls := .type "list", data := .seq #[] })
    (fin : ∀ h' tk acc c as, (∀ b o, b ≠ S → b ≠ zp → b ≠ tO → b ≠ j1 → b ≠ j2 → s.heap.get? b = some o → h'.get? b = some o) → h'.get? S = some { cls := .type "list", dict := none, data := .seq acc c, slots := #[] } → as.length = min na nb → TupG S Pa Pb h' as →
      acc.toList = as.map Value.ref → R (.ok (.ret .none)) { s with heap := h', toks := tk }) :
    wpAny (model prog w) A.in1 (Builtin.«list.__init__» ⟨[.ref S, .ref zp], []⟩)
      (fun r s' => match r with | .done f => R (.ok f) s' | .again c' => c'.quiet = true ∧ codeAny (model prog w) A c' R s') (fun e s' => R (.error e) s') s := by
  show wpAny _ _ (do let old ← Builtin.List.listItems (.ref S); Builtin.List.listUpdate (.ref S) (fun _ => #[]); letGo old.toList.reverse; Builtin.List.listExtendWith (.ref S) (.ref zp) .none) _ _ s
  refine wpAny_bind ?_
  unfold Builtin.List.listItems
  refine wpAny_bind (wpAny_seqItems hS rfl (wpAny_pure ?_))
  show wpAny _ _ (updateSeq S (fun _ => #[]) >>= fun _ => letGo (#[] : Array Value).toList.reverse >>= fun _ => Builtin.List.listExtendWith (.ref S) (.ref zp) .none) _ _ s
  refine wpAny_bind (wpAny_updateSeq hS rfl (wpAny_bind (wpAny_letGo ?_)))
  have oth : ∀ b o, b ≠ S → s.heap.get? b = some o → (s.heap.update S (Obj.mapSeq (fun _ => (#[] : Array Value)))).get? b = some o := fun b o d e => (Heap.get?_update_other _ _ (Ne.symm d)).trans e
  exact zl_extend (s := { s with heap := s.heap.update S (Obj.mapSeq (fun _ => (#[] : Array Value))) }) Sp L Da Db few .none _ (oth _ _ (Nat.ne_of_lt L.z) zh) (st.keep L Da Db oth) (Heap.get?_update_self _ hS rfl)
    fun h' tk acc c as kept a1 a2 a3 a4 => fin h' tk acc c as (fun b o d1 d2 d3 d4 d5 e => kept b o d1 d2 d3 d4 d5 (oth b o d1 e)) a1 a2 a3 a4
theorem zl_call {Q : Value → Shared → Prop} (Sp : ZipSep2 zp ti tO j1 j2 fa fb) (L : Low zp ti tO j1 j2 s.heap.objs.size fa fb) (Da : Draws prog w A.in1.in1.in1 j1 fa na Pa Sa) (Db : Draws prog w A.in1.in1.in1 j2 fb nb Pb Sb) (few : min na nb ≤ sizeLine)
    (zh : IsZip s.heap zp ti tO .none) (st : ZAt zp ti tO j1 j2 s.heap.objs.size Sa Sb 0 s.heap)
    (fin : ∀ h' tk acc c as, (∀ b o, b ≠ zp → b ≠ tO → b ≠ j1 → b ≠ j2 → s.heap.get? b = some o → h'.get? b = some o) → h'.get? s.heap.objs.size = some { cls := .type "list", dict := none, data := .seq acc c, slots := #[] } → as.length = min na nb → TupG s.heap.objs.size Pa Pb h' as →
      acc.toList = as.map Value.ref → Q (.ref s.heap.objs.size) { s with heap := h', toks := tk }) :
    wpAny (model prog w) A (call (.type "list") [.ref zp]) Q E s := by
  refine callType_codes (Q₁ := fun ob s1 => ob = .ref s.heap.objs.size ∧ s1 = { s with heap := s.heap.push { cls := .type "list", data := .seq #[] } }) PySem.F.called_list (PySem.F.typeCall_list_1 _) PySem.F.entry_list_init (code_list_new _ ⟨rfl, rfl⟩) fun ob s1 q => ?_
  obtain ⟨rfl, rfl⟩ := q
  have hS : (s.heap.push { cls := .type "list", data := .seq #[] }).get? s.heap.objs.size = some { cls := .type "list", data := .seq #[] } := Heap.get?_push_size _ rfl
  refine ⟨⟨_, hS, rfl⟩, PySem.F.args_list_init_2 _ _, zl_init (A := A.in1) Sp L Da Db few (Heap.get?_push_of_some _ zh) (st.keep L Da Db fun b o _ e => Heap.get?_push_of_some _ e) hS fun h' tk acc c as kept a1 a2 a3 a4 => ?_⟩
  exact ⟨rfl, fin h' tk acc c as (fun b o d2 d3 d4 d5 e => kept b o (Nat.ne_of_lt (Heap.lt_size e)) d2 d3 d4 d5 (Heap.get?_push_of_some _ e)) a1 a2 a3 a4⟩
end
end PyZ
namespace PyZ
open PySem PySem.Spec PyProof.Rows L2
/-- pairs tracked at their addresses -/
def putP : Hp → List Addr → List (V × V) → Hp
  | H, a :: as, q :: qs => putP (upd H a (.tup [q.1, q.2])) as qs
  | H, _, _ => H
theorem putP_off {b : Addr} : ∀ (as : List Addr) (qs : List (V × V)) (H : Hp), b ∉ as → putP H as qs b = H b
  | [], _, _, _ => rfl
  | _ :: _, [], _, _ => rfl
  | a :: as, q :: qs, H, h => by
    unfold putP
    rw [putP_off as qs _ (fun z => h (List.mem_cons_of_mem _ z)), upd_ne (fun z => h (by rw [z]; exact List.mem_cons_self))]
theorem putP_at : ∀ (as : List Addr) (qs : List (V × V)) (H : Hp), as.length = qs.length → as.Nodup → Paired (fun (t : Addr) (q : V × V) => putP H as qs t = some (.tup [q.1, q.2])) as qs
  | [], [], _, _, _ => .nil
  | [], _ :: _, _, h, _ => by cases h
  | _ :: _, [], _, h, _ => by cases h
  | a :: as, q :: qs, H, h, hn => by
    obtain ⟨n1, n2⟩ := List.nodup_cons.mp hn
    refine .cons ?_ (putP_at as qs (upd H a (.tup [q.1, q.2])) (Nat.succ.inj h) n2)
    unfold putP
    rw [putP_off as qs _ n1, upd_same]
def tListZip (K : PySem.W.Frag) (ta : TA) : TE := fun g H Q => ta g H fun vs H1 => ∃ a b xs ys, vs = [.ref a, .ref b] ∧ SqT K H1 a xs ∧ SqL K H1 b ys ∧
  ∀ (H' : Hp) (p : Addr) (ts : List Addr), (∀ b o, H1 b = some o → H' b = some o) → H1 p = none → H' p = some (.lst (ts.map V.ref)) → Paired (fun (t : Addr) (q : V × V) => H' t = some (.tup [q.1, q.2])) ts (xs.zip ys) → Q (.ref p) H'
section
variable {X : Cx} {e e2 : Expr} {ta : TA} {p p2 pz pos : Pos}
theorem pairs_laid {pins : List (Addr × Obj)} {g : L2.St} {H : Hp} {s : Shared} {h' : Heap} {tk : Nat} {xs ys : List V} {ia ib : List Value} {acc : Array Value} {c : Nat} {as : List Addr} {S : Addr} (I : Inv X pins g H s) (va : Vals xs ia) (vb : Vals ys ib) (few : (xs.zip ys).length ≤ sizeLine)
    (hk : ∀ b o, s.heap.get? b = some o → h'.get? b = some o) (lo : s.heap.objs.size ≤ S) (hS : h'.get? S = some { cls := .type "list", dict := none, data := .seq acc c, slots := #[] }) (hl : as.length = (xs.zip ys).length)
    (G : TupG S (fun j v => ia.toArray[j]? = some v) (fun j v => ib.toArray[j]? = some v) h' as) (hacc : acc.toList = as.map Value.ref) :
    ∃ H' : Hp, (∀ b o, H b = some o → H' b = some o) ∧ H S = none ∧ H' S = some (.lst (as.map V.ref)) ∧ Paired (fun (t : Addr) (q : V × V) => H' t = some (.tup [q.1, q.2])) as (xs.zip ys) ∧ Inv X pins g H' { s with heap := h', toks := tk } := by
  have notS : S ∉ as := fun z => Nat.lt_irrefl _ (G.above _ z)
  have nd : as.Nodup := List.Pairwise.imp (fun {a b} (q : a < b) => Nat.ne_of_lt q) G.rise
  have fresh : ∀ t ∈ as, H t = none := fun t ht => I.hok.fresh (Nat.le_trans lo (Nat.le_of_lt (G.above t ht)))
  have freshS : H S = none := I.hok.fresh lo
  have pairs := putP_at as (xs.zip ys) (upd H S (.lst (as.map V.ref))) hl nd
  have off : ∀ b, b ∉ as → b ≠ S → putP (upd H S (.lst (as.map V.ref))) as (xs.zip ys) b = H b := fun b d1 d2 => by rw [putP_off as _ _ d1, upd_ne d2]
  have old : ∀ b o, s.heap.get? b = some o → b ∉ as ∧ b ≠ S := fun b o e => ⟨fun z => absurd (Heap.lt_size e) (Nat.not_lt.mpr (Nat.le_trans lo (Nat.le_of_lt (G.above b z)))), Nat.ne_of_lt (Nat.lt_of_lt_of_le (Heap.lt_size e) lo)⟩
  have kp : ∀ b u, H b = some u → (putP (upd H S (.lst (as.map V.ref))) as (xs.zip ys)) b = some u := fun b u e => by
    rw [off b (fun z => by rw [fresh b z] at e; cases e) (fun z => by rw [z, freshS] at e; cases e), e]
  have atS : putP (upd H S (.lst (as.map V.ref))) as (xs.zip ys) S = some (.lst (as.map V.ref)) := by rw [putP_off as _ _ notS, upd_same]
  refine ⟨putP (upd H S (.lst (as.map V.ref))) as (xs.zip ys), kp, freshS, atS, pairs, ?_⟩
  refine I.call' (ch := []) rfl ⟨fun b o q _ _ _ => hk b o q, fun b o q _ _ _ => ⟨o.slots, hk b o q⟩, fun b o q n _ => ?_, fun b o q _ => ⟨o, hk b o q⟩, fun b zs q => kp b _ q, fun b o u q => kp b _ q, fun b ps q => ⟨#[], by rw [kp b _ q]; simp⟩⟩ (fun b u q => ?_) I.bare fun b z => by simp at z
  · obtain ⟨d1, d2⟩ := old b o q
    rw [off b d1 d2]
    exact n
  · by_cases hb : b ∈ as
    · obtain ⟨j, pr, e1, e2, e3⟩ := LiI.paired_ix pairs hb
      rw [e3] at q
      cases q
      obtain ⟨xa, xb, f1, f2, f3⟩ := G.at_ j b e1
      obtain ⟨g1, g2⟩ := List.getElem?_zip_eq_some.mp e2
      obtain ⟨wa, h1, r1⟩ := LiI.paired_get va g1
      obtain ⟨wb, h2, r2⟩ := LiI.paired_get vb g2
      rw [List.getElem?_toArray] at f1 f2
      rw [h1] at f1
      rw [h2] at f2
      cases f1
      cases f2
      exact ⟨by show 2 ≤ sizeLine; decide, [xa, xb], .cons r1 (.cons r2 .nil), ⟨_, f3, rfl, _, rfl⟩⟩
    · by_cases hb2 : b = S
      · rw [hb2, atS] at q
        cases q
        subst hb2
        refine ⟨by rw [List.length_map, hl]; exact few, acc.toList, c, by rw [hacc]; exact LiI.vals_refs as, ?_⟩
        rw [Array.toArray_toList]
        exact hS
      · rw [off b hb hb2] at q
        exact (I.hok b u q).stay (fun d v _ y => hk d v y) (fun d y => kp d _ y) fun d zs y => kp d _ y
/-- list(zip(t, l)) of a tuple and a list -/
theorem pe_listZip (hc : X.calm = true) (hg : Gl X "list") (hm : X.mg "list" = none) (hv : bootBuiltins "list" = some (.type "list")) (hg2 : Gl X "zip") (hm2 : X.mg "zip" = none) (ha : PA X [e, e2] ta)
    (hs2 : starEach [e, e2] X.env = (false, eval e X.env) :: starEach [e2] X.env := by rfl) (hpl2 : (backTo pz (starEach [e2] X.env)).any (·.1) = false := by rfl)
    (hs : starEach [.Call (.Name "zip" p2) [e, e2] [] pz] X.env = (false, eval (.Call (.Name "zip" p2) [e, e2] [] pz) X.env) :: starEach [] X.env := by rfl) :
    PE X (.Call (.Name "list" p) [.Call (.Name "zip" p2) [e, e2] [] pz] [] pos) (tListZip X.K ta) := by
  refine ⟨fun pins s g H Q I hq => ?_⟩
  refine wpAny_Call_Name_kw (ld_blt I hg hm hv ?_)
  refine PyProof.Rows.callWith_type1 ?_ hs rfl
  rw [hs]
  show wpAny _ _ (spliced ((false, eval (.Call (.Name "zip" p2) [e, e2] [] pz) X.env) :: backTo pos (starEach [] X.env))) _ _ s
  refine Calls.spliced_cons ?_
  refine Call_ (ld_blt I hg2 hm2 PyProof.Rows.boot_zip (PyProof.Rows.callWith_type1 (thn (ha.run pz pins s g H _ I hq) fun us s1 ⟨vs, H1, I1, r1, a, b, xs, ys, ex, hx, hy, q⟩ => ?_) hs2 hpl2))
  subst ex
  cases r1 with
  | cons ra rr =>
    cases rr with
    | cons rb rr =>
      cases rr
      cases ra
      cases rb
      obtain ⟨ia, va, pa, za⟩ := I1.tuple hx
      obtain ⟨ib, vb, pb, zb⟩ := I1.list hy
      obtain ⟨oa, hoa, _⟩ := id pa
      have la : a < s1.heap.objs.size := Heap.lt_size hoa
      have lb : b < s1.heap.objs.size := pb.lt
      refine zip_begins2 (begins_tuple a ia.toArray) (begins_list b ib.toArray) pa pb.isList fun h1 zh tih toh h1a h1b sz kp => Calls.spliced_nil ?_
      have apart : ∀ {c : Addr} (k : Nat), c < s1.heap.objs.size → ¬ s1.heap.objs.size + k = c := fun {c} k q z => Nat.lt_irrefl _ (Nat.lt_of_le_of_lt (Nat.le_add_right _ k) (z ▸ q))
      have na : a ≠ s1.heap.objs.size := Nat.ne_of_lt la
      have nb : b ≠ s1.heap.objs.size + 1 := Nat.ne_of_lt (Nat.lt_succ_of_lt lb)
      have hh : X.A.handled = none := I1.ok.hd hc
      have Sp : ZipSep2 (s1.heap.objs.size + 4) (s1.heap.objs.size + 2) (s1.heap.objs.size + 3) s1.heap.objs.size (s1.heap.objs.size + 1) [s1.heap.objs.size, a] [s1.heap.objs.size + 1, b] := by
        constructor <;> simp <;> first | exact apart _ la | exact apart _ lb | exact apart 0 lb
      have st : ZAt (s1.heap.objs.size + 4) (s1.heap.objs.size + 2) (s1.heap.objs.size + 3) s1.heap.objs.size (s1.heap.objs.size + 1) h1.objs.size (fun i h => h.IsTupleIter s1.heap.objs.size a i ∧ h.IsTuple a ia.toArray) (fun i h => h.IsListIter (s1.heap.objs.size + 1) b i ∧ h.IsList b ib.toArray) 0 h1 :=
        ⟨tih, ⟨⟨_, h1a, rfl, rfl⟩, Heap.IsTuple.at pa fun o e => kp _ o e⟩, ⟨⟨_, h1b, rfl, rfl⟩, pb.isList.at fun o e => kp _ o e⟩, .inl ⟨zh, _, _, toh⟩⟩
      have L : Low (s1.heap.objs.size + 4) (s1.heap.objs.size + 2) (s1.heap.objs.size + 3) s1.heap.objs.size (s1.heap.objs.size + 1) h1.objs.size [s1.heap.objs.size, a] [s1.heap.objs.size + 1, b] := by
        constructor <;> simp [sz] <;> first | exact apart _ la | exact apart _ lb | omega
      have lz : (xs.zip ys).length = min ia.toArray.size ib.toArray.size := by
        rw [List.length_zip, List.size_toArray, List.size_toArray, va.length, vb.length]
      have few : min ia.toArray.size ib.toArray.size ≤ sizeLine := by
        rw [List.size_toArray, ← va.length]
        exact Nat.le_trans (Nat.min_le_left _ _) za
      refine zl_call (s := { s1 with heap := h1 }) Sp L (Draws.tuple (A := X.A.in1.in1.in1) hh _ _ na _) (Draws.list (A := X.A.in1.in1.in1) hh _ _ nb _) few zh st fun h' tk acc c as kept hS hl G hacc => ?_
      have hk : ∀ b o, s1.heap.get? b = some o → h'.get? b = some o := fun d o e => by
        have dl := Heap.lt_size e
        exact kept d o (fun z => apart 4 dl z.symm) (fun z => apart 3 dl z.symm) (fun z => apart 0 dl z.symm) (fun z => apart 1 dl z.symm) (kp d o e)
      obtain ⟨H', k1, k2, k3, k4, J⟩ := pairs_laid (tk := tk) (c := c) I1 va vb (by rw [lz]; exact few) hk (by show s1.heap.objs.size ≤ h1.objs.size; rw [sz]; exact Nat.le_add_right _ _) hS (by rw [lz]; exact hl) G hacc
      exact ⟨.ref _, H', J, rfl, q H' _ as k1 k2 k3 k4⟩
end
end PyZ

-- PyO2
set_option maxRecDepth 100000
set_option maxHeartbeats 4000000
noncomputable section
namespace PyM
open PySem PySem.Spec PyProof.Rows L2 PyD
/-! ### list(zip(t, l)) -/
theorem rl_pairs {K : KT} {H : Hp} {io : List Addr} : ∀ {as bs : List D} {xs ys : List V} {ts : List Addr}, RL K H io as xs → RL K H io bs ys → Paired (fun (t : Addr) (q : V × V) => H t = some (.tup [q.1, q.2])) ts (xs.zip ys) → RL K H io ((as.zip bs).map fun p => D.tup [p.1, p.2]) (ts.map V.ref)
  | _, _, _, _, _, .nil, _, p => by cases p; exact .nil
  | _, _, _, _, _, .cons _ _, .nil, p => by cases p; exact .nil
  | _, _, _, _, _, .cons r1 t1, .cons r2 t2, p => by
    cases p with
    | cons h1 h2 => exact .cons (.tup h1 (.cons r1 (.cons r2 .nil))) (rl_pairs t1 t2 h2)
def tupOf (d : D) : Option (List D) := match d with
  | .tup ds => some ds
  | .ktup ds => some ds
  | _ => none
theorem tupOf_ok {K : KT} {H : Hp} {io : List Addr} {d : D} {x : V} {ds : List D} (e : tupOf d = some ds) (r : R K H io d x) : ∃ a xs, x = .ref a ∧ SqT K.f H a xs ∧ RL K H io ds xs := by
  unfold tupOf at e
  split at e
  · cases e
    cases r with
    | tup h1 rl => exact ⟨_, _, rfl, SqT.of h1, rl⟩
  · cases e
    cases r with
    | ktup h1 rl => exact ⟨_, _, rfl, h1.sq, rl⟩
  · cases e
def lzipD (ds : List D) (M : Sto) : Option (D × Sto) := match ds with
  | [a, .lst j] => (match tupOf a, (sGet M j) with
    | some as, some (.lst bs) => some (.lst M.length, (sApp M (.lst ((as.zip bs).map fun p => .tup [p.1, p.2]))))
    | _, _ => none)
  | _ => none
theorem rs_more {K : KT} {H H' : Hp} {io : List Addr} {M : Sto} {p : Addr} {o : HO} {c : Cell} (rs : RS K H io M) (k : ∀ b u, H b = some u → H' b = some u) (n : H p = none) (e : H' p = some o) (rc : RC K H' (io ++ [p]) c o) : Ext K io H (io ++ [p]) H' ∧ RS K H' (io ++ [p]) ((sApp M (c))) := by
  have ex : Ext K io H (io ++ [p]) H' := ⟨fun a u h _ => k a u h, fun j a h => by rw [List.getElem?_append_left (List.getElem?_eq_some_iff.mp h).1]; exact h⟩
  rw [sApp_eq]
  refine ⟨ex, by simp [rs.len], ?_, rs.tab.ext fun b u h => k b u h, fun i c' ei => ?_⟩
  · rw [List.nodup_append]
    refine ⟨rs.nd, by simp, fun a ha b hb => ?_⟩
    obtain rfl : b = p := by simpa using hb
    rintro rfl
    obtain ⟨i, hi, e1⟩ := List.getElem_of_mem ha
    obtain ⟨c0, o0, _, e2, _⟩ := rs.there (i := i) (a := a) (by rw [List.getElem?_eq_getElem hi, e1])
    rw [n] at e2
    cases e2
  · rw [sGet_eq] at ei
    by_cases hi : i < M.length
    · rw [List.getElem?_append_left hi, ← sGet_eq] at ei
      obtain ⟨a, u, e1, e2, r⟩ := rs.cell i c' ei
      exact ⟨a, u, ex.i i a e1, k a u e2, r.mono ex⟩
    · have hi2 : i = M.length := by
        have := (List.getElem?_eq_some_iff.mp ei).1
        simp at this
        omega
      subst hi2
      rw [List.getElem?_append_right (Nat.le_refl _)] at ei
      simp at ei
      subst ei
      exact ⟨p, o, by rw [← rs.len, List.getElem?_append_right (Nat.le_refl _)]; simp, e, rc⟩
section
variable {X : Cx} {c : Cfg} {f h k : Den D} {hs : Den (List D)} {e e2 a b o i v : Expr} {pos p p2 pz apos : Pos}
theorem de_listZip (hK : X.K = c.K.f) (hc : X.calm = true) (hg : Gl X "list") (hm : X.mg "list" = none) (hv : bootBuiltins "list" = some (.type "list")) (hg2 : Gl X "zip") (hm2 : X.mg "zip" = none) (ha : PA X [e, e2] (sA c hs))
    (hs2 : starEach [e, e2] X.env = (false, eval e X.env) :: starEach [e2] X.env := by rfl) (hpl2 : (backTo pz (starEach [e2] X.env)).any (·.1) = false := by rfl)
    (hs1 : starEach [.Call (.Name "zip" p2) [e, e2] [] pz] X.env = (false, eval (.Call (.Name "zip" p2) [e, e2] [] pz) X.env) :: starEach [] X.env := by rfl) :
    PE X (.Call (.Name "list" p) [.Call (.Name "zip" p2) [e, e2] [] pz] [] pos) (sE c (opS lzipD hs)) := PE.imp (PyZ.pe_listZip hc hg hm hv hg2 hm2 ha hs2 hpl2 hs1) fun g H Q s => by
  refine sG.bind s fun ds vs r M1 io1 H1 re rs ra run => ?_
  obtain ⟨d, M3, eq, z⟩ := run.lift
  unfold lzipD at eq
  split at eq
  · split at eq
    · rename_i as bs ea em
      cases eq
      obtain ⟨x, y, rfl, rx, ry⟩ := ra.two
      obtain ⟨a1, xs, rfl, h1, r1⟩ := tupOf_ok ea rx
      obtain ⟨a2, ys, rfl, i2, h2, r2⟩ := lst_at ry rs em
      rw [hK]
      refine ⟨a1, a2, xs, ys, rfl, h1, SqL.of h2, fun H' p ts kp np hp pairs => ?_⟩
      have ex0 : Ext c.K io1 H1 io1 H' := ⟨fun b u q _ => kp b u q, fun _ _ q => q⟩
      obtain ⟨ex, rs'⟩ := rs_more (c := .lst ((as.zip bs).map fun p => .tup [p.1, p.2])) rs kp np hp ⟨_, rfl, rl_pairs (r1.mono ⟨fun b u q _ => kp b u q, fun j q w => by rw [List.getElem?_append_left (List.getElem?_eq_some_iff.mp w).1]; exact w⟩) (r2.mono ⟨fun b u q _ => kp b u q, fun j q w => by rw [List.getElem?_append_left (List.getElem?_eq_some_iff.mp w).1]; exact w⟩) pairs⟩
      exact z (io1 ++ [p]) H' ex rs' (.ref p) (.lst (by rw [← rs.len, List.getElem?_append_right (Nat.le_refl _)]; simp))
    · cases eq
  · cases eq
/-! ### enumerate -/
theorem jok_enum {H : Hp} {io : List Addr} {j : Nat} {a : Addr} (ei : io[j]? = some a) : JOk c io H (Ite c.K.f a) (nextI (.enum (.lst j))) where
  stop := fun i M io' H' e rs h => by
    obtain ⟨ds, e1, e2⟩ := map_some h
    unfold itemsD at e1
    dsimp only at e1
    split at e1
    · rename_i em
      cases e1
      obtain ⟨xs, h1, h2⟩ := rs.lst (e.i _ _ ei) em
      refine ⟨xs, SqL.of h1, ?_⟩
      rw [← h2.length]
      rw [Option.map_eq_none_iff] at e2
      exact List.getElem?_eq_none_iff.mp e2
    · cases e1
  go := fun i M io' H' d e rs h => by
    obtain ⟨ds, e1, e2⟩ := map_some h
    unfold itemsD at e1
    dsimp only at e1
    split at e1
    · rename_i em
      cases e1
      obtain ⟨xs, h1, h2⟩ := rs.lst (e.i _ _ ei) em
      obtain ⟨dx, e3, e4⟩ := map_some e2
      cases e4
      obtain ⟨v, hv, rv⟩ := h2.get e3
      refine ⟨⟨xs, v, SqL.of h1, hv⟩, fun x H'' y => ?_⟩
      obtain ⟨T, x', rfl, hT, rfl, f1⟩ := y
      have s1 := f1 xs (SqL.of h1)
      rw [hv] at s1
      cases s1
      exact ⟨Ext.tupNew hT, rs.tupNew hT, .tup upd_same (.cons (.int _) (.cons (rv.mono (Ext.tupNew hT)) .nil))⟩
    · cases e1
def enumSrc (f : Den (List D)) : Den Src := bindD f fun ds _ M => match ds with
  | [.lst j] => (match (sGet M j) with
    | some (.lst _) => some (.ok (.enum (.lst j)), M)
    | _ => none)
  | _ => none
theorem dp_enum {elts : List Expr} {kk : Nat} {tpos : Pos} (hK : X.K = c.K.f) (hg : Gl X "enumerate") (hm : X.mg "enumerate" = none) (ha : PA X [e] (sA c hs)) (hst : starEach [e] X.env = [(false, eval e X.env)] := by rfl) :
    PI X (.Tuple elts kk tpos) (.Call (.Name "enumerate" p) [e] [] pos) (wS c (enumSrc hs)) := PI.imp (pi_enum hg hm ha hst) fun g H Q s => by
  obtain ⟨r, M, io, re, rs, sx, M', eq, z⟩ := s
  obtain ⟨ds, M1, ef, ek⟩ := bind_ok eq
  rw [hK]
  split at ek
  · split at ek
    · rename_i em
      cases ek
      refine ⟨r, M, io, re, rs, .ok _, _, ef, fun io1 H1 e1 rs1 vs rv => ?_⟩
      obtain ⟨x, rfl, rx⟩ := rv.one
      obtain ⟨a1, xs, rfl, i1, h1, r1⟩ := lst_at rx rs1 em
      exact ⟨a1, xs, rfl, SqL.of h1, z io1 H1 e1 rs1 _ (jok_enum i1)⟩
    · cases ek
  · cases ek
/-! ### d.get(k, x), {k: v} -/
def getE (f h k : Den D) : Den D := bindD f fun a r M => match a with
  | .dic i => (match (sGet M i) with
    | some (.dk _) => (bindD h fun y => bindD k fun z _ M => match dicGet i y M with
      | some o => some (.ok (o.getD z), M)
      | none => none) r M
    | _ => none)
  | _ => none
theorem de_get2 (hK : X.K = c.K.f) (hu : X.A.units + 1 < cLine) (ho : PE X o (sE c f)) (he : PE X e (sE c h)) (hf : PE X e2 (sE c k)) (m : M2 X o "get" apos e e2 pos) : PE X (.Call (.Attribute o "get" apos) [e, e2] [] pos) (sE c (getE f h k)) := PE.imp (pe_dget2 hu ho he hf m) fun g H Q s => by
  refine sG.bind s fun a x r M1 io1 H1 re rs ra run => ?_
  obtain ⟨w, M', eq, z⟩ := run
  dsimp only at eq
  split at eq
  · rename_i i
    split at eq
    · rename_i kvs em
      cases ra with
      | @dic _ p ei =>
        obtain ⟨p', ho', e1, h1, rc⟩ := rs.cell _ _ em
        rw [ei] at e1
        cases e1
        obtain ⟨xs, rfl, rk⟩ := rc
        refine ⟨p, rfl, .inl ⟨xs, Rd.of h1⟩, r, M1, io1, re, rs, ?_⟩
        have run2 : Run c (rD c) (bindD h fun y => bindD k fun z _ M => match dicGet i y M with
          | some o => some (.ok (o.getD z), M)
          | none => none) r M1 io1 g H1 Q := ⟨w, M', eq, z⟩
        refine run2.bind fun y vy Ma ioa Ha ea rsa ry run3 => ⟨r, Ma, ioa, re.mono ea, rsa, run3.bind fun zz vz Mb iob Hb eb rsb rz run4 => ?_⟩
        obtain ⟨w4, M4, eq4, z4⟩ := run4
        dsimp only at eq4
        split at eq4
        · rename_i od eo
          cases eq4
          obtain ⟨ov, gt, ro⟩ := dicGet_ok rsb (eb.i _ _ (ea.i _ _ ei)) (ry.mono eb) eo
          refine ⟨ov, gt, z4 iob Hb Ext.refl rsb _ ?_⟩
          cases od with
          | none => cases ov with
            | none => exact rz
            | some _ => exact ro.elim
          | some _ => cases ov with
            | none => exact ro.elim
            | some _ => exact ro
        · cases eq4
    · cases eq
  · cases eq
def disp1E (fk fv : Den D) : Den D := fun r M => (bindD fk fun kd => bindD fv fun vd _ M2 => match keyD kd, (sGet M2 (M.length)) with
  | some key, some (.dk []) => some (.ok (.dic M.length), M2.set M.length (.dk [(key, vd)]))
  | _, _ => none) r ((sApp M (.dk [])))
theorem de_disp1 (hK : X.K = c.K.f) (he : PE X e (sE c f)) (hv : PE X v (sE c h)) : PE X (.Dict [some e] [v] pos) (sE c (disp1E f h)) := PE.imp (pe_disp (pps_cons he hv pps_nil) rfl rfl (by simp) (by simp)) fun g H Q s => by
  obtain ⟨r, M, io, re, rs, w, M', eq, z⟩ := s
  intro p n
  have ex0 : Ext c.K io H (io ++ [p]) (upd H p (.dK [])) := Ext.alloc n
  have rs0 := rs.alloc (c := .dk []) (o := .dK []) n ⟨[], rfl, .nil⟩
  have hp : (io ++ [p])[M.length]? = some p := by rw [← rs.len, List.getElem?_append_right (Nat.le_refl _)]; simp
  have run : Run c (rD c) (bindD f fun kd => bindD h fun vd _ M2 => match keyD kd, (sGet M2 (M.length)) with
    | some key, some (.dk []) => some (.ok (.dic M.length), M2.set M.length (.dk [(key, vd)]))
    | _, _ => none) r ((sApp M (.dk []))) (io ++ [p]) g (upd H p (.dK [])) Q := ⟨w, M', eq, z.ext ex0⟩
  refine ⟨r, _, _, re.mono ex0, rs0, run.bind fun kd vk Ma ioa Ha ea rsa rk run2 => ⟨r, Ma, ioa, (re.mono ex0).mono ea, rsa, run2.bind fun vd vv Mb iob Hb eb rsb rv run3 => ?_⟩⟩
  obtain ⟨w3, M3, eq3, z3⟩ := run3
  dsimp only at eq3
  split at eq3
  · rename_i key ek em
    cases eq3
    obtain ⟨a, ob, e1, h1, rc⟩ := rsb.cell _ _ em
    have hpb := eb.i _ _ (ea.i _ _ hp)
    rw [hpb] at e1
    cases e1
    obtain ⟨xs, rfl, rkv⟩ := rc
    cases rkv
    have hk := key_of_D ek (rk.mono eb)
    refine ⟨h1, [(key, vv)], by rw [hk]; rfl, by simp, ?_⟩
    have ex := Ext.write (K := c.K) (io := iob) (o := .dK [(key, vv)]) h1 nt_dk
    have rs3 := rsb.write hpb h1 nt_dk (c := .dk [(key, vd)]) ⟨[(key, vv)], rfl, .cons ⟨rfl, rv.mono ex⟩ .nil⟩
    exact z3 iob _ ex rs3 (.ref p) (.dic hpb)
  · cases eq3
end
end PyM

-- PyM3
set_option maxRecDepth 100000
set_option maxHeartbeats 4000000
noncomputable section
namespace PyM
open PySem PySem.Spec PyProof.Rows L2 PyD RZ
/-! ### {k: v for .. in ..}: a new dict -/
def dcompL (nxt : Nat → Sto → Option (Option D)) (ct : CT) (ifs : Den Bool) (kd vd : Den D) (id : Nat) : Nat → Nat → DEnv → Sto → Option Sto
  | 0, _, _, _ => none
  | n + 1, i, r, M => match nxt i M with
    | none => none
    | some none => some M
    | some (some d) => match setC ct d r with
      | none => none
      | some r1 => match ifs r1 M with
        | some (.ok true, M1) => match kd r1 M1 with
          | some (.ok k, M2) => match vd r1 M2 with
            | some (.ok e, M3) => match keyD k with
              | some kk => match (sGet M3 id) with
                | some (.dk acc) => if acc.length < 100000 then dcompL nxt ct ifs kd vd id n (i + 1) r (M3.set id (.dk (putKD acc kk e))) else none
                | _ => none
              | none => none
            | _ => none
          | _ => none
        | some (.ok false, M1) => dcompL nxt ct ifs kd vd id n (i + 1) r M1
        | _ => none
def dcompE (src : Den Src) (vs : List Nat) (ct : CT) (ifs : Den Bool) (kd vd : Den D) (n : Nat) : Den D := fun r M => match src r M with
  | some (.ok s, M1) => match dcompL (nextI s) ct ifs kd vd M1.length n 0 (wipeD r vs) ((sApp M1 (.dk []))) with
    | some M2 => some (.ok (.dic M1.length), M2)
    | none => none
  | _ => none
theorem dcompE_dc {c : Cfg} {src : Den Src} {vs : List Nat} {ct : CT} {ifs : Den Bool} {kd vd : Den D} {n : Nat} {g : L2.St} {H : Hp} {Q : VK} (hv : ∀ i ∈ ct.slots, i ∈ vs)
    (s : sE c (dcompE src vs ct ifs kd vd n) g H Q) : tDc (wS c src) (gC c.K.f ct) (sT c ifs) (sE c kd) (sE c vd) vs g H Q := by
  obtain ⟨r, M, io, re, rs, x, M', eq, z⟩ := s
  unfold dcompE at eq
  split at eq
  · rename_i sx M1 es
    split at eq
    · rename_i M2 el
      cases eq
      refine ⟨r, M, io, re, rs, sx, M1, es, fun io1 H1 e1 rs1 J hJ => fun Dd hn => ?_⟩
      have ex0 : Ext c.K io1 H1 (io1 ++ [Dd]) (upd H1 Dd (.dK [])) := Ext.alloc hn
      have rs0 : RS c.K (upd H1 Dd (.dK [])) (io1 ++ [Dd]) ((sApp M1 (.dk []))) := rs1.alloc hn ⟨[], rfl, .nil⟩
      have id0 : (io1 ++ [Dd])[M1.length]? = some Dd := by rw [← rs1.len, List.getElem?_append_right (Nat.le_refl _)]; simp
      have re0 := ((re.mono e1).mono ex0).wipe vs
      refine ⟨fun i m H => ∃ (M : Sto) (io : List Addr), Ext c.K (io1 ++ [Dd]) (upd H1 Dd (.dK [])) io H ∧ RS c.K H io M ∧ ∃ M2, dcompL (nextI sx) ct ifs kd vd M1.length m i (wipeD r vs) M = some M2 ∧
        (∀ io' H', Ext c.K io H io' H' → RS c.K H' io' M2 → Q (.ref Dd) H'), ⟨n, (sApp M1 (.dk [])), io1 ++ [Dd], Ext.refl, rs0, _, el, fun io' H' ex rs' => z io' H' ((e1.trans ex0).trans ex) rs' _ (.dic (ex.i _ _ id0))⟩, ?_⟩
      rintro i m H ⟨M, io, ex, rs, M2, el, k⟩
      have re1 := re0.mono ex
      cases m with
      | zero => cases el
      | succ m =>
        unfold dcompL at el
        split at el
        · cases el
        · rename_i en
          cases el
          exact .inl ⟨hJ.stop i _ io H (ex0.trans ex) rs en, k io H Ext.refl rs⟩
        · rename_i d en
          obtain ⟨go, yl⟩ := hJ.go i M io H d (ex0.trans ex) rs en
          refine .inr ⟨go, fun H => ∃ (M : Sto) (io : List Addr), Ext c.K (io1 ++ [Dd]) (upd H1 Dd (.dK [])) io H ∧ RS c.K H io M ∧ ∃ M2, dcompL (nextI sx) ct ifs kd vd M1.length m (i + 1) (wipeD r vs) M = some M2 ∧
            (∀ io' H', Ext c.K io H io' H' → RS c.K H' io' M2 → Q (.ref Dd) H'), fun H' h => ⟨m, Nat.lt_succ_self m, h⟩, fun x H' y => ?_⟩
          obtain ⟨ex2, rs2, rx⟩ := yl x H' y
          split at el
          · cases el
          · rename_i r1 et
            refine setC_ok (vs := vs) et rx (re1.mono ex2) hv fun g2 re2 wp => ⟨wp.trans wipe_wipe, ?_⟩
            split at el
            · rename_i M3 ei
              split at el
              · rename_i kx M4 ek
                split at el
                · rename_i e3 M5 ee
                  split at el
                  · rename_i kk ekk
                    split at el
                    · rename_i acc ea
                      split at el
                      · rename_i hl
                        refine ⟨r1, M, io, re2, rs2, .ok true, M3, ei, fun io3 H3 ex3 rs3 b hb => ?_⟩
                        cases hb
                        rw [if_pos rfl]
                        refine ⟨r1, M3, io3, re2.mono ex3, rs3, .ok kx, M4, ek, fun io4 H4 ex4 rs4 kv rk => ?_⟩
                        refine ⟨r1, M4, io4, (re2.mono ex3).mono ex4, rs4, .ok e3, M5, ee, fun io5 H5 ex5 rs5 v rv => ?_⟩
                        have idD : io5[M1.length]? = some Dd := ex5.i _ _ (ex4.i _ _ (ex3.i _ _ (ex2.i _ _ (ex.i _ _ id0))))
                        obtain ⟨a1, o1, i1, h1, rc⟩ := rs5.cell _ _ ea
                        rw [idD] at i1
                        cases i1
                        obtain ⟨xs, rfl, rkv⟩ := rc
                        refine ⟨xs, kk, key_of_D ekk (rk.mono ex5), h1, by rw [← rkv_len rkv]; exact big_lt hl, ?_⟩
                        have nt : notTup (.dK xs) := nt_dk
                        have ex6 := Ext.write (K := c.K) (io := io5) (o := .dK (putK xs kk v)) h1 nt
                        have rs6 := rs5.write (c := .dk (putKD acc kk e3)) idD h1 nt ⟨_, rfl, (RKV.put rkv kk rv).mono ex6⟩
                        exact ⟨_, io5, ((((ex.trans ex2).trans ex3).trans ex4).trans ex5).trans ex6, rs6, M2, el, fun io' H' e rs' => k io' H' (((((ex2.trans ex3).trans ex4).trans ex5).trans ex6).trans e) rs'⟩
                      · cases el
                    · cases el
                  · cases el
                · cases el
              · cases el
            · rename_i M3 ei
              refine ⟨r1, M, io, re2, rs2, .ok false, M3, ei, fun io3 H3 ex3 rs3 b hb => ?_⟩
              cases hb
              rw [if_neg Bool.false_ne_true]
              exact ⟨M3, io3, (ex.trans ex2).trans ex3, rs3, M2, el, fun io' H' e rs' => k io' H' ((ex2.trans ex3).trans e) rs'⟩
            · cases el
    · cases eq
  · cases eq
section
variable {X : Cx} {c : Cfg} {src : Den Src} {ct : CT} {ift : Den Bool} {kd vd : Den D} {n : Nat} {kx vx tg iter : Expr} {ifs : List Expr} {scope : Scope} {own : List (Str × Nat)} {sl : List Nat} {pos spos py : Pos}
theorem ds_setDcomp {i : Nat} {y : Str} (hK : X.K = c.K.f) (hc : X.calm = true) (hN : X.N.Nodup) (hy : X.N[i]? = some y) (hyl : X.env.scope.names.lookup y = some .local)
    (hsw : swapsWith (.DictComp kx vx [⟨tg, iter, ifs, 0⟩] scope pos) (some (.Name y py)) spos.line X.env = pure true) (hi : PI X tg iter (wS c src)) (ok : BlkOk X.N X.env.scope scope own) (hv : ∀ i ∈ ct.slots, i ∈ sl)
    (hg : ∀ (s : Shared) (H : Hp) (C : Addr) (cl : List (Str × Addr)) (fp : List Addr), PG (X.blk s H scope (compEnvC scope cl C X.env) fp) tg (gC X.K ct)) (ht : ∀ (s : Shared) (H : Hp) (C : Addr) (cl : List (Str × Addr)) (fp : List Addr), PTs (X.blk s H scope (compEnvC scope cl C X.env) fp) ifs (sT c ift))
    (hk : ∀ (s : Shared) (H : Hp) (C : Addr) (cl : List (Str × Addr)) (fp : List Addr), PE (X.blk s H scope (compEnvC scope cl C X.env) fp) kx (sE c kd)) (he : ∀ (s : Shared) (H : Hp) (C : Addr) (cl : List (Str × Addr)) (fp : List Addr), PE (X.blk s H scope (compEnvC scope cl C X.env) fp) vx (sE c vd))
    (hs : ∀ x, foldedSetIterable iter X.env x = pure x := by intro _; rfl) (hsl : own.map (·.2) = sl := by rfl) :
    PS X (.Assign [.Name y py] (.DictComp kx vx [⟨tg, iter, ifs, 0⟩] scope pos) spos) (sS c (setS (dcompE src sl ct ift kd vd n) (nmT i))) := PS.imp (ps_setDc (own := own) hc hN hy hyl hsw hi ok hg ht hk he hs) fun Ds g H s => by
  subst hsl
  have q : sE c (dcompE src (own.map (·.2)) ct ift kd vd n) g H (fun x H1 => gName i x g H1 Ds.nx) := by
    refine sS.bind s fun d x r M1 io1 H1 re rs ra run => ?_
    obtain ⟨fl, r', M', eq, z⟩ := run
    cases eq
    exact z io1 H1 Ext.refl rs _ (re.set ra)
  have q2 := dcompE_dc hv q
  rw [kt hK] at q2
  exact q2
end
/-! ### k in a written dict, of the texts that a table tells of -/
def inKD (tbl : List (Str × Bool)) (d : D) (M : Sto) : Option (D × Sto) := match d with
  | .str z => match tbl.find? fun p => sbeq p.1 z with
    | some p => some (.bl p.2, M)
    | none => none
  | _ => none
def KIn (K : PySem.W.Frag) (w : World) (mg : Str → Option Value) (x : Str) (tbl : List (Str × Bool)) : Prop :=
  ∃ (a : Addr) (es : Array DictEntry) (n : Nat), mg x = some (.ref a) ∧ KDict K w a es n ∧ ∀ p ∈ tbl, ∃ r, PySem.W.nsIn K a p.1 = some r ∧ r.isSome = p.2
section
variable {X : Cx} {c : Cfg} {f : Den D} {b : Expr} {pos p : Pos} {x : Str}
theorem inK_op {tbl : List (Str × Bool)} {a : Addr} {K : PySem.W.Frag} (all : ∀ p ∈ tbl, ∃ r, PySem.W.nsIn K a p.1 = some r ∧ r.isSome = p.2) {g : L2.St} {H : Hp} {Q : VK} (s : sE c (op1 (inKD tbl) f) g H Q) :
    tOp (fun x y H Q => ∃ (z : Str) (r : Option Value), x = .str z ∧ y = .ref a ∧ PySem.W.nsIn K a z = some r ∧ Q (.bl r.isSome) H) (sE c f) (tC (.ref a)) g H Q := by
  refine sG.bind s fun d y r M1 io1 H1 re rs ra run => ?_
  obtain ⟨z, M3, eq, k⟩ := run.lift
  unfold inKD at eq
  split at eq
  · rename_i w0
    split at eq
    · rename_i q hq
      cases eq; cases ra
      obtain ⟨rr, h1, h2⟩ := all _ (List.mem_of_find?_eq_some hq)
      have e0 := List.find?_some hq
      have e1 := sbeq_iff.mp e0
      rw [e1] at h1
      refine ⟨w0, rr, rfl, rfl, h1, ?_⟩
      rw [h2]
      exact k.ok Ext.refl rs (.bl _)
    · cases eq
  · cases eq
theorem de_inK {tbl : List (Str × Bool)} (hg : Gl X x) (h : KIn X.K X.w X.mg x tbl) (hb : PE X b (sE c f)) (hd : (x == ("__debug__" : Str)) = false := by decide) :
    PE X (.Compare b [.In] [.Name x p] pos) (sE c (op1 (inKD tbl) f)) := by
  obtain ⟨a, es, n, hm, D, all⟩ := h
  exact PE.imp (pe_cmpR (op_in_kd D) hb (pe_glob (v := .ref a) hg hm rfl hd) rfl) fun g H Q s => inK_op all s
theorem dt_inK {tbl : List (Str × Bool)} (hg : Gl X x) (h : KIn X.K X.w X.mg x tbl) (hb : PE X b (sE c f)) (hd : (x == ("__debug__" : Str)) = false := by decide) :
    PT X (.Compare b [.In] [.Name x p] pos) (sT c (btestD (op1 (inKD tbl) f))) := by
  obtain ⟨a, es, n, hm, D, all⟩ := h
  exact PT.imp (pt_cmpR (op_in_kd D) hb (pe_glob (v := .ref a) hg hm rfl hd) rfl) fun g H Q s => by
    obtain ⟨r, M, io, re, rs, run⟩ := s
    exact inK_op all (sT_b ⟨r, M, io, re, rs, run⟩)
end
end PyM

-- PyM1
set_option maxRecDepth 100000
set_option maxHeartbeats 4000000
noncomputable section
namespace PyM
open PySem PySem.Spec PyProof.Rows L2 PyD NdefX
/-! ### an exception's own __init__: super().__init__(e); self.f = x -/
abbrev mwO (a : Addr) : Obj := PySem.W.kxs_mw "ValueError.__init__" a
section
variable {X : Cx} {pins : List (Addr × Obj)} {σ : L2.St} {H : Hp} {s : Shared} {a C u : Addr} {Q : Value → Shared → Prop} {E : Value → Shared → Prop}
/-- the bound ValueError.__init__ -/
theorem omw_ok {us : List Value} (T : OexC X.K C) (I : Inv X pins σ H s) (e : H a = some (exo a C none)) (hu : s.heap.get? u = some (mwO a)) (hl : us.length ≤ sizeLine) (h : ∀ s', Inv X pins σ H s' → Q .none s') :
    wpAny (model X.prog X.w) X.A (call (.ref u) us) Q E s := by
  obtain ⟨nm, q, N, bs, bm, sn, sub, ab, col, dd, k0, k1, k2, k3, k5, hC, hbm⟩ := T.cls
  obtain ⟨t1, ho⟩ := exo_at I.hok e
  obtain ⟨hp, g, d, t, os⟩ := s
  refine wpAny_call (codeAny_of_tree ?_)
  show wpAny _ X.A.in1 (callAny (.ref u) ⟨us, []⟩) _ _ _
  simp only [callAny]
  refine wpAny_bind (wpAny_load hu ?_)
  simp only [mwO, PySem.W.kxs_mw, show (Value.type "method-wrapper" == Value.type "method" || Value.type "method-wrapper" == Value.type "builtin_function_or_method" || Value.type "method-wrapper" == Value.type "method-wrapper") = true by decide, if_true]
  refine PySem.W.KFB.if_so (by decide) ?_
  refine wpAny_bind (PySem.W.check_bound_init F.excBase_ValueError.toExcCallFacts (I.kIn _ _ hC) ho rfl ?_)
  refine wpAny_bind (wpAny_pure (wpAny_pure ?_))
  have fin : ∀ h' t2, (∀ b o, b ≠ a → hp.get? b = some o → h'.get? b = some o) → h'.get? a = some (PySem.HandSPX.excO C t2) → Q .none ⟨h', g, d, t, os⟩ := fun h' t2 k hx => by
    have J := I.write (t' := t) (x := a) (e := a) (o := exo a C none) (by rw [e]; exact True.intro) (.inl rfl) k ⟨_, hx⟩ (exo_ok hx)
    have eu : upd H a (exo a C none) = H := by
      funext b
      by_cases hb : b = a
      · rw [hb, upd_same, e]
      · rw [upd_ne hb]
    rw [eu] at J
    exact h _ J
  refine ⟨PySem.plainId_quiet F.excBase_ValueError.init.plain _, codeAny_builtin F.excBase_ValueError.initEntry ?_⟩
  exact PySem.W.exc_init_tree (e := a) (t0 := t1) (cls := .ref C) (dv := none) (c2 := .none) (c3 := .none) (b4 := .bool false) ho hl fun h' k e' t' => fin h' _ k e'
end
theorem boot_super : bootBuiltins "super" = some (.type "super") := by kernel_rfl
/-- where the class stands whose __init__ says super().__init__(e); self.f = x -/
structure InitAt (P : Program) (K : PySem.W.Frag) (mg : Str → Option Value) (C : Addr) (x : Str) (e : Expr) where
  T : OexC K C
  fI : Addr
  cc : Addr
  F : NF
  fd : FuncData
  lk : ∃ (dV kV doc pm ct oc : Value) (an od : Option Addr) (osl : Array (Option Value)), fd = PySem.W.ksFn F.name F.qual F.params F.body F.scope dV kV doc pm an (.ref F.c) ct cc ∧ K.lookup fI = some ⟨oc, od, .func fd, osl⟩
  cl : F.cl = [(("__class__" : Str), cc)]
  hcd : PySem.W.codeIn K (.ref F.c) F.qual = true
  cell : ∃ (cv : Value) (cld : Option Addr) (csl : Array (Option Value)), K.lookup cc = some ⟨cv, cld, .cell (some (.ref C)), csl⟩
  code : ∃ (ccl : Value) (cdd : Option Addr) (ccs : Array (Option Value)) (vs : Array Value) (file : Str) (tf : Tok), K.lookup F.c = some ⟨ccl, cdd, .fields vs, ccs⟩ ∧ vs[2]? = some (.str file tf) ∧ ((P.main.file : Str) == file) = true
  top : (P.main.scope.names.lookup ("super" : Str)).isSome = false
  sup : mg "super" = none
  S : NScope ["self", x, "__class__"] ["self", x] ["__class__"] F.scope
  ks : F.scope.names.lookup ("super" : Str) = some NameKind.globalImplicit
  ar : ∃ ar : Arg, (F.params.posonlyargs ++ F.params.args).head? = some ar ∧ ar.arg = "self"
  along : PySem.W.ks_superIn K C C "__init__" = some (some (.builtin "ValueError.__init__"))
  stat : PySem.W.nsIn K PySem.cStatics "thirdparty.any" = some none
  isVE : PySem.W.subIn K (.ref C) (.type "ValueError") = some true
  mroC : PySem.W.mroIn K C (.ref C) = some true
  no : PySem.W.findIn K (.ref C) x = some none
  init : PySem.W.findIn K (.ref C) "__init__" = some (some (.ref fI))
  fty : PySem.W.typeIn K (.ref fI) = some (.type "function")
  binds : Binds K fd ["self", x] []
  body : ∃ p0 p1 p2 p3 p4 p5 p6 p7 p8, F.body = [.Expr (.Call (.Attribute (.Call (.Name "super" p0) [] [] p1) "__init__" p2) [e] [] p3) p4, .Assign [.Attribute (.Name "self" p5) x p6] (.Name x p7) p8] ∧
    ∀ env : Env, ∃ pl : Sem Bool, eval (.Call (.Attribute (.Call (.Name "super" p0) [] [] p1) "__init__" p2) [e] [] p3) env = (do
      let ov ← attributeBase (.Call (.Name "super" p0) [] [] p1) "__init__" env (eval (.Call (.Name "super" p0) [] [] p1) env)
      standAt p2.atName
      let (f, first) ← holding [ov] (getMethod ov "__init__" pl)
      callWith p3 f first (backTo p3 (starEach [e] env)) [])
section
variable {P : Program} {w : World} {K : PySem.W.Frag} {mg : Str → Option Value} {base : Heap} {C : Addr} {x : Str} {e : Expr}
def spInit (C : Addr) (x : Str) (ok : V → Prop) : Sp := fun vs H Q _ => ∃ a v, vs = [.ref a, v] ∧ ok v ∧ H a = some (exo a C none) ∧ ∀ d, H d = none → d ≠ a → Q .non (upd (upd H d (exd d [(x, v)])) a (exo a C (some d)))
theorem init_ok {CX : CXT} {ok : V → Prop} {u0 : Str} {ji : Nat} {q0 q1 q2 jp : Pos} (M : InitAt P K mg C x (.JoinedStr [.Constant (.str u0) ji q0, .FormattedValue (.Name x q1) (-1) none q2] jp)) (hx : ("self" == x) = false) (k : Nat)
    (he : ∀ (A : Around) (outer : List Env) (s : Shared) (H : Hp) (E : XK), Room k (A.deeper (envF M.F M.fI s.heap.objs.size)) →
      ∃ t, PA (ncx CX P w K mg base ["self", x, "__class__"] M.F M.fI A outer s H E) [.JoinedStr [.Constant (.str u0) ji q0, .FormattedValue (.Name x q1) (-1) none q2] jp] t ∧ ∀ a v (ws : List (Option V)) H' (Q : List V → Hp → Prop), ok v → (∀ y, Q [y] H') → t (startF ["self", x, "__class__"] [.ref a, v] ws) H' Q)
    (hdx : (x == ("__debug__" : Str)) = false) (hcx : (x == ("__classdict__" : Str)) = false) :
    FnOk P w K mg base CX (k + 1) M.fI M.fd ["self", x] (spInit C x ok) := by
  refine ⟨fun vs H Q E h => by obtain ⟨a, v, rfl, _⟩ := h; rfl, fun A outer s H args us vs Q E hr e0 hb r hsp => ?_⟩
  obtain ⟨dV, kV, doc, pm, ct, oc, an, od, osl, hfd, lk⟩ := M.lk
  obtain ⟨cv, cld, csl, lcc⟩ := M.cell
  obtain ⟨a, v, rfl, okv, ha, hq⟩ := hsp
  have S := M.S
  have KX : K.In s.heap := e0.mod.kin.keeps fun b o e => (e0.bs b o e).1
  have lim : s.heap.NoLimit := e0.mod.nolimit.keeps fun b o e => (e0.bs b o e).1
  have ccN : H M.cc = none := (e0.bs _ _ (e0.mod.kin _ _ lcc)).2
  have CA : CellsAt M.F.cl ["__class__"] [some (.ref C)] s.heap H := by
    rw [M.cl]
    refine ⟨rfl, fun y c e => ?_, fun y z c e1 e2 => ?_, fun i y e => ?_⟩
    · simp only [List.lookup] at e
      split at e
      · cases e
        exact ⟨ccN, _, _, KX _ _ lcc, rfl⟩
      · cases e
    · simp only [List.lookup] at e1 e2
      split at e1
      · rename_i h1
        split at e2
        · rename_i h2
          rw [beq_iff_eq.mp h1, beq_iff_eq.mp h2]
        · cases e2
      · cases e1
    · cases i with
      | zero =>
        cases e
        exact ⟨M.cc, rfl, fun v e => by cases e; exact ⟨.ref C, rfl, _, KX _ _ lcc, rfl⟩⟩
      | succ i => simp at e
  have env0 : PySem.W.ksEnv M.F.qual M.F.scope s.heap.objs.size M.fI (.ref M.F.c) M.cc = envF M.F M.fI s.heap.objs.size := by
    show PySem.W.envX M.F.qual M.F.scope s.heap.objs.size M.fI (.ref M.F.c) [("__class__", M.cc)] = PySem.W.envX M.F.qual M.F.scope s.heap.objs.size M.fI (.ref M.F.c) M.F.cl
    rw [M.cl]
  rw [hfd] at lk hb
  refine PySem.ks_codeAny_call_defAt (body := M.F.body) (binds := (["self", x] : List Str).zip us) hr.depth (KX _ _ lk) rfl lim (PySem.W.codeRec_of KX M.hcd) rfl hb S.nocell (fun y hy => S.par y.1 (List.of_mem_zip hy).1) (fun h₁ hns kp => ?_) S.co S.gen S.kind
  show PySem.wpAt (model P w) (A.deeper (PySem.W.ksEnv M.F.qual M.F.scope s.heap.objs.size M.fI (.ref M.F.c) M.cc)) (.func M.F.body (PySem.W.ksEnv M.F.qual M.F.scope s.heap.objs.size M.fI (.ref M.F.c) M.cc)) (execs M.F.body (PySem.W.ksEnv M.F.qual M.F.scope s.heap.objs.size M.fI (.ref M.F.c) M.cc)) _
    (fun e s' => wpAny (model P w) (A.deeper (PySem.W.ksEnv M.F.qual M.F.scope s.heap.objs.size M.fI (.ref M.F.c) M.cc)) (leaving (PySem.W.ksEnv M.F.qual M.F.scope s.heap.objs.size M.fI (.ref M.F.c) M.cc) e) (fun _ s'' => CX outer H s E e s'') (fun e' s'' => CX outer H s E e' s'') s') _
  rw [env0]
  have I : Inv (ncx CX P w K mg base ["self", x, "__class__"] M.F M.fI A outer s H E) [] (startF ["self", x, "__class__"] [.ref a, v] [some (.ref C)]) H { s with heap := h₁, toks := s.toks + ((["self", x] : List Str).zip us).length } :=
    inv_startN S hr.hd e0 rfl r CA hns kp
  obtain ⟨p0, p1, p2, p3, p4, p5, p6, p7, p8, hbody, hcall⟩ := M.body
  obtain ⟨pl, hcall⟩ := hcall (envF M.F M.fI s.heap.objs.size)
  obtain ⟨ccl, cdd, ccs, vs0, file, tf, lcd, hvs, hfile⟩ := M.code
  obtain ⟨ar, har, hself⟩ := M.ar
  obtain ⟨nm, q, NN, bs, bm, sn, sub, ab, col, dd, k0, k1, k2, k3, k5, hC, hbm⟩ := M.T.cls
  obtain ⟨t, hPA, htq⟩ := he A outer s H E (hr.deeper _)
  have hcl : PySem.W.clsIn K C = some { name := nm, bases := bs, mro := .ref C :: bm, ns := NN, qualname := q, hasDict := true, slotNames := sn, subclasses := sub, abstract := ab, collection := col, hasDel := false } := by
    unfold PySem.W.clsIn
    rw [hC] <;> rfl
  have halong := M.along
  unfold PySem.W.ks_superIn at halong
  rw [hcl] at halong
  have hkc : (envF M.F M.fI s.heap.objs.size).kindOf "__class__" = some .free := S.frk _ (by simp)
  have hks : (envF M.F M.fI s.heap.objs.size).kindOf "super" = some .globalImplicit := M.ks
  have hkl : (envF M.F M.fI s.heap.objs.size).kindOf "self" = some .local := S.par _ (by simp)
  have fin : ∀ (pins : List (Addr × Obj)) (fl : Flow) (s' : Shared), SP (ncx CX P w K mg base ["self", x, "__class__"] M.F M.fI A outer s H E) pins { nx := fun _ H' => Q .non H', rt := Q } fl s' → CR CX outer P w H s Q E (.ok (.ret (match fl with | .ret v => v | _ => .none))) s' := fun pins fl s' hs => by
    have fin1 : ∀ {σ' : L2.St} {H' : Hp} {v : V} {u : Value}, Inv (ncx CX P w K mg base ["self", x, "__class__"] M.F M.fI A outer s H E) pins σ' H' s' → L2.RelV v u → Q v H' → CE outer P w H s Q u s' :=
      fun {σ' H' v u} J rv q => ⟨v, H', J.os, J.bare, J.base, J.hok, rv, q⟩
    cases fl with
    | ret u =>
      obtain ⟨v, σ', H', J, rv, q⟩ := hs
      exact fin1 J rv q
    | next =>
      obtain ⟨σ', H', J, q⟩ := hs
      exact fin1 (v := V.non) (u := Value.none) J rfl q
    | brk =>
      obtain ⟨_, _, _, q⟩ := hs
      exact False.elim q
    | cont =>
      obtain ⟨_, _, _, q⟩ := hs
      exact False.elim q
  rw [show execs M.F.body (envF M.F M.fI s.heap.objs.size) = execs [.Expr (.Call (.Attribute (.Call (.Name "super" p0) [] [] p1) "__init__" p2) [.JoinedStr [.Constant (.str u0) ji q0, .FormattedValue (.Name x q1) (-1) none q2] jp] [] p3) p4, .Assign [.Attribute (.Name "self" p5) x p6] (.Name x p7) p8] (envF M.F M.fI s.heap.objs.size) from congrArg (fun b => execs b (envF M.F M.fI s.heap.objs.size)) hbody]
  refine PySem.ks_wpAt_execs_cons (PySem.ks_wpAt_Expr_any (PySem.ks_wpAt_MethodCall (pl := pl) ?_ hcall) I.quiet)
  refine PySem.ks_wpAt_super_base (f := M.fI) (cc := M.F.c) hks hkc (by decide) rfl (I.kIn _ _ lk) rfl har rfl (I.kIn _ _ lcd) rfl hvs hfile M.top ?_
  obtain ⟨mb, hb1, hb2⟩ := I.mod.blt
  refine PySem.W.ks_loadName_global S.kind hks (Calls.loadGlobal_builtin (I.mod.glob.keeps I.bk) M.sup (hb1.keeps I.bk) ((hb2 "super" (by decide)).trans boot_super) ⟨rfl, ?_⟩)
  refine wpAny_loadName_free S.kind hkc (c := M.cc) (by show M.F.cl.lookup ("__class__" : Str) = _; rw [M.cl]; rfl) ⟨_, I.kIn _ _ lcc, rfl⟩ ?_
  obtain ⟨m, hns2, hlook⟩ := I.loc
  have hmself : m "self" = some (.ref a) := by
    obtain ⟨u, ru, lk⟩ := hlook 0 "self" (.ref a) rfl rfl (.inl (S.par _ (by simp)))
    cases ru
    rcases lk with ⟨_, h⟩ | ⟨h1 | h1, _⟩
    · exact h
    · rw [show (ncx CX P w K mg base ["self", x, "__class__"] M.F M.fI A outer s H E).env = envF M.F M.fI s.heap.objs.size from rfl, hkl] at h1
      cases h1
    · rw [show (ncx CX P w K mg base ["self", x, "__class__"] M.F M.fI A outer s H E).env = envF M.F M.fI s.heap.objs.size from rfl, hkl] at h1
      cases h1
  rw [hself]
  refine wpAny_loadName_local S.kind hkl hns2 hmself ?_
  obtain ⟨t1, hoa⟩ := exo_at I.hok ha
  refine ks_wpAny_isType_cls (I.kIn _ _ hC) rfl ⟨rfl, ?_⟩
  refine ks_wpAny_call_super (I.kIn _ _ hC) rfl hoa rfl (fun c e => nomatch e) (PySem.W.looks_mroIn I.kIn M.mroC) (fun h2 hso k2 => ?_)
  have I2 := I.kept (t' := s.toks + ((["self", x] : List Str).zip us).length) k2
  have IA : PySem.W.InstAt h2 a { cls := .ref C, dict := none, data := .fields #[.ref t1, .none, .none, .none, .bool false, .none] } C none := ⟨k2 _ _ hoa, rfl, rfl, trivial⟩
  refine PySem.W.kxs_getMethod PySem.W.kxs_ValueError hso (PySem.W.looks_opaque I2.kIn M.stat) (l₀ := .ref C :: bm) (fun A Q E s k q => wpAny_bind ((PySem.W.looks_clsIn I2.kIn hcl) A _ E s k (wpAny_pure q))) rfl I2.kIn halong (IA.type.andThen (PySem.W.looks_subIn I2.kIn M.isVE)) (PySem.W.ks_ne I2.kIn IA hcl) (by decide) ?_
  have I3 := I2.kept (h' := h2.push (mwO a)) (t' := s.toks + ((["self", x] : List Str).zip us).length + 1) (fun b o e => Heap.get?_push_of_some _ e)
  have I4 : Inv (ncx CX P w K mg base ["self", x, "__class__"] M.F M.fI A outer s H E) [(h2.objs.size, mwO a)] _ H _ := I3.pins_of fun p hp => by
    cases List.mem_singleton.mp hp
    exact ⟨Heap.get?_push_size h2 rfl, I2.hok.fresh (Nat.le_refl _), Nat.ne_of_gt I2.lt, I2.nofs (Nat.le_refl _), fun v e => nomatch e⟩
  have hst0 : starEach [.JoinedStr [.Constant (.str u0) ji q0, .FormattedValue (.Name x q1) (-1) none q2] jp] (envF M.F M.fI s.heap.objs.size) = (false, eval (.JoinedStr [.Constant (.str u0) ji q0, .FormattedValue (.Name x q1) (-1) none q2] jp) (envF M.F M.fI s.heap.objs.size)) :: starEach [] (envF M.F M.fI s.heap.objs.size) := by rfl
  have run := hPA.run p3 _ _ _ _ (fun ys H1 => H1 = H ∧ ys.length = 1) I4 (htq a v _ H _ okv fun y => ⟨rfl, rfl⟩)
  show wpAny _ _ (callWith p3 (.ref h2.objs.size) [] (backTo p3 (starEach [.JoinedStr [.Constant (.str u0) ji q0, .FormattedValue (.Name x q1) (-1) none q2] jp] (envF M.F M.fI s.heap.objs.size))) []) _ _ _
  have run' : wpAny (model P w) (A.deeper (envF M.F M.fI s.heap.objs.size)) (spliced (backTo p3 (starEach [.JoinedStr [.Constant (.str u0) ji q0, .FormattedValue (.Name x q1) (-1) none q2] jp] (envF M.F M.fI s.heap.objs.size)))) _ _ _ := run
  rw [hst0] at run' ⊢
  refine PySem.W.kxs_callWith (i := "ValueError.__init__") (x := a) rfl ?_
  refine PySem.Calls.evalArgs_plain ?_
  show wpAny (model P w) (A.deeper (envF M.F M.fI s.heap.objs.size)) (spliced (backTo p3 ((false, eval (.JoinedStr [.Constant (.str u0) ji q0, .FormattedValue (.Name x q1) (-1) none q2] jp) (envF M.F M.fI s.heap.objs.size)) :: starEach [] (envF M.F M.fI s.heap.objs.size)))) _ _ _
  refine wpAny_mono run' (fun ys s1 hy => ?_) fun _ _ x => x
  obtain ⟨zs, H1, I5, r5, eH, hl5⟩ := hy
  rw [eH] at I5
  have hu := (I5.pin (h2.objs.size, mwO a) (List.mem_append_right _ (List.mem_singleton.mpr rfl))).1
  refine ⟨hu, ?_⟩
  refine omw_ok M.T I5 ha hu (by show ([] ++ ys).length ≤ _; rw [List.nil_append, ← r5.length, hl5]; decide) fun s2 J => ?_
  show PySem.wpAt _ _ _ (execs [.Assign [.Attribute (.Name "self" p5) x p6] (.Name x p7) p8] (envF M.F M.fI s.heap.objs.size)) _ _ _
  refine wpAt_of_wpAny ?_
  have hself2 : Vis M.F.scope "self" := .inl (S.par _ (by simp))
  have hx2 : Vis M.F.scope x := .inl (S.par _ (by simp))
  have ps : PSs (ncx CX P w K mg base ["self", x, "__class__"] M.F M.fI A outer s H E) [.Assign [.Attribute (.Name "self" p5) x p6] (.Name x p7) p8] _ := pss_one (ps_ost (pe_var (i := 0) rfl hself2) (pe_var (i := 1) rfl hx2 hdx hcx))
  refine wpAny_mono (ps.run _ s2 _ H { nx := fun _ H' => Q .non H', rt := Q } J ?_) (fun fl s' hs => fin _ fl s' hs) fun _ _ h => h
  exact ⟨v, rfl, .ref a, rfl, a, C, rfl, M.T, M.no, .inl ⟨ha, fun dx hn hne => hq dx hn hne⟩⟩
end
end PyM

-- PyM2
set_option maxRecDepth 100000
set_option maxHeartbeats 4000000
noncomputable section
namespace PyM
open PySem PySem.Spec PyProof.Rows L2 PyD
/-! ### C(v), C's __init__ as told: an exception with a field, its context None -/
section
variable {X : Cx} {C : Addr} {x y : Str} {e e1 : Expr} {pos p : Pos} {ok : V → Prop} {k : Nat}
theorem pmk_many {t : TA} (M : InitAt X.prog X.K X.mg C x e) (FO : FnOk X.prog X.w X.K X.mg X.base (L2N.CX X.prog X.w) k M.fI M.fd ["self", x] (spInit C x ok)) (hr : Room (k + 1) X.A) (hg : Gl X y) (hm : X.mg y = some (.ref C)) (ha : PA X [e1] t)
    (hdb : (y == ("__debug__" : Str)) = false := by decide) (he : starEach [e1] X.env = (false, eval e1 X.env) :: starEach [] X.env := by rfl) :
    L2N.PMk X (.Call (.Name y p) [e1] [] pos) (fun g H Q => t g H fun vs H1 => ∃ v, vs = [v] ∧ ok v ∧ ∀ d, H1 d = none → Q (.ref C) (some d) (upd H1 d (.xd [(x, v)]))) := by
  intro pins s g H Q I h
  have T := M.T
  obtain ⟨nm, q, N, bs, bm, sn, sub, ab, col, dd, k0, k1, k2, k3, k5, hC, hbm⟩ := T.cls
  refine wpAny_Call_Name_kw (ld_glob I hg hm ?_ hdb)
  refine PySem.W.callWith_K (h₀ := X.base) I.ok.mod.kin T.kC (thn (ha.run pos pins s g H _ I h) fun us s1 hvs => ⟨?_, ?_⟩) he rfl
  · obtain ⟨vs, H1, I1, r1, v, rfl, okv, q1⟩ := hvs
    exact I1.kIn
  obtain ⟨vs, H1, I1, r1, v, rfl, okv, q1⟩ := hvs
  show wpAny _ _ (call (.ref C) us) _ _ _
  obtain ⟨hp, gs, dr, tk, os⟩ := s1
  have lt1 : hp.objs.size ≤ hp.objs.size + 1 := Nat.le_succ _
  have nE : H1 (hp.objs.size + 1) = none := I1.hok.fresh lt1
  have up2 : ∀ b o, hp.get? b = some o → ((hp.push (PySem.W.kdv_tup us)).push (PySem.HandSPX.excO C hp.objs.size)).get? b = some o := fun b o e => Heap.get?_push_of_some _ (Heap.get?_push_of_some _ e)
  have gE : ((hp.push (PySem.W.kdv_tup us)).push (PySem.HandSPX.excO C hp.objs.size)).get? (hp.objs.size + 1) = some (PySem.HandSPX.excO C hp.objs.size) := by heap_get
  have I2 := I1.laid (t' := tk) (o := exo (hp.objs.size + 1) C none) up2 lt1 (exo_ok gE)
  have r2 : Vals [V.ref (hp.objs.size + 1), v] (Value.ref (hp.objs.size + 1) :: us) := .cons rfl r1
  have hl : (Value.ref (hp.objs.size + 1) :: us).length = 2 := by rw [← r2.length]; rfl
  have hus : us.length ≤ sizeLine := by
    rw [← r1.length]
    show 1 ≤ sizeLine
    decide
  have hsp : spInit C x ok [V.ref (hp.objs.size + 1), v] (upd H1 (hp.objs.size + 1) (exo (hp.objs.size + 1) C none))
      (fun r H2 => r = .non ∧ ∃ d, H1 d = none ∧ d ≠ hp.objs.size + 1 ∧ H2 = upd (upd (upd H1 (hp.objs.size + 1) (exo (hp.objs.size + 1) C none)) d (exd d [(x, v)])) (hp.objs.size + 1) (exo (hp.objs.size + 1) C (some d))) (fun _ _ _ => False) :=
    ⟨_, v, rfl, okv, upd_same, fun d hd hne => ⟨rfl, d, by rw [upd_ne hne] at hd; exact hd, hne, rfl⟩⟩
  have hbb := M.binds ⟨(hp.push (PySem.W.kdv_tup us)).push (PySem.HandSPX.excO C hp.objs.size), gs, dr, tk, os⟩ (Value.ref (hp.objs.size + 1) :: us) I2.kIn (by rw [List.append_nil]; exact hl)
  rw [List.append_nil] at hbb
  have pass : Passes (L2N.CX X.prog X.w) X (fun _ _ _ => False) := passLN
  refine wpAny_call (PySem.HandSPX.call_own F.excBase_ValueError (fun Y => PySem.HandSPX.refsVE_contains Y bm hbm) (I1.kIn _ _ hC) (PySem.W.looks_findIn I1.kIn M.init) (fun self => PySem.W.bind_fn I1.kIn self M.fty) hus
    (codeAny_mono (FO.run _ X.stack _ _ ⟨Value.ref (hp.objs.size + 1) :: us, []⟩ (Value.ref (hp.objs.size + 1) :: us) _ _ (fun _ _ _ => False) (hr.make C us []) (I2.env0.make C us []) hbb r2 hsp) fun r s' hq' => ?_))
  cases r with
  | error er => exact pass pins _ _ _ er s' I2 hq'
  | ok fl =>
    cases fl with
    | ret u =>
      obtain ⟨z, H2, os2, bare2, un2, hok2, rv, rfl, d, hd1, hdne, rfl⟩ := hq'
      obtain ⟨h2, g2, d2, t2, os'⟩ := s'
      have ea : (upd (upd (upd H1 (hp.objs.size + 1) (exo (hp.objs.size + 1) C none)) d (exd d [(x, v)])) (hp.objs.size + 1) (exo (hp.objs.size + 1) C (some d))) (hp.objs.size + 1) = some (exo (hp.objs.size + 1) C (some d)) := upd_same
      have ed : (upd (upd (upd H1 (hp.objs.size + 1) (exo (hp.objs.size + 1) C none)) d (exd d [(x, v)])) (hp.objs.size + 1) (exo (hp.objs.size + 1) C (some d))) d = some (exd d [(x, v)]) := by rw [upd_ne hdne, upd_same]
      obtain ⟨t0, G, J, kG, ge, hoe, na⟩ := mk_end0 (d2 := d2) (t2 := t2) I1 lt1 up2 un2 hok2 os2 bare2 ea ed hd1
      have eH : upd (del (upd (upd (upd H1 (hp.objs.size + 1) (exo (hp.objs.size + 1) C none)) d (exd d [(x, v)])) (hp.objs.size + 1) (exo (hp.objs.size + 1) C (some d))) (hp.objs.size + 1)) d (.xd [(x, v)]) = upd H1 d (.xd [(x, v)]) := by
        funext b
        by_cases hb : b = d
        · rw [hb, upd_same, upd_same]
        · rw [upd_ne hb, upd_ne hb]
          by_cases ha : b = hp.objs.size + 1
          · rw [ha, del_same, nE]
          · rw [del_ne ha, upd_ne ha, upd_ne hb, upd_ne ha]
      rw [eH] at J na
      refine ⟨rv, hp.objs.size + 1, _, _, ⟨G, g2, d2, t2, os'⟩, upd H1 d (.xd [(x, v)]), .ref C, some d, rfl, J, kG, ge, hoe, ⟨rfl, rfl, fun vs e => ?_⟩, rfl, rfl, na, rfl, bare2, raises_own T.exC T.tyC, q1 d hd1⟩
      cases e
      rfl
    | next => exact False.elim hq'
    | brk => exact False.elim hq'
    | cont => exact False.elim hq'
end
/-- raise C(d), d an int that becomes its field -/
def raiseMS (ok : Int → Bool) (cls : Str) (hs : Den (List D)) : SDen := bindS hs fun ds r M => match ds with
  | [.int z] => if ok z = true then some (.ex ⟨cls, some (.int z)⟩, r, M) else none
  | _ => none
def isIntV (ok : Int → Bool) (v : V) : Prop := ∃ z, v = .int z ∧ ok z = true
/-- the text u with the int behind it can be made -/
def okText (u : Str) (z : Int) : Bool := decide (z.natAbs.log2 < 1900) && (decide ((Str.empty ++ u).length ≤ 100000) && decide (((Str.empty ++ u) ++ toString z).length ≤ 100000))
section
variable {X : Cx} {c : Cfg} {C : Addr} {x y : Str} {e e1 : Expr} {pos p pos' : Pos} {k : Nat} {hs : Den (List D)} {ok : Int → Bool}
theorem ds_raiseM (hc : X.calm = true) (tk : L2N.Takes X (fun cls d _ H => c.W cls d H)) (M : InitAt X.prog X.K X.mg C x e) (FO : FnOk X.prog X.w X.K X.mg X.base (L2N.CX X.prog X.w) k M.fI M.fd ["self", x] (spInit C x (isIntV ok))) (hr : Room (k + 1) X.A) (hg : Gl X y) (hm : X.mg y = some (.ref C))
    (hcm : c.mg y = some (.ref C)) (hf : c.fl y = some x) (ha : PA X [e1] (sA c hs)) (hdb : (y == ("__debug__" : Str)) = false := by decide) (hst : starEach [e1] X.env = (false, eval e1 X.env) :: starEach [] X.env := by rfl) :
    PS X (.Raise (some (.Call (.Name y p) [e1] [] pos)) none pos') (sS c (raiseMS ok y hs)) := PS.imp (L2N.ps_raise hc tk (pmk_many M FO hr hg hm ha hdb hst)) fun Ds g H s => by
  refine sS.bind s fun ds vs r M1 io1 H1 re rs ra run => ?_
  obtain ⟨fl, r', M', eq, z⟩ := run
  dsimp only at eq
  split at eq
  · rename_i zz
    split at eq
    · rename_i hok
      cases eq
      cases ra with
      | cons r1 r2 =>
        cases r2
        cases r1
        exact ⟨.int zz, rfl, ⟨zz, rfl, hok⟩, fun d hd => z io1 (upd H1 d (.xd [(x, .int zz)])) (Ext.tupNew hd) (rs.tupNew hd) (.ref C) (some d) ⟨hcm, x, d, .int zz, hf, rfl, upd_same, .int _⟩⟩
    · cases eq
  · cases eq
end
/-- .. that says super().__init__(f".. {x}") -/
theorem init_fstr {P : Program} {w : World} {K : PySem.W.Frag} {mg : Str → Option Value} {base : Heap} {C : Addr} {x u : Str} {p0 p1 p2 p3 : Pos} {i : Nat} (M : InitAt P K mg C x (.JoinedStr [.Constant (.str u) i p0, .FormattedValue (.Name x p1) (-1) none p2] p3)) (hx : ("self" == x) = false)
    (hdx : (x == ("__debug__" : Str)) = false) (hcx : (x == ("__classdict__" : Str)) = false) :
    FnOk P w K mg base (L2N.CX P w) 1 M.fI M.fd ["self", x] (spInit C x (isIntV (okText u))) :=
  init_ok M hx 0 (fun A outer s H E hr => ⟨_, pa_cons (pe_joined (.cons pe_str (.cons (pe_fmt (pe_var (i := 1) rfl (.inl (M.S.par _ (by simp))) hdx hcx)) .nil))) pa_nil, fun a v ws H' Q okv hq => by
    obtain ⟨z, rfl, hz⟩ := okv
    unfold okText at hz
    rw [Bool.and_eq_true, Bool.and_eq_true] at hz
    have h1 := of_decide_eq_true hz.1
    have h2 := of_decide_eq_true hz.2.1
    have h3 := of_decide_eq_true hz.2.2
    refine ⟨_, rfl, big_le h2, .int z, rfl, .inr ⟨z, rfl, by omega, ?_⟩⟩
    exact ⟨_, rfl, big_le h3, hq _⟩⟩) hdx hcx
/-- where a class stands -/
structure ClsN (K : PySem.W.Frag) (mg : Str → Option Value) (y : Str) where
  a : Addr
  m : mg y = some (.ref a)
end PyM

-- PyM5
set_option maxRecDepth 100000
set_option maxHeartbeats 4000000
noncomputable section
namespace PyM
open PySem PySem.Spec PyProof.Rows L2 PyD PyL
/-! ### the law's first steps: the script is read once, two numbers are drawn of it -/
def cellOf (ns : List Int) : Int := if (ns ++ [0]).headD 0 < 0 then -((ns ++ [0]).headD 0) else (ns ++ [0]).headD 0
section
variable {P : Program} {w : World} {K : PySem.W.Frag} {mg : Str → Option Value} {base : Heap}
/-- a def whose first statement is read by hand, the others as data -/
theorem fn_mixed {W : Cfg → Prop} {x qual : Str} {st s0 : Stmt} {rest : List Stmt} {f : Addr} {fd : FuncData} {N ps : List Str} {k : Nat} {t0 : TS} {b : SDen} {sp : Sp} (F : Fun K x qual st f fd) (S : FnScope N ps (defScope st)) (hst : defBody st = s0 :: rest)
    (hl : ∀ vs H Q E, sp vs H Q E → vs.length = ps.length)
    (hb : ∀ (cdv : Value) (A : Around) (outer : List Env) (s : Shared) (H : Hp) (E : XK), Room k (A.deeper (envOfC qual (defScope st) s.heap.objs.size f cdv)) → fd.code = cdv →
      ∃ c : Cfg, W c ∧ PS (cxOf (L2N.CX P w) P w K mg base N qual (defScope st) f cdv A outer s H E) s0 t0 ∧ PSs (cxOf (L2N.CX P w) P w K mg base N qual (defScope st) f cdv A outer s H E) rest (sS c b))
    (hsp : ∀ (c : Cfg) vs H Q E, W c → sp vs H Q E → tSeq t0 (sS c b) { nx := fun _ H' => Q .non H', rt := Q } (L2.start N vs) H) : FnOk P w K mg base (L2N.CX P w) (k + 1) f fd ps sp := by
  obtain ⟨oc, od, kV, doc, pm, an, cdv, ct, osl, rfl, lk, hcd⟩ := F.ex
  refine fn_of lk hcd S hl (fun A outer s H vs Q E hr h => ?_)
  obtain ⟨c, hW, p0, p1⟩ := hb cdv A outer s H E hr rfl
  refine ⟨_, ?_, hsp c vs H Q E hW h⟩
  rw [hst]
  exact pss_cons p0 p1
/-- x = abs((list(script) + [0])[0]) -/
def tCell (K : PySem.W.Frag) (i j : Nat) : TS := fun D σ H => ∃ (a : Addr) (ns : List Int), σ[i]? = some (some (.ref a)) ∧ SqL K H a (ns.map V.int) ∧ ns.length + 1 ≤ sizeLine ∧ ∀ p q r H1, H p = none → (upd H p (.lst (ns.map V.int))) q = none → (upd (upd H p (.lst (ns.map V.int))) q (.lst [.int 0])) r = none →
  H1 = upd (upd (upd H p (.lst (ns.map V.int))) q (.lst [.int 0])) r (.lst (ns.map V.int ++ [.int 0])) → D.nx (σ.set j (some (.int (cellOf ns)))) H1
theorem ps_cell {X : Cx} {i j : Nat} {s0 : Str} {p0 : Pos} {y : Str} {p1 p2 p3 p4 p5 p6 p7 p8 p9 p10 p11 : Pos} {k1 k2 : Nat} (hs : PE X (.Name s0 p0) (tVar i)) (hy : PG X (.Name y p1) (gName j)) (g1 : Gl X "abs") (m1 : X.mg "abs" = none) (g2 : Gl X "list") (m2 : X.mg "list" = none) (hsw : swapsWith (.Call (.Name "abs" p2) [.Subscript (.BinOp (.Call (.Name "list" p3) [.Name s0 p0] [] p4) .Add (.List [.Constant (.int 0) k1 p5] p6) p7) (.Constant (.int 0) k2 p8) p9] [] p10) (some (.Name y p1)) p11.line X.env = pure false := by rfl) :
    PS X (.Assign [.Name y p1] (.Call (.Name "abs" p2) [.Subscript (.BinOp (.Call (.Name "list" p3) [.Name s0 p0] [] p4) .Add (.List [.Constant (.int 0) k1 p5] p6) p7) (.Constant (.int 0) k2 p8) p9] [] p10) p11) (tCell X.K i j) :=
  PS.imp (ps_asg (pe_callB call_abs g1 m1 (by decide +kernel) (pa_cons (pe_ix ix_list (pe_op op_cat (pe_callTy call_list_of g2 m2 (by decide +kernel) (pa_cons hs pa_nil)) (pe_lst (pa_cons pe_int pa_nil))) pe_int (by intro _ _; rfl)) pa_nil)) hy hsw) fun D g H h => by
    obtain ⟨a, ns, h0, hS, hl, hq⟩ := h
    refine ⟨_, h0, a, ns.map V.int, rfl, .inl hS, fun p hp => ?_⟩
    refine ⟨by decide, fun q hq1 => ⟨p, q, ns.map V.int, [.int 0], rfl, rfl, ?_, upd_same, ?_, fun r hr => ?_⟩⟩
    · by_cases e : p = q
      · subst e
        rw [upd_same] at hq1
        cases hq1
      · rw [upd_ne e, upd_same]
    · rw [List.length_map]
      exact hl
    · refine ⟨r, ns.map V.int ++ [.int 0], 0, .int ((ns ++ [0]).headD 0), rfl, rfl, SqL.of upd_same, ?_, _, rfl, ?_⟩
      · cases ns with
        | nil => exact atI_nat (j := 0) rfl
        | cons n r => exact atI_nat (j := 0) rfl
      · exact hq p q r _ hp hq1 hr rfl
end
end PyM
namespace PyM
open PySem PySem.Spec PyProof.Rows L2 PyD PyL
def cup2 (z : Int) : Int × Int := (if 1000000000000000000 ≤ z then z / 11 else 0, (z * 193 + 1201).fmod 2077504273 + 89)
def cupOf (ns : List Int) : Int × Int := cup2 (cellOf ns)
/-- what the cup's def promises: a new list of two numbers -/
def spCup (K : PySem.W.Frag) (tb : List (Addr × Str)) : Sp := fun vs H Q _ => ∃ (a : Addr) (ns : List Int), vs = [.ref a] ∧ SqL K H a (ns.map V.int) ∧ LamX.Tabs tb H ∧ ns.length + 1 ≤ sizeLine ∧
  ∀ p H', LamX.Tabs tb H' → H' p = some (.lst [.int (cupOf ns).1, .int (cupOf ns).2]) → Q (.ref p) H'
def tCup (K : PySem.W.Frag) (tb : List (Addr × Str)) (i j : Nat) : TS := fun D σ H => ∃ (a : Addr) (ns : List Int), σ[i]? = some (some (.ref a)) ∧ SqL K H a (ns.map V.int) ∧ LamX.Tabs tb H ∧ ns.length + 1 ≤ sizeLine ∧
  ∀ p H', LamX.Tabs tb H' → H' p = some (.lst [.int (cupOf ns).1, .int (cupOf ns).2]) → D.nx (σ.set j (some (.ref p))) H'
theorem ps_cup {X : Cx} {tb : List (Addr × Str)} {fa : Addr} {fdt : FuncData} {ps : List Str} {k i j : Nat} {f y : Str} {x : Expr} {p1 p2 p3 p4 : Pos} (F : FnOk X.prog X.w X.K X.mg X.base (L2N.CX X.prog X.w) k fa fdt ps (spCup X.K tb)) (hr : Room k X.A) (hg : Gl X f) (hm : X.mg f = some (.ref fa)) (hk : PySem.W.keepIn X.K (.ref fa) = true) (hb : Binds X.K fdt ps [])
    (hx : PE X x (tVar i)) (hy : PG X (.Name y p1) (gName j)) (hdb : (f == ("__debug__" : Str)) = false := by decide) (he : starEach [x] X.env = (false, eval x X.env) :: starEach [] X.env := by rfl) (hsw : swapsWith (.Call (.Name f p2) [x] [] p3) (some (.Name y p1)) p4.line X.env = pure false := by rfl) :
    PS X (.Assign [.Name y p1] (.Call (.Name f p2) [x] [] p3) p4) (tCup X.K tb i j) :=
  PS.imp (ps_asg (pe_call (E := E0) F hr hg hm hk hb .nil passLN (pa_cons hx pa_nil he) hdb he rfl) hy hsw) fun D g H h => by
    obtain ⟨a, ns, h0, hS, hT, hl, hq⟩ := h
    exact ⟨_, h0, a, ns, rfl, hS, hT, hl, fun p H' t e => hq p H' t e⟩
/-- a law of one script: it comes to True -/
def spLaw (K : PySem.W.Frag) (tb : List (Addr × Str)) (ok : List Int → Prop) : Sp := fun vs H Q _ => ∃ (a : Addr) (ns : List Int), vs = [.ref a] ∧ SqL K H a (ns.map V.int) ∧ LamX.Tabs tb H ∧ ns.length + 1 ≤ sizeLine ∧ ok ns ∧ ∀ H', Q (.bl true) H'
/-- the law's other statements, as data, come to True -/
def runsTo (b : SDen) (n : Nat) (g c : Int) : Prop := ∃ r' M', b (none :: some (.lst 0) :: List.replicate n none) [.lst [.int g, .int c]] = some (.rt (.bl true), r', M')
section
variable {P : Program} {w : World} {K : PySem.W.Frag} {mg : Str → Option Value} {base : Heap}
theorem tabs_up {T : List (Addr × Str)} {H : Hp} {p : Addr} {o : HO} (t : LamX.Tabs T H) (n : H p = none) : LamX.Tabs T (upd H p o) := tabs_new t n
theorem cup_sp {c : Cfg} {tb : List (Addr × Str)} {b : SDen} {N : List Str} (hN : N.length = 3) (hK : c.K.f = K) (hT : c.K.T = tb) (hb : ∀ z : Int, ∃ r', b [none, some (.int z), none] [] = some (.rt (.lst 0), r', [.lst [.int (cup2 z).1, .int (cup2 z).2]]))
    {vs : List V} {H : Hp} {Q : VK} {E : XK} (h : spCup K tb vs H Q E) : tSeq (tCell K 0 1) (sS c b) { nx := fun _ H' => Q .non H', rt := Q } (L2.start N vs) H := by
  obtain ⟨a, ns, rfl, hS, ht, hl, hq⟩ := h
  have e0 : L2.start N [V.ref a] = [some (.ref a), none, none] := by
    unfold L2.start
    rw [hN]
    rfl
  rw [e0]
  refine ⟨a, ns, rfl, hS, hl, fun p q r H1 h1 h2 h3 e => ?_⟩
  obtain ⟨r', eb⟩ := hb (cellOf ns)
  subst hT
  have t1 : LamX.Tabs c.K.T H1 := by
    rw [e]
    exact tabs_up (tabs_up (tabs_up ht h1) h2) h3
  refine ⟨[none, some (.int (cellOf ns)), none], [], [], ⟨rfl, fun i d hi => ?_⟩, ⟨rfl, List.nodup_nil, t1, fun i c hi => by rw [sGet_eq] at hi; simp at hi⟩, _, _, _, eb, fun io' H' ex rs v rv => ?_⟩
  · match i, hi with
    | 1, hi =>
      cases hi
      exact ⟨_, rfl, .int _⟩
    | 0, hi => cases hi
    | 2, hi => cases hi
    | n + 3, hi => simp at hi
  · cases rv with
    | lst ei =>
      obtain ⟨xs, h4, rl⟩ := rs.lst ei rfl
      cases rl with
      | cons ra rb =>
        cases ra
        cases rb with
        | cons rc rd =>
          cases rc
          cases rd
          exact hq _ H' rs.tab h4
theorem law_sp {c : Cfg} {tb : List (Addr × Str)} {b : SDen} {N : List Str} {n : Nat} (hN : N.length = n + 2) (hK : c.K.f = K) (hT : c.K.T = tb)
    {vs : List V} {H : Hp} {Q : VK} {E : XK} (h : spLaw K tb (fun ns => runsTo b n (cupOf ns).1 (cupOf ns).2) vs H Q E) : tSeq (tCup K tb 0 1) (sS c b) { nx := fun _ H' => Q .non H', rt := Q } (L2.start N vs) H := by
  obtain ⟨a, ns, rfl, hS, ht, hl, ⟨r', M', eb⟩, hq⟩ := h
  have e0 : L2.start N [V.ref a] = some (.ref a) :: none :: List.replicate n none := by
    unfold L2.start
    rw [hN]
    rfl
  rw [e0]
  refine ⟨a, ns, rfl, hS, ht, hl, fun p H1 t1 e => ?_⟩
  subst hT
  refine ⟨none :: some (.lst 0) :: List.replicate n none, [.lst [.int (cupOf ns).1, .int (cupOf ns).2]], [p], ⟨?_, fun i d hi => ?_⟩, ⟨rfl, by simp, t1, fun i c hi => ?_⟩, _, _, _, eb, fun io' H' ex rs v rv => ?_⟩
  · simp
  · match i, hi with
    | 0, hi => cases hi
    | 1, hi =>
      cases hi
      exact ⟨_, rfl, .lst rfl⟩
    | n + 2, hi =>
      have z : (List.replicate _ (none : Option D))[n]? = some (some d) := hi
      rw [List.getElem?_replicate] at z
      split at z <;> cases z
  · match i, hi with
    | 0, hi =>
      cases hi
      exact ⟨p, _, rfl, e, _, rfl, .cons (.int _) (.cons (.int _) .nil)⟩
    | n + 1, hi => rw [sGet_eq] at hi; simp at hi
  · cases rv
    exact hq H'
end
end PyM

-- PyT2
set_option maxRecDepth 100000
set_option maxHeartbeats 4000000
noncomputable section
namespace PyT
open PySem PySem.Spec PyProof.Rows L2 PyD PyL PyM NdefX
/-! ### from the look to what the defs' terms ask -/
section
variable {K : PySem.W.Frag} {h : Heap} {mg : Str → Option Value} {w : World} {fa : List He.Fa} {fn : List He.DefD}
theorem defAt {x : Str} {st : Stmt} {ps : List Str} (X : K.In h) (G : h.Ns mainGlobals mg) (c : He.SaysD fa fn K) (hd : defD x st ∈ fn) (hg : He.Fa.glo x ∈ fa)
    (hb : ∀ (kV doc pm : Value) (an : Option Addr) (cdv ct : Value) (us : List Value), us.length = ps.length → bindArgs (PySem.W.fnOf x x (defArgs st) (defBody st) (defScope st) .none kV doc pm an cdv ct) ⟨us, []⟩ = pure (ps.zip us)) :
    ∃ T : DefAt K mg x st ps, T.a = He.ga K x ∧ ∀ (s : Shared) (us : List Value), us.length = ps.length → BindsTo s T.u ⟨us, []⟩ (ps.zip us) := by
  obtain ⟨fd, F⟩ := c.defs hd
  have F2 : FunD K x x (defArgs st) (defBody st) (defScope st) [] [] (He.ga K x) fd := F
  exact ⟨⟨He.ga K x, fd, He5.fun_of F2, He.glo_ok X G (c.facts hg), F2.bindsN hb⟩, rfl, fun s us hl => F2.bindsA hb s us hl⟩
theorem aliAt {x y : Str} {st : Stmt} {ps : List Str} (X : K.In h) (G : h.Ns mainGlobals mg) (c : He.SaysD fa fn K) (hd : (⟨(x, none), y, y, defArgs st, defBody st, defScope st, [], []⟩ : He.DefD) ∈ fn) (hg : He.Fa.glo x ∈ fa)
    (hb : ∀ (kV doc pm : Value) (an : Option Addr) (cdv ct : Value) (us : List Value), us.length = ps.length → bindArgs (PySem.W.fnOf y y (defArgs st) (defBody st) (defScope st) .none kV doc pm an cdv ct) ⟨us, []⟩ = pure (ps.zip us)) :
    ∃ T : AliAt K mg x y st ps, True := by
  obtain ⟨fd, F⟩ := c.defs hd
  have F2 : FunD K y y (defArgs st) (defBody st) (defScope st) [] [] (He.ga K x) fd := F
  exact ⟨⟨He.ga K x, fd, He5.fun_of F2, He.glo_ok X G (c.facts hg), F2.bindsN hb⟩, trivial⟩
theorem methAt {C m q : Str} {st : Stmt} {ps : List Str} (c : He.SaysD fa fn K) (hd : (⟨(C, some m), m, q, defArgs st, defBody st, defScope st, [], []⟩ : He.DefD) ∈ fn) (hg : He.Fa.meth C m ∈ fa)
    (hb : ∀ (kV doc pm : Value) (an : Option Addr) (cdv ct : Value) (us : List Value), us.length = ps.length → bindArgs (PySem.W.fnOf m q (defArgs st) (defBody st) (defScope st) .none kV doc pm an cdv ct) ⟨us, []⟩ = pure (ps.zip us)) :
    ∃ T : MethAt K C m q st ps, T.a = He.ma K (He.ga K C) m := by
  obtain ⟨fd, F⟩ := c.defs hd
  have F2 : FunD K m q (defArgs st) (defBody st) (defScope st) [] [] (He.ma K (He.ga K C) m) fd := F
  exact ⟨⟨_, fd, He5.fun_of F2, He.meth_ok (c.facts hg), F2.bindsN hb⟩, rfl⟩
theorem clsAt {x : Str} (X : K.In h) (G : h.Ns mainGlobals mg) (c : He.SaysD fa fn K) (hg : He.Fa.glo x ∈ fa) (he : He.Fa.exc x ∈ fa) : ∃ T : ClsAt K mg x, T.a = He.ga K x := by
  obtain ⟨h1, h2, h3, h4⟩ := He.exc_ok (c.facts he)
  exact ⟨⟨He.ga K x, He.glo_ok X G (c.facts hg), h1, h2, h3, h4⟩, rfl⟩
noncomputable def clsMk {x : Str} (X : K.In h) (G : h.Ns mainGlobals mg) (c : He.SaysD fa fn K) (hg : He.Fa.glo x ∈ fa) (he : He.Fa.exc x ∈ fa) : ClsAt K mg x :=
  ⟨He.ga K x, He.glo_ok X G (c.facts hg), (He.exc_ok (c.facts he)).1, (He.exc_ok (c.facts he)).2.1, (He.exc_ok (c.facts he)).2.2.1, (He.exc_ok (c.facts he)).2.2.2⟩
noncomputable def clsN {x : Str} (X : K.In h) (G : h.Ns mainGlobals mg) (c : He.SaysD fa fn K) (hg : He.Fa.glo x ∈ fa) : ClsN K mg x := ⟨He.ga K x, He.glo_ok X G (c.facts hg)⟩
/-! tuples, dicts -/
theorem tupKB_ok {a : Addr} {vs : List V} (e : tupKB K a vs = true) : SqK K a vs := by
  unfold tupKB at e
  cases hk : K.lookup a with
  | none => rw [hk] at e; cases e
  | some o =>
    rw [hk] at e
    have e2 : (isTupT o.cls && (match o.data with
      | .seq its _ => Nat.ble its.size 1000 && He.relAll vs its.toList
      | _ => false)) = true := e
    rw [Bool.and_eq_true] at e2
    obtain ⟨e3, e4⟩ := e2
    have hc : o.cls = .type "tuple" := by
      unfold isTupT at e3
      split at e3
      · rename_i t ht
        rw [ht, of_decide_eq_true e3]
      · cases e3
    split at e4
    · rename_i its n hd
      rw [Bool.and_eq_true] at e4
      have hz : its.size ≤ 1000 := Nat.le_of_ble_eq_true e4.1
      exact ⟨o, its, n, hk, hc, hd, Nat.le_trans hz (by decide), He.relAll_ok e4.2⟩
    · cases e4
theorem kTup {x : Str} {vs : List V} (X : K.In h) (G : h.Ns mainGlobals mg) (c : He.SaysD fa fn K) (hg : He.Fa.glo x ∈ fa) (e : tupKB K (He.ga K x) vs = true) : KTup K mg x vs := ⟨_, He.glo_ok X G (c.facts hg), tupKB_ok e⟩
theorem rl_ints {K : KT} {H : Hp} {io : List Addr} : ∀ {is : List Int}, RL K H io (is.map D.int) (is.map V.int)
  | [] => .nil
  | i :: is => .cons (.int i) rl_ints
theorem kDic {x : Str} {kvs : List (Str × List Int)} {es : Array DictEntry} {n : Nat} (X : K.In h) (G : h.Ns mainGlobals mg) (c : He.SaysD fa fn K) (hg : He.Fa.glo x ∈ fa) (hd : KDict K w (He.ga K x) es n) (e : dicKB K (He.ga K x) kvs = true) :
    KDic K w mg x (kvs.map fun q => (q.1, D.ktup (q.2.map D.int))) := by
  refine ⟨_, He.glo_ok X G (c.facts hg), fun p hp => ?_⟩
  obtain ⟨q, hq, rfl⟩ := List.mem_map.mp hp
  have z := List.all_eq_true.mp e q hq
  cases hn : PySem.W.nsIn K (He.ga K x) q.1 with
  | none => rw [hn] at z; cases z
  | some o =>
    rw [hn] at z
    cases o with
    | none => cases z
    | some v =>
      cases v with
      | ref t => exact ⟨.ref t, ⟨es, n, .ref t, hd.at_, hd.lit, hn, rfl⟩, fun T lam ex H io => .ktup (tupKB_ok z) rl_ints⟩
      | _ => cases z
theorem kDicS {x : Str} {kvs : List (Str × Str)} {es : Array DictEntry} {n : Nat} (X : K.In h) (G : h.Ns mainGlobals mg) (c : He.SaysD fa fn K) (hg : He.Fa.glo x ∈ fa) (hd : KDict K w (He.ga K x) es n) (e : dicSB K (He.ga K x) kvs = true) :
    KDic K w mg x (kvs.map fun q => (q.1, D.str q.2)) := by
  refine ⟨_, He.glo_ok X G (c.facts hg), fun p hp => ?_⟩
  obtain ⟨q, hq, rfl⟩ := List.mem_map.mp hp
  have z := List.all_eq_true.mp e q hq
  cases hn : PySem.W.nsIn K (He.ga K x) q.1 with
  | none => rw [hn] at z; cases z
  | some o =>
    rw [hn] at z
    cases o with
    | none => cases z
    | some v =>
      cases v with
      | str t tk =>
        have zt : t = q.2 := sbeq_iff.mp z
        subst zt
        exact ⟨.str q.2, ⟨es, n, .str q.2 tk, hd.at_, hd.lit, hn, ⟨tk, rfl⟩⟩, fun T lam ex H io => .str q.2⟩
      | _ => cases z
theorem kIn {x : Str} {tbl : List (Str × Bool)} {es : Array DictEntry} {n : Nat} (X : K.In h) (G : h.Ns mainGlobals mg) (c : He.SaysD fa fn K) (hg : He.Fa.glo x ∈ fa) (hd : KDict K w (He.ga K x) es n) (e : inKB K (He.ga K x) tbl = true) : KIn K w mg x tbl := by
  refine ⟨_, es, n, He.glo_ok X G (c.facts hg), hd, fun p hp => ?_⟩
  have z := List.all_eq_true.mp e p hp
  cases hn : PySem.W.nsIn K (He.ga K x) p.1 with
  | none => rw [hn] at z; cases z
  | some r =>
    rw [hn] at z
    exact ⟨r, rfl, by simpa using z⟩
/-! what is caught -/
theorem clsF {c NE : Str} {tab : List Str} {sub : Str → Str → Bool} {fld : Str} (X : K.In h) (G : h.Ns mainGlobals mg) (cc : He.SaysD fa fn K) (hg : He.Fa.glo c ∈ fa) (e : clsFB K c NE tab sub fld = true) :
    ClsF K mg (He.ga K NE) (tab.map fun p => (p, He.ga K p)) sub fld c := by
  unfold clsFB at e
  simp only [Bool.and_eq_true] at e
  obtain ⟨e1, e2, e3, e4, e5, e6, e7, e8⟩ := e
  have x := xfB_ok e2
  refine ⟨He.ga K c, He.glo_ok X G (cc.facts hg), of_decide_eq_true e1, ⟨x.ga, x.gg, x.exC, x.hdC, He.eqO_ok e3, He.eqO_ok e4, of_decide_eq_true e5, of_decide_eq_true e6⟩, x, He.eqO_ok e7, fun p hp => ?_⟩
  obtain ⟨q, hq, rfl⟩ := List.mem_map.mp hp
  exact of_decide_eq_true (List.all_eq_true.mp e8 q hq)
/-! the makers' tables -/
theorem lamAt {base : Heap} {tl : List Mkr} {x q : Str} {st : Stmt} {ps : List Str} (T : DefAt K mg x st ps) (ha : T.a = He.ga K x) (hm : (x, q ++ "<lambda>") ∈ tl) (hb : mkB K tl = true) (TB : ∀ p ∈ mkC K tl, LamX.TabB base mg p.1 p.2) :
    LamAt base mg (mkT K tl) T.u.code q := by
  obtain ⟨oc, od, kV, doc, pm, an, cdv, ct, osl, e, lk, hcd⟩ := T.F.ex
  obtain ⟨c, hc⟩ := He.codeIn_ref hcd
  have hu : T.u.code = .ref c := by
    rw [e]
    exact hc
  have lk2 : K.lookup (He.fAd K (x, none)) = some ⟨oc, od, .func T.u, osl⟩ := by
    rw [show He.fAd K (x, none) = He.ga K x from rfl, ← ha]
    exact lk
  have ec : He.codeOf K (x, none) = c := He.codeOf_eq lk2 hu
  refine ⟨c, (He.cT K (x, none)).2, hu, ?_, List.mem_map.mpr ⟨(x, q ++ "<lambda>"), hm, rfl⟩, fun p hp e2 => ?_⟩
  · have z := TB (He.cT K (x, none)) (List.mem_map.mpr ⟨(x, q ++ "<lambda>"), hm, rfl⟩)
    have e3 : (He.cT K (x, none)).1 = c := ec
    rw [e3] at z
    exact z
  · obtain ⟨r, hr, rfl⟩ := List.mem_map.mp hp
    have z := List.all_eq_true.mp (List.all_eq_true.mp hb r hr) (x, q ++ "<lambda>") hm
    have e3 : Nat.beq (He.cT K (mkD r)).2 (He.cT K (mkD (x, q ++ "<lambda>"))).2 = true := by
      rw [show (He.cT K (mkD r)).2 = (He.cT K (mkD (x, q ++ "<lambda>"))).2 from e2]
      exact Nat.beq_refl _
    rw [e3] at z
    exact sbeq_iff.mp z
theorem tabs0 {H : Hp} {tl : List Mkr} (e : ∀ p ∈ mkC K tl, H p.2 = some (.tbl #[])) : LamX.Tabs (mkT K tl) H := fun p hp => by
  obtain ⟨r, hr, rfl⟩ := List.mem_map.mp hp
  exact LamX.TabS.nil (e _ (List.mem_map.mpr ⟨r, hr, rfl⟩))
/-! a class with its own __init__ -/
theorem oexB_ok {C : Addr} (e : oexB K C = true) : ∃ nm q N bs bm sn sub ab col dd k0 k1 k2 k3 k5, K.lookup C = some (excClassObj nm q C N bs bm true sn sub ab col dd k0 k1 k2 k3 k5 "ValueError.__new__") ∧ PySem.HandSPX.refsVE bm = true := by
  unfold oexB at e
  cases hk : K.lookup C with
  | none => rw [hk] at e; cases e
  | some o =>
    rw [hk] at e
    obtain ⟨oc, od, dt, sl⟩ := o
    dsimp only at e
    split at e
    · rename_i t cd k0 k1 k2 k3 n k5 hs
      simp only [Bool.and_eq_true] at e
      obtain ⟨e1, e2, e3, e4, e5⟩ := e
      obtain ⟨nm, bs, mro, ns, qn, hdct, sn, sb, ab, col, del⟩ := cd
      dsimp only at e3 e4 e5
      split at e5
      · rename_i C2 bm
        rw [Bool.and_eq_true] at e5
        have ec : C2 = C := Nat.eq_of_beq_eq_true e5.1
        subst ec
        have et := of_decide_eq_true e1
        have en := of_decide_eq_true e2
        subst et en e3
        have ed : del = false := by simpa using e4
        subst ed
        have es : sl = #[k0, k1, k2, k3, some (.builtin "ValueError.__new__"), k5] := by
          obtain ⟨l⟩ := sl
          have z : l = [k0, k1, k2, k3, some (.builtin "ValueError.__new__"), k5] := hs
          rw [z]
        subst es
        exact ⟨nm, qn, ns, bs, bm, sn, sb, ab, col, od, k0, k1, k2, k3, k5, rfl, e5.2⟩
      · cases e5
    · cases e
theorem lookB_ok {K : PySem.W.Frag} {a : Addr} {f : Obj → Bool} (e : lookB K a f = true) : ∃ o, K.lookup a = some o ∧ f o = true := by
  unfold lookB at e
  split at e
  · rename_i o ho
    exact ⟨o, ho, e⟩
  · cases e
theorem cellB_ok {C : Addr} {o : Obj} (e : cellB C o = true) : ∃ (cv : Value) (cld : Option Addr) (csl : Array (Option Value)), o = ⟨cv, cld, .cell (some (.ref C)), csl⟩ := by
  obtain ⟨a1, a2, a3, a4⟩ := o
  unfold cellB at e
  split at e
  · rename_i D hD
    have eD := Nat.eq_of_beq_eq_true e
    subst eD
    have h3 : a3 = .cell (some (.ref D)) := hD
    rw [h3]
    exact ⟨a1, a2, a4, rfl⟩
  · cases e
theorem fileB_ok {file : Str} {o : Obj} (e : fileB file o = true) : ∃ (ccl : Value) (cdd : Option Addr) (ccs : Array (Option Value)) (vs : Array Value) (tf : Tok), o = ⟨ccl, cdd, .fields vs, ccs⟩ ∧ vs[2]? = some (.str file tf) := by
  obtain ⟨a1, a2, a3, a4⟩ := o
  unfold fileB at e
  split at e
  · rename_i vs hv
    have h3 : a3 = .fields vs := hv
    unfold fileV at e
    split at e
    · rename_i x y f tk r hl
      have ef := sbeq_iff.mp e
      refine ⟨a1, a2, a4, vs, tk, by rw [h3], ?_⟩
      rw [ef, ← Array.getElem?_toList, hl]
      rfl
    · cases e
  · cases e
theorem closB_ok {K : PySem.W.Frag} {fI C : Addr} {file q : Str} (e : closB K fI C file q = true) : ∃ (oc : Value) (od : Option Addr) (sl : Array (Option Value)) (fd : FuncData) (cc c : Addr), K.lookup fI = some ⟨oc, od, .func fd, sl⟩ ∧ fd.closure = [(("__class__" : Str), cc)] ∧ fd.code = .ref c ∧
    PySem.W.codeIn K (.ref c) q = true ∧ (∃ o, K.lookup cc = some o ∧ cellB C o = true) ∧ (∃ o, K.lookup c = some o ∧ fileB file o = true) ∧ fd.defaults = .none := by
  obtain ⟨o, ho, e2⟩ := lookB_ok e
  obtain ⟨a1, a2, a3, a4⟩ := o
  unfold closO at e2
  split at e2
  · rename_i fd hd
    have h3 : a3 = .func fd := hd
    unfold closFd at e2
    split at e2
    · rename_i x cc c h4 h5
      simp only [Bool.and_eq_true] at e2
      obtain ⟨c1, c2, c3, c4, c5⟩ := e2
      have ex := sbeq_iff.mp c1
      rw [ex] at h4
      exact ⟨a1, a2, a4, fd, cc, c, by rw [ho, h3], h4, h5, c2, lookB_ok c3, lookB_ok c4, of_decide_eq_true c5⟩
    · cases e2
  · cases e2
theorem fnT_ok {K : PySem.W.Frag} {p : Str × Option Str} {nm q : Str} {pr : Arguments} {bd : FuncBody} {sc : Scope} {oc : Value} {od : Option Addr} {sl : Array (Option Value)} {fd : FuncData} (hf : fnT K p = some (nm, q, pr, bd, sc, mainGlobals, builtinsNs)) (hk : K.lookup (He.fAd K p) = some ⟨oc, od, .func fd, sl⟩) :
    fd.name = nm ∧ fd.qualname = q ∧ fd.params = pr ∧ fd.body = bd ∧ fd.scope = sc ∧ fd.globals = mainGlobals ∧ fd.builtins = builtinsNs := by
  unfold fnT at hf
  rw [hk] at hf
  have hf3 : some (fd.name, fd.qualname, fd.params, fd.body, fd.scope, fd.globals, fd.builtins) = some (nm, q, pr, bd, sc, mainGlobals, builtinsNs) := hf
  simp only [Option.some.injEq, Prod.mk.injEq] at hf3
  exact hf3
theorem fd_eta {nm q : Str} {pr : Arguments} {bd : List Stmt} {sc : Scope} {fd : FuncData} {cc c : Addr} (h : fd.name = nm ∧ fd.qualname = q ∧ fd.params = pr ∧ fd.body = .stmts bd ∧ fd.scope = sc ∧ fd.globals = mainGlobals ∧ fd.builtins = builtinsNs) (h1 : fd.closure = [(("__class__" : Str), cc)]) (h2 : fd.code = .ref c) :
    fd = PySem.W.ksFn nm q pr bd sc fd.defaults fd.kwdefaults fd.doc fd.pyModule fd.annotations (.ref c) fd.closureTuple cc := by
  obtain ⟨a1, a2, a3, a4, a5, a6, a7⟩ := h
  obtain ⟨x1, x2, x3, x4, x5, x6, x7, x8, x9, x10, x11, x12, x13, x14, x15⟩ := fd
  dsimp only at a1 a2 a3 a4 a5 a6 a7 h1 h2
  subst a1 a2 a3 a4 a5 a6 a7 h1 h2
  rfl
theorem initAt {P : Program} {y x q : Str} {st : Stmt} {e : Expr} (hf : fnT K (y, some "__init__") = some (("__init__" : Str), q, defArgs st, FuncBody.stmts (defBody st), defScope st, mainGlobals, builtinsNs)) (hB : initB K y x q P.main.file = true)
    (top : (P.main.scope.names.lookup ("super" : Str)).isSome = false) (sup : mg "super" = none) (S : NScope ["self", x, "__class__"] ["self", x] ["__class__"] (defScope st)) (ks : (defScope st).names.lookup ("super" : Str) = some NameKind.globalImplicit)
    (ar : ∃ ar : Arg, ((defArgs st).posonlyargs ++ (defArgs st).args).head? = some ar ∧ ar.arg = "self")
    (binds : ∀ (kV doc pm : Value) (an : Option Addr) (cdv ct : Value) (cl : List (Str × Addr)) (us : List Value), us.length = 2 → bindArgs (PySem.W.fnX "__init__" q (defArgs st) (defBody st) (defScope st) cl .none kV doc pm an cdv ct) ⟨us, []⟩ = pure ((["self", x] : List Str).zip us))
    (body : ∃ p0 p1 p2 p3 p4 p5 p6 p7 p8, defBody st = [.Expr (.Call (.Attribute (.Call (.Name "super" p0) [] [] p1) "__init__" p2) [e] [] p3) p4, .Assign [.Attribute (.Name "self" p5) x p6] (.Name x p7) p8] ∧
      ∀ env : Env, ∃ pl : Sem Bool, eval (.Call (.Attribute (.Call (.Name "super" p0) [] [] p1) "__init__" p2) [e] [] p3) env = (do
        let ov ← attributeBase (.Call (.Name "super" p0) [] [] p1) "__init__" env (eval (.Call (.Name "super" p0) [] [] p1) env)
        standAt p2.atName
        let (f, first) ← holding [ov] (getMethod ov "__init__" pl)
        callWith p3 f first (backTo p3 (starEach [e] env)) [])) :
    Nonempty (InitAt P K mg (He.ga K y) x e) := by
  unfold initB at hB
  simp only [Bool.and_eq_true] at hB
  obtain ⟨b1, b2, b3, b4, b5, b6, b7, b8, b9, b10, b11, b12, b13⟩ := hB
  obtain ⟨oc, od, sl, fd, cc, c, hk, h1, h2, hcd, ⟨o1, k1, ko1⟩, ⟨o2, k2, ko2⟩, hdn⟩ := closB_ok b6
  have hfd := fd_eta (fnT_ok hf hk) h1 h2
  obtain ⟨cv, cld, csl, rfl⟩ := cellB_ok ko1
  obtain ⟨ccl, cdd, ccs, vs, tf, rfl, hvs⟩ := fileB_ok ko2
  have hb : Binds K fd ["self", x] [] := by
    rw [hfd, hdn]
    exact Binds.all fun us hl => binds _ _ _ _ _ _ _ us hl
  have hT : OexC K (He.ga K y) := ⟨oexB_ok b1, He.eqO_ok b2, of_decide_eq_true b3, of_decide_eq_true b4, b5⟩
  exact ⟨⟨hT, He.ma K (He.ga K y) "__init__", cc, ⟨"__init__", q, defArgs st, defBody st, defScope st, [("__class__", cc)], c⟩, fd, ⟨fd.defaults, fd.kwdefaults, fd.doc, fd.pyModule, fd.closureTuple, oc, fd.annotations, od, sl, hfd, hk⟩, rfl, hcd, ⟨cv, cld, csl, k1⟩,
    ⟨ccl, cdd, ccs, vs, P.main.file, tf, k2, hvs, beq_self_eq_true _⟩, top, sup, S, ks, ar, He.eqO_ok b7, He.eqO_ok b8, of_decide_eq_true b9, of_decide_eq_true b10, He.eqO_ok b11, He.eqO_ok b12, of_decide_eq_true b13, hb, body⟩⟩
end
end PyT

-- G32
set_option maxRecDepth 100000
set_option maxHeartbeats 8000000
noncomputable section
namespace Py
open PySem PySem.Spec PyProof.Rows L2 PyD PyL PyH L2H HotX PyM
def nn__law_cup : List Str := ["_law_script", "_law_cell", "_law_great"]
def pp__law_cup : List Str := ["_law_script"]
theorem sc__law_cup : FnScope nn__law_cup pp__law_cup (defScope st__law_cup) := ⟨rfl, rfl, rfl, by decide +kernel, rfl, by decide +kernel, by decide +kernel⟩
noncomputable def d__law_cup : SDen :=
    (seqS (setS (ifE (btestD (op2 (cmpD .GtE) (nmD 1) (op2 (binD .Pow) (cstD (.int 10)) (cstD (.int 18))))) (op2 (binD .FloorDiv) (nmD 1) (cstD (.int 11))) (cstD (.int 0))) (nmT 2))
    (retS (opS lstD (consD (nmD 2) (consD (op2 (binD .Add) (op2 (binD .Mod) (opS intD (consD (op2 (binD .Add) (op2 (binD .Mult) (nmD 1) (cstD (.int 193))) (cstD (.int 1201))) nilD)) (cstD (.int 2077504273))) (cstD (.int 89))) nilD)))))
def nn_begins_with_word : List Str := ["value"]
def pp_begins_with_word : List Str := ["value"]
theorem sc_begins_with_word : FnScope nn_begins_with_word pp_begins_with_word (defScope st_begins_with_word) := ⟨rfl, rfl, rfl, by decide +kernel, rfl, by decide +kernel, by decide +kernel⟩
noncomputable def d_begins_with_word : SDen :=
    (retS (andE (op2 (cmpD .Is) (opS tyOfD (consD (nmD 0) nilD)) (cstD (.ty "tuple"))) (andE (op2 (cmpD .Gt) (opS lenD (consD (nmD 0) nilD)) (cstD (.int 0))) (op2 (cmpD .Is) (opS tyOfD (consD (op2 itemD (nmD 0) (cstD (.int 0))) nilD)) (cstD (.ty "str"))))))
noncomputable def f_begins_with_word : FDen := bodyF 1 d_begins_with_word
def nn_is_integer : List Str := ["value", "low", "high"]
def pp_is_integer : List Str := ["value", "low", "high"]
theorem sc_is_integer : FnScope nn_is_integer pp_is_integer (defScope st_is_integer) := ⟨rfl, rfl, rfl, by decide +kernel, rfl, by decide +kernel, by decide +kernel⟩
noncomputable def d_is_integer : SDen :=
    (retS (andE (op2 (cmpD .Is) (opS tyOfD (consD (nmD 0) nilD)) (cstD (.ty "int"))) (chainE (cmpD .LtE) (cmpD .LtE) (nmD 1) (nmD 0) (nmD 2))))
noncomputable def f_is_integer : FDen := bodyF 3 d_is_integer
def nn_is_number : List Str := ["value"]
def pp_is_number : List Str := ["value"]
theorem sc_is_number : FnScope nn_is_number pp_is_number (defScope st_is_number) := ⟨rfl, rfl, rfl, by decide +kernel, rfl, by decide +kernel, by decide +kernel⟩
noncomputable def d_is_number : SDen :=
    (retS (trimE (callE 3 f_is_integer (consD (nmD 0) (consD (op1 negD (cstD (.int 1000000000000))) (consD (cstD (.int 1000000000000)) nilD))))))
noncomputable def f_is_number : FDen := bodyF 1 d_is_number
def nn_is_name : List Str := ["value", "sign"]
def pp_is_name : List Str := ["value"]
theorem sc_is_name : FnScope nn_is_name pp_is_name (defScope st_is_name) := ⟨rfl, rfl, rfl, by decide +kernel, rfl, by decide +kernel, by decide +kernel⟩
noncomputable def d_is_name : SDen :=
    (seqS (ifS (orT (btestD (op2 (cmpD .IsNot) (opS tyOfD (consD (nmD 0) nilD)) (cstD (.ty "str")))) (orT (notT (btestD (chainE (cmpD .LtE) (cmpD .LtE) (cstD (.int 1)) (opS lenD (consD (nmD 0) nilD)) (cstD (.int 8))))) (btestD (op2 (cmpD .In) (nmD 0) (cstD (.ktup [.str "fun", .str "let", .str "in", .str "rec", .str "match", .str "do", .str "answer", .str "plain"])))))) (retS (cstD (.bl false))) skipS)
    (retS (opS allD (consD (compE (anySrc (nmD 0)) [1] (.one 1) yesT (chainE (cmpD .LtE) (cmpD .LtE) (cstD (.str "a")) (nmD 1) (cstD (.str "z"))) 100000) nilD))))
noncomputable def f_is_name : FDen := bodyF 2 d_is_name
def nn_is_tuple_of : List Str := ["value", "low", "high"]
def pp_is_tuple_of : List Str := ["value", "low", "high"]
theorem sc_is_tuple_of : FnScope nn_is_tuple_of pp_is_tuple_of (defScope st_is_tuple_of) := ⟨rfl, rfl, rfl, by decide +kernel, rfl, by decide +kernel, by decide +kernel⟩
noncomputable def d_is_tuple_of : SDen :=
    (retS (andE (op2 (cmpD .Is) (opS tyOfD (consD (nmD 0) nilD)) (cstD (.ty "tuple"))) (chainE (cmpD .LtE) (cmpD .LtE) (nmD 1) (opS lenD (consD (nmD 0) nilD)) (nmD 2))))
noncomputable def f_is_tuple_of : FDen := bodyF 3 d_is_tuple_of
def nn_has_plain_pair : List Str := ["value"]
def pp_has_plain_pair : List Str := ["value"]
theorem sc_has_plain_pair : FnScope nn_has_plain_pair pp_has_plain_pair (defScope st_has_plain_pair) := ⟨rfl, rfl, rfl, by decide +kernel, rfl, by decide +kernel, by decide +kernel⟩
noncomputable def d_has_plain_pair : SDen :=
    (retS (andE (trimE (callE 3 f_is_tuple_of (consD (nmD 0) (consD (cstD (.int 2)) (consD (cstD (.int 2)) nilD))))) (trimE (callE 1 f_is_name (consD (op2 itemD (nmD 0) (cstD (.int 0))) nilD)))))
noncomputable def f_has_plain_pair : FDen := bodyF 1 d_has_plain_pair
def nn_are_unlike : List Str := ["names"]
def pp_are_unlike : List Str := ["names"]
theorem sc_are_unlike : FnScope nn_are_unlike pp_are_unlike (defScope st_are_unlike) := ⟨rfl, rfl, rfl, by decide +kernel, rfl, by decide +kernel, by decide +kernel⟩
noncomputable def d_are_unlike : SDen :=
    (retS (op2 (cmpD .Eq) (op1 lenSetD (nmD 0)) (opS lenD (consD (nmD 0) nilD))))
noncomputable def f_are_unlike : FDen := bodyF 1 d_are_unlike
def nn_has_answer_rows : List Str := ["value", "row", "name"]
def pp_has_answer_rows : List Str := ["value"]
theorem sc_has_answer_rows : FnScope nn_has_answer_rows pp_has_answer_rows (defScope st_has_answer_rows) := ⟨rfl, rfl, rfl, by decide +kernel, rfl, by decide +kernel, by decide +kernel⟩
noncomputable def d_has_answer_rows : SDen :=
    (seqS (ifS (notT (testD (trimE (callE 3 f_is_tuple_of (consD (nmD 0) (consD (cstD (.int 0)) (consD (cstD (.int 6)) nilD))))))) stuckS skipS)
    (seqS (forS (anySrc (nmD 0)) (nmT 1) (trimW (ifS (orT (notT (testD (trimE (callE 3 f_is_tuple_of (consD (nmD 1) (consD (cstD (.int 4)) (consD (cstD (.int 4)) nilD))))))) (orT (notT (testD (opS allD (consD (compE (anySrc (sliceE (nmD 1) noPart (somePart (cstD (.int 3))))) [2] (.one 2) yesT (trimE (callN 1 f_is_name (consD (nmD 2) nilD))) 100000) nilD)))) (btestD (op2 (cmpD .Eq) (op2 itemD (nmD 1) (cstD (.int 1))) (op2 itemD (nmD 1) (cstD (.int 2))))))) stuckS skipS)) 100000)
    (retS (trimE (callE 1 f_are_unlike (consD (compE (anySrc (nmD 0)) [1] (.one 1) yesT (op2 itemD (nmD 1) (cstD (.int 0))) 100000) nilD))))))
noncomputable def f_has_answer_rows : FDen := bodyF 3 d_has_answer_rows
def nn_has_tree_form : List Str := ["value", "word", "many"]
def pp_has_tree_form : List Str := ["value"]
theorem sc_has_tree_form : FnScope nn_has_tree_form pp_has_tree_form (defScope st_has_tree_form) := ⟨rfl, rfl, rfl, by decide +kernel, rfl, by decide +kernel, by decide +kernel⟩
noncomputable def d_has_tree_form : SDen :=
    (seqS (ifS (notT (testD (trimE (callE 1 f_begins_with_word (consD (nmD 0) nilD))))) (retS (cstD (.bl false))) skipS)
    (seqS (setS (op2 itemD (nmD 0) (cstD (.int 0))) (nmT 1))
    (seqS (setS (opS lenD (consD (nmD 0) nilD)) (nmT 2))
    (seqS (ifS (btestD (op2 (cmpD .Eq) (nmD 1) (cstD (.str "num")))) (retS (andE (op2 (cmpD .Eq) (nmD 2) (cstD (.int 2))) (trimE (callE 1 f_is_number (consD (op2 itemD (nmD 0) (cstD (.int 1))) nilD))))) skipS)
    (seqS (ifS (btestD (op2 (cmpD .Eq) (nmD 1) (cstD (.str "name")))) (retS (andE (op2 (cmpD .Eq) (nmD 2) (cstD (.int 2))) (trimE (callE 1 f_is_name (consD (op2 itemD (nmD 0) (cstD (.int 1))) nilD))))) skipS)
    (seqS (ifS (btestD (op2 (cmpD .Eq) (nmD 1) (cstD (.str "fun")))) (retS (andE (op2 (cmpD .Eq) (nmD 2) (cstD (.int 3))) (trimE (callE 1 f_is_name (consD (op2 itemD (nmD 0) (cstD (.int 1))) nilD))))) skipS)
    (seqS (ifS (btestD (op2 (cmpD .Eq) (nmD 1) (cstD (.str "call")))) stuckS skipS)
    (seqS (ifS (btestD (op2 (cmpD .Eq) (nmD 1) (cstD (.str "let")))) stuckS skipS)
    (seqS (ifS (btestD (op2 (cmpD .Eq) (nmD 1) (cstD (.str "rec")))) stuckS skipS)
    (seqS (ifS (btestD (op2 (cmpD .Eq) (nmD 1) (cstD (.str "shape")))) stuckS skipS)
    (seqS (ifS (btestD (op2 (cmpD .Eq) (nmD 1) (cstD (.str "match")))) stuckS skipS)
    (seqS (ifS (btestD (op2 (cmpD .Eq) (nmD 1) (cstD (.str "op")))) (retS (andE (op2 (cmpD .Eq) (nmD 2) (cstD (.int 4))) (andE (op2 (cmpD .Is) (opS tyOfD (consD (op2 itemD (nmD 0) (cstD (.int 1))) nilD)) (cstD (.ty "str"))) (op2 (cmpD .In) (op2 itemD (nmD 0) (cstD (.int 1))) (cstD (.ktup [.str "+", .str "-", .str "*", .str "<", .str "="])))))) skipS)
    (seqS (ifS (btestD (op2 (cmpD .Eq) (nmD 1) (cstD (.str "do")))) stuckS skipS)
    (retS (andE (op2 (cmpD .Eq) (nmD 1) (cstD (.str "answer"))) (andE (op2 (cmpD .Eq) (nmD 2) (cstD (.int 4))) (andE (trimE (callE 1 f_has_plain_pair (consD (op2 itemD (nmD 0) (cstD (.int 2))) nilD))) (trimE (callE 1 f_has_answer_rows (consD (op2 itemD (nmD 0) (cstD (.int 3))) nilD))))))))))))))))))))
noncomputable def f_has_tree_form : FDen := bodyF 3 d_has_tree_form
def nn_patterns_in : List Str := ["tree", "row"]
def pp_patterns_in : List Str := ["tree"]
theorem sc_patterns_in : FnScope nn_patterns_in pp_patterns_in (defScope st_patterns_in) := ⟨rfl, rfl, rfl, by decide +kernel, rfl, by decide +kernel, by decide +kernel⟩
noncomputable def d_patterns_in : SDen :=
    (seqS (ifS (btestD (op2 (cmpD .Eq) (op2 itemD (nmD 0) (cstD (.int 0))) (cstD (.str "match")))) stuckS skipS)
    (retS (opS lstD nilD)))
noncomputable def f_patterns_in : FDen := bodyF 2 d_patterns_in
def nn_parts_in : List Str := ["tree", "word", "low", "high", "row"]
def pp_parts_in : List Str := ["tree"]
theorem sc_parts_in : FnScope nn_parts_in pp_parts_in (defScope st_parts_in) := ⟨rfl, rfl, rfl, by decide +kernel, rfl, by decide +kernel, by decide +kernel⟩
noncomputable def d_parts_in : SDen :=
    (seqS (setS (op2 itemD (nmD 0) (cstD (.int 0))) (nmT 1))
    (seqS (ifS (btestD (op2 (cmpD .Eq) (nmD 1) (cstD (.str "shape")))) stuckS skipS)
    (seqS (ifS (btestD (op2 (cmpD .Eq) (nmD 1) (cstD (.str "match")))) stuckS skipS)
    (seqS (ifS (btestD (op2 (cmpD .Eq) (nmD 1) (cstD (.str "answer")))) (retS (op2 (binD .Add) (opS lstD (consD (op2 itemD (nmD 0) (cstD (.int 1))) (consD (op2 itemD (op2 itemD (nmD 0) (cstD (.int 2))) (cstD (.int 1))) nilD))) (compE (anySrc (op2 itemD (nmD 0) (cstD (.int 3)))) [4] (.one 4) yesT (op2 itemD (nmD 4) (cstD (.int 3))) 100000))) skipS)
    (seqS (setS (op1 (lookS [("num", .ktup [.int 2, .int 2]), ("name", .ktup [.int 2, .int 2]), ("fun", .ktup [.int 2, .int 3]), ("call", .ktup [.int 1, .int 3]), ("let", .ktup [.int 2, .int 4]), ("rec", .ktup [.int 3, .int 5]), ("op", .ktup [.int 2, .int 4]), ("do", .ktup [.int 2, .int 3])]) (nmD 1)) (tupT 2 (consT (nmT 2) (consT (nmT 3) nilT))))
    (retS (opS listD (consD (sliceE (nmD 0) (somePart (nmD 2)) (somePart (nmD 3))) nilD))))))))
noncomputable def f_parts_in : FDen := bodyF 5 d_parts_in
def nn_fits_tree : List Str := ["value", "many", "waiting", "one", "deep", "pattern", "size", "depth", "part"]
def pp_fits_tree : List Str := ["value"]
theorem sc_fits_tree : FnScope nn_fits_tree pp_fits_tree (defScope st_fits_tree) := ⟨rfl, rfl, rfl, by decide +kernel, rfl, by decide +kernel, by decide +kernel⟩
noncomputable def d_fits_tree : SDen :=
    (seqS (setS (cstD (.int 0)) (nmT 1))
    (seqS (setS (opS lstD (consD (opS tupD (consD (nmD 0) (consD (cstD (.int 1)) nilD))) nilD)) (nmT 2))
    (seqS (whileS (testD (nmD 2)) (trimW (seqS (setS (meth0 popD (nmD 2)) (tupT 2 (consT (nmT 3) (consT (nmT 4) nilT))))
    (seqS (setS (op2 (binD .Add) (nmD 1) (cstD (.int 1))) (nmT 1))
    (seqS (ifS (orT (btestD (op2 (cmpD .Gt) (nmD 1) (cstD (.int 3000)))) (orT (btestD (op2 (cmpD .Gt) (nmD 4) (cstD (.int 120)))) (notT (testD (trimE (callE 1 f_has_tree_form (consD (nmD 3) nilD))))))) (retS (cstD (.bl false))) skipS)
    (seqS (forS (anySrc (callE 1 f_patterns_in (consD (nmD 3) nilD))) (nmT 5) (trimW stuckS) 100000)
    (exprS (methE extendD (nmD 2) (consD (compE (anySrc (trimE (callE 1 f_parts_in (consD (nmD 3) nilD)))) [8] (.one 8) yesT (opS tupD (consD (nmD 8) (consD (op2 (binD .Add) (nmD 4) (cstD (.int 1))) nilD))) 100000) nilD)))))))) 100000)
    (retS (op2 (cmpD .LtE) (nmD 1) (cstD (.int 3000)))))))
noncomputable def f_fits_tree : FDen := bodyF 9 d_fits_tree
def nn_check_tree : List Str := ["value"]
def pp_check_tree : List Str := ["value"]
theorem sc_check_tree : FnScope nn_check_tree pp_check_tree (defScope st_check_tree) := ⟨rfl, rfl, rfl, by decide +kernel, rfl, by decide +kernel, by decide +kernel⟩
noncomputable def d_check_tree : SDen :=
    (ifS (notT (testD (trimE (callE 1 f_fits_tree (consD (nmD 0) nilD))))) (raiseS "InvalidTree") skipS)
noncomputable def f_check_tree : FDen := bodyF 1 d_check_tree
def nn_scopes : List Str := ["tree", "word", "both", "name", "body", "rows", "row", "part"]
def pp_scopes : List Str := ["tree"]
theorem sc_scopes : FnScope nn_scopes pp_scopes (defScope st_scopes) := ⟨rfl, rfl, rfl, by decide +kernel, rfl, by decide +kernel, by decide +kernel⟩
noncomputable def d_scopes : SDen :=
    (seqS (setS (op2 itemD (nmD 0) (cstD (.int 0))) (nmT 1))
    (seqS (ifS (btestD (op2 (cmpD .Eq) (nmD 1) (cstD (.str "fun")))) stuckS skipS)
    (seqS (ifS (btestD (op2 (cmpD .Eq) (nmD 1) (cstD (.str "let")))) stuckS skipS)
    (seqS (ifS (btestD (op2 (cmpD .Eq) (nmD 1) (cstD (.str "rec")))) stuckS skipS)
    (seqS (ifS (btestD (op2 (cmpD .Eq) (nmD 1) (cstD (.str "match")))) stuckS skipS)
    (seqS (ifS (btestD (op2 (cmpD .Eq) (nmD 1) (cstD (.str "answer")))) (seqS (setS (op2 itemD (nmD 0) (cstD (.int 2))) (tupT 2 (consT (nmT 3) (consT (nmT 4) nilT))))
    (seqS (setS (compE (anySrc (op2 itemD (nmD 0) (cstD (.int 3)))) [6] (.one 6) yesT (opS tupD (consD (sliceE (nmD 6) (somePart (cstD (.int 1))) (somePart (cstD (.int 3)))) (consD (sliceE (nmD 6) (somePart (cstD (.int 1))) (somePart (cstD (.int 3)))) (consD (op2 itemD (nmD 6) (cstD (.int 3))) nilD)))) 100000) (nmT 5))
    (retS (op2 (binD .Add) (opS lstD (consD (opS tupD (consD (opS tupD nilD) (consD (opS tupD nilD) (consD (op2 itemD (nmD 0) (cstD (.int 1))) nilD)))) (consD (opS tupD (consD (opS tupD (consD (nmD 3) nilD)) (consD (opS tupD (consD (nmD 3) nilD)) (consD (nmD 4) nilD)))) nilD))) (nmD 5))))) skipS)
    (retS (compE (anySrc (trimE (callE 1 f_parts_in (consD (nmD 0) nilD)))) [7] (.one 7) yesT (opS tupD (consD (opS tupD nilD) (consD (opS tupD nilD) (consD (nmD 7) nilD)))) 100000))))))))
noncomputable def f_scopes : FDen := bodyF 8 d_scopes
def nn_with_added : List Str := ["table", "names", "grown", "name"]
def pp_with_added : List Str := ["table", "names"]
theorem sc_with_added : FnScope nn_with_added pp_with_added (defScope st_with_added) := ⟨rfl, rfl, rfl, by decide +kernel, rfl, by decide +kernel, by decide +kernel⟩
noncomputable def d_with_added : SDen :=
    (seqS (ifS (btestD (op2 (cmpD .Eq) (opS lenD (consD (nmD 1) nilD)) (cstD (.int 0)))) (retS (nmD 0)) skipS)
    (seqS (setS (copyDict 3 0) (nmT 2))
    (seqS (forS (anySrc (nmD 1)) (nmT 3) (trimW (putS (nmD 2) (nmD 3) (cstD (.bl true)))) 100000)
    (retS (nmD 2)))))
noncomputable def f_with_added : FDen := bodyF 4 d_with_added
def nn_free_in : List Str := ["tree", "found", "waiting", "one", "bound", "_", "names", "part"]
def pp_free_in : List Str := ["tree"]
theorem sc_free_in : FnScope nn_free_in pp_free_in (defScope st_free_in) := ⟨rfl, rfl, rfl, by decide +kernel, rfl, by decide +kernel, by decide +kernel⟩
noncomputable def d_free_in : SDen :=
    (seqS (setS dk0 (nmT 1))
    (seqS (setS (opS lstD (consD (opS tupD (consD (nmD 0) (consD dk0 nilD))) nilD)) (nmT 2))
    (seqS (whileS (testD (nmD 2)) (trimW (seqS (setS (meth0 popD (nmD 2)) (tupT 2 (consT (nmT 3) (consT (nmT 4) nilT))))
    (seqS (ifS (andT (btestD (op2 (cmpD .Eq) (op2 itemD (nmD 3) (cstD (.int 0))) (cstD (.str "name")))) (btestD (op2 (cmpD .NotIn) (op2 itemD (nmD 3) (cstD (.int 1))) (nmD 4)))) (putS (nmD 1) (op2 itemD (nmD 3) (cstD (.int 1))) (cstD (.bl true))) skipS)
    (forS (anySrc (trimE (callE 1 f_scopes (consD (nmD 3) nilD)))) (tupT 3 (consT (nmT 5) (consT (nmT 6) (consT (nmT 7) nilT)))) (trimW (exprS (methE appendD (nmD 2) (consD (opS tupD (consD (nmD 7) (consD (trimE (callE 2 f_with_added (consD (nmD 4) (consD (nmD 6) nilD)))) nilD))) nilD)))) 100000)))) 100000)
    (retS (opS sortedD (consD (nmD 1) nilD))))))
noncomputable def f_free_in : FDen := bodyF 8 d_free_in
def nn_check_program : List Str := ["value"]
def pp_check_program : List Str := ["value"]
theorem sc_check_program : FnScope nn_check_program pp_check_program (defScope st_check_program) := ⟨rfl, rfl, rfl, by decide +kernel, rfl, by decide +kernel, by decide +kernel⟩
noncomputable def d_check_program : SDen :=
    (seqS (exprS (trimE (callE 1 f_check_tree (consD (nmD 0) nilD))))
    (ifS (btestD (op2 (cmpD .Gt) (opS lenD (consD (trimE (callE 1 f_free_in (consD (nmD 0) nilD))) nilD)) (cstD (.int 0)))) (raiseS "InvalidProgram") skipS))
noncomputable def f_check_program : FDen := bodyF 1 d_check_program
def nn_trees_in : List Str := ["tree", "found", "waiting", "one"]
def pp_trees_in : List Str := ["tree"]
theorem sc_trees_in : FnScope nn_trees_in pp_trees_in (defScope st_trees_in) := ⟨rfl, rfl, rfl, by decide +kernel, rfl, by decide +kernel, by decide +kernel⟩
noncomputable def d_trees_in : SDen :=
    (seqS (setS (opS lstD nilD) (nmT 1))
    (seqS (setS (opS lstD (consD (nmD 0) nilD)) (nmT 2))
    (seqS (whileS (testD (nmD 2)) (trimW (seqS (setS (meth0 popD (nmD 2)) (nmT 3))
    (seqS (exprS (methE appendD (nmD 1) (consD (nmD 3) nilD)))
    (exprS (methE extendD (nmD 2) (consD (op1 revAny (trimE (callE 1 f_parts_in (consD (nmD 3) nilD)))) nilD)))))) 100000)
    (retS (nmD 1)))))
noncomputable def f_trees_in : FDen := bodyF 4 d_trees_in
def nn_check_led_rows : List Str := ["program", "one"]
def pp_check_led_rows : List Str := ["program"]
theorem sc_check_led_rows : FnScope nn_check_led_rows pp_check_led_rows (defScope st_check_led_rows) := ⟨rfl, rfl, rfl, by decide +kernel, rfl, by decide +kernel, by decide +kernel⟩
noncomputable def d_check_led_rows : SDen :=
    (forS (anySrc (trimE (callE 1 f_trees_in (consD (nmD 0) nilD)))) (nmT 1) (trimW (ifS (andT (btestD (op2 (cmpD .Eq) (op2 itemD (nmD 1) (cstD (.int 0))) (cstD (.str "answer")))) (btestD (op2 (cmpD .Gt) (opS lenD (consD (op2 itemD (nmD 1) (cstD (.int 3))) nilD)) (cstD (.int 5))))) (raiseMS (okText "there are more than ") "TooMany" (consD (cstD (.int 5)) nilD)) skipS)) 100000)
noncomputable def f_check_led_rows : FDen := bodyF 2 d_check_led_rows
def nn_used : List Str := ["name"]
def pp_used : List Str := ["name"]
theorem sc_used : FnScope nn_used pp_used (defScope st_used) := ⟨rfl, rfl, rfl, by decide +kernel, rfl, by decide +kernel, by decide +kernel⟩
noncomputable def d_used : SDen :=
    (retS (opS tupD (consD (cstD (.str "name")) (consD (nmD 0) nilD))))
noncomputable def f_used : FDen := bodyF 1 d_used
def nn_plan_match : List Str := ["pair", "deed_body", "bound", "done_row"]
def pp_plan_match : List Str := ["pair", "deed_body"]
theorem sc_plan_match : FnScope nn_plan_match pp_plan_match (defScope st_plan_match) := ⟨rfl, rfl, rfl, by decide +kernel, rfl, by decide +kernel, by decide +kernel⟩
noncomputable def d_plan_match : SDen :=
    (seqS (setS (opS tupD (consD (opS tupD (consD (cstD (.str "bind")) (consD (cstD (.str "Deed")) nilD))) (consD (opS tupD (consD (cstD (.str "bind")) (consD (cstD (.str "Value")) nilD))) (consD (opS tupD (consD (cstD (.str "bind")) (consD (cstD (.str "Rest")) nilD))) nilD)))) (nmT 2))
    (seqS (setS (opS tupD (consD (opS tupD (consD (cstD (.str "shapeis")) (consD (cstD (.str "Done")) (consD (opS tupD (consD (opS tupD (consD (cstD (.str "bind")) (consD (op2 itemD (nmD 0) (cstD (.int 0))) nilD))) nilD)) nilD)))) (consD (op2 itemD (nmD 0) (cstD (.int 1))) nilD))) (nmT 3))
    (retS (opS tupD (consD (cstD (.str "match")) (consD (trimE (callE 1 f_used (consD (cstD (.str "Plan")) nilD))) (consD (opS tupD (consD (nmD 3) (consD (opS tupD (consD (opS tupD (consD (cstD (.str "shapeis")) (consD (cstD (.str "Did")) (consD (nmD 2) nilD)))) (consD (nmD 1) nilD))) nilD))) nilD)))))))
noncomputable def f_plan_match : FDen := bodyF 4 d_plan_match
def nn_did : List Str := ["deed", "value", "rest"]
def pp_did : List Str := ["deed", "value", "rest"]
theorem sc_did : FnScope nn_did pp_did (defScope st_did) := ⟨rfl, rfl, rfl, by decide +kernel, rfl, by decide +kernel, by decide +kernel⟩
noncomputable def d_did : SDen :=
    (retS (opS tupD (consD (cstD (.str "shape")) (consD (cstD (.str "Did")) (consD (opS tupD (consD (nmD 0) (consD (nmD 1) (consD (nmD 2) nilD)))) nilD)))))
noncomputable def f_did : FDen := bodyF 3 d_did
def nn_trees_and_patterns_in : List Str := ["one", "word", "low", "high", "row"]
def pp_trees_and_patterns_in : List Str := ["one"]
theorem sc_trees_and_patterns_in : FnScope nn_trees_and_patterns_in pp_trees_and_patterns_in (defScope st_trees_and_patterns_in) := ⟨rfl, rfl, rfl, by decide +kernel, rfl, by decide +kernel, by decide +kernel⟩
noncomputable def d_trees_and_patterns_in : SDen :=
    (seqS (setS (op2 itemD (nmD 0) (cstD (.int 0))) (nmT 1))
    (seqS (ifS (orT (btestD (op2 (cmpD .Eq) (nmD 1) (cstD (.str "shape")))) (btestD (op2 (cmpD .Eq) (nmD 1) (cstD (.str "shapeis"))))) (retS (op2 itemD (nmD 0) (cstD (.int 2)))) skipS)
    (seqS (ifS (btestD (op1 (inKD tk_PART_SLICES) (nmD 1))) (seqS (setS (op1 (lookS [("num", .ktup [.int 2, .int 2]), ("name", .ktup [.int 2, .int 2]), ("fun", .ktup [.int 2, .int 3]), ("call", .ktup [.int 1, .int 3]), ("let", .ktup [.int 2, .int 4]), ("rec", .ktup [.int 3, .int 5]), ("op", .ktup [.int 2, .int 4]), ("do", .ktup [.int 2, .int 3])]) (nmD 1)) (tupT 2 (consT (nmT 2) (consT (nmT 3) nilT))))
    (retS (sliceE (nmD 0) (somePart (nmD 2)) (somePart (nmD 3))))) skipS)
    (seqS (ifS (btestD (op2 (cmpD .Eq) (nmD 1) (cstD (.str "match")))) (retS (op2 (binD .Add) (op2 (binD .Add) (opS lstD (consD (op2 itemD (nmD 0) (cstD (.int 1))) nilD)) (compE (anySrc (op2 itemD (nmD 0) (cstD (.int 2)))) [4] (.one 4) yesT (op2 itemD (nmD 4) (cstD (.int 0))) 100000)) (compE (anySrc (op2 itemD (nmD 0) (cstD (.int 2)))) [4] (.one 4) yesT (op2 itemD (nmD 4) (cstD (.int 1))) 100000))) skipS)
    (seqS (ifS (btestD (op2 (cmpD .Eq) (nmD 1) (cstD (.str "answer")))) (retS (op2 (binD .Add) (opS lstD (consD (op2 itemD (nmD 0) (cstD (.int 1))) (consD (op2 itemD (op2 itemD (nmD 0) (cstD (.int 2))) (cstD (.int 1))) nilD))) (compE (anySrc (op2 itemD (nmD 0) (cstD (.int 3)))) [4] (.one 4) yesT (op2 itemD (nmD 4) (cstD (.int 3))) 100000))) skipS)
    (retS (opS tupD nilD)))))))
noncomputable def f_trees_and_patterns_in : FDen := bodyF 5 d_trees_and_patterns_in
def nn_measure : List Str := ["tree", "size", "depth", "waiting", "one", "deep", "inner"]
def pp_measure : List Str := ["tree"]
theorem sc_measure : FnScope nn_measure pp_measure (defScope st_measure) := ⟨rfl, rfl, rfl, by decide +kernel, rfl, by decide +kernel, by decide +kernel⟩
noncomputable def d_measure : SDen :=
    (seqS (setS (cstD (.int 0)) (nmT 1))
    (seqS (setS (cstD (.int 0)) (nmT 2))
    (seqS (setS (opS lstD (consD (opS tupD (consD (nmD 0) (consD (cstD (.int 1)) nilD))) nilD)) (nmT 3))
    (seqS (whileS (andT (testD (nmD 3)) (btestD (op2 (cmpD .LtE) (nmD 1) (cstD (.int 3000))))) (trimW (seqS (setS (meth0 popD (nmD 3)) (tupT 2 (consT (nmT 4) (consT (nmT 5) nilT))))
    (seqS (setS (op2 (binD .Add) (nmD 1) (cstD (.int 1))) (nmT 1))
    (seqS (ifS (btestD (op2 (cmpD .Gt) (nmD 5) (nmD 2))) (setS (nmD 5) (nmT 2)) skipS)
    (forS (anySrc (trimE (callE 1 f_trees_and_patterns_in (consD (nmD 4) nilD)))) (nmT 6) (trimW (exprS (methE appendD (nmD 3) (consD (opS tupD (consD (nmD 6) (consD (op2 (binD .Add) (nmD 5) (cstD (.int 1))) nilD))) nilD)))) 100000))))) 100000)
    (retS (opS tupD (consD (nmD 1) (consD (nmD 2) nilD))))))))
noncomputable def f_measure : FDen := bodyF 7 d_measure
def nn_is_within_bounds : List Str := ["tree", "size", "depth"]
def pp_is_within_bounds : List Str := ["tree"]
theorem sc_is_within_bounds : FnScope nn_is_within_bounds pp_is_within_bounds (defScope st_is_within_bounds) := ⟨rfl, rfl, rfl, by decide +kernel, rfl, by decide +kernel, by decide +kernel⟩
noncomputable def d_is_within_bounds : SDen :=
    (seqS (setS (trimE (callE 1 f_measure (consD (nmD 0) nilD))) (tupT 2 (consT (nmT 1) (consT (nmT 2) nilT))))
    (retS (andE (op2 (cmpD .LtE) (nmD 1) (cstD (.int 3000))) (op2 (cmpD .LtE) (nmD 2) (cstD (.int 120))))))
noncomputable def f_is_within_bounds : FDen := bodyF 3 d_is_within_bounds
def nn_check_bounds : List Str := ["tree"]
def pp_check_bounds : List Str := ["tree"]
theorem sc_check_bounds : FnScope nn_check_bounds pp_check_bounds (defScope st_check_bounds) := ⟨rfl, rfl, rfl, by decide +kernel, rfl, by decide +kernel, by decide +kernel⟩
noncomputable def d_check_bounds : SDen :=
    (ifS (notT (testD (trimE (callE 1 f_is_within_bounds (consD (nmD 0) nilD))))) (raiseS "InvalidTree") skipS)
noncomputable def f_check_bounds : FDen := bodyF 1 d_check_bounds
def nn_with_led_names : List Str := ["tree"]
def pp_with_led_names : List Str := ["tree"]
theorem sc_with_led_names : FnScope nn_with_led_names pp_with_led_names (defScope st_with_led_names) := ⟨rfl, rfl, rfl, by decide +kernel, rfl, by decide +kernel, by decide +kernel⟩
noncomputable def d_with_led_names : SDen :=
    (seqS (exprS (trimE (callE 1 f_check_bounds (consD (nmD 0) nilD))))
    stuckS)
noncomputable def f_with_led_names : FDen := bodyF 1 d_with_led_names
def nn_with_parts : List Str := ["tree", "parts", "word", "rows", "low", "_", "row", "body"]
def pp_with_parts : List Str := ["tree", "parts"]
theorem sc_with_parts : FnScope nn_with_parts pp_with_parts (defScope st_with_parts) := ⟨rfl, rfl, rfl, by decide +kernel, rfl, by decide +kernel, by decide +kernel⟩
noncomputable def d_with_parts : SDen :=
    (seqS (setS (op2 itemD (nmD 0) (cstD (.int 0))) (nmT 2))
    (seqS (ifS (btestD (op2 (cmpD .Eq) (nmD 2) (cstD (.str "shape")))) stuckS skipS)
    (seqS (ifS (btestD (op2 (cmpD .Eq) (nmD 2) (cstD (.str "match")))) stuckS skipS)
    (seqS (ifS (btestD (op2 (cmpD .Eq) (nmD 2) (cstD (.str "answer")))) stuckS skipS)
    (seqS (setS (op1 (lookS [("num", .ktup [.int 2, .int 2]), ("name", .ktup [.int 2, .int 2]), ("fun", .ktup [.int 2, .int 3]), ("call", .ktup [.int 1, .int 3]), ("let", .ktup [.int 2, .int 4]), ("rec", .ktup [.int 3, .int 5]), ("op", .ktup [.int 2, .int 4]), ("do", .ktup [.int 2, .int 3])]) (nmD 2)) (tupT 2 (consT (nmT 4) (consT (nmT 5) nilT))))
    (retS (op2 (binD .Add) (sliceE (nmD 0) noPart (somePart (nmD 4))) (opS tupleD (consD (nmD 1) nilD)))))))))
noncomputable def f_with_parts : FDen := bodyF 8 d_with_parts
def nn_done : List Str := ["tree"]
def pp_done : List Str := ["tree"]
theorem sc_done : FnScope nn_done pp_done (defScope st_done) := ⟨rfl, rfl, rfl, by decide +kernel, rfl, by decide +kernel, by decide +kernel⟩
noncomputable def d_done : SDen :=
    (retS (opS tupD (consD (cstD (.str "shape")) (consD (cstD (.str "Done")) (consD (opS tupD (consD (nmD 0) nilD)) nilD)))))
noncomputable def f_done : FDen := bodyF 1 d_done
def nn_after : List Str := ["tree", "entry", "body"]
def pp_after : List Str := ["tree", "entry", "body"]
theorem sc_after : FnScope nn_after pp_after (defScope st_after) := ⟨rfl, rfl, rfl, by decide +kernel, rfl, by decide +kernel, by decide +kernel⟩
noncomputable def d_after (F : Nat → FDen) (qt : Bool) : SDen :=
    (retS (opS tupD (consD (cstD (.str "call")) (consD (opS tupD (consD (cstD (.str "call")) (consD (trimIf qt (callE 1 f_used (consD (cstD (.str "After")) nilD))) (consD (trimIf qt (callE 1 (F 2) (consD (nmD 0) nilD))) nilD)))) (consD (opS tupD (consD (cstD (.str "fun")) (consD (nmD 1) (consD (nmD 2) nilD)))) nilD)))))
def nn_led_parts_bytrees : List Str := ["tree", "parts", "names", "whole", "name", "part"]
def pp_led_parts_bytrees : List Str := ["tree"]
theorem sc_led_parts_bytrees : FnScope nn_led_parts_bytrees pp_led_parts_bytrees (defScope st_led_parts_bytrees) := ⟨rfl, rfl, rfl, by decide +kernel, rfl, by decide +kernel, by decide +kernel⟩
noncomputable def d_led_parts_bytrees (F : Nat → FDen) (qt : Bool) : SDen :=
    (seqS (setS (trimIf qt (callE 1 f_parts_in (consD (nmD 0) nilD))) (nmT 1))
    (seqS (setS (sliceE (cstD (.ktup [.str "One", .str "Two", .str "Three", .str "Four"])) noPart (somePart (opS lenD (consD (nmD 1) nilD)))) (nmT 2))
    (seqS (setS (trimIf qt (callE 2 f_with_parts (consD (nmD 0) (consD (compE (anySrc (nmD 2)) [4] (.one 4) yesT (trimIf qt (callN 1 f_used (consD (nmD 4) nilD))) 100000) nilD)))) (nmT 3))
    (seqS (ifS (btestD (op2 (cmpD .NotEq) (op2 itemD (nmD 0) (cstD (.int 0))) (cstD (.str "call")))) (setS (trimIf qt (callE 1 f_done (consD (nmD 3) nilD))) (nmT 3)) skipS)
    (seqS (forS (anySrc (op1 revAny (opS lzipD (consD (nmD 2) (consD (nmD 1) nilD))))) (tupT 2 (consT (nmT 4) (consT (nmT 5) nilT))) (setS (trimIf qt (callE 3 (F 0) (consD (nmD 5) (consD (nmD 4) (consD (nmD 3) nilD))))) (nmT 3)) 100000)
    (retS (nmD 3)))))))
def nn_led_tree : List Str := ["tree", "word", "rows", "rest", "pattern", "body"]
def pp_led_tree : List Str := ["tree"]
theorem sc_led_tree : FnScope nn_led_tree pp_led_tree (defScope st_led_tree) := ⟨rfl, rfl, rfl, by decide +kernel, rfl, by decide +kernel, by decide +kernel⟩
noncomputable def d_led_tree (F : Nat → FDen) (qt : Bool) : SDen :=
    (seqS (setS (op2 itemD (nmD 0) (cstD (.int 0))) (nmT 1))
    (seqS (ifS (btestD (op2 (cmpD .Eq) (nmD 1) (cstD (.str "fun")))) stuckS skipS)
    (seqS (ifS (btestD (op2 (cmpD .Eq) (nmD 1) (cstD (.str "let")))) stuckS skipS)
    (seqS (ifS (btestD (op2 (cmpD .Eq) (nmD 1) (cstD (.str "rec")))) stuckS skipS)
    (seqS (ifS (btestD (op2 (cmpD .Eq) (nmD 1) (cstD (.str "match")))) stuckS skipS)
    (seqS (ifS (btestD (op2 (cmpD .Eq) (nmD 1) (cstD (.str "do")))) stuckS skipS)
    (seqS (ifS (btestD (op2 (cmpD .Eq) (nmD 1) (cstD (.str "answer")))) stuckS skipS)
    (retS (trimIf qt (callE 1 (F 1) (consD (nmD 0) nilD)))))))))))
noncomputable def rc_0 (n : Nat) : Nat → FDen := Nat.rec (fun _ _ _ => none) (fun k ih j => match j with
  | 0 => bodyF 3 (d_after ih (Nat.beq (k % 16) 0))
  | 1 => bodyF 6 (d_led_parts_bytrees ih (Nat.beq (k % 16) 0))
  | 2 => bodyF 6 (d_led_tree ih (Nat.beq (k % 16) 0))
  | _ => fun _ _ => none) n
noncomputable def f_after : FDen := rc_0 310 0
noncomputable def f_led_parts_bytrees : FDen := rc_0 310 1
noncomputable def f_led_tree : FDen := rc_0 310 2
def nn_by_trees : List Str := ["program", "behind", "plan"]
def pp_by_trees : List Str := ["program"]
theorem sc_by_trees : FnScope nn_by_trees pp_by_trees (defScope st_by_trees) := ⟨rfl, rfl, rfl, by decide +kernel, rfl, by decide +kernel, by decide +kernel⟩
noncomputable def d_by_trees : SDen :=
    (seqS (exprS (trimE (callE 1 f_check_program (consD (nmD 0) nilD))))
    (seqS (exprS (trimE (callE 1 f_check_led_rows (consD (nmD 0) nilD))))
    (seqS (setS (opS tupD (consD (cstD (.str "fun")) (consD (cstD (.str "Again")) (consD (opS tupD (consD (cstD (.str "call")) (consD (opS tupD (consD (cstD (.str "call")) (consD (trimE (callE 1 f_used (consD (cstD (.str "After")) nilD))) (consD (opS tupD (consD (cstD (.str "call")) (consD (trimE (callE 1 f_used (consD (cstD (.str "Rest")) nilD))) (consD (trimE (callE 1 f_used (consD (cstD (.str "Again")) nilD))) nilD)))) nilD)))) (consD (trimE (callE 1 f_used (consD (cstD (.str "Next")) nilD))) nilD)))) nilD)))) (nmT 1))
    (seqS (setS (trimE (callE 2 f_plan_match (consD (opS tupD (consD (cstD (.str "Value")) (consD (opS tupD (consD (cstD (.str "call")) (consD (trimE (callE 1 f_used (consD (cstD (.str "Next")) nilD))) (consD (trimE (callE 1 f_used (consD (cstD (.str "Value")) nilD))) nilD)))) nilD))) (consD (trimE (callE 3 f_did (consD (trimE (callE 1 f_used (consD (cstD (.str "Deed")) nilD))) (consD (trimE (callE 1 f_used (consD (cstD (.str "Value")) nilD))) (consD (nmD 1) nilD))))) nilD)))) (nmT 2))
    (retS (trimE (callE 1 f_with_led_names (consD (opS tupD (consD (cstD (.str "rec")) (consD (cstD (.str "After")) (consD (cstD (.str "Plan")) (consD (opS tupD (consD (cstD (.str "fun")) (consD (cstD (.str "Next")) (consD (nmD 2) nilD)))) (consD (trimE (callE 1 f_led_tree (consD (nmD 0) nilD))) nilD)))))) nilD))))))))
noncomputable def f_by_trees : FDen := bodyF 3 d_by_trees
def nn_finished : List Str := ["tree"]
def pp_finished : List Str := ["tree"]
theorem sc_finished : FnScope nn_finished pp_finished (defScope st_finished) := ⟨rfl, rfl, rfl, by decide +kernel, rfl, by decide +kernel, by decide +kernel⟩
noncomputable def d_finished : SDen :=
    (retS (opS tupD (consD (cstD (.str "call")) (consD (nmD 0) (consD (opS tupD (consD (cstD (.str "fun")) (consD (cstD (.str "Value")) (consD (trimE (callE 1 f_done (consD (trimE (callE 1 f_used (consD (cstD (.str "Value")) nilD))) nilD))) nilD)))) nilD)))))
noncomputable def f_finished : FDen := bodyF 1 d_finished
def nn_ahead : List Str := ["tree", "entry", "body"]
def pp_ahead : List Str := ["tree", "entry", "body"]
theorem sc_ahead : FnScope nn_ahead pp_ahead (defScope st_ahead) := ⟨rfl, rfl, rfl, by decide +kernel, rfl, by decide +kernel, by decide +kernel⟩
noncomputable def d_ahead (F : Nat → FDen) (qt : Bool) : SDen :=
    (retS (opS tupD (consD (cstD (.str "call")) (consD (opS tupD (consD (cstD (.str "fun")) (consD (cstD (.str "Next")) (consD (trimIf qt (callE 1 (F 2) (consD (nmD 0) nilD))) nilD)))) (consD (opS tupD (consD (cstD (.str "fun")) (consD (nmD 1) (consD (nmD 2) nilD)))) nilD)))))
def nn_led_parts_bynext : List Str := ["tree", "parts", "names", "whole", "name", "part"]
def pp_led_parts_bynext : List Str := ["tree"]
theorem sc_led_parts_bynext : FnScope nn_led_parts_bynext pp_led_parts_bynext (defScope st_led_parts_bynext) := ⟨rfl, rfl, rfl, by decide +kernel, rfl, by decide +kernel, by decide +kernel⟩
noncomputable def d_led_parts_bynext (F : Nat → FDen) (qt : Bool) : SDen :=
    (seqS (setS (trimIf qt (callE 1 f_parts_in (consD (nmD 0) nilD))) (nmT 1))
    (seqS (setS (sliceE (cstD (.ktup [.str "One", .str "Two", .str "Three", .str "Four"])) noPart (somePart (opS lenD (consD (nmD 1) nilD)))) (nmT 2))
    (seqS (setS (trimIf qt (callE 2 f_with_parts (consD (nmD 0) (consD (compE (anySrc (nmD 2)) [4] (.one 4) yesT (trimIf qt (callN 1 f_used (consD (nmD 4) nilD))) 100000) nilD)))) (nmT 3))
    (seqS (ifS (btestD (op2 (cmpD .Eq) (op2 itemD (nmD 0) (cstD (.int 0))) (cstD (.str "call")))) stuckS (setS (opS tupD (consD (cstD (.str "call")) (consD (trimIf qt (callE 1 f_used (consD (cstD (.str "Next")) nilD))) (consD (nmD 3) nilD)))) (nmT 3)))
    (seqS (forS (anySrc (op1 revAny (opS lzipD (consD (nmD 2) (consD (nmD 1) nilD))))) (tupT 2 (consT (nmT 4) (consT (nmT 5) nilT))) (setS (trimIf qt (callE 3 (F 0) (consD (nmD 5) (consD (nmD 4) (consD (nmD 3) nilD))))) (nmT 3)) 100000)
    (retS (nmD 3)))))))
def nn_led_body : List Str := ["tree", "word", "rows", "pattern", "body"]
def pp_led_body : List Str := ["tree"]
theorem sc_led_body : FnScope nn_led_body pp_led_body (defScope st_led_body) := ⟨rfl, rfl, rfl, by decide +kernel, rfl, by decide +kernel, by decide +kernel⟩
noncomputable def d_led_body (F : Nat → FDen) (qt : Bool) : SDen :=
    (seqS (setS (op2 itemD (nmD 0) (cstD (.int 0))) (nmT 1))
    (seqS (ifS (btestD (op2 (cmpD .Eq) (nmD 1) (cstD (.str "fun")))) stuckS skipS)
    (seqS (ifS (btestD (op2 (cmpD .Eq) (nmD 1) (cstD (.str "let")))) stuckS skipS)
    (seqS (ifS (btestD (op2 (cmpD .Eq) (nmD 1) (cstD (.str "rec")))) stuckS skipS)
    (seqS (ifS (btestD (op2 (cmpD .Eq) (nmD 1) (cstD (.str "match")))) stuckS skipS)
    (seqS (ifS (btestD (op2 (cmpD .Eq) (nmD 1) (cstD (.str "do")))) stuckS skipS)
    (seqS (ifS (btestD (op2 (cmpD .Eq) (nmD 1) (cstD (.str "answer")))) stuckS skipS)
    (retS (trimIf qt (callE 1 (F 1) (consD (nmD 0) nilD)))))))))))
noncomputable def rc_1 (n : Nat) : Nat → FDen := Nat.rec (fun _ _ _ => none) (fun k ih j => match j with
  | 0 => bodyF 3 (d_ahead ih (Nat.beq (k % 16) 0))
  | 1 => bodyF 6 (d_led_parts_bynext ih (Nat.beq (k % 16) 0))
  | 2 => bodyF 5 (d_led_body ih (Nat.beq (k % 16) 0))
  | _ => fun _ _ => none) n
noncomputable def f_ahead : FDen := rc_1 310 0
noncomputable def f_led_parts_bynext : FDen := rc_1 310 1
noncomputable def f_led_body : FDen := rc_1 310 2
def nn_led_next : List Str := ["tree"]
def pp_led_next : List Str := ["tree"]
theorem sc_led_next : FnScope nn_led_next pp_led_next (defScope st_led_next) := ⟨rfl, rfl, rfl, by decide +kernel, rfl, by decide +kernel, by decide +kernel⟩
noncomputable def d_led_next : SDen :=
    (retS (opS tupD (consD (cstD (.str "fun")) (consD (cstD (.str "Next")) (consD (trimE (callE 1 f_led_body (consD (nmD 0) nilD))) nilD)))))
noncomputable def f_led_next : FDen := bodyF 1 d_led_next
def nn_by_next : List Str := ["program"]
def pp_by_next : List Str := ["program"]
theorem sc_by_next : FnScope nn_by_next pp_by_next (defScope st_by_next) := ⟨rfl, rfl, rfl, by decide +kernel, rfl, by decide +kernel, by decide +kernel⟩
noncomputable def d_by_next : SDen :=
    (seqS (exprS (trimE (callE 1 f_check_program (consD (nmD 0) nilD))))
    (seqS (exprS (trimE (callE 1 f_check_led_rows (consD (nmD 0) nilD))))
    (retS (trimE (callE 1 f_with_led_names (consD (trimE (callE 1 f_finished (consD (trimE (callE 1 f_led_next (consD (nmD 0) nilD))) nilD))) nilD))))))
noncomputable def f_by_next : FDen := bodyF 1 d_by_next
def nn_check_engine : List Str := ["value"]
def pp_check_engine : List Str := ["value"]
theorem sc_check_engine : FnScope nn_check_engine pp_check_engine (defScope st_check_engine) := ⟨rfl, rfl, rfl, by decide +kernel, rfl, by decide +kernel, by decide +kernel⟩
noncomputable def d_check_engine : SDen :=
    (ifS (orT (btestD (op2 (cmpD .IsNot) (opS tyOfD (consD (nmD 0) nilD)) (cstD (.ty "str")))) (btestD (op2 (cmpD .NotIn) (nmD 0) (cstD (.ktup [.str "rewriting", .str "trees", .str "next"]))))) (raiseS "InvalidEngine") skipS)
noncomputable def f_check_engine : FDen := bodyF 1 d_check_engine
def nn_check_number : List Str := ["value", "low", "high"]
def pp_check_number : List Str := ["value", "low", "high"]
theorem sc_check_number : FnScope nn_check_number pp_check_number (defScope st_check_number) := ⟨rfl, rfl, rfl, by decide +kernel, rfl, by decide +kernel, by decide +kernel⟩
noncomputable def d_check_number : SDen :=
    (ifS (notT (testD (trimE (callE 3 f_is_integer (consD (nmD 0) (consD (nmD 1) (consD (nmD 2) nilD))))))) (raiseAS "InvalidNumber" (consD (joinF [(cstD (.str "this is no integer from ")), (op1 fmtD (nmD 1)), (cstD (.str " to ")), (op1 fmtD (nmD 2))] Str.empty) nilD)) skipS)
noncomputable def f_check_number : FDen := bodyF 3 d_check_number
def nn_holds_value : List Str := ["tree", "waiting", "one"]
def pp_holds_value : List Str := ["tree"]
theorem sc_holds_value : FnScope nn_holds_value pp_holds_value (defScope st_holds_value) := ⟨rfl, rfl, rfl, by decide +kernel, rfl, by decide +kernel, by decide +kernel⟩
noncomputable def d_holds_value : SDen :=
    (seqS (setS (opS lstD (consD (nmD 0) nilD)) (nmT 1))
    (seqS (whileS (testD (nmD 1)) (trimW (seqS (setS (meth0 popD (nmD 1)) (nmT 2))
    (ifS (btestD (op2 (cmpD .Eq) (op2 itemD (nmD 2) (cstD (.int 0))) (cstD (.str "shape")))) stuckS (ifS (andT (btestD (op2 (cmpD .NotEq) (op2 itemD (nmD 2) (cstD (.int 0))) (cstD (.str "num")))) (btestD (op2 (cmpD .NotEq) (op2 itemD (nmD 2) (cstD (.int 0))) (cstD (.str "fun"))))) (retS (cstD (.bl false))) skipS)))) 100000)
    (retS (cstD (.bl true)))))
noncomputable def f_holds_value : FDen := bodyF 3 d_holds_value
def nn_working_index : List Str := ["tree", "parts", "index", "part"]
def pp_working_index : List Str := ["tree"]
theorem sc_working_index : FnScope nn_working_index pp_working_index (defScope st_working_index) := ⟨rfl, rfl, rfl, by decide +kernel, rfl, by decide +kernel, by decide +kernel⟩
noncomputable def d_working_index : SDen :=
    (seqS (setS (trimE (callE 1 f_parts_in (consD (nmD 0) nilD))) (nmT 1))
    (seqS (ifS (btestD (op2 (cmpD .In) (op2 itemD (nmD 0) (cstD (.int 0))) (opS tupD (consD (cstD (.str "let")) (consD (cstD (.str "match")) (consD (cstD (.str "do")) (consD (cstD (.str "answer")) nilD))))))) (setS (sliceE (nmD 1) noPart (somePart (cstD (.int 1)))) (nmT 1)) stuckS)
    (seqS (forS (enumSrc (consD (nmD 1) nilD)) (tupT 2 (consT (nmT 2) (consT (nmT 3) nilT))) (trimW (ifS (notT (testD (trimE (callE 1 f_holds_value (consD (nmD 3) nilD))))) stuckS skipS)) 100000)
    (retS (cstD .non)))))
noncomputable def f_working_index : FDen := bodyF 4 d_working_index
def nn_Course__seek : List Str := ["self", "is_done", "tree", "index"]
def pp_Course__seek : List Str := ["self"]
theorem sc_Course__seek : FnScope nn_Course__seek pp_Course__seek (defScope st_Course__seek) := ⟨rfl, rfl, rfl, by decide +kernel, rfl, by decide +kernel, by decide +kernel⟩
noncomputable def d_Course__seek : SDen :=
    (seqS (setS (trimE (callE 1 f_holds_value (consD (op1 (fldO "Course" "spot") (nmD 0)) nilD))) (nmT 1))
    (seqS (whileS (andT (testD (nmD 1)) (btestD (op2 (cmpD .Gt) (opS lenD (consD (op1 (fldO "Course" "trail") (nmD 0)) nilD)) (cstD (.int 0))))) (trimW stuckS) 100000)
    (seqS (setS (cstD .non) (nmT 3))
    (seqS (ifS (notT (testD (nmD 1))) (setS (trimE (callE 1 f_working_index (consD (op1 (fldO "Course" "spot") (nmD 0)) nilD))) (nmT 3)) skipS)
    (whileS (btestD (op2 (cmpD .IsNot) (nmD 3) (cstD .non))) (trimW stuckS) 100000)))))
noncomputable def f_Course__seek : FDen := bodyF 4 d_Course__seek
def nn_Course__init : List Str := ["self", "program"]
def pp_Course__init : List Str := ["self", "program"]
theorem sc_Course__init : FnScope nn_Course__init pp_Course__init (defScope st_Course__init) := ⟨rfl, rfl, rfl, by decide +kernel, rfl, by decide +kernel, by decide +kernel⟩
noncomputable def d_Course__init : SDen :=
    (seqS (fldS "Course" "trail" (nmD 0) (opS lstD nilD))
    (seqS (fldS "Course" "spot" (nmD 0) (nmD 1))
    (seqS (fldS "Course" "size" (nmD 0) (op2 itemD (trimE (callE 1 f_measure (consD (nmD 1) nilD))) (cstD (.int 0))))
    (exprS (mcall0 "Course" "seek" f_Course__seek (nmD 0))))))
noncomputable def f_Course__init : FDen := bodyF 2 d_Course__init
def nn_stuck_at : List Str := ["spot", "word", "result", "row"]
def pp_stuck_at : List Str := ["spot"]
theorem sc_stuck_at : FnScope nn_stuck_at pp_stuck_at (defScope st_stuck_at) := ⟨rfl, rfl, rfl, by decide +kernel, rfl, by decide +kernel, by decide +kernel⟩
noncomputable def d_stuck_at : SDen :=
    (seqS (setS (op2 itemD (nmD 0) (cstD (.int 0))) (nmT 1))
    (seqS (ifS (andT (btestD (op2 (cmpD .Eq) (nmD 1) (cstD (.str "call")))) (btestD (op2 (cmpD .NotEq) (op2 itemD (op2 itemD (nmD 0) (cstD (.int 1))) (cstD (.int 0))) (cstD (.str "fun"))))) stuckS skipS)
    (seqS (ifS (andT (btestD (op2 (cmpD .Eq) (nmD 1) (cstD (.str "match")))) (testD (opS allD (consD (compE (anySrc (op2 itemD (nmD 0) (cstD (.int 2)))) [3] (.one 3) yesT (op2 (cmpD .Is) stuckE (cstD .non)) 100000) nilD)))) stuckS skipS)
    (seqS (ifS (btestD (op2 (cmpD .Eq) (nmD 1) (cstD (.str "op")))) stuckS skipS)
    (retS (cstD .non))))))
noncomputable def f_stuck_at : FDen := bodyF 4 d_stuck_at
def nn_stop_at : List Str := ["trail", "spot", "reason"]
def pp_stop_at : List Str := ["trail", "spot"]
theorem sc_stop_at : FnScope nn_stop_at pp_stop_at (defScope st_stop_at) := ⟨rfl, rfl, rfl, by decide +kernel, rfl, by decide +kernel, by decide +kernel⟩
noncomputable def d_stop_at : SDen :=
    (seqS (ifS (btestD (op2 (cmpD .Eq) (op2 itemD (nmD 1) (cstD (.int 0))) (cstD (.str "do")))) stuckS skipS)
    (seqS (setS (trimE (callE 1 f_stuck_at (consD (nmD 1) nilD))) (nmT 2))
    (seqS (ifS (btestD (op2 (cmpD .Is) (nmD 2) (cstD .non))) (retS (cstD .non)) skipS)
    stuckS)))
noncomputable def f_stop_at : FDen := bodyF 3 d_stop_at
def nn_Course__ending : List Str := ["self"]
def pp_Course__ending : List Str := ["self"]
theorem sc_Course__ending : FnScope nn_Course__ending pp_Course__ending (defScope st_Course__ending) := ⟨rfl, rfl, rfl, by decide +kernel, rfl, by decide +kernel, by decide +kernel⟩
noncomputable def d_Course__ending : SDen :=
    (seqS (ifS (testD (trimE (callE 1 f_holds_value (consD (op1 (fldO "Course" "spot") (nmD 0)) nilD)))) (retS (opS tupD (consD (cstD (.str "value")) (consD (op1 (fldO "Course" "spot") (nmD 0)) nilD)))) skipS)
    (retS (trimE (callE 2 f_stop_at (consD (op1 (fldO "Course" "trail") (nmD 0)) (consD (op1 (fldO "Course" "spot") (nmD 0)) nilD))))))
noncomputable def f_Course__ending : FDen := bodyF 1 d_Course__ending
def nn_Course__change : List Str := ["self", "gone", "tree", "size", "depth"]
def pp_Course__change : List Str := ["self", "gone", "tree"]
theorem sc_Course__change : FnScope nn_Course__change pp_Course__change (defScope st_Course__change) := ⟨rfl, rfl, rfl, by decide +kernel, rfl, by decide +kernel, by decide +kernel⟩
noncomputable def d_Course__change : SDen :=
    (seqS (setS (trimE (callE 1 f_measure (consD (nmD 2) nilD))) (tupT 2 (consT (nmT 3) (consT (nmT 4) nilT))))
    (seqS (fldS "Course" "size" (nmD 0) (op2 (binD .Add) (op2 (binD .Sub) (op1 (fldO "Course" "size") (nmD 0)) (op2 itemD (trimE (callE 1 f_measure (consD (nmD 1) nilD))) (cstD (.int 0)))) (nmD 3)))
    (seqS (fldS "Course" "spot" (nmD 0) (nmD 2))
    (seqS (ifS (btestD (op2 (cmpD .Gt) (op1 (fldO "Course" "size") (nmD 0)) (cstD (.int 3000)))) stuckS skipS)
    (seqS (ifS (btestD (op2 (cmpD .Gt) (op2 (binD .Add) (opS lenD (consD (op1 (fldO "Course" "trail") (nmD 0)) nilD)) (nmD 4)) (cstD (.int 120)))) stuckS skipS)
    (exprS (mcall0 "Course" "seek" f_Course__seek (nmD 0))))))))
noncomputable def f_Course__change : FDen := bodyF 5 d_Course__change
def nn_put_in : List Str := ["tree", "table", "parts", "_", "bound", "part"]
def pp_put_in : List Str := ["tree", "table"]
theorem sc_put_in : FnScope nn_put_in pp_put_in (defScope st_put_in) := ⟨rfl, rfl, rfl, by decide +kernel, rfl, by decide +kernel, by decide +kernel⟩
noncomputable def d_put_in : SDen :=
    (seqS (ifS (btestD (op2 (cmpD .Eq) (opS lenD (consD (nmD 1) nilD)) (cstD (.int 0)))) stuckS skipS)
    (seqS (ifS (btestD (op2 (cmpD .Eq) (op2 itemD (nmD 0) (cstD (.int 0))) (cstD (.str "name")))) (retS (getE (nmD 1) (op2 itemD (nmD 0) (cstD (.int 1))) (nmD 0))) skipS)
    stuckS))
noncomputable def f_put_in : FDen := bodyF 6 d_put_in
def nn_changed_at : List Str := ["spot", "word", "_", "name", "entry", "made", "body"]
def pp_changed_at : List Str := ["spot"]
theorem sc_changed_at : FnScope nn_changed_at pp_changed_at (defScope st_changed_at) := ⟨rfl, rfl, rfl, by decide +kernel, rfl, by decide +kernel, by decide +kernel⟩
noncomputable def d_changed_at : SDen :=
    (seqS (setS (op2 itemD (nmD 0) (cstD (.int 0))) (nmT 1))
    (seqS (ifS (btestD (op2 (cmpD .Eq) (nmD 1) (cstD (.str "call")))) stuckS skipS)
    (seqS (ifS (btestD (op2 (cmpD .Eq) (nmD 1) (cstD (.str "let")))) stuckS skipS)
    (seqS (ifS (btestD (op2 (cmpD .Eq) (nmD 1) (cstD (.str "rec")))) stuckS skipS)
    (seqS (ifS (btestD (op2 (cmpD .Eq) (nmD 1) (cstD (.str "match")))) stuckS skipS)
    (seqS (ifS (btestD (op2 (cmpD .Eq) (nmD 1) (cstD (.str "op")))) stuckS skipS)
    (retS (trimE (callE 2 f_put_in (consD (op2 itemD (op2 itemD (nmD 0) (cstD (.int 2))) (cstD (.int 1))) (consD (disp1E (op2 itemD (op2 itemD (nmD 0) (cstD (.int 2))) (cstD (.int 0))) (op2 itemD (nmD 0) (cstD (.int 1)))) nilD)))))))))))
noncomputable def f_changed_at : FDen := bodyF 7 d_changed_at
def nn_Course__advance : List Str := ["self", "word", "at", "body", "gone"]
def pp_Course__advance : List Str := ["self"]
theorem sc_Course__advance : FnScope nn_Course__advance pp_Course__advance (defScope st_Course__advance) := ⟨rfl, rfl, rfl, by decide +kernel, rfl, by decide +kernel, by decide +kernel⟩
noncomputable def d_Course__advance : SDen :=
    (seqS (setS (op1 (lookS [("call", .str "call"), ("let", .str "let"), ("rec", .str "rec"), ("match", .str "match"), ("op", .str "op"), ("answer", .str "plain"), ("do", .str "deed")]) (op2 itemD (op1 (fldO "Course" "spot") (nmD 0)) (cstD (.int 0)))) (nmT 1))
    (seqS (ifS (btestD (op2 (cmpD .Eq) (nmD 1) (cstD (.str "deed")))) stuckS (exprS (mcallE "Course" "change" 3 f_Course__change (nmD 0) (consD (op1 (fldO "Course" "spot") (nmD 0)) (consD (trimE (callE 1 f_changed_at (consD (op1 (fldO "Course" "spot") (nmD 0)) nilD))) nilD)))))
    (retS (nmD 1))))
noncomputable def f_Course__advance : FDen := bodyF 5 d_Course__advance
def nn_Course__lead : List Str := ["self", "most", "many"]
def pp_Course__lead : List Str := ["self", "most"]
theorem sc_Course__lead : FnScope nn_Course__lead pp_Course__lead (defScope st_Course__lead) := ⟨rfl, rfl, rfl, by decide +kernel, rfl, by decide +kernel, by decide +kernel⟩
noncomputable def d_Course__lead : SDen :=
    (seqS (setS (cstD (.int 0)) (nmT 2))
    (seqS (whileS (andT (btestD (op2 (cmpD .Lt) (nmD 2) (nmD 1))) (btestD (op2 (cmpD .Is) (mcall0 "Course" "ending" f_Course__ending (nmD 0)) (cstD .non)))) (trimW (seqS (exprS (mcall0 "Course" "advance" f_Course__advance (nmD 0)))
    (setS (op2 (binD .Add) (nmD 2) (cstD (.int 1))) (nmT 2)))) 100000)
    (retS (nmD 2))))
noncomputable def f_Course__lead : FDen := bodyF 3 d_Course__lead
def nn_shown : List Str := ["value", "parts", "part"]
def pp_shown : List Str := ["value"]
theorem sc_shown : FnScope nn_shown pp_shown (defScope st_shown) := ⟨rfl, rfl, rfl, by decide +kernel, rfl, by decide +kernel, by decide +kernel⟩
noncomputable def d_shown : SDen :=
    (seqS (ifS (btestD (op2 (cmpD .Eq) (op2 itemD (nmD 0) (cstD (.int 0))) (cstD (.str "num")))) (retS (op2 itemD (nmD 0) (cstD (.int 1)))) skipS)
    stuckS)
noncomputable def f_shown : FDen := bodyF 3 d_shown
def nn_shown_end : List Str := ["end"]
def pp_shown_end : List Str := ["end"]
theorem sc_shown_end : FnScope nn_shown_end pp_shown_end (defScope st_shown_end) := ⟨rfl, rfl, rfl, by decide +kernel, rfl, by decide +kernel, by decide +kernel⟩
noncomputable def d_shown_end : SDen :=
    (seqS (ifS (btestD (op2 (cmpD .Eq) (op2 itemD (nmD 0) (cstD (.int 0))) (cstD (.str "value")))) (retS (opS tupD (consD (cstD (.str "value")) (consD (trimE (callE 1 f_shown (consD (op2 itemD (nmD 0) (cstD (.int 1))) nilD))) nilD)))) skipS)
    stuckS)
noncomputable def f_shown_end : FDen := bodyF 1 d_shown_end
def nn_Course__shown_ending : List Str := ["self", "end"]
def pp_Course__shown_ending : List Str := ["self"]
theorem sc_Course__shown_ending : FnScope nn_Course__shown_ending pp_Course__shown_ending (defScope st_Course__shown_ending) := ⟨rfl, rfl, rfl, by decide +kernel, rfl, by decide +kernel, by decide +kernel⟩
noncomputable def d_Course__shown_ending : SDen :=
    (seqS (setS (mcall0 "Course" "ending" f_Course__ending (nmD 0)) (nmT 1))
    (seqS (ifS (btestD (op2 (cmpD .Is) (nmD 1) (cstD .non))) stuckS skipS)
    (retS (trimE (callE 1 f_shown_end (consD (nmD 1) nilD))))))
noncomputable def f_Course__shown_ending : FDen := bodyF 2 d_Course__shown_ending
def nn_run_by_rewriting : List Str := ["program", "most", "course", "many"]
def pp_run_by_rewriting : List Str := ["program", "most"]
theorem sc_run_by_rewriting : FnScope nn_run_by_rewriting pp_run_by_rewriting (defScope st_run_by_rewriting) := ⟨rfl, rfl, rfl, by decide +kernel, rfl, by decide +kernel, by decide +kernel⟩
noncomputable def d_run_by_rewriting : SDen :=
    (seqS (setS (makeE "Course" 2 f_Course__init (consD (nmD 0) nilD)) (nmT 2))
    (seqS (setS (mcallE "Course" "lead" 2 f_Course__lead (nmD 2) (consD (nmD 1) nilD)) (nmT 3))
    (retS (opS tupD (consD (mcall0 "Course" "shown_ending" f_Course__shown_ending (nmD 2)) (consD (nmD 3) nilD))))))
noncomputable def f_run_by_rewriting : FDen := bodyF 4 d_run_by_rewriting
def nn_shown_and_steps : List Str := ["program", "engine", "most", "led", "end", "many"]
def pp_shown_and_steps : List Str := ["program", "engine", "most"]
theorem sc_shown_and_steps : FnScope nn_shown_and_steps pp_shown_and_steps (defScope st_shown_and_steps) := ⟨rfl, rfl, rfl, by decide +kernel, rfl, by decide +kernel, by decide +kernel⟩
noncomputable def d_shown_and_steps : SDen :=
    (seqS (ifS (btestD (op2 (cmpD .Eq) (nmD 1) (cstD (.str "rewriting")))) (retS (trimE (callE 2 f_run_by_rewriting (consD (nmD 0) (consD (nmD 2) nilD))))) skipS)
    (seqS (ifS (btestD (op2 (cmpD .Eq) (nmD 1) (cstD (.str "trees")))) (setS (trimE (callE 1 f_by_trees (consD (nmD 0) nilD))) (nmT 3)) stuckS)
    stuckS))
noncomputable def f_shown_and_steps : FDen := bodyF 6 d_shown_and_steps
def nn_shown_by : List Str := ["program", "engine", "most"]
def pp_shown_by : List Str := ["program", "engine", "most"]
theorem sc_shown_by : FnScope nn_shown_by pp_shown_by (defScope st_shown_by) := ⟨rfl, rfl, rfl, by decide +kernel, rfl, by decide +kernel, by decide +kernel⟩
noncomputable def d_shown_by : SDen :=
    (seqS (exprS (trimE (callE 1 f_check_program (consD (nmD 0) nilD))))
    (seqS (exprS (trimE (callE 1 f_check_engine (consD (nmD 1) nilD))))
    (seqS (exprS (trimE (callE 3 f_check_number (consD (nmD 2) (consD (cstD (.int 0)) (consD (cstD (.int 3000)) nilD))))))
    (retS (trimE (callE 3 f_shown_and_steps (consD (nmD 0) (consD (nmD 1) (consD (nmD 2) nilD)))))))))
noncomputable def f_shown_by : FDen := bodyF 3 d_shown_by
def nn_are_shown_alike : List Str := ["program", "engine", "other", "most", "one", "_", "two"]
def pp_are_shown_alike : List Str := ["program", "engine", "other", "most"]
theorem sc_are_shown_alike : FnScope nn_are_shown_alike pp_are_shown_alike (defScope st_are_shown_alike) := ⟨rfl, rfl, rfl, by decide +kernel, rfl, by decide +kernel, by decide +kernel⟩
noncomputable def d_are_shown_alike : SDen :=
    (seqS (exprS (trimE (callE 1 f_check_program (consD (nmD 0) nilD))))
    (seqS (exprS (trimE (callE 1 f_check_engine (consD (nmD 1) nilD))))
    (seqS (exprS (trimE (callE 1 f_check_engine (consD (nmD 2) nilD))))
    stuckS)))
noncomputable def f_are_shown_alike : FDen := bodyF 7 d_are_shown_alike
def nn_fits_program : List Str := ["value"]
def pp_fits_program : List Str := ["value"]
theorem sc_fits_program : FnScope nn_fits_program pp_fits_program (defScope st_fits_program) := ⟨rfl, rfl, rfl, by decide +kernel, rfl, by decide +kernel, by decide +kernel⟩
noncomputable def d_fits_program : SDen :=
    (retS (andE (trimE (callE 1 f_fits_tree (consD (nmD 0) nilD))) (op2 (cmpD .Eq) (opS lenD (consD (trimE (callE 1 f_free_in (consD (nmD 0) nilD))) nilD)) (cstD (.int 0)))))
noncomputable def f_fits_program : FDen := bodyF 1 d_fits_program
def nn_is_value_program : List Str := ["value"]
def pp_is_value_program : List Str := ["value"]
theorem sc_is_value_program : FnScope nn_is_value_program pp_is_value_program (defScope st_is_value_program) := ⟨rfl, rfl, rfl, by decide +kernel, rfl, by decide +kernel, by decide +kernel⟩
noncomputable def d_is_value_program : SDen :=
    (retS (andE (trimE (callE 1 f_fits_program (consD (nmD 0) nilD))) (trimE (callE 1 f_holds_value (consD (nmD 0) nilD)))))
noncomputable def f_is_value_program : FDen := bodyF 1 d_is_value_program
def nn_check_value : List Str := ["value"]
def pp_check_value : List Str := ["value"]
theorem sc_check_value : FnScope nn_check_value pp_check_value (defScope st_check_value) := ⟨rfl, rfl, rfl, by decide +kernel, rfl, by decide +kernel, by decide +kernel⟩
noncomputable def d_check_value : SDen :=
    (ifS (notT (testD (trimE (callE 1 f_is_value_program (consD (nmD 0) nilD))))) (raiseS "InvalidValue") skipS)
noncomputable def f_check_value : FDen := bodyF 1 d_check_value
def nn_check_values : List Str := ["values", "low", "high", "value"]
def pp_check_values : List Str := ["values", "low", "high"]
theorem sc_check_values : FnScope nn_check_values pp_check_values (defScope st_check_values) := ⟨rfl, rfl, rfl, by decide +kernel, rfl, by decide +kernel, by decide +kernel⟩
noncomputable def d_check_values : SDen :=
    (seqS (ifS (notT (testD (trimE (callE 3 f_is_tuple_of (consD (nmD 0) (consD (nmD 1) (consD (nmD 2) nilD))))))) (raiseS "InvalidValue") skipS)
    (forS (anySrc (nmD 0)) (nmT 3) (trimW (exprS (trimE (callE 1 f_check_value (consD (nmD 3) nilD))))) 100000))
noncomputable def f_check_values : FDen := bodyF 4 d_check_values
def nn_check_talk : List Str := ["program", "answers", "most"]
def pp_check_talk : List Str := ["program", "answers", "most"]
theorem sc_check_talk : FnScope nn_check_talk pp_check_talk (defScope st_check_talk) := ⟨rfl, rfl, rfl, by decide +kernel, rfl, by decide +kernel, by decide +kernel⟩
noncomputable def d_check_talk : SDen :=
    (seqS (exprS (trimE (callE 1 f_check_program (consD (nmD 0) nilD))))
    (seqS (exprS (trimE (callE 3 f_check_values (consD (nmD 1) (consD (cstD (.int 0)) (consD (cstD (.int 12)) nilD))))))
    (exprS (trimE (callE 3 f_check_number (consD (nmD 2) (consD (cstD (.int 0)) (consD (cstD (.int 3000)) nilD))))))))
noncomputable def f_check_talk : FDen := bodyF 3 d_check_talk
def nn_talk_of : List Str := ["program", "answers", "most", "course", "deeds"]
def pp_talk_of : List Str := ["program", "answers", "most"]
theorem sc_talk_of : FnScope nn_talk_of pp_talk_of (defScope st_talk_of) := ⟨rfl, rfl, rfl, by decide +kernel, rfl, by decide +kernel, by decide +kernel⟩
noncomputable def d_talk_of : SDen :=
    (seqS (exprS (trimE (callE 3 f_check_talk (consD (nmD 0) (consD (nmD 1) (consD (nmD 2) nilD))))))
    stuckS)
noncomputable def f_talk_of : FDen := bodyF 5 d_talk_of
def nn_program_behind : List Str := ["program", "answers", "most", "course", "_"]
def pp_program_behind : List Str := ["program", "answers", "most"]
theorem sc_program_behind : FnScope nn_program_behind pp_program_behind (defScope st_program_behind) := ⟨rfl, rfl, rfl, by decide +kernel, rfl, by decide +kernel, by decide +kernel⟩
noncomputable def d_program_behind : SDen :=
    (seqS (exprS (trimE (callE 3 f_check_talk (consD (nmD 0) (consD (nmD 1) (consD (nmD 2) nilD))))))
    stuckS)
noncomputable def f_program_behind : FDen := bodyF 5 d_program_behind
def nn_deed_tree : List Str := ["program", "menu", "deep", "most"]
def pp_deed_tree : List Str := ["program", "menu", "deep", "most"]
theorem sc_deed_tree : FnScope nn_deed_tree pp_deed_tree (defScope st_deed_tree) := ⟨rfl, rfl, rfl, by decide +kernel, rfl, by decide +kernel, by decide +kernel⟩
noncomputable def d_deed_tree : SDen :=
    (seqS (exprS (trimE (callE 1 f_check_program (consD (nmD 0) nilD))))
    (seqS (exprS (trimE (callE 3 f_check_values (consD (nmD 1) (consD (cstD (.int 1)) (consD (cstD (.int 3)) nilD))))))
    (seqS (exprS (trimE (callE 3 f_check_number (consD (nmD 2) (consD (cstD (.int 0)) (consD (cstD (.int 4)) nilD))))))
    stuckS)))
noncomputable def f_deed_tree : FDen := bodyF 4 d_deed_tree
def nn__law_name : List Str := ["_law_e", "_law_some_here", "_law_words", "_law_word", "_law_found"]
def pp__law_name : List Str := ["_law_e"]
theorem sc__law_name : FnScope nn__law_name pp__law_name (defScope st__law_name) := ⟨rfl, rfl, rfl, by decide +kernel, rfl, by decide +kernel, by decide +kernel⟩
noncomputable def d__law_name (sub : Str → Bool) : SDen :=
    (seqS (ifS (testD (op1 (isExD (sub "TooMany")) (nmD 0))) (retS (op2 (binD .Add) (cstD (.str "many ")) (opS strD (consD (op1 fldD (nmD 0)) nilD)))) skipS)
    (seqS (setS (opS lstD (consD (op1 (isExD (sub "InvalidTree")) (nmD 0)) (consD (op1 (isExD (sub "InvalidProgram")) (nmD 0)) (consD (op1 (isExD (sub "InvalidValue")) (nmD 0)) nilD)))) (nmT 1))
    (seqS (setS (op2 (binD .Add) (nmD 1) (opS lstD (consD (op1 (isExD (sub "InvalidName")) (nmD 0)) (consD (op1 (isExD (sub "InvalidNumber")) (nmD 0)) (consD (op1 (isExD (sub "InvalidEngine")) (nmD 0)) nilD))))) (nmT 1))
    (seqS (setS (splitE (cstD (.str "tree program value name number engine")) (cstD (.str " "))) (nmT 2))
    (retS (joinE (cstD (.str " ")) (compE (zipSrcL (consD (nmD 2) (consD (nmD 1) nilD))) [3, 4] (.many [3, 4]) (testD (nmD 4)) (nmD 3) 100000)))))))
noncomputable def f__law_name (sub : Str → Bool) : FDen := bodyF 5 (d__law_name sub)
def known : List Str := ["InvalidTree", "InvalidProgram", "InvalidValue", "InvalidName", "InvalidNumber", "InvalidEngine", "TooMany"]
noncomputable def dnm (cls : Str) : SDen := d__law_name (sub0 cls)
def pp__law_error : List Str := ["_law_call"]
def nn__law_programs_right : List Str := ["_law_odd", "_law_due", "_law_calls", "_law_call"]
def pp__law_programs_right : List Str := ["_law_odd", "_law_due"]
theorem sc__law_programs_right : FnScope nn__law_programs_right pp__law_programs_right (defScope st__law_programs_right) := ⟨rfl, rfl, rfl, by decide +kernel, rfl, by decide +kernel, by decide +kernel⟩
def LS__law_programs_right_0 : LamS := theVal (a := lamsOf st__law_programs_right 0) _ (by conv => {lhs; whnf})
def LS__law_programs_right_1 : LamS := theVal (a := lamsOf st__law_programs_right 1) _ (by conv => {lhs; whnf})
def LS__law_programs_right_2 : LamS := theVal (a := lamsOf st__law_programs_right 2) _ (by conv => {lhs; whnf})
def LS__law_programs_right_3 : LamS := theVal (a := lamsOf st__law_programs_right 3) _ (by conv => {lhs; whnf})
def LS__law_programs_right_4 : LamS := theVal (a := lamsOf st__law_programs_right 4) _ (by conv => {lhs; whnf})
def LS__law_programs_right_5 : LamS := theVal (a := lamsOf st__law_programs_right 5) _ (by conv => {lhs; whnf})
def LS__law_programs_right_6 : LamS := theVal (a := lamsOf st__law_programs_right 6) _ (by conv => {lhs; whnf})
def LS__law_programs_right : Nat → LamS := fun n => match n with
  | 0 => LS__law_programs_right_0
  | 1 => LS__law_programs_right_1
  | 2 => LS__law_programs_right_2
  | 3 => LS__law_programs_right_3
  | 4 => LS__law_programs_right_4
  | 5 => LS__law_programs_right_5
  | 6 => LS__law_programs_right_6
  | _ => noLam
abbrev lam__law_programs_right (h : Nat) : Nat → Addr → HO → Addr → HO → Prop := lamOf (qv__law_programs_right ++ "<lambda>") fun n => ⟨LS__law_programs_right n, cloFrom (cellsFrom (h + 1) (defScope st__law_programs_right).names []) (LS__law_programs_right n).scope.names []⟩
noncomputable def bd__law_programs_right : Nat → Option (Den D) := fun n => match n with
  | 0 => some (trimE (callE 1 f_by_trees (consD (nmD 0) nilD)))
  | 1 => some (trimE (callE 1 f_by_next (consD (nmD 0) nilD)))
  | 2 => some (trimE (callE 3 f_shown_by (consD (nmD 0) (consD (cstD .non) (consD (cstD .non) nilD)))))
  | 3 => some (trimE (callE 4 f_are_shown_alike (consD (nmD 0) (consD (cstD .non) (consD (cstD .non) (consD (cstD .non) nilD))))))
  | 4 => some (trimE (callE 3 f_talk_of (consD (nmD 0) (consD (cstD .non) (consD (cstD .non) nilD)))))
  | 5 => some (trimE (callE 3 f_program_behind (consD (nmD 0) (consD (cstD .non) (consD (cstD .non) nilD)))))
  | 6 => some (trimE (callE 4 f_deed_tree (consD (nmD 0) (consD (cstD .non) (consD (cstD .non) (consD (cstD .non) nilD))))))
  | _ => none
noncomputable def d__law_programs_right : SDen :=
    (seqS (setS (opS lstD (consD (lamD 0) nilD)) (nmT 2))
    (seqS (exprS (methE appendD (nmD 2) (consD (lamD 1) nilD)))
    (seqS (exprS (methE appendD (nmD 2) (consD (lamD 2) nilD)))
    (seqS (exprS (methE appendD (nmD 2) (consD (lamD 3) nilD)))
    (seqS (exprS (methE appendD (nmD 2) (consD (lamD 4) nilD)))
    (seqS (exprS (methE appendD (nmD 2) (consD (lamD 5) nilD)))
    (seqS (exprS (methE appendD (nmD 2) (consD (lamD 6) nilD)))
    (retS (op2 (cmpD .Eq) (compE (anySrc (nmD 2)) [3] (.one 3) yesT (trimE (errC known nn__law_name.length dnm [3] bd__law_programs_right (nmD 3))) 100000) (op2 (binD .Mult) (opS lstD (consD (nmD 1) nilD)) (cstD (.int 7))))))))))))
noncomputable def f__law_programs_right : FDen := bodyL 4 d__law_programs_right
def nn__law_roll : List Str := ["_law_cup_here", "_law_many", "_law_found", "_law_deep"]
def pp__law_roll : List Str := ["_law_cup_here", "_law_many"]
theorem sc__law_roll : FnScope nn__law_roll pp__law_roll (defScope st__law_roll) := ⟨rfl, rfl, rfl, by decide +kernel, rfl, by decide +kernel, by decide +kernel⟩
noncomputable def d__law_roll : SDen :=
    (seqS (ifS (btestD (op2 (cmpD .Gt) (op2 itemD (nmD 0) (cstD (.int 0))) (cstD (.int 0)))) (seqS (setS (op2 (binD .Mod) (opS intD (consD (op2 itemD (nmD 0) (cstD (.int 0))) nilD)) (nmD 1)) (nmT 2))
    (seqS (putS (nmD 0) (cstD (.int 0)) (op2 (binD .FloorDiv) (op2 itemD (nmD 0) (cstD (.int 0))) (nmD 1)))
    (retS (nmD 2)))) skipS)
    (seqS (putS (nmD 0) (cstD (.int 1)) (op2 (binD .Mod) (opS intD (consD (op2 (binD .Add) (op2 (binD .Mult) (op2 itemD (nmD 0) (cstD (.int 1))) (cstD (.int 30671))) (cstD (.int 7919))) nilD)) (cstD (.int 2147483549))))
    (seqS (setS (op2 (binD .Mod) (opS intD (consD (op2 (binD .Mult) (op2 itemD (nmD 0) (cstD (.int 1))) (op2 (binD .Add) (op2 itemD (nmD 0) (cstD (.int 1))) (cstD (.int 131)))) nilD)) (cstD (.int 2147483587))) (nmT 3))
    (retS (op2 (binD .Mod) (opS intD (consD (op2 (binD .FloorDiv) (nmD 3) (cstD (.int 709))) nilD)) (nmD 1))))))
noncomputable def f__law_roll : FDen := bodyF 4 d__law_roll
def nn__law_some : List Str := ["_law_cup_here", "_law_things"]
def pp__law_some : List Str := ["_law_cup_here", "_law_things"]
theorem sc__law_some : FnScope nn__law_some pp__law_some (defScope st__law_some) := ⟨rfl, rfl, rfl, by decide +kernel, rfl, by decide +kernel, by decide +kernel⟩
noncomputable def d__law_some : SDen :=
    (retS (op2 itemD (nmD 1) (callE 2 f__law_roll (consD (nmD 0) (consD (opS lenD (consD (nmD 1) nilD)) nilD)))))
noncomputable def f__law_some : FDen := bodyF 2 d__law_some
def nn_has_deeds : List Str := ["tree", "one"]
def pp_has_deeds : List Str := ["tree"]
theorem sc_has_deeds : FnScope nn_has_deeds pp_has_deeds (defScope st_has_deeds) := ⟨rfl, rfl, rfl, by decide +kernel, rfl, by decide +kernel, by decide +kernel⟩
noncomputable def d_has_deeds : SDen :=
    (retS (opS anyD (consD (compE (anySrc (trimE (callE 1 f_trees_in (consD (nmD 0) nilD)))) [1] (.one 1) yesT (orE (op2 (cmpD .Eq) (op2 itemD (nmD 1) (cstD (.int 0))) (cstD (.str "do"))) (op2 (cmpD .Eq) (op2 itemD (nmD 1) (cstD (.int 0))) (cstD (.str "answer")))) 100000) nilD)))
noncomputable def f_has_deeds : FDen := bodyF 2 d_has_deeds
def nn_is_without_deeds : List Str := ["tree"]
def pp_is_without_deeds : List Str := ["tree"]
theorem sc_is_without_deeds : FnScope nn_is_without_deeds pp_is_without_deeds (defScope st_is_without_deeds) := ⟨rfl, rfl, rfl, by decide +kernel, rfl, by decide +kernel, by decide +kernel⟩
noncomputable def d_is_without_deeds : SDen :=
    (seqS (exprS (trimE (callE 1 f_check_tree (consD (nmD 0) nilD))))
    (retS (notE (trimE (callE 1 f_has_deeds (consD (nmD 0) nilD))))))
noncomputable def f_is_without_deeds : FDen := bodyF 1 d_is_without_deeds
def nn_check_name : List Str := ["value"]
def pp_check_name : List Str := ["value"]
theorem sc_check_name : FnScope nn_check_name pp_check_name (defScope st_check_name) := ⟨rfl, rfl, rfl, by decide +kernel, rfl, by decide +kernel, by decide +kernel⟩
noncomputable def d_check_name : SDen :=
    (ifS (notT (testD (trimE (callE 1 f_is_name (consD (nmD 0) nilD))))) (raiseS "InvalidName") skipS)
noncomputable def f_check_name : FDen := bodyF 1 d_check_name
def nn_deed_tag : List Str := ["name"]
def pp_deed_tag : List Str := ["name"]
theorem sc_deed_tag : FnScope nn_deed_tag pp_deed_tag (defScope st_deed_tag) := ⟨rfl, rfl, rfl, by decide +kernel, rfl, by decide +kernel, by decide +kernel⟩
noncomputable def d_deed_tag : SDen :=
    (seqS (exprS (trimE (callE 1 f_check_name (consD (nmD 0) nilD))))
    stuckS)
noncomputable def f_deed_tag : FDen := bodyF 1 d_deed_tag
def nn_is_tag : List Str := ["value", "sign"]
def pp_is_tag : List Str := ["value"]
theorem sc_is_tag : FnScope nn_is_tag pp_is_tag (defScope st_is_tag) := ⟨rfl, rfl, rfl, by decide +kernel, rfl, by decide +kernel, by decide +kernel⟩
noncomputable def d_is_tag : SDen :=
    (seqS (ifS (orT (btestD (op2 (cmpD .IsNot) (opS tyOfD (consD (nmD 0) nilD)) (cstD (.ty "str")))) (notT (btestD (chainE (cmpD .LtE) (cmpD .LtE) (cstD (.int 1)) (opS lenD (consD (nmD 0) nilD)) (cstD (.int 8)))))) (retS (cstD (.bl false))) skipS)
    (retS (andE (chainE (cmpD .LtE) (cmpD .LtE) (cstD (.str "A")) (op2 itemD (nmD 0) (cstD (.int 0))) (cstD (.str "Z"))) (opS allD (consD (compE (anySrc (sliceE (nmD 0) (somePart (cstD (.int 1))) noPart)) [1] (.one 1) yesT (chainE (cmpD .LtE) (cmpD .LtE) (cstD (.str "a")) (nmD 1) (cstD (.str "z"))) 100000) nilD)))))
noncomputable def f_is_tag : FDen := bodyF 2 d_is_tag
def nn_deed_of : List Str := ["tag"]
def pp_deed_of : List Str := ["tag"]
theorem sc_deed_of : FnScope nn_deed_of pp_deed_of (defScope st_deed_of) := ⟨rfl, rfl, rfl, by decide +kernel, rfl, by decide +kernel, by decide +kernel⟩
noncomputable def d_deed_of : SDen :=
    (retS (op2 (binD .Add) (op1 lowD (op2 itemD (nmD 0) (cstD (.int 0)))) (sliceE (nmD 0) (somePart (cstD (.int 1))) noPart)))
noncomputable def f_deed_of : FDen := bodyF 1 d_deed_of
def nn_is_deed_tag : List Str := ["value"]
def pp_is_deed_tag : List Str := ["value"]
theorem sc_is_deed_tag : FnScope nn_is_deed_tag pp_is_deed_tag (defScope st_is_deed_tag) := ⟨rfl, rfl, rfl, by decide +kernel, rfl, by decide +kernel, by decide +kernel⟩
noncomputable def d_is_deed_tag : SDen :=
    (retS (andE (trimE (callE 1 f_is_tag (consD (nmD 0) nilD))) (trimE (callE 1 f_is_name (consD (trimE (callE 1 f_deed_of (consD (nmD 0) nilD))) nilD)))))
noncomputable def f_is_deed_tag : FDen := bodyF 1 d_is_deed_tag
def nn_tag_deed : List Str := ["tag"]
def pp_tag_deed : List Str := ["tag"]
theorem sc_tag_deed : FnScope nn_tag_deed pp_tag_deed (defScope st_tag_deed) := ⟨rfl, rfl, rfl, by decide +kernel, rfl, by decide +kernel, by decide +kernel⟩
noncomputable def d_tag_deed : SDen :=
    (seqS (ifS (notT (testD (trimE (callE 1 f_is_deed_tag (consD (nmD 0) nilD))))) (raiseS "InvalidName") skipS)
    (retS (trimE (callE 1 f_deed_of (consD (nmD 0) nilD)))))
noncomputable def f_tag_deed : FDen := bodyF 1 d_tag_deed
def nn__law_others_right : List Str := ["_law_odd", "_law_one", "_law_found"]
def pp__law_others_right : List Str := ["_law_odd"]
theorem sc__law_others_right : FnScope nn__law_others_right pp__law_others_right (defScope st__law_others_right) := ⟨rfl, rfl, rfl, by decide +kernel, rfl, by decide +kernel, by decide +kernel⟩
def LS__law_others_right_0 : LamS := theVal (a := lamsOf st__law_others_right 0) _ (by conv => {lhs; whnf})
def LS__law_others_right_1 : LamS := theVal (a := lamsOf st__law_others_right 1) _ (by conv => {lhs; whnf})
def LS__law_others_right_2 : LamS := theVal (a := lamsOf st__law_others_right 2) _ (by conv => {lhs; whnf})
def LS__law_others_right_3 : LamS := theVal (a := lamsOf st__law_others_right 3) _ (by conv => {lhs; whnf})
def LS__law_others_right_4 : LamS := theVal (a := lamsOf st__law_others_right 4) _ (by conv => {lhs; whnf})
def LS__law_others_right_5 : LamS := theVal (a := lamsOf st__law_others_right 5) _ (by conv => {lhs; whnf})
def LS__law_others_right_6 : LamS := theVal (a := lamsOf st__law_others_right 6) _ (by conv => {lhs; whnf})
def LS__law_others_right_7 : LamS := theVal (a := lamsOf st__law_others_right 7) _ (by conv => {lhs; whnf})
def LS__law_others_right_8 : LamS := theVal (a := lamsOf st__law_others_right 8) _ (by conv => {lhs; whnf})
def LS__law_others_right : Nat → LamS := fun n => match n with
  | 0 => LS__law_others_right_0
  | 1 => LS__law_others_right_1
  | 2 => LS__law_others_right_2
  | 3 => LS__law_others_right_3
  | 4 => LS__law_others_right_4
  | 5 => LS__law_others_right_5
  | 6 => LS__law_others_right_6
  | 7 => LS__law_others_right_7
  | 8 => LS__law_others_right_8
  | _ => noLam
abbrev lam__law_others_right (h : Nat) : Nat → Addr → HO → Addr → HO → Prop := lamOf (qv__law_others_right ++ "<lambda>") fun n => ⟨LS__law_others_right n, cloFrom (cellsFrom (h + 1) (defScope st__law_others_right).names []) (LS__law_others_right n).scope.names []⟩
noncomputable def bd__law_others_right : Nat → Option (Den D) := fun n => match n with
  | 0 => some (trimE (callE 1 f_deed_tag (consD (nmD 0) nilD)))
  | 1 => some (trimE (callE 1 f_tag_deed (consD (nmD 0) nilD)))
  | 2 => some (trimE (callE 3 f_shown_by (consD (nmD 1) (consD (nmD 0) (consD (cstD .non) nilD)))))
  | 3 => some (trimE (callE 4 f_are_shown_alike (consD (nmD 1) (consD (cstD (.str "next")) (consD (nmD 0) (consD (cstD .non) nilD))))))
  | 4 => some (trimE (callE 3 f_shown_by (consD (nmD 1) (consD (cstD (.str "next")) (consD (nmD 0) nilD)))))
  | 5 => some (trimE (callE 3 f_talk_of (consD (nmD 1) (consD (nmD 0) (consD (cstD .non) nilD)))))
  | 6 => some (trimE (callE 3 f_talk_of (consD (nmD 1) (consD (opS tupD nilD) (consD (nmD 0) nilD)))))
  | 7 => some (trimE (callE 4 f_deed_tree (consD (nmD 1) (consD (nmD 0) (consD (cstD .non) (consD (cstD .non) nilD))))))
  | 8 => some (trimE (callE 4 f_deed_tree (consD (nmD 1) (consD (opS tupD (consD (nmD 1) nilD)) (consD (nmD 0) (consD (cstD .non) nilD))))))
  | _ => none
noncomputable def d__law_others_right : SDen :=
    (seqS (setS (opS tupD (consD (cstD (.str "num")) (consD (cstD (.int 1)) nilD))) (nmT 1))
    (seqS (setS (opS lstD (consD (trimE (errC known nn__law_name.length dnm [] bd__law_others_right (lamD 0))) nilD)) (nmT 2))
    (seqS (exprS (methE appendD (nmD 2) (consD (trimE (errC known nn__law_name.length dnm [] bd__law_others_right (lamD 1))) nilD)))
    (seqS (exprS (methE appendD (nmD 2) (consD (trimE (errC known nn__law_name.length dnm [] bd__law_others_right (lamD 2))) nilD)))
    (seqS (exprS (methE appendD (nmD 2) (consD (trimE (errC known nn__law_name.length dnm [] bd__law_others_right (lamD 3))) nilD)))
    (seqS (exprS (methE appendD (nmD 2) (consD (trimE (errC known nn__law_name.length dnm [] bd__law_others_right (lamD 4))) nilD)))
    (seqS (exprS (methE appendD (nmD 2) (consD (trimE (errC known nn__law_name.length dnm [] bd__law_others_right (lamD 5))) nilD)))
    (seqS (exprS (methE appendD (nmD 2) (consD (trimE (errC known nn__law_name.length dnm [] bd__law_others_right (lamD 6))) nilD)))
    (seqS (exprS (methE appendD (nmD 2) (consD (trimE (errC known nn__law_name.length dnm [] bd__law_others_right (lamD 7))) nilD)))
    (seqS (exprS (methE appendD (nmD 2) (consD (trimE (errC known nn__law_name.length dnm [] bd__law_others_right (lamD 8))) nilD)))
    (retS (op2 (cmpD .Eq) (nmD 2) (opS lstD (consD (cstD (.str "name")) (consD (cstD (.str "name")) (consD (cstD (.str "engine")) (consD (cstD (.str "engine")) (consD (cstD (.str "number")) (consD (cstD (.str "value")) (consD (cstD (.str "number")) (consD (cstD (.str "value")) (consD (cstD (.str "number")) nilD))))))))))))))))))))))
noncomputable def f__law_others_right : FDen := bodyL 3 d__law_others_right
def nn__law_six : List Str := ["_law_rows", "_law_deed"]
def pp__law_six : List Str := []
theorem sc__law_six : FnScope nn__law_six pp__law_six (defScope st__law_six) := ⟨rfl, rfl, rfl, by decide +kernel, rfl, by decide +kernel, by decide +kernel⟩
noncomputable def d__law_six : SDen :=
    (seqS (setS (opS tupleD (consD (compE (anySrc (opS tupD (consD (cstD (.str "a")) (consD (cstD (.str "b")) (consD (cstD (.str "c")) (consD (cstD (.str "d")) (consD (cstD (.str "e")) (consD (cstD (.str "f")) nilD)))))))) [1] (.one 1) yesT (opS tupD (consD (nmD 1) (consD (cstD (.str "x")) (consD (cstD (.str "k")) (consD (opS tupD (consD (cstD (.str "name")) (consD (cstD (.str "x")) nilD))) nilD))))) 100000) nilD)) (nmT 0))
    (retS (opS tupD (consD (cstD (.str "answer")) (consD (opS tupD (consD (cstD (.str "num")) (consD (cstD (.int 1)) nilD))) (consD (opS tupD (consD (cstD (.str "x")) (consD (opS tupD (consD (cstD (.str "name")) (consD (cstD (.str "x")) nilD))) nilD))) (consD (nmD 0) nilD)))))))
noncomputable def f__law_six : FDen := bodyF 2 d__law_six
def nn_law : List Str := ["_law_script", "_law_cup_here", "_law_odds", "_law_six_here", "_law_found", "_law_deep", "_law_turn"]
def pp_law : List Str := ["_law_script"]
theorem sc_law : FnScope nn_law pp_law (defScope st_law) := ⟨rfl, rfl, rfl, by decide +kernel, rfl, by decide +kernel, by decide +kernel⟩
def LS_law_0 : LamS := theVal (a := lamsOf st_law 0) _ (by conv => {lhs; whnf})
def LS_law_1 : LamS := theVal (a := lamsOf st_law 1) _ (by conv => {lhs; whnf})
def LS_law_2 : LamS := theVal (a := lamsOf st_law 2) _ (by conv => {lhs; whnf})
def LS_law_3 : LamS := theVal (a := lamsOf st_law 3) _ (by conv => {lhs; whnf})
def LS_law_4 : LamS := theVal (a := lamsOf st_law 4) _ (by conv => {lhs; whnf})
def LS_law_5 : LamS := theVal (a := lamsOf st_law 5) _ (by conv => {lhs; whnf})
def LS_law_6 : LamS := theVal (a := lamsOf st_law 6) _ (by conv => {lhs; whnf})
def LS_law_7 : LamS := theVal (a := lamsOf st_law 7) _ (by conv => {lhs; whnf})
def LS_law_8 : LamS := theVal (a := lamsOf st_law 8) _ (by conv => {lhs; whnf})
def LS_law_9 : LamS := theVal (a := lamsOf st_law 9) _ (by conv => {lhs; whnf})
def LS_law_10 : LamS := theVal (a := lamsOf st_law 10) _ (by conv => {lhs; whnf})
def LS_law : Nat → LamS := fun n => match n with
  | 0 => LS_law_0
  | 1 => LS_law_1
  | 2 => LS_law_2
  | 3 => LS_law_3
  | 4 => LS_law_4
  | 5 => LS_law_5
  | 6 => LS_law_6
  | 7 => LS_law_7
  | 8 => LS_law_8
  | 9 => LS_law_9
  | 10 => LS_law_10
  | _ => noLam
abbrev lam_law (h : Nat) : Nat → Addr → HO → Addr → HO → Prop := lamOf (qv_law ++ "<lambda>") fun n => ⟨LS_law n, cloFrom (cellsFrom (h + 1) (defScope st_law).names []) (LS_law n).scope.names []⟩
noncomputable def bd_law : Nat → Option (Den D) := fun n => match n with
  | 0 => some (callE 1 f_is_without_deeds (consD (cstD .non) nilD))
  | 1 => some (callE 1 f_by_trees (consD (nmD 3) nilD))
  | 2 => some (callE 3 f_shown_by (consD (nmD 3) (consD (cstD (.str "trees")) (consD (cstD (.int 9)) nilD))))
  | 3 => some (callE 3 f_shown_by (consD (nmD 3) (consD (cstD (.str "rewriting")) (consD (cstD (.int 9)) nilD))))
  | 4 => some (callE 1 f_by_next (consD (nmD 3) nilD))
  | 5 => some (callE 3 f_shown_by (consD (nmD 3) (consD (cstD (.str "next")) (consD (cstD (.int 3001)) nilD))))
  | 6 => some (callE 1 f_by_trees (consD (nmD 5) nilD))
  | 7 => some (callE 1 f_by_next (consD (nmD 5) nilD))
  | 8 => some (callE 3 f_talk_of (consD (opS tupD (consD (cstD (.str "num")) (consD (cstD (.int 1)) nilD))) (consD (op2 (binD .Mult) (opS tupD (consD (opS tupD (consD (cstD (.str "num")) (consD (cstD (.int 1)) nilD))) nilD)) (cstD (.int 13))) (consD (cstD (.int 0)) nilD))))
  | 9 => some (callE 4 f_deed_tree (consD (opS tupD (consD (cstD (.str "num")) (consD (cstD (.int 1)) nilD))) (consD (opS tupD nilD) (consD (cstD (.int 0)) (consD (cstD (.int 0)) nilD)))))
  | 10 => some (callE 4 f_deed_tree (consD (opS tupD (consD (cstD (.str "num")) (consD (cstD (.int 1)) nilD))) (consD (opS tupD (consD (opS tupD (consD (cstD (.str "num")) (consD (cstD (.int 1)) nilD))) nilD)) (consD (cstD (.int 5)) (consD (cstD (.int 0)) nilD)))))
  | _ => none
noncomputable def d_law_0 : SDen :=
    (setS (opS lstD (consD (cstD .non) (consD (cstD (.int 7)) (consD (opS tupD nilD) (consD (opS tupD (consD (cstD (.str "num")) (consD (cstD (.bl true)) nilD))) (consD (opS tupD (consD (cstD (.str "num")) nilD)) (consD (opS lstD (consD (cstD (.str "num")) (consD (cstD (.int 1)) nilD))) (consD (opS tupD (consD (cstD (.str "fun")) (consD (cstD (.str "in")) (consD (opS tupD (consD (cstD (.str "num")) (consD (cstD (.int 1)) nilD))) nilD)))) nilD)))))))) (nmT 2))
noncomputable def d_law_1 : SDen :=
    (setS (op2 (binD .Add) (nmD 2) (opS lstD (consD (opS tupD (consD (cstD (.str "op")) (consD (cstD (.str "/")) (consD (opS tupD (consD (cstD (.str "num")) (consD (cstD (.int 1)) nilD))) (consD (opS tupD (consD (cstD (.str "num")) (consD (cstD (.int 2)) nilD))) nilD))))) nilD))) (nmT 2))
noncomputable def d_law_2 : SDen :=
    (trimS (ifS (orT (notT (testD (callE 2 f__law_programs_right (consD (callE 2 f__law_some (consD (nmD 1) (consD (nmD 2) nilD))) (consD (cstD (.str "tree")) nilD))))) (notT (testD (callE 2 f__law_programs_right (consD (opS tupD (consD (cstD (.str "name")) (consD (cstD (.str "x")) nilD))) (consD (cstD (.str "program")) nilD)))))) stuckS skipS))
noncomputable def d_law_3 : SDen :=
    (trimS (ifS (orT (btestD (op2 (cmpD .IsNot) (callE 1 f_is_without_deeds (consD (opS tupD (consD (cstD (.str "name")) (consD (cstD (.str "x")) nilD))) nilD)) (cstD (.bl true)))) (btestD (op2 (cmpD .NotEq) (trimE (errC known nn__law_name.length dnm [] bd_law (lamD 0))) (cstD (.str "tree"))))) stuckS skipS))
noncomputable def d_law_4 : SDen :=
    (trimS (ifS (notT (testD (callE 1 f__law_others_right (consD (callE 2 f__law_some (consD (nmD 1) (consD (opS lstD (consD (cstD .non) (consD (op1 negD (cstD (.int 1))) (consD (cstD (.str "In")) (consD (cstD (.str "fun")) (consD (cstD (.bl true)) (consD (opS tupD (consD (cstD (.str "num")) (consD (cstD (.int 1)) nilD))) (consD (opS lstD nilD) (consD (opS tupD (consD (opS tupD (consD (cstD (.str "name")) (consD (cstD (.str "x")) nilD))) nilD)) (consD (cstD (.bl false)) nilD)))))))))) nilD))) nilD)))) stuckS skipS))
noncomputable def d_law_5 : SDen :=
    (setS (trimE (call0E f__law_six)) (nmT 3))
noncomputable def d_law_6 : SDen :=
    (setS (opS lstD (consD (trimE (errC known nn__law_name.length dnm [] bd_law (lamD 1))) nilD)) (nmT 4))
noncomputable def d_law_7 : SDen :=
    (exprS (methE appendD (nmD 4) (consD (trimE (errC known nn__law_name.length dnm [] bd_law (lamD 2))) nilD)))
noncomputable def d_law_8 : SDen :=
    (exprS (methE appendD (nmD 4) (consD (trimE (errC known nn__law_name.length dnm [] bd_law (lamD 3))) nilD)))
noncomputable def d_law_9 : SDen :=
    (trimS (ifS (btestD (op2 (cmpD .NotEq) (nmD 4) (opS lstD (consD (cstD (.str "many 5")) (consD (cstD (.str "many 5")) (consD (cstD (.str "none")) nilD)))))) stuckS skipS))
noncomputable def d_law_10 : SDen :=
    (trimS (ifS (btestD (op2 (cmpD .NotEq) (trimE (errC known nn__law_name.length dnm [] bd_law (lamD 4))) (cstD (.str "many 5")))) stuckS skipS))
noncomputable def d_law_11 : SDen :=
    (trimS (ifS (btestD (op2 (cmpD .NotEq) (trimE (errC known nn__law_name.length dnm [] bd_law (lamD 5))) (cstD (.str "number")))) stuckS skipS))
noncomputable def d_law_12 : SDen :=
    (setS (opS tupD (consD (cstD (.str "num")) (consD (cstD (.int 1)) nilD))) (nmT 5))
noncomputable def d_law_13 : SDen :=
    (forS (rngSrc1 (consD (cstD (.int 100)) nilD)) (nmT 6) (setS (opS tupD (consD (cstD (.str "op")) (consD (cstD (.str "+")) (consD (opS tupD (consD (cstD (.str "num")) (consD (cstD (.int 1)) nilD))) (consD (nmD 5) nilD))))) (nmT 5)) 100000)
noncomputable def d_law_14 : SDen :=
    (trimS (ifS (btestD (op2 (cmpD .NotEq) (trimE (errC known nn__law_name.length dnm [] bd_law (lamD 6))) (cstD (.str "tree")))) stuckS skipS))
noncomputable def d_law_15 : SDen :=
    (trimS (ifS (btestD (op2 (cmpD .NotEq) (trimE (errC known nn__law_name.length dnm [] bd_law (lamD 7))) (cstD (.str "tree")))) stuckS skipS))
noncomputable def d_law_16 : SDen :=
    (trimS (ifS (btestD (op2 (cmpD .NotEq) (trimE (errC known nn__law_name.length dnm [] bd_law (lamD 8))) (cstD (.str "value")))) stuckS skipS))
noncomputable def d_law_17 : SDen :=
    (trimS (ifS (btestD (op2 (cmpD .NotEq) (trimE (errC known nn__law_name.length dnm [] bd_law (lamD 9))) (cstD (.str "value")))) stuckS skipS))
noncomputable def d_law_18 : SDen :=
    (retS (andE (op2 (cmpD .Eq) (trimE (errC known nn__law_name.length dnm [] bd_law (lamD 10))) (cstD (.str "number"))) (op2 (cmpD .Eq) (callE 1 f_tag_deed (consD (cstD (.str "Inn")) nilD)) (cstD (.str "inn")))))
noncomputable def d_law : SDen :=
    (seqS d_law_0 (seqS d_law_1 (seqS d_law_2 (seqS d_law_3 (seqS d_law_4 (seqS d_law_5 (seqS d_law_6 (seqS d_law_7 (seqS d_law_8 (seqS d_law_9 (seqS d_law_10 (seqS d_law_11 (seqS d_law_12 (seqS d_law_13 (seqS d_law_14 (seqS d_law_15 (seqS d_law_16 (seqS d_law_17 d_law_18))))))))))))))))))
def ie_TooMany : Expr := theVal (a := initExpr ic_TooMany) _ (by conv => {lhs; whnf})
structure Top (P : Program) (w : World) (K : PySem.W.Frag) (mg : Str → Option Value) where
  D__law_cup : DefAt K mg "_law_cup" st__law_cup pp__law_cup
  D_begins_with_word : DefAt K mg "begins_with_word" st_begins_with_word pp_begins_with_word
  D_is_integer : DefAt K mg "is_integer" st_is_integer pp_is_integer
  D_is_number : DefAt K mg "is_number" st_is_number pp_is_number
  D_is_name : DefAt K mg "is_name" st_is_name pp_is_name
  D_is_tuple_of : DefAt K mg "is_tuple_of" st_is_tuple_of pp_is_tuple_of
  D_has_plain_pair : DefAt K mg "has_plain_pair" st_has_plain_pair pp_has_plain_pair
  D_are_unlike : DefAt K mg "are_unlike" st_are_unlike pp_are_unlike
  D_has_answer_rows : DefAt K mg "has_answer_rows" st_has_answer_rows pp_has_answer_rows
  D_has_tree_form : DefAt K mg "has_tree_form" st_has_tree_form pp_has_tree_form
  D_patterns_in : DefAt K mg "patterns_in" st_patterns_in pp_patterns_in
  D_parts_in : DefAt K mg "parts_in" st_parts_in pp_parts_in
  D_fits_tree : DefAt K mg "fits_tree" st_fits_tree pp_fits_tree
  D_check_tree : DefAt K mg "check_tree" st_check_tree pp_check_tree
  D_scopes : DefAt K mg "scopes" st_scopes pp_scopes
  D_with_added : DefAt K mg "with_added" st_with_added pp_with_added
  D_free_in : DefAt K mg "free_in" st_free_in pp_free_in
  D_check_program : DefAt K mg "check_program" st_check_program pp_check_program
  D_trees_in : DefAt K mg "trees_in" st_trees_in pp_trees_in
  D_check_led_rows : DefAt K mg "check_led_rows" st_check_led_rows pp_check_led_rows
  D_used : DefAt K mg "used" st_used pp_used
  D_plan_match : DefAt K mg "plan_match" st_plan_match pp_plan_match
  D_did : DefAt K mg "did" st_did pp_did
  D_trees_and_patterns_in : DefAt K mg "trees_and_patterns_in" st_trees_and_patterns_in pp_trees_and_patterns_in
  D_measure : DefAt K mg "measure" st_measure pp_measure
  D_is_within_bounds : DefAt K mg "is_within_bounds" st_is_within_bounds pp_is_within_bounds
  D_check_bounds : DefAt K mg "check_bounds" st_check_bounds pp_check_bounds
  D_with_led_names : DefAt K mg "with_led_names" st_with_led_names pp_with_led_names
  D_with_parts : DefAt K mg "with_parts" st_with_parts pp_with_parts
  D_done : DefAt K mg "done" st_done pp_done
  D_after : DefAt K mg "after" st_after pp_after
  D_led_parts_bytrees : AliAt K mg "led_parts_bytrees" "led_parts" st_led_parts_bytrees pp_led_parts_bytrees
  D_led_tree : DefAt K mg "led_tree" st_led_tree pp_led_tree
  D_by_trees : DefAt K mg "by_trees" st_by_trees pp_by_trees
  D_finished : DefAt K mg "finished" st_finished pp_finished
  D_ahead : DefAt K mg "ahead" st_ahead pp_ahead
  D_led_parts_bynext : AliAt K mg "led_parts_bynext" "led_parts" st_led_parts_bynext pp_led_parts_bynext
  D_led_body : DefAt K mg "led_body" st_led_body pp_led_body
  D_led_next : DefAt K mg "led_next" st_led_next pp_led_next
  D_by_next : DefAt K mg "by_next" st_by_next pp_by_next
  D_check_engine : DefAt K mg "check_engine" st_check_engine pp_check_engine
  D_check_number : DefAt K mg "check_number" st_check_number pp_check_number
  D_holds_value : DefAt K mg "holds_value" st_holds_value pp_holds_value
  D_working_index : DefAt K mg "working_index" st_working_index pp_working_index
  D_Course__seek : MethAt K "Course" "seek" "Course.seek" st_Course__seek pp_Course__seek
  D_Course__init : MethAt K "Course" "__init__" "Course.__init__" st_Course__init pp_Course__init
  D_stuck_at : DefAt K mg "stuck_at" st_stuck_at pp_stuck_at
  D_stop_at : DefAt K mg "stop_at" st_stop_at pp_stop_at
  D_Course__ending : MethAt K "Course" "ending" "Course.ending" st_Course__ending pp_Course__ending
  D_Course__change : MethAt K "Course" "change" "Course.change" st_Course__change pp_Course__change
  D_put_in : DefAt K mg "put_in" st_put_in pp_put_in
  D_changed_at : DefAt K mg "changed_at" st_changed_at pp_changed_at
  D_Course__advance : MethAt K "Course" "advance" "Course.advance" st_Course__advance pp_Course__advance
  D_Course__lead : MethAt K "Course" "lead" "Course.lead" st_Course__lead pp_Course__lead
  D_shown : DefAt K mg "shown" st_shown pp_shown
  D_shown_end : DefAt K mg "shown_end" st_shown_end pp_shown_end
  D_Course__shown_ending : MethAt K "Course" "shown_ending" "Course.shown_ending" st_Course__shown_ending pp_Course__shown_ending
  D_run_by_rewriting : DefAt K mg "run_by_rewriting" st_run_by_rewriting pp_run_by_rewriting
  D_shown_and_steps : DefAt K mg "shown_and_steps" st_shown_and_steps pp_shown_and_steps
  D_shown_by : DefAt K mg "shown_by" st_shown_by pp_shown_by
  D_are_shown_alike : DefAt K mg "are_shown_alike" st_are_shown_alike pp_are_shown_alike
  D_fits_program : DefAt K mg "fits_program" st_fits_program pp_fits_program
  D_is_value_program : DefAt K mg "is_value_program" st_is_value_program pp_is_value_program
  D_check_value : DefAt K mg "check_value" st_check_value pp_check_value
  D_check_values : DefAt K mg "check_values" st_check_values pp_check_values
  D_check_talk : DefAt K mg "check_talk" st_check_talk pp_check_talk
  D_talk_of : DefAt K mg "talk_of" st_talk_of pp_talk_of
  D_program_behind : DefAt K mg "program_behind" st_program_behind pp_program_behind
  D_deed_tree : DefAt K mg "deed_tree" st_deed_tree pp_deed_tree
  D__law_name : DefAt K mg "_law_name" st__law_name pp__law_name
  D__law_error : DefAt K mg "_law_error" st__law_error pp__law_error
  D__law_programs_right : DefAt K mg "_law_programs_right" st__law_programs_right pp__law_programs_right
  D__law_roll : DefAt K mg "_law_roll" st__law_roll pp__law_roll
  D__law_some : DefAt K mg "_law_some" st__law_some pp__law_some
  D_has_deeds : DefAt K mg "has_deeds" st_has_deeds pp_has_deeds
  D_is_without_deeds : DefAt K mg "is_without_deeds" st_is_without_deeds pp_is_without_deeds
  D_check_name : DefAt K mg "check_name" st_check_name pp_check_name
  D_deed_tag : DefAt K mg "deed_tag" st_deed_tag pp_deed_tag
  D_is_tag : DefAt K mg "is_tag" st_is_tag pp_is_tag
  D_deed_of : DefAt K mg "deed_of" st_deed_of pp_deed_of
  D_is_deed_tag : DefAt K mg "is_deed_tag" st_is_deed_tag pp_is_deed_tag
  D_tag_deed : DefAt K mg "tag_deed" st_tag_deed pp_tag_deed
  D__law_others_right : DefAt K mg "_law_others_right" st__law_others_right pp__law_others_right
  D__law_six : DefAt K mg "_law_six" st__law_six pp__law_six
  D_law : DefAt K mg "law" st_law pp_law
  n_abs : mg "abs" = none
  n_all : mg "all" = none
  n_any : mg "any" = none
  n_enumerate : mg "enumerate" = none
  n_int : mg "int" = none
  n_isinstance : mg "isinstance" = none
  n_len : mg "len" = none
  n_list : mg "list" = none
  n_range : mg "range" = none
  n_set : mg "set" = none
  n_sorted : mg "sorted" = none
  n_str : mg "str" = none
  n_tuple : mg "tuple" = none
  n_type : mg "type" = none
  n_zip : mg "zip" = none
  c_BARRED : KTup K mg "BARRED" [.str "fun", .str "let", .str "in", .str "rec", .str "match", .str "do", .str "answer", .str "plain"]
  c_ENGINES : KTup K mg "ENGINES" [.str "rewriting", .str "trees", .str "next"]
  c_MOST_DEPTH : ∃ t, mg "MOST_DEPTH" = some (.int 120 t)
  c_MOST_LED_ROWS : ∃ t, mg "MOST_LED_ROWS" = some (.int 5 t)
  c_MOST_NUMBER : ∃ t, mg "MOST_NUMBER" = some (.int 1000000000000 t)
  c_MOST_SIZE : ∃ t, mg "MOST_SIZE" = some (.int 3000 t)
  c_PART_NAMES : KTup K mg "PART_NAMES" [.str "One", .str "Two", .str "Three", .str "Four"]
  c_PART_SLICES : KDic K w mg "PART_SLICES" [("num", .ktup [.int 2, .int 2]), ("name", .ktup [.int 2, .int 2]), ("fun", .ktup [.int 2, .int 3]), ("call", .ktup [.int 1, .int 3]), ("let", .ktup [.int 2, .int 4]), ("rec", .ktup [.int 3, .int 5]), ("op", .ktup [.int 2, .int 4]), ("do", .ktup [.int 2, .int 3])]
  c_SIGNS : KTup K mg "SIGNS" [.str "+", .str "-", .str "*", .str "<", .str "="]
  c_STEP_WORDS : KDic K w mg "STEP_WORDS" [("call", .str "call"), ("let", .str "let"), ("rec", .str "rec"), ("match", .str "match"), ("op", .str "op"), ("answer", .str "plain"), ("do", .str "deed")]
  C_InvalidEngine : ClsAt K mg "InvalidEngine"
  C_InvalidName : ClsAt K mg "InvalidName"
  C_InvalidNumber : ClsAt K mg "InvalidNumber"
  C_InvalidProgram : ClsAt K mg "InvalidProgram"
  C_InvalidTree : ClsAt K mg "InvalidTree"
  C_InvalidValue : ClsAt K mg "InvalidValue"
  C_NearError : ClsAt K mg "NearError"
  C_TooMany : ClsN K mg "TooMany"
  O_Course : ObAt K mg "Course"
  K_Course : Mk K (He.ga K "Course") D_Course__init.a
  N_Course_size : NoAttr K (He.ga K "Course") "size"
  N_Course_spot : NoAttr K (He.ga K "Course") "spot"
  N_Course_trail : NoAttr K (He.ga K "Course") "trail"
  I_TooMany : InitAt P K mg C_TooMany.a "limit" ie_TooMany
  k_PART_SLICES : KIn K w mg "PART_SLICES" tk_PART_SLICES
def flds : Flds := fun y => if y = "TooMany" then some "limit" else none
abbrev EAll {P : Program} {w : World} {K : PySem.W.Frag} {mg : Str → Option Value} (T : Top P w K mg) (base : Heap) (tb : List (Addr × Str)) : Prop := ErrAll P w K mg base tb flds "limit" [("TooMany", T.C_TooMany.a), ("InvalidValue", T.C_InvalidValue.a), ("InvalidProgram", T.C_InvalidProgram.a), ("InvalidTree", T.C_InvalidTree.a), ("InvalidEngine", T.C_InvalidEngine.a), ("InvalidNumber", T.C_InvalidNumber.a), ("InvalidName", T.C_InvalidName.a)] sub0 "_law_name" st__law_name T.D__law_name.a T.D__law_name.u nn__law_name "_law_e" dnm 0 T.C_NearError.a "NearError" "_law_error" st__law_error T.D__law_error.a T.D__law_error.u "_law_call" "_law_found" "_law_e" known
structure Lams {P : Program} {w : World} {K : PySem.W.Frag} {mg : Str → Option Value} (T : Top P w K mg) (base : Heap) (tb : List (Addr × Str)) : Prop where
  la__law_programs_right : LamAt base mg tb T.D__law_programs_right.u.code qv__law_programs_right
  la__law_others_right : LamAt base mg tb T.D__law_others_right.u.code qv__law_others_right
  la_law : LamAt base mg tb T.D_law.u.code qv_law
section
variable {P : Program} {w : World} {K : PySem.W.Frag} {mg : Str → Option Value} {base : Heap}
def c0 (K : PySem.W.Frag) (tb : List (Addr × Str)) (lam : Nat → Addr → HO → Addr → HO → Prop) (mg : Str → Option Value) : Cfg := ⟨⟨K, tb, lam, fun _ _ _ => False⟩, mg, flds, fun _ _ _ => False⟩
/-- where the exception p is handled -/
def cH (K : PySem.W.Frag) (tb : List (Addr × Str)) (lam : Nat → Addr → HO → Addr → HO → Prop) (mg : Str → Option Value) (p : Addr × Obj) (z : Option (Addr × Str)) (cls : Str) : Cfg := ⟨⟨K, tb, lam, fun cl a y => cl = cls ∧ a = p.1 ∧ y = z⟩, mg, flds, C8.E0⟩
theorem ok__law_cup (T : Top P w K mg) (tb : List (Addr × Str)) (hev : ∀ z : Int, ∃ r', d__law_cup [none, some (.int z), none] [] = some (.rt (.lst 0), r', [.lst [.int (cup2 z).1, .int (cup2 z).2]])) :
    FnOk P w K mg base (L2N.CX P w) 1 T.D__law_cup.a T.D__law_cup.u pp__law_cup (spCup K tb) := by
  refine fn_mixed (W := fun c => c.K.f = K ∧ c.K.T = tb) (t0 := tCell K 0 1) T.D__law_cup.F sc__law_cup rfl (fun vs H Q E h => by obtain ⟨a, ns, rfl, _⟩ := h; rfl) (fun cdv A outer s H E hr hcd => ⟨⟨⟨K, tb, fun _ _ _ _ _ => False, fun _ _ _ => False⟩, mg, flds, E⟩, ⟨rfl, rfl⟩, ps_cell (pv 0) (pg_name (i := 1) sc__law_cup.nd rfl (Or.inl rfl)) (by rfl) T.n_abs (by rfl) T.n_list, ?_⟩) (fun c vs H Q E hW h => cup_sp rfl hW.1 hW.2 hev h)
  have nd := sc__law_cup.nd
  exact (ds_cons (ds_set (ps_asg (de_ifE (dt_cmp rfl (hu65 hr) (de_nm (pv 1)) (de_bin rfl (de_cst pe_int fun _ _ => .int _) (de_cst pe_int fun _ _ => .int _)) (nomark _)) (de_bin rfl (de_nm (pv 1)) (de_cst pe_int fun _ _ => .int _)) (de_cst pe_int fun _ _ => .int _)) (dg_nm (pg_name (i := 2) nd rfl (Or.inl rfl)))))
      (ds_one (ds_ret (de_lst (da_cons (de_nm (pv 2)) (da_cons (de_bin rfl (de_bin rfl (de_callTy (cr_intD rfl) (by rfl) T.n_int (by decide +kernel) (da_cons (de_bin rfl (de_bin rfl (de_nm (pv 1)) (de_cst pe_int fun _ _ => .int _)) (de_cst pe_int fun _ _ => .int _)) da_nil)) (de_cst pe_int fun _ _ => .int _)) (de_cst pe_int fun _ _ => .int _)) da_nil))))))
theorem ok_begins_with_word (T : Top P w K mg) (tb : List (Addr × Str)) (lam : Nat → Addr → HO → Addr → HO → Prop) : FnOk P w K mg base (L2N.CX P w) 1 T.D_begins_with_word.a T.D_begins_with_word.u pp_begins_with_word (spF (c0 K tb lam mg) 1 f_begins_with_word) := by
  refine fn_ok rfl T.D_begins_with_word.F sc_begins_with_word rfl fun cdv A outer s H E hr => ?_
  have nd := sc_begins_with_word.nd
  have tk : L2N.Takes (cxOf (L2N.CX P w) P w K mg base nn_begins_with_word "begins_with_word" (defScope st_begins_with_word) T.D_begins_with_word.a cdv A outer s H E) (fun cls d _ H => ((c0 K tb lam mg).to E).W cls d H) := L2N.takes_of rfl rfl rfl rfl
  exact (ds_one (ds_ret (de_and (de_cmp rfl (hu65 hr) (de_callTy (cr_ty rfl) (by rfl) T.n_type (by decide +kernel) (da_cons (de_nm (pv 0)) da_nil)) (de_gty (by rfl) T.n_tuple (by decide +kernel)) (nomark _)) (de_and (de_cmp rfl (hu65 hr) (de_callB (cr_len rfl) (by rfl) T.n_len PySem.boot_len (da_cons (de_nm (pv 0)) da_nil)) (de_cst pe_int fun _ _ => .int _) (nomark _)) (pe_one (de_cmp rfl (hu65 hr) (de_callTy (cr_ty rfl) (by rfl) T.n_type (by decide +kernel) (da_cons (de_item rfl (hu1 hr) (de_nm (pv 0)) (de_cst pe_int fun _ _ => .int _)) da_nil)) (de_gty (by rfl) T.n_str (by decide +kernel)) (nomark _)))))))
theorem ok_is_integer (T : Top P w K mg) (tb : List (Addr × Str)) (lam : Nat → Addr → HO → Addr → HO → Prop) : FnOk P w K mg base (L2N.CX P w) 1 T.D_is_integer.a T.D_is_integer.u pp_is_integer (spF (c0 K tb lam mg) 3 f_is_integer) := by
  refine fn_ok rfl T.D_is_integer.F sc_is_integer rfl fun cdv A outer s H E hr => ?_
  have nd := sc_is_integer.nd
  have tk : L2N.Takes (cxOf (L2N.CX P w) P w K mg base nn_is_integer "is_integer" (defScope st_is_integer) T.D_is_integer.a cdv A outer s H E) (fun cls d _ H => ((c0 K tb lam mg).to E).W cls d H) := L2N.takes_of rfl rfl rfl rfl
  exact (ds_one (ds_ret (de_and (de_cmp rfl (hu65 hr) (de_callTy (cr_ty rfl) (by rfl) T.n_type (by decide +kernel) (da_cons (de_nm (pv 0)) da_nil)) (de_gty (by rfl) T.n_int (by decide +kernel)) (nomark _)) (pe_one (de_chain rfl (hu65 hr) (de_nm (pv 1)) (de_nm (pv 0)) (de_nm (pv 2)))))))
theorem ok_is_number (T : Top P w K mg) (tb : List (Addr × Str)) (lam : Nat → Addr → HO → Addr → HO → Prop) : FnOk P w K mg base (L2N.CX P w) 2 T.D_is_number.a T.D_is_number.u pp_is_number (spF (c0 K tb lam mg) 1 f_is_number) := by
  refine fn_ok rfl T.D_is_number.F sc_is_number rfl fun cdv A outer s H E hr => ?_
  have nd := sc_is_number.nd
  have tk : L2N.Takes (cxOf (L2N.CX P w) P w K mg base nn_is_number "is_number" (defScope st_is_number) T.D_is_number.a cdv A outer s H E) (fun cls d _ H => ((c0 K tb lam mg).to E).W cls d H) := L2N.takes_of rfl rfl rfl rfl
  exact (ds_one (ds_ret (de_trim (de_call tk (ok_is_integer T tb lam) (hr.mono (by decide)) (by rfl) T.D_is_integer.m T.D_is_integer.F.kp T.D_is_integer.b (da_cons (de_nm (pv 0)) (da_cons (de_neg rfl (de_gint (by rfl) T.c_MOST_NUMBER)) (da_cons (de_gint (by rfl) T.c_MOST_NUMBER) da_nil)))))))
theorem ok_is_name (T : Top P w K mg) (tb : List (Addr × Str)) (lam : Nat → Addr → HO → Addr → HO → Prop) : FnOk P w K mg base (L2N.CX P w) 1 T.D_is_name.a T.D_is_name.u pp_is_name (spF (c0 K tb lam mg) 1 f_is_name) := by
  refine fn_ok rfl T.D_is_name.F sc_is_name rfl fun cdv A outer s H E hr => ?_
  have nd := sc_is_name.nd
  have tk : L2N.Takes (cxOf (L2N.CX P w) P w K mg base nn_is_name "is_name" (defScope st_is_name) T.D_is_name.a cdv A outer s H E) (fun cls d _ H => ((c0 K tb lam mg).to E).W cls d H) := L2N.takes_of rfl rfl rfl rfl
  exact (ds_cons (ds_if (PW.pt (dw_or (dt_cmp rfl (hu65 hr) (de_callTy (cr_ty rfl) (by rfl) T.n_type (by decide +kernel) (da_cons (de_nm (pv 0)) da_nil)) (de_gty (by rfl) T.n_str (by decide +kernel)) (nomark _)) (dw_or (dt_not (dt_chain rfl (hu65 hr) (de_cst pe_int fun _ _ => .int _) (de_callB (cr_len rfl) (by rfl) T.n_len PySem.boot_len (da_cons (de_nm (pv 0)) da_nil)) (de_cst pe_int fun _ _ => .int _))) (dw_or1 (dt_cmp rfl (hu65 hr) (de_nm (pv 0)) (de_gtup rfl (by rfl) T.c_BARRED) (by rfl)))))) (ds_one (ds_ret (de_cst pe_bl fun _ _ => .bl _))) ds_nil)
      (ds_one (ds_ret (de_callB (cr_allD rfl rfl) (by rfl) T.n_all (by decide +kernel) (da_cons (de_lc rfl rfl nd (dp_any rfl (de_nm (pv 0))) (blkOk_by (own := [("sign", 1)]) (N := nn_is_name) (sc := defScope st_is_name) (by decide +kernel)) (by decide) (fun _ _ _ _ _ => pg_name (i := 1) nd rfl (Or.inl rfl)) (fun _ _ _ _ _ => dpts_nil) (fun _ _ _ _ _ => (de_chain rfl (hu65 hr) (de_cst pe_str fun _ _ => .str _) (de_nm (pv 1)) (de_cst pe_str fun _ _ => .str _)))) da_nil)))))
theorem ok_is_tuple_of (T : Top P w K mg) (tb : List (Addr × Str)) (lam : Nat → Addr → HO → Addr → HO → Prop) : FnOk P w K mg base (L2N.CX P w) 1 T.D_is_tuple_of.a T.D_is_tuple_of.u pp_is_tuple_of (spF (c0 K tb lam mg) 3 f_is_tuple_of) := by
  refine fn_ok rfl T.D_is_tuple_of.F sc_is_tuple_of rfl fun cdv A outer s H E hr => ?_
  have nd := sc_is_tuple_of.nd
  have tk : L2N.Takes (cxOf (L2N.CX P w) P w K mg base nn_is_tuple_of "is_tuple_of" (defScope st_is_tuple_of) T.D_is_tuple_of.a cdv A outer s H E) (fun cls d _ H => ((c0 K tb lam mg).to E).W cls d H) := L2N.takes_of rfl rfl rfl rfl
  exact (ds_one (ds_ret (de_and (de_cmp rfl (hu65 hr) (de_callTy (cr_ty rfl) (by rfl) T.n_type (by decide +kernel) (da_cons (de_nm (pv 0)) da_nil)) (de_gty (by rfl) T.n_tuple (by decide +kernel)) (nomark _)) (pe_one (de_chain rfl (hu65 hr) (de_nm (pv 1)) (de_callB (cr_len rfl) (by rfl) T.n_len PySem.boot_len (da_cons (de_nm (pv 0)) da_nil)) (de_nm (pv 2)))))))
theorem ok_has_plain_pair (T : Top P w K mg) (tb : List (Addr × Str)) (lam : Nat → Addr → HO → Addr → HO → Prop) : FnOk P w K mg base (L2N.CX P w) 2 T.D_has_plain_pair.a T.D_has_plain_pair.u pp_has_plain_pair (spF (c0 K tb lam mg) 1 f_has_plain_pair) := by
  refine fn_ok rfl T.D_has_plain_pair.F sc_has_plain_pair rfl fun cdv A outer s H E hr => ?_
  have nd := sc_has_plain_pair.nd
  have tk : L2N.Takes (cxOf (L2N.CX P w) P w K mg base nn_has_plain_pair "has_plain_pair" (defScope st_has_plain_pair) T.D_has_plain_pair.a cdv A outer s H E) (fun cls d _ H => ((c0 K tb lam mg).to E).W cls d H) := L2N.takes_of rfl rfl rfl rfl
  exact (ds_one (ds_ret (de_and (de_trim (de_call tk (ok_is_tuple_of T tb lam) (hr.mono (by decide)) (by rfl) T.D_is_tuple_of.m T.D_is_tuple_of.F.kp T.D_is_tuple_of.b (da_cons (de_nm (pv 0)) (da_cons (de_cst pe_int fun _ _ => .int _) (da_cons (de_cst pe_int fun _ _ => .int _) da_nil))))) (pe_one (de_trim (de_call tk (ok_is_name T tb lam) (hr.mono (by decide)) (by rfl) T.D_is_name.m T.D_is_name.F.kp T.D_is_name.b (da_cons (de_item rfl (hu1 hr) (de_nm (pv 0)) (de_cst pe_int fun _ _ => .int _)) da_nil)))))))
theorem ok_are_unlike (T : Top P w K mg) (tb : List (Addr × Str)) (lam : Nat → Addr → HO → Addr → HO → Prop) : FnOk P w K mg base (L2N.CX P w) 1 T.D_are_unlike.a T.D_are_unlike.u pp_are_unlike (spF (c0 K tb lam mg) 1 f_are_unlike) := by
  refine fn_ok rfl T.D_are_unlike.F sc_are_unlike rfl fun cdv A outer s H E hr => ?_
  have nd := sc_are_unlike.nd
  have tk : L2N.Takes (cxOf (L2N.CX P w) P w K mg base nn_are_unlike "are_unlike" (defScope st_are_unlike) T.D_are_unlike.a cdv A outer s H E) (fun cls d _ H => ((c0 K tb lam mg).to E).W cls d H) := L2N.takes_of rfl rfl rfl rfl
  exact (ds_one (ds_ret (de_cmp rfl (hu65 hr) (de_lenSet rfl rfl (by rfl) T.n_len (by rfl) T.n_set (de_nm (pv 0))) (de_callB (cr_len rfl) (by rfl) T.n_len PySem.boot_len (da_cons (de_nm (pv 0)) da_nil)) (nomark _))))
theorem ok_has_answer_rows (T : Top P w K mg) (tb : List (Addr × Str)) (lam : Nat → Addr → HO → Addr → HO → Prop) : FnOk P w K mg base (L2N.CX P w) 2 T.D_has_answer_rows.a T.D_has_answer_rows.u pp_has_answer_rows (spF (c0 K tb lam mg) 1 f_has_answer_rows) := by
  refine fn_ok rfl T.D_has_answer_rows.F sc_has_answer_rows rfl fun cdv A outer s H E hr => ?_
  have nd := sc_has_answer_rows.nd
  have tk : L2N.Takes (cxOf (L2N.CX P w) P w K mg base nn_has_answer_rows "has_answer_rows" (defScope st_has_answer_rows) T.D_has_answer_rows.a cdv A outer s H E) (fun cls d _ H => ((c0 K tb lam mg).to E).W cls d H) := L2N.takes_of rfl rfl rfl rfl
  exact (ds_cons (ds_if (dt_not (dt_val rfl (de_trim (de_call tk (ok_is_tuple_of T tb lam) (hr.mono (by decide)) (by rfl) T.D_is_tuple_of.m T.D_is_tuple_of.F.kp T.D_is_tuple_of.b (da_cons (de_nm (pv 0)) (da_cons (de_cst pe_int fun _ _ => .int _) (da_cons (de_cst pe_int fun _ _ => .int _) da_nil))))))) dss_stuck ds_nil)
      (ds_cons (ds_for (n := 100000) (passes_of rfl) rfl (dp_any rfl (de_nm (pv 0))) (dg_nm (pg_name (i := 1) nd rfl (Or.inl rfl))) (dss_trimW (ds_one (ds_if (PW.pt (dw_or (dt_not (dt_val rfl (de_trim (de_call tk (ok_is_tuple_of T tb lam) (hr.mono (by decide)) (by rfl) T.D_is_tuple_of.m T.D_is_tuple_of.F.kp T.D_is_tuple_of.b (da_cons (de_nm (pv 1)) (da_cons (de_cst pe_int fun _ _ => .int _) (da_cons (de_cst pe_int fun _ _ => .int _) da_nil))))))) (dw_or (dt_not (dt_val rfl (de_callB (cr_allD rfl rfl) (by rfl) T.n_all (by decide +kernel) (da_cons (de_lc rfl rfl nd (dp_any rfl (de_slice rfl (de_nm (pv 1)) dp_none (dp_some (de_cst pe_int fun _ _ => .int _)))) (blkOk_by (own := [("name", 2)]) (N := nn_has_answer_rows) (sc := defScope st_has_answer_rows) (by decide +kernel)) (by decide) (fun _ _ _ _ _ => pg_name (i := 2) nd rfl (Or.inl rfl)) (fun _ _ _ _ _ => dpts_nil) (fun _ _ _ _ _ => (de_trim (de_callN (ok_is_name T tb lam) (hr.mono (by decide)) (by rfl) T.D_is_name.m T.D_is_name.F.kp T.D_is_name.b (da_cons (de_nm (pv 2)) da_nil))))) da_nil)))) (dw_or1 (dt_cmp rfl (hu65 hr) (de_item rfl (hu1 hr) (de_nm (pv 1)) (de_cst pe_int fun _ _ => .int _)) (de_item rfl (hu1 hr) (de_nm (pv 1)) (de_cst pe_int fun _ _ => .int _)) (nomark _)))))) dss_stuck ds_nil))))
      (ds_one (ds_ret (de_trim (de_call tk (ok_are_unlike T tb lam) (hr.mono (by decide)) (by rfl) T.D_are_unlike.m T.D_are_unlike.F.kp T.D_are_unlike.b (da_cons (de_lc rfl rfl nd (dp_any rfl (de_nm (pv 0))) (blkOk_by (own := [("row", 1)]) (N := nn_has_answer_rows) (sc := defScope st_has_answer_rows) (by decide +kernel)) (by decide) (fun _ _ _ _ _ => pg_name (i := 1) nd rfl (Or.inl rfl)) (fun _ _ _ _ _ => dpts_nil) (fun _ _ _ _ _ => (de_item rfl (hu1 hr) (de_nm (pv 1)) (de_cst pe_int fun _ _ => .int _)))) da_nil)))))))
theorem ok_has_tree_form (T : Top P w K mg) (tb : List (Addr × Str)) (lam : Nat → Addr → HO → Addr → HO → Prop) : FnOk P w K mg base (L2N.CX P w) 3 T.D_has_tree_form.a T.D_has_tree_form.u pp_has_tree_form (spF (c0 K tb lam mg) 1 f_has_tree_form) := by
  refine fn_ok rfl T.D_has_tree_form.F sc_has_tree_form rfl fun cdv A outer s H E hr => ?_
  have nd := sc_has_tree_form.nd
  have tk : L2N.Takes (cxOf (L2N.CX P w) P w K mg base nn_has_tree_form "has_tree_form" (defScope st_has_tree_form) T.D_has_tree_form.a cdv A outer s H E) (fun cls d _ H => ((c0 K tb lam mg).to E).W cls d H) := L2N.takes_of rfl rfl rfl rfl
  exact (ds_cons (ds_if (dt_not (dt_val rfl (de_trim (de_call tk (ok_begins_with_word T tb lam) (hr.mono (by decide)) (by rfl) T.D_begins_with_word.m T.D_begins_with_word.F.kp T.D_begins_with_word.b (da_cons (de_nm (pv 0)) da_nil))))) (ds_one (ds_ret (de_cst pe_bl fun _ _ => .bl _))) ds_nil)
      (ds_cons (ds_set (ps_asg (de_item rfl (hu1 hr) (de_nm (pv 0)) (de_cst pe_int fun _ _ => .int _)) (dg_nm (pg_name (i := 1) nd rfl (Or.inl rfl)))))
      (ds_cons (ds_set (ps_asg (de_callB (cr_len rfl) (by rfl) T.n_len PySem.boot_len (da_cons (de_nm (pv 0)) da_nil)) (dg_nm (pg_name (i := 2) nd rfl (Or.inl rfl)))))
      (ds_cons (ds_if (dt_cmp rfl (hu65 hr) (de_nm (pv 1)) (de_cst pe_str fun _ _ => .str _) (nomark _)) (ds_one (ds_ret (de_and (de_cmp rfl (hu65 hr) (de_nm (pv 2)) (de_cst pe_int fun _ _ => .int _) (nomark _)) (pe_one (de_trim (de_call tk (ok_is_number T tb lam) (hr.mono (by decide)) (by rfl) T.D_is_number.m T.D_is_number.F.kp T.D_is_number.b (da_cons (de_item rfl (hu1 hr) (de_nm (pv 0)) (de_cst pe_int fun _ _ => .int _)) da_nil))))))) ds_nil)
      (ds_cons (ds_if (dt_cmp rfl (hu65 hr) (de_nm (pv 1)) (de_cst pe_str fun _ _ => .str _) (nomark _)) (ds_one (ds_ret (de_and (de_cmp rfl (hu65 hr) (de_nm (pv 2)) (de_cst pe_int fun _ _ => .int _) (nomark _)) (pe_one (de_trim (de_call tk (ok_is_name T tb lam) (hr.mono (by decide)) (by rfl) T.D_is_name.m T.D_is_name.F.kp T.D_is_name.b (da_cons (de_item rfl (hu1 hr) (de_nm (pv 0)) (de_cst pe_int fun _ _ => .int _)) da_nil))))))) ds_nil)
      (ds_cons (ds_if (dt_cmp rfl (hu65 hr) (de_nm (pv 1)) (de_cst pe_str fun _ _ => .str _) (nomark _)) (ds_one (ds_ret (de_and (de_cmp rfl (hu65 hr) (de_nm (pv 2)) (de_cst pe_int fun _ _ => .int _) (nomark _)) (pe_one (de_trim (de_call tk (ok_is_name T tb lam) (hr.mono (by decide)) (by rfl) T.D_is_name.m T.D_is_name.F.kp T.D_is_name.b (da_cons (de_item rfl (hu1 hr) (de_nm (pv 0)) (de_cst pe_int fun _ _ => .int _)) da_nil))))))) ds_nil)
      (ds_cons (ds_if (dt_cmp rfl (hu65 hr) (de_nm (pv 1)) (de_cst pe_str fun _ _ => .str _) (nomark _)) dss_stuck ds_nil)
      (ds_cons (ds_if (dt_cmp rfl (hu65 hr) (de_nm (pv 1)) (de_cst pe_str fun _ _ => .str _) (nomark _)) dss_stuck ds_nil)
      (ds_cons (ds_if (dt_cmp rfl (hu65 hr) (de_nm (pv 1)) (de_cst pe_str fun _ _ => .str _) (nomark _)) dss_stuck ds_nil)
      (ds_cons (ds_if (dt_cmp rfl (hu65 hr) (de_nm (pv 1)) (de_cst pe_str fun _ _ => .str _) (nomark _)) dss_stuck ds_nil)
      (ds_cons (ds_if (dt_cmp rfl (hu65 hr) (de_nm (pv 1)) (de_cst pe_str fun _ _ => .str _) (nomark _)) dss_stuck ds_nil)
      (ds_cons (ds_if (dt_cmp rfl (hu65 hr) (de_nm (pv 1)) (de_cst pe_str fun _ _ => .str _) (nomark _)) (ds_one (ds_ret (de_and (de_cmp rfl (hu65 hr) (de_nm (pv 2)) (de_cst pe_int fun _ _ => .int _) (nomark _)) (de_and (de_cmp rfl (hu65 hr) (de_callTy (cr_ty rfl) (by rfl) T.n_type (by decide +kernel) (da_cons (de_item rfl (hu1 hr) (de_nm (pv 0)) (de_cst pe_int fun _ _ => .int _)) da_nil)) (de_gty (by rfl) T.n_str (by decide +kernel)) (nomark _)) (pe_one (de_cmp rfl (hu65 hr) (de_item rfl (hu1 hr) (de_nm (pv 0)) (de_cst pe_int fun _ _ => .int _)) (de_gtup rfl (by rfl) T.c_SIGNS) (by rfl))))))) ds_nil)
      (ds_cons (ds_if (dt_cmp rfl (hu65 hr) (de_nm (pv 1)) (de_cst pe_str fun _ _ => .str _) (nomark _)) dss_stuck ds_nil)
      (ds_one (ds_ret (de_and (de_cmp rfl (hu65 hr) (de_nm (pv 1)) (de_cst pe_str fun _ _ => .str _) (nomark _)) (de_and (de_cmp rfl (hu65 hr) (de_nm (pv 2)) (de_cst pe_int fun _ _ => .int _) (nomark _)) (de_and (de_trim (de_call tk (ok_has_plain_pair T tb lam) (hr.mono (by decide)) (by rfl) T.D_has_plain_pair.m T.D_has_plain_pair.F.kp T.D_has_plain_pair.b (da_cons (de_item rfl (hu1 hr) (de_nm (pv 0)) (de_cst pe_int fun _ _ => .int _)) da_nil))) (pe_one (de_trim (de_call tk (ok_has_answer_rows T tb lam) (hr.mono (by decide)) (by rfl) T.D_has_answer_rows.m T.D_has_answer_rows.F.kp T.D_has_answer_rows.b (da_cons (de_item rfl (hu1 hr) (de_nm (pv 0)) (de_cst pe_int fun _ _ => .int _)) da_nil))))))))))))))))))))))
theorem ok_patterns_in (T : Top P w K mg) (tb : List (Addr × Str)) (lam : Nat → Addr → HO → Addr → HO → Prop) : FnOk P w K mg base (L2N.CX P w) 1 T.D_patterns_in.a T.D_patterns_in.u pp_patterns_in (spF (c0 K tb lam mg) 1 f_patterns_in) := by
  refine fn_ok rfl T.D_patterns_in.F sc_patterns_in rfl fun cdv A outer s H E hr => ?_
  have nd := sc_patterns_in.nd
  have tk : L2N.Takes (cxOf (L2N.CX P w) P w K mg base nn_patterns_in "patterns_in" (defScope st_patterns_in) T.D_patterns_in.a cdv A outer s H E) (fun cls d _ H => ((c0 K tb lam mg).to E).W cls d H) := L2N.takes_of rfl rfl rfl rfl
  exact (ds_cons (ds_if (dt_cmp rfl (hu65 hr) (de_item rfl (hu1 hr) (de_nm (pv 0)) (de_cst pe_int fun _ _ => .int _)) (de_cst pe_str fun _ _ => .str _) (nomark _)) dss_stuck ds_nil)
      (ds_one (ds_ret (de_lst da_nil))))
theorem ok_parts_in (T : Top P w K mg) (tb : List (Addr × Str)) (lam : Nat → Addr → HO → Addr → HO → Prop) : FnOk P w K mg base (L2N.CX P w) 1 T.D_parts_in.a T.D_parts_in.u pp_parts_in (spF (c0 K tb lam mg) 1 f_parts_in) := by
  refine fn_ok rfl T.D_parts_in.F sc_parts_in rfl fun cdv A outer s H E hr => ?_
  have nd := sc_parts_in.nd
  have tk : L2N.Takes (cxOf (L2N.CX P w) P w K mg base nn_parts_in "parts_in" (defScope st_parts_in) T.D_parts_in.a cdv A outer s H E) (fun cls d _ H => ((c0 K tb lam mg).to E).W cls d H) := L2N.takes_of rfl rfl rfl rfl
  exact (ds_cons (ds_set (ps_asg (de_item rfl (hu1 hr) (de_nm (pv 0)) (de_cst pe_int fun _ _ => .int _)) (dg_nm (pg_name (i := 1) nd rfl (Or.inl rfl)))))
      (ds_cons (ds_if (dt_cmp rfl (hu65 hr) (de_nm (pv 1)) (de_cst pe_str fun _ _ => .str _) (nomark _)) dss_stuck ds_nil)
      (ds_cons (ds_if (dt_cmp rfl (hu65 hr) (de_nm (pv 1)) (de_cst pe_str fun _ _ => .str _) (nomark _)) dss_stuck ds_nil)
      (ds_cons (ds_if (dt_cmp rfl (hu65 hr) (de_nm (pv 1)) (de_cst pe_str fun _ _ => .str _) (nomark _)) (ds_one (ds_ret (de_bin rfl (de_lst (da_cons (de_item rfl (hu1 hr) (de_nm (pv 0)) (de_cst pe_int fun _ _ => .int _)) (da_cons (de_item rfl (hu1 hr) (de_item rfl (hu1 hr) (de_nm (pv 0)) (de_cst pe_int fun _ _ => .int _)) (de_cst pe_int fun _ _ => .int _)) da_nil))) (de_lc rfl rfl nd (dp_any rfl (de_item rfl (hu1 hr) (de_nm (pv 0)) (de_cst pe_int fun _ _ => .int _))) (blkOk_by (own := [("row", 4)]) (N := nn_parts_in) (sc := defScope st_parts_in) (by decide +kernel)) (by decide) (fun _ _ _ _ _ => pg_name (i := 4) nd rfl (Or.inl rfl)) (fun _ _ _ _ _ => dpts_nil) (fun _ _ _ _ _ => (de_item rfl (hu1 hr) (de_nm (pv 4)) (de_cst pe_int fun _ _ => .int _))))))) ds_nil)
      (ds_cons (ds_set (ps_asg (de_kdict rfl (by rfl) T.c_PART_SLICES (de_nm (pv 1))) (dg_tup rfl rfl (dgs_cons (dg_nm (pg_name (i := 2) nd rfl (Or.inl rfl))) (dgs_cons (dg_nm (pg_name (i := 3) nd rfl (Or.inl rfl))) dgs_nil)))))
      (ds_one (ds_ret (de_callTy (cr_list rfl) (by rfl) T.n_list (by decide +kernel) (da_cons (de_slice rfl (de_nm (pv 0)) (dp_some (de_nm (pv 2))) (dp_some (de_nm (pv 3)))) da_nil)))))))))
theorem ok_fits_tree (T : Top P w K mg) (tb : List (Addr × Str)) (lam : Nat → Addr → HO → Addr → HO → Prop) : FnOk P w K mg base (L2N.CX P w) 4 T.D_fits_tree.a T.D_fits_tree.u pp_fits_tree (spF (c0 K tb lam mg) 1 f_fits_tree) := by
  refine fn_ok rfl T.D_fits_tree.F sc_fits_tree rfl fun cdv A outer s H E hr => ?_
  have nd := sc_fits_tree.nd
  have tk : L2N.Takes (cxOf (L2N.CX P w) P w K mg base nn_fits_tree "fits_tree" (defScope st_fits_tree) T.D_fits_tree.a cdv A outer s H E) (fun cls d _ H => ((c0 K tb lam mg).to E).W cls d H) := L2N.takes_of rfl rfl rfl rfl
  exact (ds_cons (ds_set (ps_asg (de_cst pe_int fun _ _ => .int _) (dg_nm (pg_name (i := 1) nd rfl (Or.inl rfl)))))
      (ds_cons (ds_set (ps_asg (de_lst (da_cons (de_tup (da_cons (de_nm (pv 0)) (da_cons (de_cst pe_int fun _ _ => .int _) da_nil))) da_nil)) (dg_nm (pg_name (i := 2) nd rfl (Or.inl rfl)))))
      (ds_cons (ds_while (n := 100000) (passes_of rfl) (dt_val rfl (de_nm (pv 2))) (dss_trimW (ds_cons (ds_set (ps_asg (de_meth0 rfl PySem.F.plainAttrs_list PySem.F.slot_list_pop PySem.F.type_list_pop (mr_pop rfl) (de_nm (pv 2))) (dg_tup rfl rfl (dgs_cons (dg_nm (pg_name (i := 3) nd rfl (Or.inl rfl))) (dgs_cons (dg_nm (pg_name (i := 4) nd rfl (Or.inr rfl))) dgs_nil)))))
      (ds_cons (ds_set (ps_asg (de_bin rfl (de_nm (pv 1)) (de_cst pe_int fun _ _ => .int _)) (dg_nm (pg_name (i := 1) nd rfl (Or.inl rfl)))))
      (ds_cons (ds_if (PW.pt (dw_or (dt_cmp rfl (hu65 hr) (de_nm (pv 1)) (de_gint (by rfl) T.c_MOST_SIZE) (nomark _)) (dw_or (dt_cmp rfl (hu65 hr) (de_nm (pv 4)) (de_gint (by rfl) T.c_MOST_DEPTH) (nomark _)) (dw_or1 (dt_not (dt_val rfl (de_trim (de_call tk (ok_has_tree_form T tb lam) (hr.mono (by decide)) (by rfl) T.D_has_tree_form.m T.D_has_tree_form.F.kp T.D_has_tree_form.b (da_cons (de_nm (pv 3)) da_nil))))))))) (ds_one (ds_ret (de_cst pe_bl fun _ _ => .bl _))) ds_nil)
      (ds_cons (ds_for (n := 100000) (passes_of rfl) rfl (dp_any rfl (de_call tk (ok_patterns_in T tb lam) (hr.mono (by decide)) (by rfl) T.D_patterns_in.m T.D_patterns_in.F.kp T.D_patterns_in.b (da_cons (de_nm (pv 3)) da_nil))) (dg_nm (pg_name (i := 5) nd rfl (Or.inl rfl))) (dss_trimW dss_stuck))
      (ds_one (ds_expr (de_meth rfl PySem.F.plainAttrs_list PySem.F.slot_list_extend PySem.F.type_list_extend (mr_extend rfl) (de_nm (pv 2)) (da_cons (de_lc rfl rfl nd (dp_any rfl (de_trim (de_call tk (ok_parts_in T tb lam) (hr.mono (by decide)) (by rfl) T.D_parts_in.m T.D_parts_in.F.kp T.D_parts_in.b (da_cons (de_nm (pv 3)) da_nil)))) (blkOk_by (own := [("part", 8)]) (N := nn_fits_tree) (sc := defScope st_fits_tree) (by decide +kernel)) (by decide) (fun _ _ _ _ _ => pg_name (i := 8) nd rfl (Or.inl rfl)) (fun _ _ _ _ _ => dpts_nil) (fun _ _ _ _ _ => (de_tup (da_cons (de_nm (pv 8)) (da_cons (de_bin rfl (de_nm (pv 4)) (de_cst pe_int fun _ _ => .int _)) da_nil))))) da_nil))))))))))
      (ds_one (ds_ret (de_cmp rfl (hu65 hr) (de_nm (pv 1)) (de_gint (by rfl) T.c_MOST_SIZE) (nomark _)))))))
theorem ok_check_tree (T : Top P w K mg) (tb : List (Addr × Str)) (lam : Nat → Addr → HO → Addr → HO → Prop) : FnOk P w K mg base (L2N.CX P w) 5 T.D_check_tree.a T.D_check_tree.u pp_check_tree (spF (c0 K tb lam mg) 1 f_check_tree) := by
  refine fn_ok rfl T.D_check_tree.F sc_check_tree rfl fun cdv A outer s H E hr => ?_
  have nd := sc_check_tree.nd
  have tk : L2N.Takes (cxOf (L2N.CX P w) P w K mg base nn_check_tree "check_tree" (defScope st_check_tree) T.D_check_tree.a cdv A outer s H E) (fun cls d _ H => ((c0 K tb lam mg).to E).W cls d H) := L2N.takes_of rfl rfl rfl rfl
  exact (ds_one (ds_if (dt_not (dt_val rfl (de_trim (de_call tk (ok_fits_tree T tb lam) (hr.mono (by decide)) (by rfl) T.D_fits_tree.m T.D_fits_tree.F.kp T.D_fits_tree.b (da_cons (de_nm (pv 0)) da_nil))))) (ds_one (ds_raise rfl tk T.C_InvalidTree.m (L2N.pmk_own PySem.F.excBase_ValueError T.C_InvalidTree.x T.C_InvalidTree.m T.C_InvalidTree.k (raises_own T.C_InvalidTree.s T.C_InvalidTree.t) (by rfl)))) ds_nil))
theorem ok_scopes (T : Top P w K mg) (tb : List (Addr × Str)) (lam : Nat → Addr → HO → Addr → HO → Prop) : FnOk P w K mg base (L2N.CX P w) 2 T.D_scopes.a T.D_scopes.u pp_scopes (spF (c0 K tb lam mg) 1 f_scopes) := by
  refine fn_ok rfl T.D_scopes.F sc_scopes rfl fun cdv A outer s H E hr => ?_
  have nd := sc_scopes.nd
  have tk : L2N.Takes (cxOf (L2N.CX P w) P w K mg base nn_scopes "scopes" (defScope st_scopes) T.D_scopes.a cdv A outer s H E) (fun cls d _ H => ((c0 K tb lam mg).to E).W cls d H) := L2N.takes_of rfl rfl rfl rfl
  exact (ds_cons (ds_set (ps_asg (de_item rfl (hu1 hr) (de_nm (pv 0)) (de_cst pe_int fun _ _ => .int _)) (dg_nm (pg_name (i := 1) nd rfl (Or.inl rfl)))))
      (ds_cons (ds_if (dt_cmp rfl (hu65 hr) (de_nm (pv 1)) (de_cst pe_str fun _ _ => .str _) (nomark _)) dss_stuck ds_nil)
      (ds_cons (ds_if (dt_cmp rfl (hu65 hr) (de_nm (pv 1)) (de_cst pe_str fun _ _ => .str _) (nomark _)) dss_stuck ds_nil)
      (ds_cons (ds_if (dt_cmp rfl (hu65 hr) (de_nm (pv 1)) (de_cst pe_str fun _ _ => .str _) (nomark _)) dss_stuck ds_nil)
      (ds_cons (ds_if (dt_cmp rfl (hu65 hr) (de_nm (pv 1)) (de_cst pe_str fun _ _ => .str _) (nomark _)) dss_stuck ds_nil)
      (ds_cons (ds_if (dt_cmp rfl (hu65 hr) (de_nm (pv 1)) (de_cst pe_str fun _ _ => .str _) (nomark _)) (ds_cons (ds_set (ps_asg (de_item rfl (hu1 hr) (de_nm (pv 0)) (de_cst pe_int fun _ _ => .int _)) (dg_tup rfl rfl (dgs_cons (dg_nm (pg_name (i := 3) nd rfl (Or.inl rfl))) (dgs_cons (dg_nm (pg_name (i := 4) nd rfl (Or.inl rfl))) dgs_nil)))))
      (ds_cons (ds_setLc (i := 5) rfl rfl nd rfl rfl (sw_true rfl rfl rfl (by decide +kernel)) (dp_any rfl (de_item rfl (hu1 hr) (de_nm (pv 0)) (de_cst pe_int fun _ _ => .int _))) (blkOk_by (own := [("row", 6)]) (N := nn_scopes) (sc := defScope st_scopes) (by decide +kernel)) (by decide) (fun _ _ _ _ _ => pg_name (i := 6) nd rfl (Or.inl rfl)) (fun _ _ _ _ _ => dpts_nil) (fun _ _ _ _ _ => (de_tup (da_cons (de_slice rfl (de_nm (pv 6)) (dp_some (de_cst pe_int fun _ _ => .int _)) (dp_some (de_cst pe_int fun _ _ => .int _))) (da_cons (de_slice rfl (de_nm (pv 6)) (dp_some (de_cst pe_int fun _ _ => .int _)) (dp_some (de_cst pe_int fun _ _ => .int _))) (da_cons (de_item rfl (hu1 hr) (de_nm (pv 6)) (de_cst pe_int fun _ _ => .int _)) da_nil))))))
      (ds_one (ds_ret (de_bin rfl (de_lst (da_cons (de_tup (da_cons (de_tup da_nil) (da_cons (de_tup da_nil) (da_cons (de_item rfl (hu1 hr) (de_nm (pv 0)) (de_cst pe_int fun _ _ => .int _)) da_nil)))) (da_cons (de_tup (da_cons (de_tup (da_cons (de_nm (pv 3)) da_nil)) (da_cons (de_tup (da_cons (de_nm (pv 3)) da_nil)) (da_cons (de_nm (pv 4)) da_nil)))) da_nil))) (de_nm (pv 5))))))) ds_nil)
      (ds_one (ds_ret (de_lc rfl rfl nd (dp_any rfl (de_trim (de_call tk (ok_parts_in T tb lam) (hr.mono (by decide)) (by rfl) T.D_parts_in.m T.D_parts_in.F.kp T.D_parts_in.b (da_cons (de_nm (pv 0)) da_nil)))) (blkOk_by (own := [("part", 7)]) (N := nn_scopes) (sc := defScope st_scopes) (by decide +kernel)) (by decide) (fun _ _ _ _ _ => pg_name (i := 7) nd rfl (Or.inl rfl)) (fun _ _ _ _ _ => dpts_nil) (fun _ _ _ _ _ => (de_tup (da_cons (de_tup da_nil) (da_cons (de_tup da_nil) (da_cons (de_nm (pv 7)) da_nil))))))))))))))
theorem ok_with_added (T : Top P w K mg) (tb : List (Addr × Str)) (lam : Nat → Addr → HO → Addr → HO → Prop) : FnOk P w K mg base (L2N.CX P w) 1 T.D_with_added.a T.D_with_added.u pp_with_added (spF (c0 K tb lam mg) 2 f_with_added) := by
  refine fn_ok rfl T.D_with_added.F sc_with_added rfl fun cdv A outer s H E hr => ?_
  have nd := sc_with_added.nd
  have tk : L2N.Takes (cxOf (L2N.CX P w) P w K mg base nn_with_added "with_added" (defScope st_with_added) T.D_with_added.a cdv A outer s H E) (fun cls d _ H => ((c0 K tb lam mg).to E).W cls d H) := L2N.takes_of rfl rfl rfl rfl
  exact (ds_cons (ds_if (dt_cmp rfl (hu65 hr) (de_callB (cr_len rfl) (by rfl) T.n_len PySem.boot_len (da_cons (de_nm (pv 1)) da_nil)) (de_cst pe_int fun _ _ => .int _) (nomark _)) (ds_one (ds_ret (de_nm (pv 0)))) ds_nil)
      (ds_cons (ds_setCopy (n := 2) rfl (hu1 hr) rfl nd rfl rfl (blkOk_by (own := [("name", 3)]) (N := nn_with_added) (sc := defScope st_with_added) (by decide +kernel)) (by decide) (swd_true rfl rfl rfl (by decide +kernel)) (pv 0) (fun _ _ _ _ _ => pg_name (i := 3) nd rfl (Or.inl rfl)) (fun _ _ _ _ _ => pv 3) (fun _ _ _ _ _ => pv 0) (fun _ _ _ _ _ => pv 3))
      (ds_cons (ds_for (n := 100000) (passes_of rfl) rfl (dp_any rfl (de_nm (pv 1))) (dg_nm (pg_name (i := 3) nd rfl (Or.inl rfl))) (dss_trimW (ds_one (ds_put rfl (hu1 hr) (de_nm (pv 2)) (de_nm (pv 3)) (de_cst pe_bl fun _ _ => .bl _)))))
      (ds_one (ds_ret (de_nm (pv 2)))))))
theorem ok_free_in (T : Top P w K mg) (tb : List (Addr × Str)) (lam : Nat → Addr → HO → Addr → HO → Prop) : FnOk P w K mg base (L2N.CX P w) 3 T.D_free_in.a T.D_free_in.u pp_free_in (spF (c0 K tb lam mg) 1 f_free_in) := by
  refine fn_ok rfl T.D_free_in.F sc_free_in rfl fun cdv A outer s H E hr => ?_
  have nd := sc_free_in.nd
  have tk : L2N.Takes (cxOf (L2N.CX P w) P w K mg base nn_free_in "free_in" (defScope st_free_in) T.D_free_in.a cdv A outer s H E) (fun cls d _ H => ((c0 K tb lam mg).to E).W cls d H) := L2N.takes_of rfl rfl rfl rfl
  exact (ds_cons (ds_set (ps_asg (de_dk0 rfl) (dg_nm (pg_name (i := 1) nd rfl (Or.inl rfl)))))
      (ds_cons (ds_set (ps_asg (de_lst (da_cons (de_tup (da_cons (de_nm (pv 0)) (da_cons (de_dk0 rfl) da_nil))) da_nil)) (dg_nm (pg_name (i := 2) nd rfl (Or.inl rfl)))))
      (ds_cons (ds_while (n := 100000) (passes_of rfl) (dt_val rfl (de_nm (pv 2))) (dss_trimW (ds_cons (ds_set (ps_asg (de_meth0 rfl PySem.F.plainAttrs_list PySem.F.slot_list_pop PySem.F.type_list_pop (mr_pop rfl) (de_nm (pv 2))) (dg_tup rfl rfl (dgs_cons (dg_nm (pg_name (i := 3) nd rfl (Or.inl rfl))) (dgs_cons (dg_nm (pg_name (i := 4) nd rfl (Or.inl rfl))) dgs_nil)))))
      (ds_cons (ds_if (PW.pt (dw_and (dt_cmp rfl (hu65 hr) (de_item rfl (hu1 hr) (de_nm (pv 3)) (de_cst pe_int fun _ _ => .int _)) (de_cst pe_str fun _ _ => .str _) (nomark _)) (dw_and1 (dt_cmp rfl (hu65 hr) (de_item rfl (hu1 hr) (de_nm (pv 3)) (de_cst pe_int fun _ _ => .int _)) (de_nm (pv 4)) (by rfl))))) (ds_one (ds_put rfl (hu1 hr) (de_nm (pv 1)) (de_item rfl (hu1 hr) (de_nm (pv 3)) (de_cst pe_int fun _ _ => .int _)) (de_cst pe_bl fun _ _ => .bl _))) ds_nil)
      (ds_one (ds_for (n := 100000) (passes_of rfl) rfl (dp_any rfl (de_trim (de_call tk (ok_scopes T tb lam) (hr.mono (by decide)) (by rfl) T.D_scopes.m T.D_scopes.F.kp T.D_scopes.b (da_cons (de_nm (pv 3)) da_nil)))) (dg_tup rfl rfl (dgs_cons (dg_nm (pg_name (i := 5) nd rfl (Or.inl rfl))) (dgs_cons (dg_nm (pg_name (i := 6) nd rfl (Or.inl rfl))) (dgs_cons (dg_nm (pg_name (i := 7) nd rfl (Or.inl rfl))) dgs_nil)))) (dss_trimW (ds_one (ds_expr (de_meth rfl PySem.F.plainAttrs_list PySem.F.slot_list_append PySem.F.type_list_append (mr_append rfl) (de_nm (pv 2)) (da_cons (de_tup (da_cons (de_nm (pv 7)) (da_cons (de_trim (de_call tk (ok_with_added T tb lam) (hr.mono (by decide)) (by rfl) T.D_with_added.m T.D_with_added.F.kp T.D_with_added.b (da_cons (de_nm (pv 4)) (da_cons (de_nm (pv 6)) da_nil)))) da_nil))) da_nil)))))))))))
      (ds_one (ds_ret (de_callB (cr_sortedD rfl rfl) (by rfl) T.n_sorted (by decide +kernel) (da_cons (de_nm (pv 1)) da_nil)))))))
theorem ok_check_program (T : Top P w K mg) (tb : List (Addr × Str)) (lam : Nat → Addr → HO → Addr → HO → Prop) : FnOk P w K mg base (L2N.CX P w) 6 T.D_check_program.a T.D_check_program.u pp_check_program (spF (c0 K tb lam mg) 1 f_check_program) := by
  refine fn_ok rfl T.D_check_program.F sc_check_program rfl fun cdv A outer s H E hr => ?_
  have nd := sc_check_program.nd
  have tk : L2N.Takes (cxOf (L2N.CX P w) P w K mg base nn_check_program "check_program" (defScope st_check_program) T.D_check_program.a cdv A outer s H E) (fun cls d _ H => ((c0 K tb lam mg).to E).W cls d H) := L2N.takes_of rfl rfl rfl rfl
  exact (ds_cons (ds_expr (de_trim (de_call tk (ok_check_tree T tb lam) (hr.mono (by decide)) (by rfl) T.D_check_tree.m T.D_check_tree.F.kp T.D_check_tree.b (da_cons (de_nm (pv 0)) da_nil))))
      (ds_one (ds_if (dt_cmp rfl (hu65 hr) (de_callB (cr_len rfl) (by rfl) T.n_len PySem.boot_len (da_cons (de_trim (de_call tk (ok_free_in T tb lam) (hr.mono (by decide)) (by rfl) T.D_free_in.m T.D_free_in.F.kp T.D_free_in.b (da_cons (de_nm (pv 0)) da_nil))) da_nil)) (de_cst pe_int fun _ _ => .int _) (nomark _)) (ds_one (ds_raise rfl tk T.C_InvalidProgram.m (L2N.pmk_own PySem.F.excBase_ValueError T.C_InvalidProgram.x T.C_InvalidProgram.m T.C_InvalidProgram.k (raises_own T.C_InvalidProgram.s T.C_InvalidProgram.t) (by rfl)))) ds_nil)))
theorem ok_trees_in (T : Top P w K mg) (tb : List (Addr × Str)) (lam : Nat → Addr → HO → Addr → HO → Prop) : FnOk P w K mg base (L2N.CX P w) 2 T.D_trees_in.a T.D_trees_in.u pp_trees_in (spF (c0 K tb lam mg) 1 f_trees_in) := by
  refine fn_ok rfl T.D_trees_in.F sc_trees_in rfl fun cdv A outer s H E hr => ?_
  have nd := sc_trees_in.nd
  have tk : L2N.Takes (cxOf (L2N.CX P w) P w K mg base nn_trees_in "trees_in" (defScope st_trees_in) T.D_trees_in.a cdv A outer s H E) (fun cls d _ H => ((c0 K tb lam mg).to E).W cls d H) := L2N.takes_of rfl rfl rfl rfl
  exact (ds_cons (ds_set (ps_asg (de_lst da_nil) (dg_nm (pg_name (i := 1) nd rfl (Or.inl rfl)))))
      (ds_cons (ds_set (ps_asg (de_lst (da_cons (de_nm (pv 0)) da_nil)) (dg_nm (pg_name (i := 2) nd rfl (Or.inl rfl)))))
      (ds_cons (ds_while (n := 100000) (passes_of rfl) (dt_val rfl (de_nm (pv 2))) (dss_trimW (ds_cons (ds_set (ps_asg (de_meth0 rfl PySem.F.plainAttrs_list PySem.F.slot_list_pop PySem.F.type_list_pop (mr_pop rfl) (de_nm (pv 2))) (dg_nm (pg_name (i := 3) nd rfl (Or.inl rfl)))))
      (ds_cons (ds_expr (de_meth rfl PySem.F.plainAttrs_list PySem.F.slot_list_append PySem.F.type_list_append (mr_append rfl) (de_nm (pv 1)) (da_cons (de_nm (pv 3)) da_nil)))
      (ds_one (ds_expr (de_meth rfl PySem.F.plainAttrs_list PySem.F.slot_list_extend PySem.F.type_list_extend (mr_extend rfl) (de_nm (pv 2)) (da_cons (de_rev rfl (de_trim (de_call tk (ok_parts_in T tb lam) (hr.mono (by decide)) (by rfl) T.D_parts_in.m T.D_parts_in.F.kp T.D_parts_in.b (da_cons (de_nm (pv 3)) da_nil)))) da_nil))))))))
      (ds_one (ds_ret (de_nm (pv 1)))))))
theorem ok_check_led_rows (T : Top P w K mg) (tb : List (Addr × Str)) (lam : Nat → Addr → HO → Addr → HO → Prop) : FnOk P w K mg base (L2N.CX P w) 3 T.D_check_led_rows.a T.D_check_led_rows.u pp_check_led_rows (spF (c0 K tb lam mg) 1 f_check_led_rows) := by
  refine fn_ok rfl T.D_check_led_rows.F sc_check_led_rows rfl fun cdv A outer s H E hr => ?_
  have nd := sc_check_led_rows.nd
  have tk : L2N.Takes (cxOf (L2N.CX P w) P w K mg base nn_check_led_rows "check_led_rows" (defScope st_check_led_rows) T.D_check_led_rows.a cdv A outer s H E) (fun cls d _ H => ((c0 K tb lam mg).to E).W cls d H) := L2N.takes_of rfl rfl rfl rfl
  exact (ds_one (ds_for (n := 100000) (passes_of rfl) rfl (dp_any rfl (de_trim (de_call tk (ok_trees_in T tb lam) (hr.mono (by decide)) (by rfl) T.D_trees_in.m T.D_trees_in.F.kp T.D_trees_in.b (da_cons (de_nm (pv 0)) da_nil)))) (dg_nm (pg_name (i := 1) nd rfl (Or.inl rfl))) (dss_trimW (ds_one (ds_if (PW.pt (dw_and (dt_cmp rfl (hu65 hr) (de_item rfl (hu1 hr) (de_nm (pv 1)) (de_cst pe_int fun _ _ => .int _)) (de_cst pe_str fun _ _ => .str _) (nomark _)) (dw_and1 (dt_cmp rfl (hu65 hr) (de_callB (cr_len rfl) (by rfl) T.n_len PySem.boot_len (da_cons (de_item rfl (hu1 hr) (de_nm (pv 1)) (de_cst pe_int fun _ _ => .int _)) da_nil)) (de_gint (by rfl) T.c_MOST_LED_ROWS) (nomark _))))) (ds_one (ds_raiseM rfl tk T.I_TooMany (init_fstr T.I_TooMany (by decide) (by decide) (by decide)) (hr.mono (by decide)) (by rfl) T.C_TooMany.m T.C_TooMany.m rfl (da_cons (de_gint (by rfl) T.c_MOST_LED_ROWS) da_nil))) ds_nil)))))
theorem ok_used (T : Top P w K mg) (tb : List (Addr × Str)) (lam : Nat → Addr → HO → Addr → HO → Prop) : FnOk P w K mg base (L2N.CX P w) 1 T.D_used.a T.D_used.u pp_used (spF (c0 K tb lam mg) 1 f_used) := by
  refine fn_ok rfl T.D_used.F sc_used rfl fun cdv A outer s H E hr => ?_
  have nd := sc_used.nd
  have tk : L2N.Takes (cxOf (L2N.CX P w) P w K mg base nn_used "used" (defScope st_used) T.D_used.a cdv A outer s H E) (fun cls d _ H => ((c0 K tb lam mg).to E).W cls d H) := L2N.takes_of rfl rfl rfl rfl
  exact (ds_one (ds_ret (de_tup (da_cons (de_cst pe_str fun _ _ => .str _) (da_cons (de_nm (pv 0)) da_nil)))))
theorem ok_plan_match (T : Top P w K mg) (tb : List (Addr × Str)) (lam : Nat → Addr → HO → Addr → HO → Prop) : FnOk P w K mg base (L2N.CX P w) 2 T.D_plan_match.a T.D_plan_match.u pp_plan_match (spF (c0 K tb lam mg) 2 f_plan_match) := by
  refine fn_ok rfl T.D_plan_match.F sc_plan_match rfl fun cdv A outer s H E hr => ?_
  have nd := sc_plan_match.nd
  have tk : L2N.Takes (cxOf (L2N.CX P w) P w K mg base nn_plan_match "plan_match" (defScope st_plan_match) T.D_plan_match.a cdv A outer s H E) (fun cls d _ H => ((c0 K tb lam mg).to E).W cls d H) := L2N.takes_of rfl rfl rfl rfl
  exact (ds_cons (ds_set (ps_asg (de_tup (da_cons (de_tup (da_cons (de_cst pe_str fun _ _ => .str _) (da_cons (de_cst pe_str fun _ _ => .str _) da_nil))) (da_cons (de_tup (da_cons (de_cst pe_str fun _ _ => .str _) (da_cons (de_cst pe_str fun _ _ => .str _) da_nil))) (da_cons (de_tup (da_cons (de_cst pe_str fun _ _ => .str _) (da_cons (de_cst pe_str fun _ _ => .str _) da_nil))) da_nil)))) (dg_nm (pg_name (i := 2) nd rfl (Or.inl rfl)))))
      (ds_cons (ds_set (ps_asg (de_tup (da_cons (de_tup (da_cons (de_cst pe_str fun _ _ => .str _) (da_cons (de_cst pe_str fun _ _ => .str _) (da_cons (de_tup (da_cons (de_tup (da_cons (de_cst pe_str fun _ _ => .str _) (da_cons (de_item rfl (hu1 hr) (de_nm (pv 0)) (de_cst pe_int fun _ _ => .int _)) da_nil))) da_nil)) da_nil)))) (da_cons (de_item rfl (hu1 hr) (de_nm (pv 0)) (de_cst pe_int fun _ _ => .int _)) da_nil))) (dg_nm (pg_name (i := 3) nd rfl (Or.inl rfl)))))
      (ds_one (ds_ret (de_tup (da_cons (de_cst pe_str fun _ _ => .str _) (da_cons (de_trim (de_call tk (ok_used T tb lam) (hr.mono (by decide)) (by rfl) T.D_used.m T.D_used.F.kp T.D_used.b (da_cons (de_cst pe_str fun _ _ => .str _) da_nil))) (da_cons (de_tup (da_cons (de_nm (pv 3)) (da_cons (de_tup (da_cons (de_tup (da_cons (de_cst pe_str fun _ _ => .str _) (da_cons (de_cst pe_str fun _ _ => .str _) (da_cons (de_nm (pv 2)) da_nil)))) (da_cons (de_nm (pv 1)) da_nil))) da_nil))) da_nil))))))))
theorem ok_did (T : Top P w K mg) (tb : List (Addr × Str)) (lam : Nat → Addr → HO → Addr → HO → Prop) : FnOk P w K mg base (L2N.CX P w) 1 T.D_did.a T.D_did.u pp_did (spF (c0 K tb lam mg) 3 f_did) := by
  refine fn_ok rfl T.D_did.F sc_did rfl fun cdv A outer s H E hr => ?_
  have nd := sc_did.nd
  have tk : L2N.Takes (cxOf (L2N.CX P w) P w K mg base nn_did "did" (defScope st_did) T.D_did.a cdv A outer s H E) (fun cls d _ H => ((c0 K tb lam mg).to E).W cls d H) := L2N.takes_of rfl rfl rfl rfl
  exact (ds_one (ds_ret (de_tup (da_cons (de_cst pe_str fun _ _ => .str _) (da_cons (de_cst pe_str fun _ _ => .str _) (da_cons (de_tup (da_cons (de_nm (pv 0)) (da_cons (de_nm (pv 1)) (da_cons (de_nm (pv 2)) da_nil)))) da_nil))))))
theorem ok_trees_and_patterns_in (T : Top P w K mg) (tb : List (Addr × Str)) (lam : Nat → Addr → HO → Addr → HO → Prop) : FnOk P w K mg base (L2N.CX P w) 1 T.D_trees_and_patterns_in.a T.D_trees_and_patterns_in.u pp_trees_and_patterns_in (spF (c0 K tb lam mg) 1 f_trees_and_patterns_in) := by
  refine fn_ok rfl T.D_trees_and_patterns_in.F sc_trees_and_patterns_in rfl fun cdv A outer s H E hr => ?_
  have nd := sc_trees_and_patterns_in.nd
  have tk : L2N.Takes (cxOf (L2N.CX P w) P w K mg base nn_trees_and_patterns_in "trees_and_patterns_in" (defScope st_trees_and_patterns_in) T.D_trees_and_patterns_in.a cdv A outer s H E) (fun cls d _ H => ((c0 K tb lam mg).to E).W cls d H) := L2N.takes_of rfl rfl rfl rfl
  exact (ds_cons (ds_set (ps_asg (de_item rfl (hu1 hr) (de_nm (pv 0)) (de_cst pe_int fun _ _ => .int _)) (dg_nm (pg_name (i := 1) nd rfl (Or.inl rfl)))))
      (ds_cons (ds_if (PW.pt (dw_or (dt_cmp rfl (hu65 hr) (de_nm (pv 1)) (de_cst pe_str fun _ _ => .str _) (nomark _)) (dw_or1 (dt_cmp rfl (hu65 hr) (de_nm (pv 1)) (de_cst pe_str fun _ _ => .str _) (nomark _))))) (ds_one (ds_ret (de_item rfl (hu1 hr) (de_nm (pv 0)) (de_cst pe_int fun _ _ => .int _)))) ds_nil)
      (ds_cons (ds_if (dt_inK (by rfl) T.k_PART_SLICES (de_nm (pv 1))) (ds_cons (ds_set (ps_asg (de_kdict rfl (by rfl) T.c_PART_SLICES (de_nm (pv 1))) (dg_tup rfl rfl (dgs_cons (dg_nm (pg_name (i := 2) nd rfl (Or.inl rfl))) (dgs_cons (dg_nm (pg_name (i := 3) nd rfl (Or.inl rfl))) dgs_nil)))))
      (ds_one (ds_ret (de_slice rfl (de_nm (pv 0)) (dp_some (de_nm (pv 2))) (dp_some (de_nm (pv 3))))))) ds_nil)
      (ds_cons (ds_if (dt_cmp rfl (hu65 hr) (de_nm (pv 1)) (de_cst pe_str fun _ _ => .str _) (nomark _)) (ds_one (ds_ret (de_bin rfl (de_bin rfl (de_lst (da_cons (de_item rfl (hu1 hr) (de_nm (pv 0)) (de_cst pe_int fun _ _ => .int _)) da_nil)) (de_lc rfl rfl nd (dp_any rfl (de_item rfl (hu1 hr) (de_nm (pv 0)) (de_cst pe_int fun _ _ => .int _))) (blkOk_by (own := [("row", 4)]) (N := nn_trees_and_patterns_in) (sc := defScope st_trees_and_patterns_in) (by decide +kernel)) (by decide) (fun _ _ _ _ _ => pg_name (i := 4) nd rfl (Or.inl rfl)) (fun _ _ _ _ _ => dpts_nil) (fun _ _ _ _ _ => (de_item rfl (hu1 hr) (de_nm (pv 4)) (de_cst pe_int fun _ _ => .int _))))) (de_lc rfl rfl nd (dp_any rfl (de_item rfl (hu1 hr) (de_nm (pv 0)) (de_cst pe_int fun _ _ => .int _))) (blkOk_by (own := [("row", 4)]) (N := nn_trees_and_patterns_in) (sc := defScope st_trees_and_patterns_in) (by decide +kernel)) (by decide) (fun _ _ _ _ _ => pg_name (i := 4) nd rfl (Or.inl rfl)) (fun _ _ _ _ _ => dpts_nil) (fun _ _ _ _ _ => (de_item rfl (hu1 hr) (de_nm (pv 4)) (de_cst pe_int fun _ _ => .int _))))))) ds_nil)
      (ds_cons (ds_if (dt_cmp rfl (hu65 hr) (de_nm (pv 1)) (de_cst pe_str fun _ _ => .str _) (nomark _)) (ds_one (ds_ret (de_bin rfl (de_lst (da_cons (de_item rfl (hu1 hr) (de_nm (pv 0)) (de_cst pe_int fun _ _ => .int _)) (da_cons (de_item rfl (hu1 hr) (de_item rfl (hu1 hr) (de_nm (pv 0)) (de_cst pe_int fun _ _ => .int _)) (de_cst pe_int fun _ _ => .int _)) da_nil))) (de_lc rfl rfl nd (dp_any rfl (de_item rfl (hu1 hr) (de_nm (pv 0)) (de_cst pe_int fun _ _ => .int _))) (blkOk_by (own := [("row", 4)]) (N := nn_trees_and_patterns_in) (sc := defScope st_trees_and_patterns_in) (by decide +kernel)) (by decide) (fun _ _ _ _ _ => pg_name (i := 4) nd rfl (Or.inl rfl)) (fun _ _ _ _ _ => dpts_nil) (fun _ _ _ _ _ => (de_item rfl (hu1 hr) (de_nm (pv 4)) (de_cst pe_int fun _ _ => .int _))))))) ds_nil)
      (ds_one (ds_ret (de_tup da_nil))))))))
theorem ok_measure (T : Top P w K mg) (tb : List (Addr × Str)) (lam : Nat → Addr → HO → Addr → HO → Prop) : FnOk P w K mg base (L2N.CX P w) 2 T.D_measure.a T.D_measure.u pp_measure (spF (c0 K tb lam mg) 1 f_measure) := by
  refine fn_ok rfl T.D_measure.F sc_measure rfl fun cdv A outer s H E hr => ?_
  have nd := sc_measure.nd
  have tk : L2N.Takes (cxOf (L2N.CX P w) P w K mg base nn_measure "measure" (defScope st_measure) T.D_measure.a cdv A outer s H E) (fun cls d _ H => ((c0 K tb lam mg).to E).W cls d H) := L2N.takes_of rfl rfl rfl rfl
  exact (ds_cons (ds_set (ps_asg (de_cst pe_int fun _ _ => .int _) (dg_nm (pg_name (i := 1) nd rfl (Or.inl rfl)))))
      (ds_cons (ds_set (ps_asg (de_cst pe_int fun _ _ => .int _) (dg_nm (pg_name (i := 2) nd rfl (Or.inl rfl)))))
      (ds_cons (ds_set (ps_asg (de_lst (da_cons (de_tup (da_cons (de_nm (pv 0)) (da_cons (de_cst pe_int fun _ _ => .int _) da_nil))) da_nil)) (dg_nm (pg_name (i := 3) nd rfl (Or.inl rfl)))))
      (ds_cons (ds_while (n := 100000) (passes_of rfl) (PW.pt (dw_and (dt_val rfl (de_nm (pv 3))) (dw_and1 (dt_cmp rfl (hu65 hr) (de_nm (pv 1)) (de_gint (by rfl) T.c_MOST_SIZE) (nomark _))))) (dss_trimW (ds_cons (ds_set (ps_asg (de_meth0 rfl PySem.F.plainAttrs_list PySem.F.slot_list_pop PySem.F.type_list_pop (mr_pop rfl) (de_nm (pv 3))) (dg_tup rfl rfl (dgs_cons (dg_nm (pg_name (i := 4) nd rfl (Or.inl rfl))) (dgs_cons (dg_nm (pg_name (i := 5) nd rfl (Or.inl rfl))) dgs_nil)))))
      (ds_cons (ds_set (ps_asg (de_bin rfl (de_nm (pv 1)) (de_cst pe_int fun _ _ => .int _)) (dg_nm (pg_name (i := 1) nd rfl (Or.inl rfl)))))
      (ds_cons (ds_if (dt_cmp rfl (hu65 hr) (de_nm (pv 5)) (de_nm (pv 2)) (nomark _)) (ds_one (ds_set (ps_asg (de_nm (pv 5)) (dg_nm (pg_name (i := 2) nd rfl (Or.inl rfl)))))) ds_nil)
      (ds_one (ds_for (n := 100000) (passes_of rfl) rfl (dp_any rfl (de_trim (de_call tk (ok_trees_and_patterns_in T tb lam) (hr.mono (by decide)) (by rfl) T.D_trees_and_patterns_in.m T.D_trees_and_patterns_in.F.kp T.D_trees_and_patterns_in.b (da_cons (de_nm (pv 4)) da_nil)))) (dg_nm (pg_name (i := 6) nd rfl (Or.inl rfl))) (dss_trimW (ds_one (ds_expr (de_meth rfl PySem.F.plainAttrs_list PySem.F.slot_list_append PySem.F.type_list_append (mr_append rfl) (de_nm (pv 3)) (da_cons (de_tup (da_cons (de_nm (pv 6)) (da_cons (de_bin rfl (de_nm (pv 5)) (de_cst pe_int fun _ _ => .int _)) da_nil))) da_nil))))))))))))
      (ds_one (ds_ret (de_tup (da_cons (de_nm (pv 1)) (da_cons (de_nm (pv 2)) da_nil)))))))))
theorem ok_is_within_bounds (T : Top P w K mg) (tb : List (Addr × Str)) (lam : Nat → Addr → HO → Addr → HO → Prop) : FnOk P w K mg base (L2N.CX P w) 3 T.D_is_within_bounds.a T.D_is_within_bounds.u pp_is_within_bounds (spF (c0 K tb lam mg) 1 f_is_within_bounds) := by
  refine fn_ok rfl T.D_is_within_bounds.F sc_is_within_bounds rfl fun cdv A outer s H E hr => ?_
  have nd := sc_is_within_bounds.nd
  have tk : L2N.Takes (cxOf (L2N.CX P w) P w K mg base nn_is_within_bounds "is_within_bounds" (defScope st_is_within_bounds) T.D_is_within_bounds.a cdv A outer s H E) (fun cls d _ H => ((c0 K tb lam mg).to E).W cls d H) := L2N.takes_of rfl rfl rfl rfl
  exact (ds_cons (ds_set (ps_asg (de_trim (de_call tk (ok_measure T tb lam) (hr.mono (by decide)) (by rfl) T.D_measure.m T.D_measure.F.kp T.D_measure.b (da_cons (de_nm (pv 0)) da_nil))) (dg_tup rfl rfl (dgs_cons (dg_nm (pg_name (i := 1) nd rfl (Or.inl rfl))) (dgs_cons (dg_nm (pg_name (i := 2) nd rfl (Or.inl rfl))) dgs_nil)))))
      (ds_one (ds_ret (de_and (de_cmp rfl (hu65 hr) (de_nm (pv 1)) (de_gint (by rfl) T.c_MOST_SIZE) (nomark _)) (pe_one (de_cmp rfl (hu65 hr) (de_nm (pv 2)) (de_gint (by rfl) T.c_MOST_DEPTH) (nomark _)))))))
theorem ok_check_bounds (T : Top P w K mg) (tb : List (Addr × Str)) (lam : Nat → Addr → HO → Addr → HO → Prop) : FnOk P w K mg base (L2N.CX P w) 4 T.D_check_bounds.a T.D_check_bounds.u pp_check_bounds (spF (c0 K tb lam mg) 1 f_check_bounds) := by
  refine fn_ok rfl T.D_check_bounds.F sc_check_bounds rfl fun cdv A outer s H E hr => ?_
  have nd := sc_check_bounds.nd
  have tk : L2N.Takes (cxOf (L2N.CX P w) P w K mg base nn_check_bounds "check_bounds" (defScope st_check_bounds) T.D_check_bounds.a cdv A outer s H E) (fun cls d _ H => ((c0 K tb lam mg).to E).W cls d H) := L2N.takes_of rfl rfl rfl rfl
  exact (ds_one (ds_if (dt_not (dt_val rfl (de_trim (de_call tk (ok_is_within_bounds T tb lam) (hr.mono (by decide)) (by rfl) T.D_is_within_bounds.m T.D_is_within_bounds.F.kp T.D_is_within_bounds.b (da_cons (de_nm (pv 0)) da_nil))))) (ds_one (ds_raise rfl tk T.C_InvalidTree.m (L2N.pmk_own PySem.F.excBase_ValueError T.C_InvalidTree.x T.C_InvalidTree.m T.C_InvalidTree.k (raises_own T.C_InvalidTree.s T.C_InvalidTree.t) (by rfl)))) ds_nil))
theorem ok_with_led_names (T : Top P w K mg) (tb : List (Addr × Str)) (lam : Nat → Addr → HO → Addr → HO → Prop) : FnOk P w K mg base (L2N.CX P w) 5 T.D_with_led_names.a T.D_with_led_names.u pp_with_led_names (spF (c0 K tb lam mg) 1 f_with_led_names) := by
  refine fn_ok rfl T.D_with_led_names.F sc_with_led_names rfl fun cdv A outer s H E hr => ?_
  have nd := sc_with_led_names.nd
  have tk : L2N.Takes (cxOf (L2N.CX P w) P w K mg base nn_with_led_names "with_led_names" (defScope st_with_led_names) T.D_with_led_names.a cdv A outer s H E) (fun cls d _ H => ((c0 K tb lam mg).to E).W cls d H) := L2N.takes_of rfl rfl rfl rfl
  exact (ds_cons (ds_expr (de_trim (de_call tk (ok_check_bounds T tb lam) (hr.mono (by decide)) (by rfl) T.D_check_bounds.m T.D_check_bounds.F.kp T.D_check_bounds.b (da_cons (de_nm (pv 0)) da_nil))))
      dss_stuck)
theorem ok_with_parts (T : Top P w K mg) (tb : List (Addr × Str)) (lam : Nat → Addr → HO → Addr → HO → Prop) : FnOk P w K mg base (L2N.CX P w) 1 T.D_with_parts.a T.D_with_parts.u pp_with_parts (spF (c0 K tb lam mg) 2 f_with_parts) := by
  refine fn_ok rfl T.D_with_parts.F sc_with_parts rfl fun cdv A outer s H E hr => ?_
  have nd := sc_with_parts.nd
  have tk : L2N.Takes (cxOf (L2N.CX P w) P w K mg base nn_with_parts "with_parts" (defScope st_with_parts) T.D_with_parts.a cdv A outer s H E) (fun cls d _ H => ((c0 K tb lam mg).to E).W cls d H) := L2N.takes_of rfl rfl rfl rfl
  exact (ds_cons (ds_set (ps_asg (de_item rfl (hu1 hr) (de_nm (pv 0)) (de_cst pe_int fun _ _ => .int _)) (dg_nm (pg_name (i := 2) nd rfl (Or.inl rfl)))))
      (ds_cons (ds_if (dt_cmp rfl (hu65 hr) (de_nm (pv 2)) (de_cst pe_str fun _ _ => .str _) (nomark _)) dss_stuck ds_nil)
      (ds_cons (ds_if (dt_cmp rfl (hu65 hr) (de_nm (pv 2)) (de_cst pe_str fun _ _ => .str _) (nomark _)) dss_stuck ds_nil)
      (ds_cons (ds_if (dt_cmp rfl (hu65 hr) (de_nm (pv 2)) (de_cst pe_str fun _ _ => .str _) (nomark _)) dss_stuck ds_nil)
      (ds_cons (ds_set (ps_asg (de_kdict rfl (by rfl) T.c_PART_SLICES (de_nm (pv 2))) (dg_tup rfl rfl (dgs_cons (dg_nm (pg_name (i := 4) nd rfl (Or.inl rfl))) (dgs_cons (dg_nm (pg_name (i := 5) nd rfl (Or.inl rfl))) dgs_nil)))))
      (ds_one (ds_ret (de_bin rfl (de_slice rfl (de_nm (pv 0)) dp_none (dp_some (de_nm (pv 4)))) (de_callTy (cr_tuple rfl) (by rfl) T.n_tuple (by decide +kernel) (da_cons (de_nm (pv 1)) da_nil))))))))))
theorem ok_done (T : Top P w K mg) (tb : List (Addr × Str)) (lam : Nat → Addr → HO → Addr → HO → Prop) : FnOk P w K mg base (L2N.CX P w) 1 T.D_done.a T.D_done.u pp_done (spF (c0 K tb lam mg) 1 f_done) := by
  refine fn_ok rfl T.D_done.F sc_done rfl fun cdv A outer s H E hr => ?_
  have nd := sc_done.nd
  have tk : L2N.Takes (cxOf (L2N.CX P w) P w K mg base nn_done "done" (defScope st_done) T.D_done.a cdv A outer s H E) (fun cls d _ H => ((c0 K tb lam mg).to E).W cls d H) := L2N.takes_of rfl rfl rfl rfl
  exact (ds_one (ds_ret (de_tup (da_cons (de_cst pe_str fun _ _ => .str _) (da_cons (de_cst pe_str fun _ _ => .str _) (da_cons (de_tup (da_cons (de_nm (pv 0)) da_nil)) da_nil))))))
theorem okr_0 (T : Top P w K mg) (tb : List (Addr × Str)) (lam : Nat → Addr → HO → Addr → HO → Prop) : ∀ n : Nat, (FnOkR P w K mg base (L2N.CX P w) n T.D_after.a T.D_after.u pp_after (spF (c0 K tb lam mg) 3 (rc_0 n 0))) ∧ (FnOkR P w K mg base (L2N.CX P w) n T.D_led_parts_bytrees.a T.D_led_parts_bytrees.u pp_led_parts_bytrees (spF (c0 K tb lam mg) 1 (rc_0 n 1))) ∧ (FnOkR P w K mg base (L2N.CX P w) n T.D_led_tree.a T.D_led_tree.u pp_led_tree (spF (c0 K tb lam mg) 1 (rc_0 n 2)))
  | 0 => ⟨fn_noneR, fn_noneR, fn_noneR⟩
  | n + 1 => by
    have R := okr_0 T tb lam n
    exact ⟨by
      refine fn_okR (b := d_after (rc_0 n) (Nat.beq (n % 16) 0)) (n := 3) rfl T.D_after.F sc_after rfl fun cdv A outer s H E hrR => ?_
      have hr := hrR.plain
      have nd := sc_after.nd
      have tk : L2N.Takes (cxOf (L2N.CX P w) P w K mg base nn_after "after" (defScope st_after) T.D_after.a cdv A outer s H E) (fun cls d _ H => ((c0 K tb lam mg).to E).W cls d H) := L2N.takes_of rfl rfl rfl rfl
      exact (ds_one (ds_ret (de_tup (da_cons (de_cst pe_str fun _ _ => .str _) (da_cons (de_tup (da_cons (de_cst pe_str fun _ _ => .str _) (da_cons (de_trimIf (de_call tk (ok_used T tb lam) (hr.mono (by decide)) (by rfl) T.D_used.m T.D_used.F.kp T.D_used.b (da_cons (de_cst pe_str fun _ _ => .str _) da_nil))) (da_cons (de_trimIf (de_callR tk R.2.2 hrR (by rfl) T.D_led_tree.m T.D_led_tree.F.kp T.D_led_tree.b (da_cons (de_nm (pv 0)) da_nil))) da_nil)))) (da_cons (de_tup (da_cons (de_cst pe_str fun _ _ => .str _) (da_cons (de_nm (pv 1)) (da_cons (de_nm (pv 2)) da_nil)))) da_nil)))))), by
      refine fn_okR (b := d_led_parts_bytrees (rc_0 n) (Nat.beq (n % 16) 0)) (n := 6) rfl T.D_led_parts_bytrees.F sc_led_parts_bytrees rfl fun cdv A outer s H E hrR => ?_
      have hr := hrR.plain
      have nd := sc_led_parts_bytrees.nd
      have tk : L2N.Takes (cxOf (L2N.CX P w) P w K mg base nn_led_parts_bytrees "led_parts" (defScope st_led_parts_bytrees) T.D_led_parts_bytrees.a cdv A outer s H E) (fun cls d _ H => ((c0 K tb lam mg).to E).W cls d H) := L2N.takes_of rfl rfl rfl rfl
      exact (ds_cons (ds_set (ps_asg (de_trimIf (de_call tk (ok_parts_in T tb lam) (hr.mono (by decide)) (by rfl) T.D_parts_in.m T.D_parts_in.F.kp T.D_parts_in.b (da_cons (de_nm (pv 0)) da_nil))) (dg_nm (pg_name (i := 1) nd rfl (Or.inl rfl)))))
      (ds_cons (ds_set (ps_asg (de_slice rfl (de_gtup rfl (by rfl) T.c_PART_NAMES) dp_none (dp_some (de_callB (cr_len rfl) (by rfl) T.n_len PySem.boot_len (da_cons (de_nm (pv 1)) da_nil)))) (dg_nm (pg_name (i := 2) nd rfl (Or.inl rfl)))))
      (ds_cons (ds_set (ps_asg (de_trimIf (de_call tk (ok_with_parts T tb lam) (hr.mono (by decide)) (by rfl) T.D_with_parts.m T.D_with_parts.F.kp T.D_with_parts.b (da_cons (de_nm (pv 0)) (da_cons (de_lc rfl rfl nd (dp_any rfl (de_nm (pv 2))) (blkOk_by (own := [("name", 4)]) (N := nn_led_parts_bytrees) (sc := defScope st_led_parts_bytrees) (by decide +kernel)) (by decide) (fun _ _ _ _ _ => pg_name (i := 4) nd rfl (Or.inl rfl)) (fun _ _ _ _ _ => dpts_nil) (fun _ _ _ _ _ => (de_trimIf (de_callN (ok_used T tb lam) (hr.mono (by decide)) (by rfl) T.D_used.m T.D_used.F.kp T.D_used.b (da_cons (de_nm (pv 4)) da_nil))))) da_nil)))) (dg_nm (pg_name (i := 3) nd rfl (Or.inl rfl)))))
      (ds_cons (ds_if (dt_cmp rfl (hu65 hr) (de_item rfl (hu1 hr) (de_nm (pv 0)) (de_cst pe_int fun _ _ => .int _)) (de_cst pe_str fun _ _ => .str _) (nomark _)) (ds_one (ds_set (ps_asg (de_trimIf (de_call tk (ok_done T tb lam) (hr.mono (by decide)) (by rfl) T.D_done.m T.D_done.F.kp T.D_done.b (da_cons (de_nm (pv 3)) da_nil))) (dg_nm (pg_name (i := 3) nd rfl (Or.inl rfl)))))) ds_nil)
      (ds_cons (ds_for (n := 100000) (passes_of rfl) rfl (dp_any rfl (de_rev rfl (de_listZip rfl rfl (by rfl) T.n_list (by decide +kernel) (by rfl) T.n_zip (da_cons (de_nm (pv 2)) (da_cons (de_nm (pv 1)) da_nil))))) (dg_tup rfl rfl (dgs_cons (dg_nm (pg_name (i := 4) nd rfl (Or.inl rfl))) (dgs_cons (dg_nm (pg_name (i := 5) nd rfl (Or.inl rfl))) dgs_nil))) (ds_one (ds_set (ps_asg (de_trimIf (de_callR tk R.1 hrR (by rfl) T.D_after.m T.D_after.F.kp T.D_after.b (da_cons (de_nm (pv 5)) (da_cons (de_nm (pv 4)) (da_cons (de_nm (pv 3)) da_nil))))) (dg_nm (pg_name (i := 3) nd rfl (Or.inl rfl)))))))
      (ds_one (ds_ret (de_nm (pv 3))))))))), by
      refine fn_okR (b := d_led_tree (rc_0 n) (Nat.beq (n % 16) 0)) (n := 6) rfl T.D_led_tree.F sc_led_tree rfl fun cdv A outer s H E hrR => ?_
      have hr := hrR.plain
      have nd := sc_led_tree.nd
      have tk : L2N.Takes (cxOf (L2N.CX P w) P w K mg base nn_led_tree "led_tree" (defScope st_led_tree) T.D_led_tree.a cdv A outer s H E) (fun cls d _ H => ((c0 K tb lam mg).to E).W cls d H) := L2N.takes_of rfl rfl rfl rfl
      exact (ds_cons (ds_set (ps_asg (de_item rfl (hu1 hr) (de_nm (pv 0)) (de_cst pe_int fun _ _ => .int _)) (dg_nm (pg_name (i := 1) nd rfl (Or.inl rfl)))))
      (ds_cons (ds_if (dt_cmp rfl (hu65 hr) (de_nm (pv 1)) (de_cst pe_str fun _ _ => .str _) (nomark _)) dss_stuck ds_nil)
      (ds_cons (ds_if (dt_cmp rfl (hu65 hr) (de_nm (pv 1)) (de_cst pe_str fun _ _ => .str _) (nomark _)) dss_stuck ds_nil)
      (ds_cons (ds_if (dt_cmp rfl (hu65 hr) (de_nm (pv 1)) (de_cst pe_str fun _ _ => .str _) (nomark _)) dss_stuck ds_nil)
      (ds_cons (ds_if (dt_cmp rfl (hu65 hr) (de_nm (pv 1)) (de_cst pe_str fun _ _ => .str _) (nomark _)) dss_stuck ds_nil)
      (ds_cons (ds_if (dt_cmp rfl (hu65 hr) (de_nm (pv 1)) (de_cst pe_str fun _ _ => .str _) (nomark _)) dss_stuck ds_nil)
      (ds_cons (ds_if (dt_cmp rfl (hu65 hr) (de_nm (pv 1)) (de_cst pe_str fun _ _ => .str _) (nomark _)) dss_stuck ds_nil)
      (ds_one (ds_ret (de_trimIf (de_callR tk R.2.1 hrR (by rfl) T.D_led_parts_bytrees.m T.D_led_parts_bytrees.F.kp T.D_led_parts_bytrees.b (da_cons (de_nm (pv 0)) da_nil))))))))))))⟩
theorem ok_after (T : Top P w K mg) (tb : List (Addr × Str)) (lam : Nat → Addr → HO → Addr → HO → Prop) : FnOk P w K mg base (L2N.CX P w) 140 T.D_after.a T.D_after.u pp_after (spF (c0 K tb lam mg) 3 f_after) := (okr_0 T tb lam 310).1.flat (by decide) (by decide)
theorem ok_led_parts_bytrees (T : Top P w K mg) (tb : List (Addr × Str)) (lam : Nat → Addr → HO → Addr → HO → Prop) : FnOk P w K mg base (L2N.CX P w) 140 T.D_led_parts_bytrees.a T.D_led_parts_bytrees.u pp_led_parts_bytrees (spF (c0 K tb lam mg) 1 f_led_parts_bytrees) := (okr_0 T tb lam 310).2.1.flat (by decide) (by decide)
theorem ok_led_tree (T : Top P w K mg) (tb : List (Addr × Str)) (lam : Nat → Addr → HO → Addr → HO → Prop) : FnOk P w K mg base (L2N.CX P w) 140 T.D_led_tree.a T.D_led_tree.u pp_led_tree (spF (c0 K tb lam mg) 1 f_led_tree) := (okr_0 T tb lam 310).2.2.flat (by decide) (by decide)
theorem ok_by_trees (T : Top P w K mg) (tb : List (Addr × Str)) (lam : Nat → Addr → HO → Addr → HO → Prop) : FnOk P w K mg base (L2N.CX P w) 141 T.D_by_trees.a T.D_by_trees.u pp_by_trees (spF (c0 K tb lam mg) 1 f_by_trees) := by
  refine fn_ok rfl T.D_by_trees.F sc_by_trees rfl fun cdv A outer s H E hr => ?_
  have nd := sc_by_trees.nd
  have tk : L2N.Takes (cxOf (L2N.CX P w) P w K mg base nn_by_trees "by_trees" (defScope st_by_trees) T.D_by_trees.a cdv A outer s H E) (fun cls d _ H => ((c0 K tb lam mg).to E).W cls d H) := L2N.takes_of rfl rfl rfl rfl
  exact (ds_cons (ds_expr (de_trim (de_call tk (ok_check_program T tb lam) (hr.mono (by decide)) (by rfl) T.D_check_program.m T.D_check_program.F.kp T.D_check_program.b (da_cons (de_nm (pv 0)) da_nil))))
      (ds_cons (ds_expr (de_trim (de_call tk (ok_check_led_rows T tb lam) (hr.mono (by decide)) (by rfl) T.D_check_led_rows.m T.D_check_led_rows.F.kp T.D_check_led_rows.b (da_cons (de_nm (pv 0)) da_nil))))
      (ds_cons (ds_set (ps_asg (de_tup (da_cons (de_cst pe_str fun _ _ => .str _) (da_cons (de_cst pe_str fun _ _ => .str _) (da_cons (de_tup (da_cons (de_cst pe_str fun _ _ => .str _) (da_cons (de_tup (da_cons (de_cst pe_str fun _ _ => .str _) (da_cons (de_trim (de_call tk (ok_used T tb lam) (hr.mono (by decide)) (by rfl) T.D_used.m T.D_used.F.kp T.D_used.b (da_cons (de_cst pe_str fun _ _ => .str _) da_nil))) (da_cons (de_tup (da_cons (de_cst pe_str fun _ _ => .str _) (da_cons (de_trim (de_call tk (ok_used T tb lam) (hr.mono (by decide)) (by rfl) T.D_used.m T.D_used.F.kp T.D_used.b (da_cons (de_cst pe_str fun _ _ => .str _) da_nil))) (da_cons (de_trim (de_call tk (ok_used T tb lam) (hr.mono (by decide)) (by rfl) T.D_used.m T.D_used.F.kp T.D_used.b (da_cons (de_cst pe_str fun _ _ => .str _) da_nil))) da_nil)))) da_nil)))) (da_cons (de_trim (de_call tk (ok_used T tb lam) (hr.mono (by decide)) (by rfl) T.D_used.m T.D_used.F.kp T.D_used.b (da_cons (de_cst pe_str fun _ _ => .str _) da_nil))) da_nil)))) da_nil)))) (dg_nm (pg_name (i := 1) nd rfl (Or.inl rfl)))))
      (ds_cons (ds_set (ps_asg (de_trim (de_call tk (ok_plan_match T tb lam) (hr.mono (by decide)) (by rfl) T.D_plan_match.m T.D_plan_match.F.kp T.D_plan_match.b (da_cons (de_tup (da_cons (de_cst pe_str fun _ _ => .str _) (da_cons (de_tup (da_cons (de_cst pe_str fun _ _ => .str _) (da_cons (de_trim (de_call tk (ok_used T tb lam) (hr.mono (by decide)) (by rfl) T.D_used.m T.D_used.F.kp T.D_used.b (da_cons (de_cst pe_str fun _ _ => .str _) da_nil))) (da_cons (de_trim (de_call tk (ok_used T tb lam) (hr.mono (by decide)) (by rfl) T.D_used.m T.D_used.F.kp T.D_used.b (da_cons (de_cst pe_str fun _ _ => .str _) da_nil))) da_nil)))) da_nil))) (da_cons (de_trim (de_call tk (ok_did T tb lam) (hr.mono (by decide)) (by rfl) T.D_did.m T.D_did.F.kp T.D_did.b (da_cons (de_trim (de_call tk (ok_used T tb lam) (hr.mono (by decide)) (by rfl) T.D_used.m T.D_used.F.kp T.D_used.b (da_cons (de_cst pe_str fun _ _ => .str _) da_nil))) (da_cons (de_trim (de_call tk (ok_used T tb lam) (hr.mono (by decide)) (by rfl) T.D_used.m T.D_used.F.kp T.D_used.b (da_cons (de_cst pe_str fun _ _ => .str _) da_nil))) (da_cons (de_nm (pv 1)) da_nil))))) da_nil)))) (dg_nm (pg_name (i := 2) nd rfl (Or.inl rfl)))))
      (ds_one (ds_ret (de_trim (de_call tk (ok_with_led_names T tb lam) (hr.mono (by decide)) (by rfl) T.D_with_led_names.m T.D_with_led_names.F.kp T.D_with_led_names.b (da_cons (de_tup (da_cons (de_cst pe_str fun _ _ => .str _) (da_cons (de_cst pe_str fun _ _ => .str _) (da_cons (de_cst pe_str fun _ _ => .str _) (da_cons (de_tup (da_cons (de_cst pe_str fun _ _ => .str _) (da_cons (de_cst pe_str fun _ _ => .str _) (da_cons (de_nm (pv 2)) da_nil)))) (da_cons (de_trim (de_call tk (ok_led_tree T tb lam) (hr.mono (by decide)) (by rfl) T.D_led_tree.m T.D_led_tree.F.kp T.D_led_tree.b (da_cons (de_nm (pv 0)) da_nil))) da_nil)))))) da_nil)))))))))
theorem ok_finished (T : Top P w K mg) (tb : List (Addr × Str)) (lam : Nat → Addr → HO → Addr → HO → Prop) : FnOk P w K mg base (L2N.CX P w) 2 T.D_finished.a T.D_finished.u pp_finished (spF (c0 K tb lam mg) 1 f_finished) := by
  refine fn_ok rfl T.D_finished.F sc_finished rfl fun cdv A outer s H E hr => ?_
  have nd := sc_finished.nd
  have tk : L2N.Takes (cxOf (L2N.CX P w) P w K mg base nn_finished "finished" (defScope st_finished) T.D_finished.a cdv A outer s H E) (fun cls d _ H => ((c0 K tb lam mg).to E).W cls d H) := L2N.takes_of rfl rfl rfl rfl
  exact (ds_one (ds_ret (de_tup (da_cons (de_cst pe_str fun _ _ => .str _) (da_cons (de_nm (pv 0)) (da_cons (de_tup (da_cons (de_cst pe_str fun _ _ => .str _) (da_cons (de_cst pe_str fun _ _ => .str _) (da_cons (de_trim (de_call tk (ok_done T tb lam) (hr.mono (by decide)) (by rfl) T.D_done.m T.D_done.F.kp T.D_done.b (da_cons (de_trim (de_call tk (ok_used T tb lam) (hr.mono (by decide)) (by rfl) T.D_used.m T.D_used.F.kp T.D_used.b (da_cons (de_cst pe_str fun _ _ => .str _) da_nil))) da_nil))) da_nil)))) da_nil))))))
theorem okr_1 (T : Top P w K mg) (tb : List (Addr × Str)) (lam : Nat → Addr → HO → Addr → HO → Prop) : ∀ n : Nat, (FnOkR P w K mg base (L2N.CX P w) n T.D_ahead.a T.D_ahead.u pp_ahead (spF (c0 K tb lam mg) 3 (rc_1 n 0))) ∧ (FnOkR P w K mg base (L2N.CX P w) n T.D_led_parts_bynext.a T.D_led_parts_bynext.u pp_led_parts_bynext (spF (c0 K tb lam mg) 1 (rc_1 n 1))) ∧ (FnOkR P w K mg base (L2N.CX P w) n T.D_led_body.a T.D_led_body.u pp_led_body (spF (c0 K tb lam mg) 1 (rc_1 n 2)))
  | 0 => ⟨fn_noneR, fn_noneR, fn_noneR⟩
  | n + 1 => by
    have R := okr_1 T tb lam n
    exact ⟨by
      refine fn_okR (b := d_ahead (rc_1 n) (Nat.beq (n % 16) 0)) (n := 3) rfl T.D_ahead.F sc_ahead rfl fun cdv A outer s H E hrR => ?_
      have hr := hrR.plain
      have nd := sc_ahead.nd
      have tk : L2N.Takes (cxOf (L2N.CX P w) P w K mg base nn_ahead "ahead" (defScope st_ahead) T.D_ahead.a cdv A outer s H E) (fun cls d _ H => ((c0 K tb lam mg).to E).W cls d H) := L2N.takes_of rfl rfl rfl rfl
      exact (ds_one (ds_ret (de_tup (da_cons (de_cst pe_str fun _ _ => .str _) (da_cons (de_tup (da_cons (de_cst pe_str fun _ _ => .str _) (da_cons (de_cst pe_str fun _ _ => .str _) (da_cons (de_trimIf (de_callR tk R.2.2 hrR (by rfl) T.D_led_body.m T.D_led_body.F.kp T.D_led_body.b (da_cons (de_nm (pv 0)) da_nil))) da_nil)))) (da_cons (de_tup (da_cons (de_cst pe_str fun _ _ => .str _) (da_cons (de_nm (pv 1)) (da_cons (de_nm (pv 2)) da_nil)))) da_nil)))))), by
      refine fn_okR (b := d_led_parts_bynext (rc_1 n) (Nat.beq (n % 16) 0)) (n := 6) rfl T.D_led_parts_bynext.F sc_led_parts_bynext rfl fun cdv A outer s H E hrR => ?_
      have hr := hrR.plain
      have nd := sc_led_parts_bynext.nd
      have tk : L2N.Takes (cxOf (L2N.CX P w) P w K mg base nn_led_parts_bynext "led_parts" (defScope st_led_parts_bynext) T.D_led_parts_bynext.a cdv A outer s H E) (fun cls d _ H => ((c0 K tb lam mg).to E).W cls d H) := L2N.takes_of rfl rfl rfl rfl
      exact (ds_cons (ds_set (ps_asg (de_trimIf (de_call tk (ok_parts_in T tb lam) (hr.mono (by decide)) (by rfl) T.D_parts_in.m T.D_parts_in.F.kp T.D_parts_in.b (da_cons (de_nm (pv 0)) da_nil))) (dg_nm (pg_name (i := 1) nd rfl (Or.inl rfl)))))
      (ds_cons (ds_set (ps_asg (de_slice rfl (de_gtup rfl (by rfl) T.c_PART_NAMES) dp_none (dp_some (de_callB (cr_len rfl) (by rfl) T.n_len PySem.boot_len (da_cons (de_nm (pv 1)) da_nil)))) (dg_nm (pg_name (i := 2) nd rfl (Or.inl rfl)))))
      (ds_cons (ds_set (ps_asg (de_trimIf (de_call tk (ok_with_parts T tb lam) (hr.mono (by decide)) (by rfl) T.D_with_parts.m T.D_with_parts.F.kp T.D_with_parts.b (da_cons (de_nm (pv 0)) (da_cons (de_lc rfl rfl nd (dp_any rfl (de_nm (pv 2))) (blkOk_by (own := [("name", 4)]) (N := nn_led_parts_bynext) (sc := defScope st_led_parts_bynext) (by decide +kernel)) (by decide) (fun _ _ _ _ _ => pg_name (i := 4) nd rfl (Or.inl rfl)) (fun _ _ _ _ _ => dpts_nil) (fun _ _ _ _ _ => (de_trimIf (de_callN (ok_used T tb lam) (hr.mono (by decide)) (by rfl) T.D_used.m T.D_used.F.kp T.D_used.b (da_cons (de_nm (pv 4)) da_nil))))) da_nil)))) (dg_nm (pg_name (i := 3) nd rfl (Or.inl rfl)))))
      (ds_cons (ds_if (dt_cmp rfl (hu65 hr) (de_item rfl (hu1 hr) (de_nm (pv 0)) (de_cst pe_int fun _ _ => .int _)) (de_cst pe_str fun _ _ => .str _) (nomark _)) dss_stuck (ds_one (ds_set (ps_asg (de_tup (da_cons (de_cst pe_str fun _ _ => .str _) (da_cons (de_trimIf (de_call tk (ok_used T tb lam) (hr.mono (by decide)) (by rfl) T.D_used.m T.D_used.F.kp T.D_used.b (da_cons (de_cst pe_str fun _ _ => .str _) da_nil))) (da_cons (de_nm (pv 3)) da_nil)))) (dg_nm (pg_name (i := 3) nd rfl (Or.inl rfl)))))))
      (ds_cons (ds_for (n := 100000) (passes_of rfl) rfl (dp_any rfl (de_rev rfl (de_listZip rfl rfl (by rfl) T.n_list (by decide +kernel) (by rfl) T.n_zip (da_cons (de_nm (pv 2)) (da_cons (de_nm (pv 1)) da_nil))))) (dg_tup rfl rfl (dgs_cons (dg_nm (pg_name (i := 4) nd rfl (Or.inl rfl))) (dgs_cons (dg_nm (pg_name (i := 5) nd rfl (Or.inl rfl))) dgs_nil))) (ds_one (ds_set (ps_asg (de_trimIf (de_callR tk R.1 hrR (by rfl) T.D_ahead.m T.D_ahead.F.kp T.D_ahead.b (da_cons (de_nm (pv 5)) (da_cons (de_nm (pv 4)) (da_cons (de_nm (pv 3)) da_nil))))) (dg_nm (pg_name (i := 3) nd rfl (Or.inl rfl)))))))
      (ds_one (ds_ret (de_nm (pv 3))))))))), by
      refine fn_okR (b := d_led_body (rc_1 n) (Nat.beq (n % 16) 0)) (n := 5) rfl T.D_led_body.F sc_led_body rfl fun cdv A outer s H E hrR => ?_
      have hr := hrR.plain
      have nd := sc_led_body.nd
      have tk : L2N.Takes (cxOf (L2N.CX P w) P w K mg base nn_led_body "led_body" (defScope st_led_body) T.D_led_body.a cdv A outer s H E) (fun cls d _ H => ((c0 K tb lam mg).to E).W cls d H) := L2N.takes_of rfl rfl rfl rfl
      exact (ds_cons (ds_set (ps_asg (de_item rfl (hu1 hr) (de_nm (pv 0)) (de_cst pe_int fun _ _ => .int _)) (dg_nm (pg_name (i := 1) nd rfl (Or.inl rfl)))))
      (ds_cons (ds_if (dt_cmp rfl (hu65 hr) (de_nm (pv 1)) (de_cst pe_str fun _ _ => .str _) (nomark _)) dss_stuck ds_nil)
      (ds_cons (ds_if (dt_cmp rfl (hu65 hr) (de_nm (pv 1)) (de_cst pe_str fun _ _ => .str _) (nomark _)) dss_stuck ds_nil)
      (ds_cons (ds_if (dt_cmp rfl (hu65 hr) (de_nm (pv 1)) (de_cst pe_str fun _ _ => .str _) (nomark _)) dss_stuck ds_nil)
      (ds_cons (ds_if (dt_cmp rfl (hu65 hr) (de_nm (pv 1)) (de_cst pe_str fun _ _ => .str _) (nomark _)) dss_stuck ds_nil)
      (ds_cons (ds_if (dt_cmp rfl (hu65 hr) (de_nm (pv 1)) (de_cst pe_str fun _ _ => .str _) (nomark _)) dss_stuck ds_nil)
      (ds_cons (ds_if (dt_cmp rfl (hu65 hr) (de_nm (pv 1)) (de_cst pe_str fun _ _ => .str _) (nomark _)) dss_stuck ds_nil)
      (ds_one (ds_ret (de_trimIf (de_callR tk R.2.1 hrR (by rfl) T.D_led_parts_bynext.m T.D_led_parts_bynext.F.kp T.D_led_parts_bynext.b (da_cons (de_nm (pv 0)) da_nil))))))))))))⟩
theorem ok_ahead (T : Top P w K mg) (tb : List (Addr × Str)) (lam : Nat → Addr → HO → Addr → HO → Prop) : FnOk P w K mg base (L2N.CX P w) 140 T.D_ahead.a T.D_ahead.u pp_ahead (spF (c0 K tb lam mg) 3 f_ahead) := (okr_1 T tb lam 310).1.flat (by decide) (by decide)
theorem ok_led_parts_bynext (T : Top P w K mg) (tb : List (Addr × Str)) (lam : Nat → Addr → HO → Addr → HO → Prop) : FnOk P w K mg base (L2N.CX P w) 140 T.D_led_parts_bynext.a T.D_led_parts_bynext.u pp_led_parts_bynext (spF (c0 K tb lam mg) 1 f_led_parts_bynext) := (okr_1 T tb lam 310).2.1.flat (by decide) (by decide)
theorem ok_led_body (T : Top P w K mg) (tb : List (Addr × Str)) (lam : Nat → Addr → HO → Addr → HO → Prop) : FnOk P w K mg base (L2N.CX P w) 140 T.D_led_body.a T.D_led_body.u pp_led_body (spF (c0 K tb lam mg) 1 f_led_body) := (okr_1 T tb lam 310).2.2.flat (by decide) (by decide)
theorem ok_led_next (T : Top P w K mg) (tb : List (Addr × Str)) (lam : Nat → Addr → HO → Addr → HO → Prop) : FnOk P w K mg base (L2N.CX P w) 141 T.D_led_next.a T.D_led_next.u pp_led_next (spF (c0 K tb lam mg) 1 f_led_next) := by
  refine fn_ok rfl T.D_led_next.F sc_led_next rfl fun cdv A outer s H E hr => ?_
  have nd := sc_led_next.nd
  have tk : L2N.Takes (cxOf (L2N.CX P w) P w K mg base nn_led_next "led_next" (defScope st_led_next) T.D_led_next.a cdv A outer s H E) (fun cls d _ H => ((c0 K tb lam mg).to E).W cls d H) := L2N.takes_of rfl rfl rfl rfl
  exact (ds_one (ds_ret (de_tup (da_cons (de_cst pe_str fun _ _ => .str _) (da_cons (de_cst pe_str fun _ _ => .str _) (da_cons (de_trim (de_call tk (ok_led_body T tb lam) (hr.mono (by decide)) (by rfl) T.D_led_body.m T.D_led_body.F.kp T.D_led_body.b (da_cons (de_nm (pv 0)) da_nil))) da_nil))))))
theorem ok_by_next (T : Top P w K mg) (tb : List (Addr × Str)) (lam : Nat → Addr → HO → Addr → HO → Prop) : FnOk P w K mg base (L2N.CX P w) 142 T.D_by_next.a T.D_by_next.u pp_by_next (spF (c0 K tb lam mg) 1 f_by_next) := by
  refine fn_ok rfl T.D_by_next.F sc_by_next rfl fun cdv A outer s H E hr => ?_
  have nd := sc_by_next.nd
  have tk : L2N.Takes (cxOf (L2N.CX P w) P w K mg base nn_by_next "by_next" (defScope st_by_next) T.D_by_next.a cdv A outer s H E) (fun cls d _ H => ((c0 K tb lam mg).to E).W cls d H) := L2N.takes_of rfl rfl rfl rfl
  exact (ds_cons (ds_expr (de_trim (de_call tk (ok_check_program T tb lam) (hr.mono (by decide)) (by rfl) T.D_check_program.m T.D_check_program.F.kp T.D_check_program.b (da_cons (de_nm (pv 0)) da_nil))))
      (ds_cons (ds_expr (de_trim (de_call tk (ok_check_led_rows T tb lam) (hr.mono (by decide)) (by rfl) T.D_check_led_rows.m T.D_check_led_rows.F.kp T.D_check_led_rows.b (da_cons (de_nm (pv 0)) da_nil))))
      (ds_one (ds_ret (de_trim (de_call tk (ok_with_led_names T tb lam) (hr.mono (by decide)) (by rfl) T.D_with_led_names.m T.D_with_led_names.F.kp T.D_with_led_names.b (da_cons (de_trim (de_call tk (ok_finished T tb lam) (hr.mono (by decide)) (by rfl) T.D_finished.m T.D_finished.F.kp T.D_finished.b (da_cons (de_trim (de_call tk (ok_led_next T tb lam) (hr.mono (by decide)) (by rfl) T.D_led_next.m T.D_led_next.F.kp T.D_led_next.b (da_cons (de_nm (pv 0)) da_nil))) da_nil))) da_nil)))))))
theorem ok_check_engine (T : Top P w K mg) (tb : List (Addr × Str)) (lam : Nat → Addr → HO → Addr → HO → Prop) : FnOk P w K mg base (L2N.CX P w) 1 T.D_check_engine.a T.D_check_engine.u pp_check_engine (spF (c0 K tb lam mg) 1 f_check_engine) := by
  refine fn_ok rfl T.D_check_engine.F sc_check_engine rfl fun cdv A outer s H E hr => ?_
  have nd := sc_check_engine.nd
  have tk : L2N.Takes (cxOf (L2N.CX P w) P w K mg base nn_check_engine "check_engine" (defScope st_check_engine) T.D_check_engine.a cdv A outer s H E) (fun cls d _ H => ((c0 K tb lam mg).to E).W cls d H) := L2N.takes_of rfl rfl rfl rfl
  exact (ds_one (ds_if (PW.pt (dw_or (dt_cmp rfl (hu65 hr) (de_callTy (cr_ty rfl) (by rfl) T.n_type (by decide +kernel) (da_cons (de_nm (pv 0)) da_nil)) (de_gty (by rfl) T.n_str (by decide +kernel)) (nomark _)) (dw_or1 (dt_cmp rfl (hu65 hr) (de_nm (pv 0)) (de_gtup rfl (by rfl) T.c_ENGINES) (by rfl))))) (ds_one (ds_raise rfl tk T.C_InvalidEngine.m (L2N.pmk_own PySem.F.excBase_ValueError T.C_InvalidEngine.x T.C_InvalidEngine.m T.C_InvalidEngine.k (raises_own T.C_InvalidEngine.s T.C_InvalidEngine.t) (by rfl)))) ds_nil))
theorem ok_check_number (T : Top P w K mg) (tb : List (Addr × Str)) (lam : Nat → Addr → HO → Addr → HO → Prop) : FnOk P w K mg base (L2N.CX P w) 2 T.D_check_number.a T.D_check_number.u pp_check_number (spF (c0 K tb lam mg) 3 f_check_number) := by
  refine fn_ok rfl T.D_check_number.F sc_check_number rfl fun cdv A outer s H E hr => ?_
  have nd := sc_check_number.nd
  have tk : L2N.Takes (cxOf (L2N.CX P w) P w K mg base nn_check_number "check_number" (defScope st_check_number) T.D_check_number.a cdv A outer s H E) (fun cls d _ H => ((c0 K tb lam mg).to E).W cls d H) := L2N.takes_of rfl rfl rfl rfl
  exact (ds_one (ds_if (dt_not (dt_val rfl (de_trim (de_call tk (ok_is_integer T tb lam) (hr.mono (by decide)) (by rfl) T.D_is_integer.m T.D_is_integer.F.kp T.D_is_integer.b (da_cons (de_nm (pv 0)) (da_cons (de_nm (pv 1)) (da_cons (de_nm (pv 2)) da_nil))))))) (ds_one (ds_raiseA rfl tk T.C_InvalidNumber.m (pmk_ownN PySem.F.excBase_ValueError T.C_InvalidNumber.x T.C_InvalidNumber.m T.C_InvalidNumber.k (raises_own T.C_InvalidNumber.s T.C_InvalidNumber.t) (by rfl) (da_cons (de_joined (.cons (de_cst pe_str fun _ _ => .str _) (.cons (de_fmt (de_nm (pv 1))) (.cons (de_cst pe_str fun _ _ => .str _) (.cons (de_fmt (de_nm (pv 2))) .nil))))) da_nil)))) ds_nil))
theorem ok_holds_value (T : Top P w K mg) (tb : List (Addr × Str)) (lam : Nat → Addr → HO → Addr → HO → Prop) : FnOk P w K mg base (L2N.CX P w) 1 T.D_holds_value.a T.D_holds_value.u pp_holds_value (spF (c0 K tb lam mg) 1 f_holds_value) := by
  refine fn_ok rfl T.D_holds_value.F sc_holds_value rfl fun cdv A outer s H E hr => ?_
  have nd := sc_holds_value.nd
  have tk : L2N.Takes (cxOf (L2N.CX P w) P w K mg base nn_holds_value "holds_value" (defScope st_holds_value) T.D_holds_value.a cdv A outer s H E) (fun cls d _ H => ((c0 K tb lam mg).to E).W cls d H) := L2N.takes_of rfl rfl rfl rfl
  exact (ds_cons (ds_set (ps_asg (de_lst (da_cons (de_nm (pv 0)) da_nil)) (dg_nm (pg_name (i := 1) nd rfl (Or.inl rfl)))))
      (ds_cons (ds_while (n := 100000) (passes_of rfl) (dt_val rfl (de_nm (pv 1))) (dss_trimW (ds_cons (ds_set (ps_asg (de_meth0 rfl PySem.F.plainAttrs_list PySem.F.slot_list_pop PySem.F.type_list_pop (mr_pop rfl) (de_nm (pv 1))) (dg_nm (pg_name (i := 2) nd rfl (Or.inl rfl)))))
      (ds_one (ds_if (dt_cmp rfl (hu65 hr) (de_item rfl (hu1 hr) (de_nm (pv 2)) (de_cst pe_int fun _ _ => .int _)) (de_cst pe_str fun _ _ => .str _) (nomark _)) dss_stuck (ds_one (ds_if (PW.pt (dw_and (dt_cmp rfl (hu65 hr) (de_item rfl (hu1 hr) (de_nm (pv 2)) (de_cst pe_int fun _ _ => .int _)) (de_cst pe_str fun _ _ => .str _) (nomark _)) (dw_and1 (dt_cmp rfl (hu65 hr) (de_item rfl (hu1 hr) (de_nm (pv 2)) (de_cst pe_int fun _ _ => .int _)) (de_cst pe_str fun _ _ => .str _) (nomark _))))) (ds_one (ds_ret (de_cst pe_bl fun _ _ => .bl _))) ds_nil)))))))
      (ds_one (ds_ret (de_cst pe_bl fun _ _ => .bl _)))))
theorem ok_working_index (T : Top P w K mg) (tb : List (Addr × Str)) (lam : Nat → Addr → HO → Addr → HO → Prop) : FnOk P w K mg base (L2N.CX P w) 2 T.D_working_index.a T.D_working_index.u pp_working_index (spF (c0 K tb lam mg) 1 f_working_index) := by
  refine fn_ok rfl T.D_working_index.F sc_working_index rfl fun cdv A outer s H E hr => ?_
  have nd := sc_working_index.nd
  have tk : L2N.Takes (cxOf (L2N.CX P w) P w K mg base nn_working_index "working_index" (defScope st_working_index) T.D_working_index.a cdv A outer s H E) (fun cls d _ H => ((c0 K tb lam mg).to E).W cls d H) := L2N.takes_of rfl rfl rfl rfl
  exact (ds_cons (ds_set (ps_asg (de_trim (de_call tk (ok_parts_in T tb lam) (hr.mono (by decide)) (by rfl) T.D_parts_in.m T.D_parts_in.F.kp T.D_parts_in.b (da_cons (de_nm (pv 0)) da_nil))) (dg_nm (pg_name (i := 1) nd rfl (Or.inl rfl)))))
      (ds_cons (ds_if (dt_cmp rfl (hu65 hr) (de_item rfl (hu1 hr) (de_nm (pv 0)) (de_cst pe_int fun _ _ => .int _)) (de_tup (da_cons (de_cst pe_str fun _ _ => .str _) (da_cons (de_cst pe_str fun _ _ => .str _) (da_cons (de_cst pe_str fun _ _ => .str _) (da_cons (de_cst pe_str fun _ _ => .str _) da_nil))))) (by rfl)) (ds_one (ds_set (ps_asg (de_slice rfl (de_nm (pv 1)) dp_none (dp_some (de_cst pe_int fun _ _ => .int _))) (dg_nm (pg_name (i := 1) nd rfl (Or.inl rfl)))))) dss_stuck)
      (ds_cons (ds_for (n := 100000) (passes_of rfl) rfl (dp_enum rfl (by rfl) T.n_enumerate (da_cons (de_nm (pv 1)) da_nil)) (dg_tup rfl rfl (dgs_cons (dg_nm (pg_name (i := 2) nd rfl (Or.inl rfl))) (dgs_cons (dg_nm (pg_name (i := 3) nd rfl (Or.inl rfl))) dgs_nil))) (dss_trimW (ds_one (ds_if (dt_not (dt_val rfl (de_trim (de_call tk (ok_holds_value T tb lam) (hr.mono (by decide)) (by rfl) T.D_holds_value.m T.D_holds_value.F.kp T.D_holds_value.b (da_cons (de_nm (pv 3)) da_nil))))) dss_stuck ds_nil))))
      (ds_one (ds_ret (de_cst pe_non fun _ _ => .non))))))
theorem ok_Course__seek (T : Top P w K mg) (tb : List (Addr × Str)) (lam : Nat → Addr → HO → Addr → HO → Prop) : FnOk P w K mg base (L2N.CX P w) 3 T.D_Course__seek.a T.D_Course__seek.u pp_Course__seek (spF (c0 K tb lam mg) 1 f_Course__seek) := by
  refine fn_ok rfl T.D_Course__seek.F sc_Course__seek rfl fun cdv A outer s H E hr => ?_
  have nd := sc_Course__seek.nd
  have tk : L2N.Takes (cxOf (L2N.CX P w) P w K mg base nn_Course__seek "Course.seek" (defScope st_Course__seek) T.D_Course__seek.a cdv A outer s H E) (fun cls d _ H => ((c0 K tb lam mg).to E).W cls d H) := L2N.takes_of rfl rfl rfl rfl
  exact (ds_cons (ds_set (ps_asg (de_trim (de_call tk (ok_holds_value T tb lam) (hr.mono (by decide)) (by rfl) T.D_holds_value.m T.D_holds_value.F.kp T.D_holds_value.b (da_cons (de_fldO rfl T.O_Course.c T.N_Course_spot (de_nm (pv 0))) da_nil))) (dg_nm (pg_name (i := 1) nd rfl (Or.inl rfl)))))
      (ds_cons (ds_while (n := 100000) (passes_of rfl) (PW.pt (dw_and (dt_val rfl (de_nm (pv 1))) (dw_and1 (dt_cmp rfl (hu65 hr) (de_callB (cr_len rfl) (by rfl) T.n_len PySem.boot_len (da_cons (de_fldO rfl T.O_Course.c T.N_Course_trail (de_nm (pv 0))) da_nil)) (de_cst pe_int fun _ _ => .int _) (nomark _))))) (dss_trimW dss_stuck))
      (ds_cons (ds_set (ps_asg (de_cst pe_non fun _ _ => .non) (dg_nm (pg_name (i := 3) nd rfl (Or.inl rfl)))))
      (ds_cons (ds_if (dt_not (dt_val rfl (de_nm (pv 1)))) (ds_one (ds_set (ps_asg (de_trim (de_call tk (ok_working_index T tb lam) (hr.mono (by decide)) (by rfl) T.D_working_index.m T.D_working_index.F.kp T.D_working_index.b (da_cons (de_fldO rfl T.O_Course.c T.N_Course_spot (de_nm (pv 0))) da_nil))) (dg_nm (pg_name (i := 3) nd rfl (Or.inl rfl)))))) ds_nil)
      (ds_one (ds_while (n := 100000) (passes_of rfl) (dt_cmp rfl (hu65 hr) (de_nm (pv 3)) (de_cst pe_non fun _ _ => .non) (nomark _)) (dss_trimW dss_stuck)))))))
theorem ok_Course__init (T : Top P w K mg) (tb : List (Addr × Str)) (lam : Nat → Addr → HO → Addr → HO → Prop) : FnOk P w K mg base (L2N.CX P w) 4 T.D_Course__init.a T.D_Course__init.u pp_Course__init (spF (c0 K tb lam mg) 2 f_Course__init) := by
  refine fn_ok rfl T.D_Course__init.F sc_Course__init rfl fun cdv A outer s H E hr => ?_
  have nd := sc_Course__init.nd
  have tk : L2N.Takes (cxOf (L2N.CX P w) P w K mg base nn_Course__init "Course.__init__" (defScope st_Course__init) T.D_Course__init.a cdv A outer s H E) (fun cls d _ H => ((c0 K tb lam mg).to E).W cls d H) := L2N.takes_of rfl rfl rfl rfl
  exact (ds_cons (ds_fldO rfl T.O_Course.c T.N_Course_trail (de_nm (pv 0)) (de_lst da_nil))
      (ds_cons (ds_fldO rfl T.O_Course.c T.N_Course_spot (de_nm (pv 0)) (de_nm (pv 1)))
      (ds_cons (ds_fldO rfl T.O_Course.c T.N_Course_size (de_nm (pv 0)) (de_item rfl (hu1 hr) (de_trim (de_call tk (ok_measure T tb lam) (hr.mono (by decide)) (by rfl) T.D_measure.m T.D_measure.F.kp T.D_measure.b (da_cons (de_nm (pv 1)) da_nil))) (de_cst pe_int fun _ _ => .int _)))
      (ds_one (ds_expr (de_mcall0 tk rfl T.O_Course.c T.D_Course__seek.m (ok_Course__seek T tb lam) (hr.mono (by decide)) T.D_Course__seek.b (de_nm (pv 0))))))))
theorem ok_stuck_at (T : Top P w K mg) (tb : List (Addr × Str)) (lam : Nat → Addr → HO → Addr → HO → Prop) : FnOk P w K mg base (L2N.CX P w) 1 T.D_stuck_at.a T.D_stuck_at.u pp_stuck_at (spF (c0 K tb lam mg) 1 f_stuck_at) := by
  refine fn_ok rfl T.D_stuck_at.F sc_stuck_at rfl fun cdv A outer s H E hr => ?_
  have nd := sc_stuck_at.nd
  have tk : L2N.Takes (cxOf (L2N.CX P w) P w K mg base nn_stuck_at "stuck_at" (defScope st_stuck_at) T.D_stuck_at.a cdv A outer s H E) (fun cls d _ H => ((c0 K tb lam mg).to E).W cls d H) := L2N.takes_of rfl rfl rfl rfl
  exact (ds_cons (ds_set (ps_asg (de_item rfl (hu1 hr) (de_nm (pv 0)) (de_cst pe_int fun _ _ => .int _)) (dg_nm (pg_name (i := 1) nd rfl (Or.inl rfl)))))
      (ds_cons (ds_if (PW.pt (dw_and (dt_cmp rfl (hu65 hr) (de_nm (pv 1)) (de_cst pe_str fun _ _ => .str _) (nomark _)) (dw_and1 (dt_cmp rfl (hu65 hr) (de_item rfl (hu1 hr) (de_item rfl (hu1 hr) (de_nm (pv 0)) (de_cst pe_int fun _ _ => .int _)) (de_cst pe_int fun _ _ => .int _)) (de_cst pe_str fun _ _ => .str _) (nomark _))))) dss_stuck ds_nil)
      (ds_cons (ds_if (PW.pt (dw_and (dt_cmp rfl (hu65 hr) (de_nm (pv 1)) (de_cst pe_str fun _ _ => .str _) (nomark _)) (dw_and1 (dt_val rfl (de_callB (cr_allD rfl rfl) (by rfl) T.n_all (by decide +kernel) (da_cons (de_lc rfl rfl nd (dp_any rfl (de_item rfl (hu1 hr) (de_nm (pv 0)) (de_cst pe_int fun _ _ => .int _))) (blkOk_by (own := [("row", 3)]) (N := nn_stuck_at) (sc := defScope st_stuck_at) (by decide +kernel)) (by decide) (fun _ _ _ _ _ => pg_name (i := 3) nd rfl (Or.inl rfl)) (fun _ _ _ _ _ => dpts_nil) (fun _ _ _ _ _ => (de_cmp rfl (hu65 hr) de_stuck (de_cst pe_non fun _ _ => .non) (nomark _)))) da_nil)))))) dss_stuck ds_nil)
      (ds_cons (ds_if (dt_cmp rfl (hu65 hr) (de_nm (pv 1)) (de_cst pe_str fun _ _ => .str _) (nomark _)) dss_stuck ds_nil)
      (ds_one (ds_ret (de_cst pe_non fun _ _ => .non)))))))
theorem ok_stop_at (T : Top P w K mg) (tb : List (Addr × Str)) (lam : Nat → Addr → HO → Addr → HO → Prop) : FnOk P w K mg base (L2N.CX P w) 2 T.D_stop_at.a T.D_stop_at.u pp_stop_at (spF (c0 K tb lam mg) 2 f_stop_at) := by
  refine fn_ok rfl T.D_stop_at.F sc_stop_at rfl fun cdv A outer s H E hr => ?_
  have nd := sc_stop_at.nd
  have tk : L2N.Takes (cxOf (L2N.CX P w) P w K mg base nn_stop_at "stop_at" (defScope st_stop_at) T.D_stop_at.a cdv A outer s H E) (fun cls d _ H => ((c0 K tb lam mg).to E).W cls d H) := L2N.takes_of rfl rfl rfl rfl
  exact (ds_cons (ds_if (dt_cmp rfl (hu65 hr) (de_item rfl (hu1 hr) (de_nm (pv 1)) (de_cst pe_int fun _ _ => .int _)) (de_cst pe_str fun _ _ => .str _) (nomark _)) dss_stuck ds_nil)
      (ds_cons (ds_set (ps_asg (de_trim (de_call tk (ok_stuck_at T tb lam) (hr.mono (by decide)) (by rfl) T.D_stuck_at.m T.D_stuck_at.F.kp T.D_stuck_at.b (da_cons (de_nm (pv 1)) da_nil))) (dg_nm (pg_name (i := 2) nd rfl (Or.inl rfl)))))
      (ds_cons (ds_if (dt_cmp rfl (hu65 hr) (de_nm (pv 2)) (de_cst pe_non fun _ _ => .non) (nomark _)) (ds_one (ds_ret (de_cst pe_non fun _ _ => .non))) ds_nil)
      dss_stuck)))
theorem ok_Course__ending (T : Top P w K mg) (tb : List (Addr × Str)) (lam : Nat → Addr → HO → Addr → HO → Prop) : FnOk P w K mg base (L2N.CX P w) 3 T.D_Course__ending.a T.D_Course__ending.u pp_Course__ending (spF (c0 K tb lam mg) 1 f_Course__ending) := by
  refine fn_ok rfl T.D_Course__ending.F sc_Course__ending rfl fun cdv A outer s H E hr => ?_
  have nd := sc_Course__ending.nd
  have tk : L2N.Takes (cxOf (L2N.CX P w) P w K mg base nn_Course__ending "Course.ending" (defScope st_Course__ending) T.D_Course__ending.a cdv A outer s H E) (fun cls d _ H => ((c0 K tb lam mg).to E).W cls d H) := L2N.takes_of rfl rfl rfl rfl
  exact (ds_cons (ds_if (dt_val rfl (de_trim (de_call tk (ok_holds_value T tb lam) (hr.mono (by decide)) (by rfl) T.D_holds_value.m T.D_holds_value.F.kp T.D_holds_value.b (da_cons (de_fldO rfl T.O_Course.c T.N_Course_spot (de_nm (pv 0))) da_nil)))) (ds_one (ds_ret (de_tup (da_cons (de_cst pe_str fun _ _ => .str _) (da_cons (de_fldO rfl T.O_Course.c T.N_Course_spot (de_nm (pv 0))) da_nil))))) ds_nil)
      (ds_one (ds_ret (de_trim (de_call tk (ok_stop_at T tb lam) (hr.mono (by decide)) (by rfl) T.D_stop_at.m T.D_stop_at.F.kp T.D_stop_at.b (da_cons (de_fldO rfl T.O_Course.c T.N_Course_trail (de_nm (pv 0))) (da_cons (de_fldO rfl T.O_Course.c T.N_Course_spot (de_nm (pv 0))) da_nil)))))))
theorem ok_Course__change (T : Top P w K mg) (tb : List (Addr × Str)) (lam : Nat → Addr → HO → Addr → HO → Prop) : FnOk P w K mg base (L2N.CX P w) 4 T.D_Course__change.a T.D_Course__change.u pp_Course__change (spF (c0 K tb lam mg) 3 f_Course__change) := by
  refine fn_ok rfl T.D_Course__change.F sc_Course__change rfl fun cdv A outer s H E hr => ?_
  have nd := sc_Course__change.nd
  have tk : L2N.Takes (cxOf (L2N.CX P w) P w K mg base nn_Course__change "Course.change" (defScope st_Course__change) T.D_Course__change.a cdv A outer s H E) (fun cls d _ H => ((c0 K tb lam mg).to E).W cls d H) := L2N.takes_of rfl rfl rfl rfl
  exact (ds_cons (ds_set (ps_asg (de_trim (de_call tk (ok_measure T tb lam) (hr.mono (by decide)) (by rfl) T.D_measure.m T.D_measure.F.kp T.D_measure.b (da_cons (de_nm (pv 2)) da_nil))) (dg_tup rfl rfl (dgs_cons (dg_nm (pg_name (i := 3) nd rfl (Or.inl rfl))) (dgs_cons (dg_nm (pg_name (i := 4) nd rfl (Or.inl rfl))) dgs_nil)))))
      (ds_cons (ds_fldO rfl T.O_Course.c T.N_Course_size (de_nm (pv 0)) (de_bin rfl (de_bin rfl (de_fldO rfl T.O_Course.c T.N_Course_size (de_nm (pv 0))) (de_item rfl (hu1 hr) (de_trim (de_call tk (ok_measure T tb lam) (hr.mono (by decide)) (by rfl) T.D_measure.m T.D_measure.F.kp T.D_measure.b (da_cons (de_nm (pv 1)) da_nil))) (de_cst pe_int fun _ _ => .int _))) (de_nm (pv 3))))
      (ds_cons (ds_fldO rfl T.O_Course.c T.N_Course_spot (de_nm (pv 0)) (de_nm (pv 2)))
      (ds_cons (ds_if (dt_cmp rfl (hu65 hr) (de_fldO rfl T.O_Course.c T.N_Course_size (de_nm (pv 0))) (de_gint (by rfl) T.c_MOST_SIZE) (nomark _)) dss_stuck ds_nil)
      (ds_cons (ds_if (dt_cmp rfl (hu65 hr) (de_bin rfl (de_callB (cr_len rfl) (by rfl) T.n_len PySem.boot_len (da_cons (de_fldO rfl T.O_Course.c T.N_Course_trail (de_nm (pv 0))) da_nil)) (de_nm (pv 4))) (de_gint (by rfl) T.c_MOST_DEPTH) (nomark _)) dss_stuck ds_nil)
      (ds_one (ds_expr (de_mcall0 tk rfl T.O_Course.c T.D_Course__seek.m (ok_Course__seek T tb lam) (hr.mono (by decide)) T.D_Course__seek.b (de_nm (pv 0))))))))))
theorem ok_put_in (T : Top P w K mg) (tb : List (Addr × Str)) (lam : Nat → Addr → HO → Addr → HO → Prop) : FnOk P w K mg base (L2N.CX P w) 1 T.D_put_in.a T.D_put_in.u pp_put_in (spF (c0 K tb lam mg) 2 f_put_in) := by
  refine fn_ok rfl T.D_put_in.F sc_put_in rfl fun cdv A outer s H E hr => ?_
  have nd := sc_put_in.nd
  have tk : L2N.Takes (cxOf (L2N.CX P w) P w K mg base nn_put_in "put_in" (defScope st_put_in) T.D_put_in.a cdv A outer s H E) (fun cls d _ H => ((c0 K tb lam mg).to E).W cls d H) := L2N.takes_of rfl rfl rfl rfl
  exact (ds_cons (ds_if (dt_cmp rfl (hu65 hr) (de_callB (cr_len rfl) (by rfl) T.n_len PySem.boot_len (da_cons (de_nm (pv 1)) da_nil)) (de_cst pe_int fun _ _ => .int _) (nomark _)) dss_stuck ds_nil)
      (ds_cons (ds_if (dt_cmp rfl (hu65 hr) (de_item rfl (hu1 hr) (de_nm (pv 0)) (de_cst pe_int fun _ _ => .int _)) (de_cst pe_str fun _ _ => .str _) (nomark _)) (ds_one (ds_ret (de_get2 rfl (hu1 hr) (de_nm (pv 1)) (de_item rfl (hu1 hr) (de_nm (pv 0)) (de_cst pe_int fun _ _ => .int _)) (de_nm (pv 0)) ⟨rfl, rfl, rfl, rfl⟩))) ds_nil)
      dss_stuck))
theorem ok_changed_at (T : Top P w K mg) (tb : List (Addr × Str)) (lam : Nat → Addr → HO → Addr → HO → Prop) : FnOk P w K mg base (L2N.CX P w) 2 T.D_changed_at.a T.D_changed_at.u pp_changed_at (spF (c0 K tb lam mg) 1 f_changed_at) := by
  refine fn_ok rfl T.D_changed_at.F sc_changed_at rfl fun cdv A outer s H E hr => ?_
  have nd := sc_changed_at.nd
  have tk : L2N.Takes (cxOf (L2N.CX P w) P w K mg base nn_changed_at "changed_at" (defScope st_changed_at) T.D_changed_at.a cdv A outer s H E) (fun cls d _ H => ((c0 K tb lam mg).to E).W cls d H) := L2N.takes_of rfl rfl rfl rfl
  exact (ds_cons (ds_set (ps_asg (de_item rfl (hu1 hr) (de_nm (pv 0)) (de_cst pe_int fun _ _ => .int _)) (dg_nm (pg_name (i := 1) nd rfl (Or.inl rfl)))))
      (ds_cons (ds_if (dt_cmp rfl (hu65 hr) (de_nm (pv 1)) (de_cst pe_str fun _ _ => .str _) (nomark _)) dss_stuck ds_nil)
      (ds_cons (ds_if (dt_cmp rfl (hu65 hr) (de_nm (pv 1)) (de_cst pe_str fun _ _ => .str _) (nomark _)) dss_stuck ds_nil)
      (ds_cons (ds_if (dt_cmp rfl (hu65 hr) (de_nm (pv 1)) (de_cst pe_str fun _ _ => .str _) (nomark _)) dss_stuck ds_nil)
      (ds_cons (ds_if (dt_cmp rfl (hu65 hr) (de_nm (pv 1)) (de_cst pe_str fun _ _ => .str _) (nomark _)) dss_stuck ds_nil)
      (ds_cons (ds_if (dt_cmp rfl (hu65 hr) (de_nm (pv 1)) (de_cst pe_str fun _ _ => .str _) (nomark _)) dss_stuck ds_nil)
      (ds_one (ds_ret (de_trim (de_call tk (ok_put_in T tb lam) (hr.mono (by decide)) (by rfl) T.D_put_in.m T.D_put_in.F.kp T.D_put_in.b (da_cons (de_item rfl (hu1 hr) (de_item rfl (hu1 hr) (de_nm (pv 0)) (de_cst pe_int fun _ _ => .int _)) (de_cst pe_int fun _ _ => .int _)) (da_cons (de_disp1 rfl (de_item rfl (hu1 hr) (de_item rfl (hu1 hr) (de_nm (pv 0)) (de_cst pe_int fun _ _ => .int _)) (de_cst pe_int fun _ _ => .int _)) (de_item rfl (hu1 hr) (de_nm (pv 0)) (de_cst pe_int fun _ _ => .int _))) da_nil))))))))))))
theorem ok_Course__advance (T : Top P w K mg) (tb : List (Addr × Str)) (lam : Nat → Addr → HO → Addr → HO → Prop) : FnOk P w K mg base (L2N.CX P w) 5 T.D_Course__advance.a T.D_Course__advance.u pp_Course__advance (spF (c0 K tb lam mg) 1 f_Course__advance) := by
  refine fn_ok rfl T.D_Course__advance.F sc_Course__advance rfl fun cdv A outer s H E hr => ?_
  have nd := sc_Course__advance.nd
  have tk : L2N.Takes (cxOf (L2N.CX P w) P w K mg base nn_Course__advance "Course.advance" (defScope st_Course__advance) T.D_Course__advance.a cdv A outer s H E) (fun cls d _ H => ((c0 K tb lam mg).to E).W cls d H) := L2N.takes_of rfl rfl rfl rfl
  exact (ds_cons (ds_set (ps_asg (de_kdict rfl (by rfl) T.c_STEP_WORDS (de_item rfl (hu1 hr) (de_fldO rfl T.O_Course.c T.N_Course_spot (de_nm (pv 0))) (de_cst pe_int fun _ _ => .int _))) (dg_nm (pg_name (i := 1) nd rfl (Or.inl rfl)))))
      (ds_cons (ds_if (dt_cmp rfl (hu65 hr) (de_nm (pv 1)) (de_cst pe_str fun _ _ => .str _) (nomark _)) dss_stuck (ds_one (ds_expr (de_mcall (n := 3) tk rfl T.O_Course.c T.D_Course__change.m (ok_Course__change T tb lam) (hr.mono (by decide)) T.D_Course__change.b (de_nm (pv 0)) (da_cons (de_fldO rfl T.O_Course.c T.N_Course_spot (de_nm (pv 0))) (da_cons (de_trim (de_call tk (ok_changed_at T tb lam) (hr.mono (by decide)) (by rfl) T.D_changed_at.m T.D_changed_at.F.kp T.D_changed_at.b (da_cons (de_fldO rfl T.O_Course.c T.N_Course_spot (de_nm (pv 0))) da_nil))) da_nil))))))
      (ds_one (ds_ret (de_nm (pv 1))))))
theorem ok_Course__lead (T : Top P w K mg) (tb : List (Addr × Str)) (lam : Nat → Addr → HO → Addr → HO → Prop) : FnOk P w K mg base (L2N.CX P w) 6 T.D_Course__lead.a T.D_Course__lead.u pp_Course__lead (spF (c0 K tb lam mg) 2 f_Course__lead) := by
  refine fn_ok rfl T.D_Course__lead.F sc_Course__lead rfl fun cdv A outer s H E hr => ?_
  have nd := sc_Course__lead.nd
  have tk : L2N.Takes (cxOf (L2N.CX P w) P w K mg base nn_Course__lead "Course.lead" (defScope st_Course__lead) T.D_Course__lead.a cdv A outer s H E) (fun cls d _ H => ((c0 K tb lam mg).to E).W cls d H) := L2N.takes_of rfl rfl rfl rfl
  exact (ds_cons (ds_set (ps_asg (de_cst pe_int fun _ _ => .int _) (dg_nm (pg_name (i := 2) nd rfl (Or.inl rfl)))))
      (ds_cons (ds_while (n := 100000) (passes_of rfl) (PW.pt (dw_and (dt_cmp rfl (hu65 hr) (de_nm (pv 2)) (de_nm (pv 1)) (nomark _)) (dw_and1 (dt_cmp rfl (hu65 hr) (de_mcall0 tk rfl T.O_Course.c T.D_Course__ending.m (ok_Course__ending T tb lam) (hr.mono (by decide)) T.D_Course__ending.b (de_nm (pv 0))) (de_cst pe_non fun _ _ => .non) (nomark _))))) (dss_trimW (ds_cons (ds_expr (de_mcall0 tk rfl T.O_Course.c T.D_Course__advance.m (ok_Course__advance T tb lam) (hr.mono (by decide)) T.D_Course__advance.b (de_nm (pv 0))))
      (ds_one (ds_set (ps_asg (de_bin rfl (de_nm (pv 2)) (de_cst pe_int fun _ _ => .int _)) (dg_nm (pg_name (i := 2) nd rfl (Or.inl rfl)))))))))
      (ds_one (ds_ret (de_nm (pv 2))))))
theorem ok_shown (T : Top P w K mg) (tb : List (Addr × Str)) (lam : Nat → Addr → HO → Addr → HO → Prop) : FnOk P w K mg base (L2N.CX P w) 1 T.D_shown.a T.D_shown.u pp_shown (spF (c0 K tb lam mg) 1 f_shown) := by
  refine fn_ok rfl T.D_shown.F sc_shown rfl fun cdv A outer s H E hr => ?_
  have nd := sc_shown.nd
  have tk : L2N.Takes (cxOf (L2N.CX P w) P w K mg base nn_shown "shown" (defScope st_shown) T.D_shown.a cdv A outer s H E) (fun cls d _ H => ((c0 K tb lam mg).to E).W cls d H) := L2N.takes_of rfl rfl rfl rfl
  exact (ds_cons (ds_if (dt_cmp rfl (hu65 hr) (de_item rfl (hu1 hr) (de_nm (pv 0)) (de_cst pe_int fun _ _ => .int _)) (de_cst pe_str fun _ _ => .str _) (nomark _)) (ds_one (ds_ret (de_item rfl (hu1 hr) (de_nm (pv 0)) (de_cst pe_int fun _ _ => .int _)))) ds_nil)
      dss_stuck)
theorem ok_shown_end (T : Top P w K mg) (tb : List (Addr × Str)) (lam : Nat → Addr → HO → Addr → HO → Prop) : FnOk P w K mg base (L2N.CX P w) 2 T.D_shown_end.a T.D_shown_end.u pp_shown_end (spF (c0 K tb lam mg) 1 f_shown_end) := by
  refine fn_ok rfl T.D_shown_end.F sc_shown_end rfl fun cdv A outer s H E hr => ?_
  have nd := sc_shown_end.nd
  have tk : L2N.Takes (cxOf (L2N.CX P w) P w K mg base nn_shown_end "shown_end" (defScope st_shown_end) T.D_shown_end.a cdv A outer s H E) (fun cls d _ H => ((c0 K tb lam mg).to E).W cls d H) := L2N.takes_of rfl rfl rfl rfl
  exact (ds_cons (ds_if (dt_cmp rfl (hu65 hr) (de_item rfl (hu1 hr) (de_nm (pv 0)) (de_cst pe_int fun _ _ => .int _)) (de_cst pe_str fun _ _ => .str _) (nomark _)) (ds_one (ds_ret (de_tup (da_cons (de_cst pe_str fun _ _ => .str _) (da_cons (de_trim (de_call tk (ok_shown T tb lam) (hr.mono (by decide)) (by rfl) T.D_shown.m T.D_shown.F.kp T.D_shown.b (da_cons (de_item rfl (hu1 hr) (de_nm (pv 0)) (de_cst pe_int fun _ _ => .int _)) da_nil))) da_nil))))) ds_nil)
      dss_stuck)
theorem ok_Course__shown_ending (T : Top P w K mg) (tb : List (Addr × Str)) (lam : Nat → Addr → HO → Addr → HO → Prop) : FnOk P w K mg base (L2N.CX P w) 4 T.D_Course__shown_ending.a T.D_Course__shown_ending.u pp_Course__shown_ending (spF (c0 K tb lam mg) 1 f_Course__shown_ending) := by
  refine fn_ok rfl T.D_Course__shown_ending.F sc_Course__shown_ending rfl fun cdv A outer s H E hr => ?_
  have nd := sc_Course__shown_ending.nd
  have tk : L2N.Takes (cxOf (L2N.CX P w) P w K mg base nn_Course__shown_ending "Course.shown_ending" (defScope st_Course__shown_ending) T.D_Course__shown_ending.a cdv A outer s H E) (fun cls d _ H => ((c0 K tb lam mg).to E).W cls d H) := L2N.takes_of rfl rfl rfl rfl
  exact (ds_cons (ds_set (ps_asg (de_mcall0 tk rfl T.O_Course.c T.D_Course__ending.m (ok_Course__ending T tb lam) (hr.mono (by decide)) T.D_Course__ending.b (de_nm (pv 0))) (dg_nm (pg_name (i := 1) nd rfl (Or.inl rfl)))))
      (ds_cons (ds_if (dt_cmp rfl (hu65 hr) (de_nm (pv 1)) (de_cst pe_non fun _ _ => .non) (nomark _)) dss_stuck ds_nil)
      (ds_one (ds_ret (de_trim (de_call tk (ok_shown_end T tb lam) (hr.mono (by decide)) (by rfl) T.D_shown_end.m T.D_shown_end.F.kp T.D_shown_end.b (da_cons (de_nm (pv 1)) da_nil)))))))
theorem ok_run_by_rewriting (T : Top P w K mg) (tb : List (Addr × Str)) (lam : Nat → Addr → HO → Addr → HO → Prop) : FnOk P w K mg base (L2N.CX P w) 7 T.D_run_by_rewriting.a T.D_run_by_rewriting.u pp_run_by_rewriting (spF (c0 K tb lam mg) 2 f_run_by_rewriting) := by
  refine fn_ok rfl T.D_run_by_rewriting.F sc_run_by_rewriting rfl fun cdv A outer s H E hr => ?_
  have nd := sc_run_by_rewriting.nd
  have tk : L2N.Takes (cxOf (L2N.CX P w) P w K mg base nn_run_by_rewriting "run_by_rewriting" (defScope st_run_by_rewriting) T.D_run_by_rewriting.a cdv A outer s H E) (fun cls d _ H => ((c0 K tb lam mg).to E).W cls d H) := L2N.takes_of rfl rfl rfl rfl
  exact (ds_cons (ds_set (ps_asg (de_make tk rfl T.K_Course (ok_Course__init T tb lam) (hr.mono (by decide)) (by rfl) T.O_Course.m T.D_Course__init.b (da_cons (de_nm (pv 0)) da_nil)) (dg_nm (pg_name (i := 2) nd rfl (Or.inl rfl)))))
      (ds_cons (ds_set (ps_asg (de_mcall (n := 2) tk rfl T.O_Course.c T.D_Course__lead.m (ok_Course__lead T tb lam) (hr.mono (by decide)) T.D_Course__lead.b (de_nm (pv 2)) (da_cons (de_nm (pv 1)) da_nil)) (dg_nm (pg_name (i := 3) nd rfl (Or.inl rfl)))))
      (ds_one (ds_ret (de_tup (da_cons (de_mcall0 tk rfl T.O_Course.c T.D_Course__shown_ending.m (ok_Course__shown_ending T tb lam) (hr.mono (by decide)) T.D_Course__shown_ending.b (de_nm (pv 2))) (da_cons (de_nm (pv 3)) da_nil)))))))
theorem ok_shown_and_steps (T : Top P w K mg) (tb : List (Addr × Str)) (lam : Nat → Addr → HO → Addr → HO → Prop) : FnOk P w K mg base (L2N.CX P w) 142 T.D_shown_and_steps.a T.D_shown_and_steps.u pp_shown_and_steps (spF (c0 K tb lam mg) 3 f_shown_and_steps) := by
  refine fn_ok rfl T.D_shown_and_steps.F sc_shown_and_steps rfl fun cdv A outer s H E hr => ?_
  have nd := sc_shown_and_steps.nd
  have tk : L2N.Takes (cxOf (L2N.CX P w) P w K mg base nn_shown_and_steps "shown_and_steps" (defScope st_shown_and_steps) T.D_shown_and_steps.a cdv A outer s H E) (fun cls d _ H => ((c0 K tb lam mg).to E).W cls d H) := L2N.takes_of rfl rfl rfl rfl
  exact (ds_cons (ds_if (dt_cmp rfl (hu65 hr) (de_nm (pv 1)) (de_cst pe_str fun _ _ => .str _) (nomark _)) (ds_one (ds_ret (de_trim (de_call tk (ok_run_by_rewriting T tb lam) (hr.mono (by decide)) (by rfl) T.D_run_by_rewriting.m T.D_run_by_rewriting.F.kp T.D_run_by_rewriting.b (da_cons (de_nm (pv 0)) (da_cons (de_nm (pv 2)) da_nil)))))) ds_nil)
      (ds_cons (ds_if (dt_cmp rfl (hu65 hr) (de_nm (pv 1)) (de_cst pe_str fun _ _ => .str _) (nomark _)) (ds_one (ds_set (ps_asg (de_trim (de_call tk (ok_by_trees T tb lam) (hr.mono (by decide)) (by rfl) T.D_by_trees.m T.D_by_trees.F.kp T.D_by_trees.b (da_cons (de_nm (pv 0)) da_nil))) (dg_nm (pg_name (i := 3) nd rfl (Or.inl rfl)))))) dss_stuck)
      dss_stuck))
theorem ok_shown_by (T : Top P w K mg) (tb : List (Addr × Str)) (lam : Nat → Addr → HO → Addr → HO → Prop) : FnOk P w K mg base (L2N.CX P w) 143 T.D_shown_by.a T.D_shown_by.u pp_shown_by (spF (c0 K tb lam mg) 3 f_shown_by) := by
  refine fn_ok rfl T.D_shown_by.F sc_shown_by rfl fun cdv A outer s H E hr => ?_
  have nd := sc_shown_by.nd
  have tk : L2N.Takes (cxOf (L2N.CX P w) P w K mg base nn_shown_by "shown_by" (defScope st_shown_by) T.D_shown_by.a cdv A outer s H E) (fun cls d _ H => ((c0 K tb lam mg).to E).W cls d H) := L2N.takes_of rfl rfl rfl rfl
  exact (ds_cons (ds_expr (de_trim (de_call tk (ok_check_program T tb lam) (hr.mono (by decide)) (by rfl) T.D_check_program.m T.D_check_program.F.kp T.D_check_program.b (da_cons (de_nm (pv 0)) da_nil))))
      (ds_cons (ds_expr (de_trim (de_call tk (ok_check_engine T tb lam) (hr.mono (by decide)) (by rfl) T.D_check_engine.m T.D_check_engine.F.kp T.D_check_engine.b (da_cons (de_nm (pv 1)) da_nil))))
      (ds_cons (ds_expr (de_trim (de_call tk (ok_check_number T tb lam) (hr.mono (by decide)) (by rfl) T.D_check_number.m T.D_check_number.F.kp T.D_check_number.b (da_cons (de_nm (pv 2)) (da_cons (de_cst pe_int fun _ _ => .int _) (da_cons (de_cst pe_int fun _ _ => .int _) da_nil))))))
      (ds_one (ds_ret (de_trim (de_call tk (ok_shown_and_steps T tb lam) (hr.mono (by decide)) (by rfl) T.D_shown_and_steps.m T.D_shown_and_steps.F.kp T.D_shown_and_steps.b (da_cons (de_nm (pv 0)) (da_cons (de_nm (pv 1)) (da_cons (de_nm (pv 2)) da_nil))))))))))
theorem ok_are_shown_alike (T : Top P w K mg) (tb : List (Addr × Str)) (lam : Nat → Addr → HO → Addr → HO → Prop) : FnOk P w K mg base (L2N.CX P w) 7 T.D_are_shown_alike.a T.D_are_shown_alike.u pp_are_shown_alike (spF (c0 K tb lam mg) 4 f_are_shown_alike) := by
  refine fn_ok rfl T.D_are_shown_alike.F sc_are_shown_alike rfl fun cdv A outer s H E hr => ?_
  have nd := sc_are_shown_alike.nd
  have tk : L2N.Takes (cxOf (L2N.CX P w) P w K mg base nn_are_shown_alike "are_shown_alike" (defScope st_are_shown_alike) T.D_are_shown_alike.a cdv A outer s H E) (fun cls d _ H => ((c0 K tb lam mg).to E).W cls d H) := L2N.takes_of rfl rfl rfl rfl
  exact (ds_cons (ds_expr (de_trim (de_call tk (ok_check_program T tb lam) (hr.mono (by decide)) (by rfl) T.D_check_program.m T.D_check_program.F.kp T.D_check_program.b (da_cons (de_nm (pv 0)) da_nil))))
      (ds_cons (ds_expr (de_trim (de_call tk (ok_check_engine T tb lam) (hr.mono (by decide)) (by rfl) T.D_check_engine.m T.D_check_engine.F.kp T.D_check_engine.b (da_cons (de_nm (pv 1)) da_nil))))
      (ds_cons (ds_expr (de_trim (de_call tk (ok_check_engine T tb lam) (hr.mono (by decide)) (by rfl) T.D_check_engine.m T.D_check_engine.F.kp T.D_check_engine.b (da_cons (de_nm (pv 2)) da_nil))))
      dss_stuck)))
theorem ok_fits_program (T : Top P w K mg) (tb : List (Addr × Str)) (lam : Nat → Addr → HO → Addr → HO → Prop) : FnOk P w K mg base (L2N.CX P w) 5 T.D_fits_program.a T.D_fits_program.u pp_fits_program (spF (c0 K tb lam mg) 1 f_fits_program) := by
  refine fn_ok rfl T.D_fits_program.F sc_fits_program rfl fun cdv A outer s H E hr => ?_
  have nd := sc_fits_program.nd
  have tk : L2N.Takes (cxOf (L2N.CX P w) P w K mg base nn_fits_program "fits_program" (defScope st_fits_program) T.D_fits_program.a cdv A outer s H E) (fun cls d _ H => ((c0 K tb lam mg).to E).W cls d H) := L2N.takes_of rfl rfl rfl rfl
  exact (ds_one (ds_ret (de_and (de_trim (de_call tk (ok_fits_tree T tb lam) (hr.mono (by decide)) (by rfl) T.D_fits_tree.m T.D_fits_tree.F.kp T.D_fits_tree.b (da_cons (de_nm (pv 0)) da_nil))) (pe_one (de_cmp rfl (hu65 hr) (de_callB (cr_len rfl) (by rfl) T.n_len PySem.boot_len (da_cons (de_trim (de_call tk (ok_free_in T tb lam) (hr.mono (by decide)) (by rfl) T.D_free_in.m T.D_free_in.F.kp T.D_free_in.b (da_cons (de_nm (pv 0)) da_nil))) da_nil)) (de_cst pe_int fun _ _ => .int _) (nomark _))))))
theorem ok_is_value_program (T : Top P w K mg) (tb : List (Addr × Str)) (lam : Nat → Addr → HO → Addr → HO → Prop) : FnOk P w K mg base (L2N.CX P w) 6 T.D_is_value_program.a T.D_is_value_program.u pp_is_value_program (spF (c0 K tb lam mg) 1 f_is_value_program) := by
  refine fn_ok rfl T.D_is_value_program.F sc_is_value_program rfl fun cdv A outer s H E hr => ?_
  have nd := sc_is_value_program.nd
  have tk : L2N.Takes (cxOf (L2N.CX P w) P w K mg base nn_is_value_program "is_value_program" (defScope st_is_value_program) T.D_is_value_program.a cdv A outer s H E) (fun cls d _ H => ((c0 K tb lam mg).to E).W cls d H) := L2N.takes_of rfl rfl rfl rfl
  exact (ds_one (ds_ret (de_and (de_trim (de_call tk (ok_fits_program T tb lam) (hr.mono (by decide)) (by rfl) T.D_fits_program.m T.D_fits_program.F.kp T.D_fits_program.b (da_cons (de_nm (pv 0)) da_nil))) (pe_one (de_trim (de_call tk (ok_holds_value T tb lam) (hr.mono (by decide)) (by rfl) T.D_holds_value.m T.D_holds_value.F.kp T.D_holds_value.b (da_cons (de_nm (pv 0)) da_nil)))))))
theorem ok_check_value (T : Top P w K mg) (tb : List (Addr × Str)) (lam : Nat → Addr → HO → Addr → HO → Prop) : FnOk P w K mg base (L2N.CX P w) 7 T.D_check_value.a T.D_check_value.u pp_check_value (spF (c0 K tb lam mg) 1 f_check_value) := by
  refine fn_ok rfl T.D_check_value.F sc_check_value rfl fun cdv A outer s H E hr => ?_
  have nd := sc_check_value.nd
  have tk : L2N.Takes (cxOf (L2N.CX P w) P w K mg base nn_check_value "check_value" (defScope st_check_value) T.D_check_value.a cdv A outer s H E) (fun cls d _ H => ((c0 K tb lam mg).to E).W cls d H) := L2N.takes_of rfl rfl rfl rfl
  exact (ds_one (ds_if (dt_not (dt_val rfl (de_trim (de_call tk (ok_is_value_program T tb lam) (hr.mono (by decide)) (by rfl) T.D_is_value_program.m T.D_is_value_program.F.kp T.D_is_value_program.b (da_cons (de_nm (pv 0)) da_nil))))) (ds_one (ds_raise rfl tk T.C_InvalidValue.m (L2N.pmk_own PySem.F.excBase_ValueError T.C_InvalidValue.x T.C_InvalidValue.m T.C_InvalidValue.k (raises_own T.C_InvalidValue.s T.C_InvalidValue.t) (by rfl)))) ds_nil))
theorem ok_check_values (T : Top P w K mg) (tb : List (Addr × Str)) (lam : Nat → Addr → HO → Addr → HO → Prop) : FnOk P w K mg base (L2N.CX P w) 8 T.D_check_values.a T.D_check_values.u pp_check_values (spF (c0 K tb lam mg) 3 f_check_values) := by
  refine fn_ok rfl T.D_check_values.F sc_check_values rfl fun cdv A outer s H E hr => ?_
  have nd := sc_check_values.nd
  have tk : L2N.Takes (cxOf (L2N.CX P w) P w K mg base nn_check_values "check_values" (defScope st_check_values) T.D_check_values.a cdv A outer s H E) (fun cls d _ H => ((c0 K tb lam mg).to E).W cls d H) := L2N.takes_of rfl rfl rfl rfl
  exact (ds_cons (ds_if (dt_not (dt_val rfl (de_trim (de_call tk (ok_is_tuple_of T tb lam) (hr.mono (by decide)) (by rfl) T.D_is_tuple_of.m T.D_is_tuple_of.F.kp T.D_is_tuple_of.b (da_cons (de_nm (pv 0)) (da_cons (de_nm (pv 1)) (da_cons (de_nm (pv 2)) da_nil))))))) (ds_one (ds_raise rfl tk T.C_InvalidValue.m (L2N.pmk_own PySem.F.excBase_ValueError T.C_InvalidValue.x T.C_InvalidValue.m T.C_InvalidValue.k (raises_own T.C_InvalidValue.s T.C_InvalidValue.t) (by rfl)))) ds_nil)
      (ds_one (ds_for (n := 100000) (passes_of rfl) rfl (dp_any rfl (de_nm (pv 0))) (dg_nm (pg_name (i := 3) nd rfl (Or.inl rfl))) (dss_trimW (ds_one (ds_expr (de_trim (de_call tk (ok_check_value T tb lam) (hr.mono (by decide)) (by rfl) T.D_check_value.m T.D_check_value.F.kp T.D_check_value.b (da_cons (de_nm (pv 3)) da_nil)))))))))
theorem ok_check_talk (T : Top P w K mg) (tb : List (Addr × Str)) (lam : Nat → Addr → HO → Addr → HO → Prop) : FnOk P w K mg base (L2N.CX P w) 9 T.D_check_talk.a T.D_check_talk.u pp_check_talk (spF (c0 K tb lam mg) 3 f_check_talk) := by
  refine fn_ok rfl T.D_check_talk.F sc_check_talk rfl fun cdv A outer s H E hr => ?_
  have nd := sc_check_talk.nd
  have tk : L2N.Takes (cxOf (L2N.CX P w) P w K mg base nn_check_talk "check_talk" (defScope st_check_talk) T.D_check_talk.a cdv A outer s H E) (fun cls d _ H => ((c0 K tb lam mg).to E).W cls d H) := L2N.takes_of rfl rfl rfl rfl
  exact (ds_cons (ds_expr (de_trim (de_call tk (ok_check_program T tb lam) (hr.mono (by decide)) (by rfl) T.D_check_program.m T.D_check_program.F.kp T.D_check_program.b (da_cons (de_nm (pv 0)) da_nil))))
      (ds_cons (ds_expr (de_trim (de_call tk (ok_check_values T tb lam) (hr.mono (by decide)) (by rfl) T.D_check_values.m T.D_check_values.F.kp T.D_check_values.b (da_cons (de_nm (pv 1)) (da_cons (de_cst pe_int fun _ _ => .int _) (da_cons (de_cst pe_int fun _ _ => .int _) da_nil))))))
      (ds_one (ds_expr (de_trim (de_call tk (ok_check_number T tb lam) (hr.mono (by decide)) (by rfl) T.D_check_number.m T.D_check_number.F.kp T.D_check_number.b (da_cons (de_nm (pv 2)) (da_cons (de_cst pe_int fun _ _ => .int _) (da_cons (de_cst pe_int fun _ _ => .int _) da_nil)))))))))
theorem ok_talk_of (T : Top P w K mg) (tb : List (Addr × Str)) (lam : Nat → Addr → HO → Addr → HO → Prop) : FnOk P w K mg base (L2N.CX P w) 10 T.D_talk_of.a T.D_talk_of.u pp_talk_of (spF (c0 K tb lam mg) 3 f_talk_of) := by
  refine fn_ok rfl T.D_talk_of.F sc_talk_of rfl fun cdv A outer s H E hr => ?_
  have nd := sc_talk_of.nd
  have tk : L2N.Takes (cxOf (L2N.CX P w) P w K mg base nn_talk_of "talk_of" (defScope st_talk_of) T.D_talk_of.a cdv A outer s H E) (fun cls d _ H => ((c0 K tb lam mg).to E).W cls d H) := L2N.takes_of rfl rfl rfl rfl
  exact (ds_cons (ds_expr (de_trim (de_call tk (ok_check_talk T tb lam) (hr.mono (by decide)) (by rfl) T.D_check_talk.m T.D_check_talk.F.kp T.D_check_talk.b (da_cons (de_nm (pv 0)) (da_cons (de_nm (pv 1)) (da_cons (de_nm (pv 2)) da_nil))))))
      dss_stuck)
theorem ok_program_behind (T : Top P w K mg) (tb : List (Addr × Str)) (lam : Nat → Addr → HO → Addr → HO → Prop) : FnOk P w K mg base (L2N.CX P w) 10 T.D_program_behind.a T.D_program_behind.u pp_program_behind (spF (c0 K tb lam mg) 3 f_program_behind) := by
  refine fn_ok rfl T.D_program_behind.F sc_program_behind rfl fun cdv A outer s H E hr => ?_
  have nd := sc_program_behind.nd
  have tk : L2N.Takes (cxOf (L2N.CX P w) P w K mg base nn_program_behind "program_behind" (defScope st_program_behind) T.D_program_behind.a cdv A outer s H E) (fun cls d _ H => ((c0 K tb lam mg).to E).W cls d H) := L2N.takes_of rfl rfl rfl rfl
  exact (ds_cons (ds_expr (de_trim (de_call tk (ok_check_talk T tb lam) (hr.mono (by decide)) (by rfl) T.D_check_talk.m T.D_check_talk.F.kp T.D_check_talk.b (da_cons (de_nm (pv 0)) (da_cons (de_nm (pv 1)) (da_cons (de_nm (pv 2)) da_nil))))))
      dss_stuck)
theorem ok_deed_tree (T : Top P w K mg) (tb : List (Addr × Str)) (lam : Nat → Addr → HO → Addr → HO → Prop) : FnOk P w K mg base (L2N.CX P w) 9 T.D_deed_tree.a T.D_deed_tree.u pp_deed_tree (spF (c0 K tb lam mg) 4 f_deed_tree) := by
  refine fn_ok rfl T.D_deed_tree.F sc_deed_tree rfl fun cdv A outer s H E hr => ?_
  have nd := sc_deed_tree.nd
  have tk : L2N.Takes (cxOf (L2N.CX P w) P w K mg base nn_deed_tree "deed_tree" (defScope st_deed_tree) T.D_deed_tree.a cdv A outer s H E) (fun cls d _ H => ((c0 K tb lam mg).to E).W cls d H) := L2N.takes_of rfl rfl rfl rfl
  exact (ds_cons (ds_expr (de_trim (de_call tk (ok_check_program T tb lam) (hr.mono (by decide)) (by rfl) T.D_check_program.m T.D_check_program.F.kp T.D_check_program.b (da_cons (de_nm (pv 0)) da_nil))))
      (ds_cons (ds_expr (de_trim (de_call tk (ok_check_values T tb lam) (hr.mono (by decide)) (by rfl) T.D_check_values.m T.D_check_values.F.kp T.D_check_values.b (da_cons (de_nm (pv 1)) (da_cons (de_cst pe_int fun _ _ => .int _) (da_cons (de_cst pe_int fun _ _ => .int _) da_nil))))))
      (ds_cons (ds_expr (de_trim (de_call tk (ok_check_number T tb lam) (hr.mono (by decide)) (by rfl) T.D_check_number.m T.D_check_number.F.kp T.D_check_number.b (da_cons (de_nm (pv 2)) (da_cons (de_cst pe_int fun _ _ => .int _) (da_cons (de_cst pe_int fun _ _ => .int _) da_nil))))))
      dss_stuck)))
theorem hot__law_name (T : Top P w K mg) {tb : List (Addr × Str)} {lam : Nat → Addr → HO → Addr → HO → Prop} {sub : Str → Bool} {cdv : Value} {A : Around} {outer : List Env} {s : Shared} {H : Hp} {p : Addr × Obj} {C0 : Addr} {z : Option (Addr × Str)} {cls : Str}
    (hot : Hot1 A p) (cl : ExcC K C0) (zc : Zc (.ref C0) (z.map (·.1)) p.2) (fl : ∃ vs, p.2.data = .fields vs) (hX : XfC K C0) (hno_limit : PySem.W.findIn K (.ref C0) "limit" = some none) (hn : ∀ dx f, z = some (dx, f) → f = "limit") (hk_TooMany : PySem.W.kitOne K (.ref C0) (.ref T.C_TooMany.a) = some (sub "TooMany")) (hk_InvalidValue : PySem.W.kitOne K (.ref C0) (.ref T.C_InvalidValue.a) = some (sub "InvalidValue")) (hk_InvalidProgram : PySem.W.kitOne K (.ref C0) (.ref T.C_InvalidProgram.a) = some (sub "InvalidProgram")) (hk_InvalidTree : PySem.W.kitOne K (.ref C0) (.ref T.C_InvalidTree.a) = some (sub "InvalidTree")) (hk_InvalidEngine : PySem.W.kitOne K (.ref C0) (.ref T.C_InvalidEngine.a) = some (sub "InvalidEngine")) (hk_InvalidNumber : PySem.W.kitOne K (.ref C0) (.ref T.C_InvalidNumber.a) = some (sub "InvalidNumber")) (hk_InvalidName : PySem.W.kitOne K (.ref C0) (.ref T.C_InvalidName.a) = some (sub "InvalidName"))
    (hr : RoomH 0 (A.deeper (envOfC "_law_name" (defScope st__law_name) s.heap.objs.size T.D__law_name.a cdv))) :
    PSs (cxH C8.CX0 P w K mg base nn__law_name "_law_name" (defScope st__law_name) T.D__law_name.a cdv A outer s H C8.E0 p) (defBody st__law_name) (sS (cH K tb lam mg p z cls) (d__law_name sub)) := by
  have nd := sc__law_name.nd
  have hp : p ∈ (cxH C8.CX0 P w K mg base nn__law_name "_law_name" (defScope st__law_name) T.D__law_name.a cdv A outer s H C8.E0 p).pn := List.mem_singleton.mpr rfl
  have hE : ExAt (cxH C8.CX0 P w K mg base nn__law_name "_law_name" (defScope st__law_name) T.D__law_name.a cdv A outer s H C8.E0 p) (cH K tb lam mg p z cls) p C0 z cls := ⟨fun _ _ _ h => h, hp, cl, zc, fl⟩
  exact (ds_cons (ds_if (dt_val rfl (de_isex rfl hE (by rfl) T.n_isinstance (by rfl) T.C_TooMany.m hk_TooMany (de_nm (pv 0)))) (ds_one (ds_ret (de_bin rfl (de_cst pe_str fun _ _ => .str _) (de_callTy (cr_strD rfl) (by rfl) T.n_str (by decide +kernel) (da_cons (de_fldX hE hX hno_limit hn (de_nm (pv 0))) da_nil))))) ds_nil)
      (ds_cons (ds_set (ps_asg (de_lst (da_cons (de_isex rfl hE (by rfl) T.n_isinstance (by rfl) T.C_InvalidTree.m hk_InvalidTree (de_nm (pv 0))) (da_cons (de_isex rfl hE (by rfl) T.n_isinstance (by rfl) T.C_InvalidProgram.m hk_InvalidProgram (de_nm (pv 0))) (da_cons (de_isex rfl hE (by rfl) T.n_isinstance (by rfl) T.C_InvalidValue.m hk_InvalidValue (de_nm (pv 0))) da_nil)))) (dg_nm (pg_name (i := 1) nd rfl (Or.inl rfl)))))
      (ds_cons (ds_set (ps_asg (de_bin rfl (de_nm (pv 1)) (de_lst (da_cons (de_isex rfl hE (by rfl) T.n_isinstance (by rfl) T.C_InvalidName.m hk_InvalidName (de_nm (pv 0))) (da_cons (de_isex rfl hE (by rfl) T.n_isinstance (by rfl) T.C_InvalidNumber.m hk_InvalidNumber (de_nm (pv 0))) (da_cons (de_isex rfl hE (by rfl) T.n_isinstance (by rfl) T.C_InvalidEngine.m hk_InvalidEngine (de_nm (pv 0))) da_nil))))) (dg_nm (pg_name (i := 1) nd rfl (Or.inl rfl)))))
      (ds_cons (ds_set (ps_asg (de_split (de_cst pe_str fun _ _ => .str _) (de_cst pe_str fun _ _ => .str _)) (dg_nm (pg_name (i := 2) nd rfl (Or.inl rfl)))))
      (ds_one (ds_ret (de_join rfl (de_cst pe_str fun _ _ => .str _) (de_lcR rfl nd (stays_pin hp hot) (dp_zipR hp rfl rfl (by rfl) T.n_zip (da_cons (de_nm (pv 2)) (da_cons (de_nm (pv 1)) da_nil))) (blkOk_by (own := [("_law_word", 3), ("_law_found", 4)]) (N := nn__law_name) (sc := defScope st__law_name) (by decide +kernel)) (by decide) (fun _ _ _ _ _ _ _ I f => pg_two hp hot I f (pgs_cons (pg_name (i := 3) nd rfl (Or.inl rfl)) (pgs_cons (pg_name (i := 4) nd rfl (Or.inl rfl)) pgs_nil))) (fun _ _ _ _ _ _ _ _ _ => (pts_one (dt_val rfl (de_nm (pv 4))))) (fun _ _ _ _ _ _ _ _ _ => PE.imp (de_nm (pv 3)) fun _ _ _ h => h.2)))))))))
theorem ok__law_programs_right (T : Top P w K mg) (tb : List (Addr × Str)) (lam : Nat → Addr → HO → Addr → HO → Prop) (EA : EAll T base tb) (LL : Lams T base tb) : FnOk P w K mg base (L2N.CX P w) 146 T.D__law_programs_right.a T.D__law_programs_right.u pp__law_programs_right (spF (c0 K tb lam mg) 2 f__law_programs_right) := by
  refine fn_okL (fl := flds) (W := fun _ _ _ => False) T.D__law_programs_right.F sc__law_programs_right rfl fun cdv A outer s H E hr hcd => ⟨(lam__law_programs_right s.heap.objs.size), ?_⟩
  have nd := sc__law_programs_right.nd
  have LA : LamAt base mg tb (cxOf (L2N.CX P w) P w K mg base nn__law_programs_right "_law_programs_right" (defScope st__law_programs_right) T.D__law_programs_right.a cdv A outer s H E).env.code qv__law_programs_right := hcd ▸ LL.la__law_programs_right
  have tk : L2N.Takes (cxOf (L2N.CX P w) P w K mg base nn__law_programs_right "_law_programs_right" (defScope st__law_programs_right) T.D__law_programs_right.a cdv A outer s H E) (fun cls d _ H => E cls d H) := L2N.takes_of rfl rfl rfl rfl
  have hLS : ∀ n, (bd__law_programs_right n).isSome = true → LOk (LS__law_programs_right n) ∧ LamX.LamS (cxOf (L2N.CX P w) P w K mg base nn__law_programs_right "_law_programs_right" (defScope st__law_programs_right) T.D__law_programs_right.a cdv A outer s H E).env.scope (LS__law_programs_right n).scope ∧ ∀ (q : Str) (clos : List (Str × Addr)) (pm cv ctv : Value), bindArgs (PySem.W.kla_fn "<lambda>" q (LS__law_programs_right n).params (LS__law_programs_right n).body (LS__law_programs_right n).scope clos pm cv ctv) ⟨[], []⟩ = pure [] := fun n h => match n, h with
    | 0, _ => ⟨⟨rfl, rfl, rfl, by decide +kernel⟩, LamX.lamS_by (sc := defScope st__law_programs_right) (by decide +kernel), fun _ _ _ _ _ => rfl⟩
    | 1, _ => ⟨⟨rfl, rfl, rfl, by decide +kernel⟩, LamX.lamS_by (sc := defScope st__law_programs_right) (by decide +kernel), fun _ _ _ _ _ => rfl⟩
    | 2, _ => ⟨⟨rfl, rfl, rfl, by decide +kernel⟩, LamX.lamS_by (sc := defScope st__law_programs_right) (by decide +kernel), fun _ _ _ _ _ => rfl⟩
    | 3, _ => ⟨⟨rfl, rfl, rfl, by decide +kernel⟩, LamX.lamS_by (sc := defScope st__law_programs_right) (by decide +kernel), fun _ _ _ _ _ => rfl⟩
    | 4, _ => ⟨⟨rfl, rfl, rfl, by decide +kernel⟩, LamX.lamS_by (sc := defScope st__law_programs_right) (by decide +kernel), fun _ _ _ _ _ => rfl⟩
    | 5, _ => ⟨⟨rfl, rfl, rfl, by decide +kernel⟩, LamX.lamS_by (sc := defScope st__law_programs_right) (by decide +kernel), fun _ _ _ _ _ => rfl⟩
    | 6, _ => ⟨⟨rfl, rfl, rfl, by decide +kernel⟩, LamX.lamS_by (sc := defScope st__law_programs_right) (by decide +kernel), fun _ _ _ _ _ => rfl⟩
    | _ + 7, h => by cases h
  have hbody : ∀ (n : Nat) (f : Den D), bd__law_programs_right n = some f → ∀ (A1 : Around) (outer1 : List Env) (s1 : Shared) (H1 : Hp) (E1 : XK) (f0 b0 : Addr), Room 143 (A1.deeper (lEnv (qv__law_programs_right ++ "<lambda>") (LS__law_programs_right n) (cloFrom (cxOf (L2N.CX P w) P w K mg base nn__law_programs_right "_law_programs_right" (defScope st__law_programs_right) T.D__law_programs_right.a cdv A outer s H E).env.cells (LS__law_programs_right n).scope.names []) s1.heap.objs.size f0 b0)) →
      PE (lCx P w K mg base nn__law_programs_right (qv__law_programs_right ++ "<lambda>") (LS__law_programs_right n) (cloFrom (cxOf (L2N.CX P w) P w K mg base nn__law_programs_right "_law_programs_right" (defScope st__law_programs_right) T.D__law_programs_right.a cdv A outer s H E).env.cells (LS__law_programs_right n).scope.names []) f0 b0 A1 outer1 s1 H1 E1) (LS__law_programs_right n).body (sE ⟨k0x K tb (lam__law_programs_right s.heap.objs.size), mg, flds, E1⟩ f) := fun n f e => match n, e with
    | 0, rfl => fun A1 outer1 s1 H1 E1 f0 b0 hr => by
      have tk : L2N.Takes (lCx P w K mg base nn__law_programs_right (qv__law_programs_right ++ "<lambda>") (LS__law_programs_right 0) (cloFrom (cxOf (L2N.CX P w) P w K mg base nn__law_programs_right "_law_programs_right" (defScope st__law_programs_right) T.D__law_programs_right.a cdv A outer s H E).env.cells (LS__law_programs_right 0).scope.names []) f0 b0 A1 outer1 s1 H1 E1) (fun cls d _ H => E1 cls d H) := L2N.takes_of rfl rfl rfl rfl
      exact (de_trim (de_call tk (ok_by_trees T tb (lam__law_programs_right s.heap.objs.size)) (hr.mono (by decide)) (by rfl) T.D_by_trees.m T.D_by_trees.F.kp T.D_by_trees.b (da_cons (de_nm (pv 0)) da_nil)))
    | 1, rfl => fun A1 outer1 s1 H1 E1 f0 b0 hr => by
      have tk : L2N.Takes (lCx P w K mg base nn__law_programs_right (qv__law_programs_right ++ "<lambda>") (LS__law_programs_right 1) (cloFrom (cxOf (L2N.CX P w) P w K mg base nn__law_programs_right "_law_programs_right" (defScope st__law_programs_right) T.D__law_programs_right.a cdv A outer s H E).env.cells (LS__law_programs_right 1).scope.names []) f0 b0 A1 outer1 s1 H1 E1) (fun cls d _ H => E1 cls d H) := L2N.takes_of rfl rfl rfl rfl
      exact (de_trim (de_call tk (ok_by_next T tb (lam__law_programs_right s.heap.objs.size)) (hr.mono (by decide)) (by rfl) T.D_by_next.m T.D_by_next.F.kp T.D_by_next.b (da_cons (de_nm (pv 0)) da_nil)))
    | 2, rfl => fun A1 outer1 s1 H1 E1 f0 b0 hr => by
      have tk : L2N.Takes (lCx P w K mg base nn__law_programs_right (qv__law_programs_right ++ "<lambda>") (LS__law_programs_right 2) (cloFrom (cxOf (L2N.CX P w) P w K mg base nn__law_programs_right "_law_programs_right" (defScope st__law_programs_right) T.D__law_programs_right.a cdv A outer s H E).env.cells (LS__law_programs_right 2).scope.names []) f0 b0 A1 outer1 s1 H1 E1) (fun cls d _ H => E1 cls d H) := L2N.takes_of rfl rfl rfl rfl
      exact (de_trim (de_call tk (ok_shown_by T tb (lam__law_programs_right s.heap.objs.size)) (hr.mono (by decide)) (by rfl) T.D_shown_by.m T.D_shown_by.F.kp T.D_shown_by.b (da_cons (de_nm (pv 0)) (da_cons (de_cst pe_non fun _ _ => .non) (da_cons (de_cst pe_non fun _ _ => .non) da_nil)))))
    | 3, rfl => fun A1 outer1 s1 H1 E1 f0 b0 hr => by
      have tk : L2N.Takes (lCx P w K mg base nn__law_programs_right (qv__law_programs_right ++ "<lambda>") (LS__law_programs_right 3) (cloFrom (cxOf (L2N.CX P w) P w K mg base nn__law_programs_right "_law_programs_right" (defScope st__law_programs_right) T.D__law_programs_right.a cdv A outer s H E).env.cells (LS__law_programs_right 3).scope.names []) f0 b0 A1 outer1 s1 H1 E1) (fun cls d _ H => E1 cls d H) := L2N.takes_of rfl rfl rfl rfl
      exact (de_trim (de_call tk (ok_are_shown_alike T tb (lam__law_programs_right s.heap.objs.size)) (hr.mono (by decide)) (by rfl) T.D_are_shown_alike.m T.D_are_shown_alike.F.kp T.D_are_shown_alike.b (da_cons (de_nm (pv 0)) (da_cons (de_cst pe_non fun _ _ => .non) (da_cons (de_cst pe_non fun _ _ => .non) (da_cons (de_cst pe_non fun _ _ => .non) da_nil))))))
    | 4, rfl => fun A1 outer1 s1 H1 E1 f0 b0 hr => by
      have tk : L2N.Takes (lCx P w K mg base nn__law_programs_right (qv__law_programs_right ++ "<lambda>") (LS__law_programs_right 4) (cloFrom (cxOf (L2N.CX P w) P w K mg base nn__law_programs_right "_law_programs_right" (defScope st__law_programs_right) T.D__law_programs_right.a cdv A outer s H E).env.cells (LS__law_programs_right 4).scope.names []) f0 b0 A1 outer1 s1 H1 E1) (fun cls d _ H => E1 cls d H) := L2N.takes_of rfl rfl rfl rfl
      exact (de_trim (de_call tk (ok_talk_of T tb (lam__law_programs_right s.heap.objs.size)) (hr.mono (by decide)) (by rfl) T.D_talk_of.m T.D_talk_of.F.kp T.D_talk_of.b (da_cons (de_nm (pv 0)) (da_cons (de_cst pe_non fun _ _ => .non) (da_cons (de_cst pe_non fun _ _ => .non) da_nil)))))
    | 5, rfl => fun A1 outer1 s1 H1 E1 f0 b0 hr => by
      have tk : L2N.Takes (lCx P w K mg base nn__law_programs_right (qv__law_programs_right ++ "<lambda>") (LS__law_programs_right 5) (cloFrom (cxOf (L2N.CX P w) P w K mg base nn__law_programs_right "_law_programs_right" (defScope st__law_programs_right) T.D__law_programs_right.a cdv A outer s H E).env.cells (LS__law_programs_right 5).scope.names []) f0 b0 A1 outer1 s1 H1 E1) (fun cls d _ H => E1 cls d H) := L2N.takes_of rfl rfl rfl rfl
      exact (de_trim (de_call tk (ok_program_behind T tb (lam__law_programs_right s.heap.objs.size)) (hr.mono (by decide)) (by rfl) T.D_program_behind.m T.D_program_behind.F.kp T.D_program_behind.b (da_cons (de_nm (pv 0)) (da_cons (de_cst pe_non fun _ _ => .non) (da_cons (de_cst pe_non fun _ _ => .non) da_nil)))))
    | 6, rfl => fun A1 outer1 s1 H1 E1 f0 b0 hr => by
      have tk : L2N.Takes (lCx P w K mg base nn__law_programs_right (qv__law_programs_right ++ "<lambda>") (LS__law_programs_right 6) (cloFrom (cxOf (L2N.CX P w) P w K mg base nn__law_programs_right "_law_programs_right" (defScope st__law_programs_right) T.D__law_programs_right.a cdv A outer s H E).env.cells (LS__law_programs_right 6).scope.names []) f0 b0 A1 outer1 s1 H1 E1) (fun cls d _ H => E1 cls d H) := L2N.takes_of rfl rfl rfl rfl
      exact (de_trim (de_call tk (ok_deed_tree T tb (lam__law_programs_right s.heap.objs.size)) (hr.mono (by decide)) (by rfl) T.D_deed_tree.m T.D_deed_tree.F.kp T.D_deed_tree.b (da_cons (de_nm (pv 0)) (da_cons (de_cst pe_non fun _ _ => .non) (da_cons (de_cst pe_non fun _ _ => .non) (da_cons (de_cst pe_non fun _ _ => .non) da_nil))))))
    | _ + 7, e => by cases e
  have ERRB : ∀ {sl : List Nat} {scope : Scope} {pins0 : List (Addr × Obj)} {g0 : L2.St} {s0 : Shared} {H0 : Hp} {C0 : Addr} {cl0 : List (Str × Addr)} {fp : List Addr} (I0 : L2.Inv (cxOf (L2N.CX P w) P w K mg base nn__law_programs_right "_law_programs_right" (defScope st__law_programs_right) T.D__law_programs_right.a cdv A outer s H E) pins0 g0 H0 s0) (F0 : ∀ b ∈ fp, FpOk (cxOf (L2N.CX P w) P w K mg base nn__law_programs_right "_law_programs_right" (defScope st__law_programs_right) T.D__law_programs_right.a cdv A outer s H E) pins0 H0 b) {fe : Den D} {e : Expr} {p pos : Pos}, PE ((cxOf (L2N.CX P w) P w K mg base nn__law_programs_right "_law_programs_right" (defScope st__law_programs_right) T.D__law_programs_right.a cdv A outer s H E).blk s0 H0 scope (compEnvC scope cl0 C0 (cxOf (L2N.CX P w) P w K mg base nn__law_programs_right "_law_programs_right" (defScope st__law_programs_right) T.D__law_programs_right.a cdv A outer s H E).env) fp) e (sE ⟨k0x K tb (lam__law_programs_right s.heap.objs.size), mg, flds, E⟩ fe) → Gl ((cxOf (L2N.CX P w) P w K mg base nn__law_programs_right "_law_programs_right" (defScope st__law_programs_right) T.D__law_programs_right.a cdv A outer s H E).blk s0 H0 scope (compEnvC scope cl0 C0 (cxOf (L2N.CX P w) P w K mg base nn__law_programs_right "_law_programs_right" (defScope st__law_programs_right) T.D__law_programs_right.a cdv A outer s H E).env) fp) "_law_error" → (starEach [e] ((cxOf (L2N.CX P w) P w K mg base nn__law_programs_right "_law_programs_right" (defScope st__law_programs_right) T.D__law_programs_right.a cdv A outer s H E).blk s0 H0 scope (compEnvC scope cl0 C0 (cxOf (L2N.CX P w) P w K mg base nn__law_programs_right "_law_programs_right" (defScope st__law_programs_right) T.D__law_programs_right.a cdv A outer s H E).env) fp).env = (false, eval e ((cxOf (L2N.CX P w) P w K mg base nn__law_programs_right "_law_programs_right" (defScope st__law_programs_right) T.D__law_programs_right.a cdv A outer s H E).blk s0 H0 scope (compEnvC scope cl0 C0 (cxOf (L2N.CX P w) P w K mg base nn__law_programs_right "_law_programs_right" (defScope st__law_programs_right) T.D__law_programs_right.a cdv A outer s H E).env) fp).env) :: starEach [] ((cxOf (L2N.CX P w) P w K mg base nn__law_programs_right "_law_programs_right" (defScope st__law_programs_right) T.D__law_programs_right.a cdv A outer s H E).blk s0 H0 scope (compEnvC scope cl0 C0 (cxOf (L2N.CX P w) P w K mg base nn__law_programs_right "_law_programs_right" (defScope st__law_programs_right) T.D__law_programs_right.a cdv A outer s H E).env) fp).env) →
      PE ((cxOf (L2N.CX P w) P w K mg base nn__law_programs_right "_law_programs_right" (defScope st__law_programs_right) T.D__law_programs_right.a cdv A outer s H E).blk s0 H0 scope (compEnvC scope cl0 C0 (cxOf (L2N.CX P w) P w K mg base nn__law_programs_right "_law_programs_right" (defScope st__law_programs_right) T.D__law_programs_right.a cdv A outer s H E).env) fp) (.Call (.Name "_law_error" p) [e] [] pos) (fun r H Q => L2.wipe r sl = L2.wipe g0 sl ∧ sE ⟨k0x K tb (lam__law_programs_right s.heap.objs.size), mg, flds, E⟩ (errC known nn__law_name.length dnm sl bd__law_programs_right fe) r H Q) := fun {sl scope pins0 g0 s0 H0 C0 cl0 fp} I0 F0 {fe e p pos} he hg hst =>
    de_errB (kl := 143) I0 F0 rfl rfl rfl rfl rfl EA hLS hbody (hr.mono (by decide)) (by decide) hg he (by decide) hst
  exact (ds_cons (ds_set (ps_asg (de_lst (da_cons (de_lamN rfl rfl rfl LA (LamX.lamS_by (sc := defScope st__law_programs_right) (by decide +kernel)) rfl rfl (n := 0)) da_nil)) (dg_nm (pg_name (i := 2) nd rfl (Or.inl rfl)))))
      (ds_cons (ds_expr (de_meth rfl PySem.F.plainAttrs_list PySem.F.slot_list_append PySem.F.type_list_append (mr_append rfl) (de_nm (pv 2)) (da_cons (de_lamN rfl rfl rfl LA (LamX.lamS_by (sc := defScope st__law_programs_right) (by decide +kernel)) rfl rfl (n := 1)) da_nil)))
      (ds_cons (ds_expr (de_meth rfl PySem.F.plainAttrs_list PySem.F.slot_list_append PySem.F.type_list_append (mr_append rfl) (de_nm (pv 2)) (da_cons (de_lamN rfl rfl rfl LA (LamX.lamS_by (sc := defScope st__law_programs_right) (by decide +kernel)) rfl rfl (n := 2)) da_nil)))
      (ds_cons (ds_expr (de_meth rfl PySem.F.plainAttrs_list PySem.F.slot_list_append PySem.F.type_list_append (mr_append rfl) (de_nm (pv 2)) (da_cons (de_lamN rfl rfl rfl LA (LamX.lamS_by (sc := defScope st__law_programs_right) (by decide +kernel)) rfl rfl (n := 3)) da_nil)))
      (ds_cons (ds_expr (de_meth rfl PySem.F.plainAttrs_list PySem.F.slot_list_append PySem.F.type_list_append (mr_append rfl) (de_nm (pv 2)) (da_cons (de_lamN rfl rfl rfl LA (LamX.lamS_by (sc := defScope st__law_programs_right) (by decide +kernel)) rfl rfl (n := 4)) da_nil)))
      (ds_cons (ds_expr (de_meth rfl PySem.F.plainAttrs_list PySem.F.slot_list_append PySem.F.type_list_append (mr_append rfl) (de_nm (pv 2)) (da_cons (de_lamN rfl rfl rfl LA (LamX.lamS_by (sc := defScope st__law_programs_right) (by decide +kernel)) rfl rfl (n := 5)) da_nil)))
      (ds_cons (ds_expr (de_meth rfl PySem.F.plainAttrs_list PySem.F.slot_list_append PySem.F.type_list_append (mr_append rfl) (de_nm (pv 2)) (da_cons (de_lamN rfl rfl rfl LA (LamX.lamS_by (sc := defScope st__law_programs_right) (by decide +kernel)) rfl rfl (n := 6)) da_nil)))
      (ds_one (ds_ret (de_cmp rfl (hu65 hr) (de_lcR rfl nd stays_true (PIR.calm rfl (dp_any rfl (de_nm (pv 2)))) (blkOk_by (own := [("_law_call", 3)]) (N := nn__law_programs_right) (sc := defScope st__law_programs_right) (by decide +kernel)) (by decide) (fun _ _ _ _ _ _ _ _ _ => pg_name (i := 3) nd rfl (Or.inl rfl)) (fun _ _ _ _ _ _ _ _ _ => dpts_nil) (fun _ _ _ _ _ _ _ I0 F0 => (de_trimB (ERRB I0 F0 (de_nm (pv 3)) (by rfl) (by rfl))))) (de_bin rfl (de_lst (da_cons (de_nm (pv 1)) da_nil)) (de_cst pe_int fun _ _ => .int _)) (nomark _)))))))))))
theorem ok__law_roll (T : Top P w K mg) (tb : List (Addr × Str)) (lam : Nat → Addr → HO → Addr → HO → Prop) : FnOk P w K mg base (L2N.CX P w) 1 T.D__law_roll.a T.D__law_roll.u pp__law_roll (spF (c0 K tb lam mg) 2 f__law_roll) := by
  refine fn_ok rfl T.D__law_roll.F sc__law_roll rfl fun cdv A outer s H E hr => ?_
  have nd := sc__law_roll.nd
  have tk : L2N.Takes (cxOf (L2N.CX P w) P w K mg base nn__law_roll "_law_roll" (defScope st__law_roll) T.D__law_roll.a cdv A outer s H E) (fun cls d _ H => ((c0 K tb lam mg).to E).W cls d H) := L2N.takes_of rfl rfl rfl rfl
  exact (ds_cons (ds_if (dt_cmp rfl (hu65 hr) (de_item rfl (hu1 hr) (de_nm (pv 0)) (de_cst pe_int fun _ _ => .int _)) (de_cst pe_int fun _ _ => .int _) (nomark _)) (ds_cons (ds_set (ps_asg (de_bin rfl (de_callTy (cr_intD rfl) (by rfl) T.n_int (by decide +kernel) (da_cons (de_item rfl (hu1 hr) (de_nm (pv 0)) (de_cst pe_int fun _ _ => .int _)) da_nil)) (de_nm (pv 1))) (dg_nm (pg_name (i := 2) nd rfl (Or.inl rfl)))))
      (ds_cons (ds_put rfl (hu1 hr) (de_nm (pv 0)) (de_cst pe_int fun _ _ => .int _) (de_bin rfl (de_item rfl (hu1 hr) (de_nm (pv 0)) (de_cst pe_int fun _ _ => .int _)) (de_nm (pv 1))))
      (ds_one (ds_ret (de_nm (pv 2)))))) ds_nil)
      (ds_cons (ds_put rfl (hu1 hr) (de_nm (pv 0)) (de_cst pe_int fun _ _ => .int _) (de_bin rfl (de_callTy (cr_intD rfl) (by rfl) T.n_int (by decide +kernel) (da_cons (de_bin rfl (de_bin rfl (de_item rfl (hu1 hr) (de_nm (pv 0)) (de_cst pe_int fun _ _ => .int _)) (de_cst pe_int fun _ _ => .int _)) (de_cst pe_int fun _ _ => .int _)) da_nil)) (de_cst pe_int fun _ _ => .int _)))
      (ds_cons (ds_set (ps_asg (de_bin rfl (de_callTy (cr_intD rfl) (by rfl) T.n_int (by decide +kernel) (da_cons (de_bin rfl (de_item rfl (hu1 hr) (de_nm (pv 0)) (de_cst pe_int fun _ _ => .int _)) (de_bin rfl (de_item rfl (hu1 hr) (de_nm (pv 0)) (de_cst pe_int fun _ _ => .int _)) (de_cst pe_int fun _ _ => .int _))) da_nil)) (de_cst pe_int fun _ _ => .int _)) (dg_nm (pg_name (i := 3) nd rfl (Or.inl rfl)))))
      (ds_one (ds_ret (de_bin rfl (de_callTy (cr_intD rfl) (by rfl) T.n_int (by decide +kernel) (da_cons (de_bin rfl (de_nm (pv 3)) (de_cst pe_int fun _ _ => .int _)) da_nil)) (de_nm (pv 1))))))))
theorem ok__law_some (T : Top P w K mg) (tb : List (Addr × Str)) (lam : Nat → Addr → HO → Addr → HO → Prop) : FnOk P w K mg base (L2N.CX P w) 2 T.D__law_some.a T.D__law_some.u pp__law_some (spF (c0 K tb lam mg) 2 f__law_some) := by
  refine fn_ok rfl T.D__law_some.F sc__law_some rfl fun cdv A outer s H E hr => ?_
  have nd := sc__law_some.nd
  have tk : L2N.Takes (cxOf (L2N.CX P w) P w K mg base nn__law_some "_law_some" (defScope st__law_some) T.D__law_some.a cdv A outer s H E) (fun cls d _ H => ((c0 K tb lam mg).to E).W cls d H) := L2N.takes_of rfl rfl rfl rfl
  exact (ds_one (ds_ret (de_item rfl (hu1 hr) (de_nm (pv 1)) (de_call tk (ok__law_roll T tb lam) (hr.mono (by decide)) (by rfl) T.D__law_roll.m T.D__law_roll.F.kp T.D__law_roll.b (da_cons (de_nm (pv 0)) (da_cons (de_callB (cr_len rfl) (by rfl) T.n_len PySem.boot_len (da_cons (de_nm (pv 1)) da_nil)) da_nil))))))
theorem ok_has_deeds (T : Top P w K mg) (tb : List (Addr × Str)) (lam : Nat → Addr → HO → Addr → HO → Prop) : FnOk P w K mg base (L2N.CX P w) 3 T.D_has_deeds.a T.D_has_deeds.u pp_has_deeds (spF (c0 K tb lam mg) 1 f_has_deeds) := by
  refine fn_ok rfl T.D_has_deeds.F sc_has_deeds rfl fun cdv A outer s H E hr => ?_
  have nd := sc_has_deeds.nd
  have tk : L2N.Takes (cxOf (L2N.CX P w) P w K mg base nn_has_deeds "has_deeds" (defScope st_has_deeds) T.D_has_deeds.a cdv A outer s H E) (fun cls d _ H => ((c0 K tb lam mg).to E).W cls d H) := L2N.takes_of rfl rfl rfl rfl
  exact (ds_one (ds_ret (de_callB (cr_anyD rfl rfl) (by rfl) T.n_any (by decide +kernel) (da_cons (de_lc rfl rfl nd (dp_any rfl (de_trim (de_call tk (ok_trees_in T tb lam) (hr.mono (by decide)) (by rfl) T.D_trees_in.m T.D_trees_in.F.kp T.D_trees_in.b (da_cons (de_nm (pv 0)) da_nil)))) (blkOk_by (own := [("one", 1)]) (N := nn_has_deeds) (sc := defScope st_has_deeds) (by decide +kernel)) (by decide) (fun _ _ _ _ _ => pg_name (i := 1) nd rfl (Or.inl rfl)) (fun _ _ _ _ _ => dpts_nil) (fun _ _ _ _ _ => (de_or (de_cmp rfl (hu65 hr) (de_item rfl (hu1 hr) (de_nm (pv 1)) (de_cst pe_int fun _ _ => .int _)) (de_cst pe_str fun _ _ => .str _) (nomark _)) (pe_one (de_cmp rfl (hu65 hr) (de_item rfl (hu1 hr) (de_nm (pv 1)) (de_cst pe_int fun _ _ => .int _)) (de_cst pe_str fun _ _ => .str _) (nomark _)))))) da_nil))))
theorem ok_is_without_deeds (T : Top P w K mg) (tb : List (Addr × Str)) (lam : Nat → Addr → HO → Addr → HO → Prop) : FnOk P w K mg base (L2N.CX P w) 6 T.D_is_without_deeds.a T.D_is_without_deeds.u pp_is_without_deeds (spF (c0 K tb lam mg) 1 f_is_without_deeds) := by
  refine fn_ok rfl T.D_is_without_deeds.F sc_is_without_deeds rfl fun cdv A outer s H E hr => ?_
  have nd := sc_is_without_deeds.nd
  have tk : L2N.Takes (cxOf (L2N.CX P w) P w K mg base nn_is_without_deeds "is_without_deeds" (defScope st_is_without_deeds) T.D_is_without_deeds.a cdv A outer s H E) (fun cls d _ H => ((c0 K tb lam mg).to E).W cls d H) := L2N.takes_of rfl rfl rfl rfl
  exact (ds_cons (ds_expr (de_trim (de_call tk (ok_check_tree T tb lam) (hr.mono (by decide)) (by rfl) T.D_check_tree.m T.D_check_tree.F.kp T.D_check_tree.b (da_cons (de_nm (pv 0)) da_nil))))
      (ds_one (ds_ret (de_not (de_trim (de_call tk (ok_has_deeds T tb lam) (hr.mono (by decide)) (by rfl) T.D_has_deeds.m T.D_has_deeds.F.kp T.D_has_deeds.b (da_cons (de_nm (pv 0)) da_nil)))))))
theorem ok_check_name (T : Top P w K mg) (tb : List (Addr × Str)) (lam : Nat → Addr → HO → Addr → HO → Prop) : FnOk P w K mg base (L2N.CX P w) 2 T.D_check_name.a T.D_check_name.u pp_check_name (spF (c0 K tb lam mg) 1 f_check_name) := by
  refine fn_ok rfl T.D_check_name.F sc_check_name rfl fun cdv A outer s H E hr => ?_
  have nd := sc_check_name.nd
  have tk : L2N.Takes (cxOf (L2N.CX P w) P w K mg base nn_check_name "check_name" (defScope st_check_name) T.D_check_name.a cdv A outer s H E) (fun cls d _ H => ((c0 K tb lam mg).to E).W cls d H) := L2N.takes_of rfl rfl rfl rfl
  exact (ds_one (ds_if (dt_not (dt_val rfl (de_trim (de_call tk (ok_is_name T tb lam) (hr.mono (by decide)) (by rfl) T.D_is_name.m T.D_is_name.F.kp T.D_is_name.b (da_cons (de_nm (pv 0)) da_nil))))) (ds_one (ds_raise rfl tk T.C_InvalidName.m (L2N.pmk_own PySem.F.excBase_ValueError T.C_InvalidName.x T.C_InvalidName.m T.C_InvalidName.k (raises_own T.C_InvalidName.s T.C_InvalidName.t) (by rfl)))) ds_nil))
theorem ok_deed_tag (T : Top P w K mg) (tb : List (Addr × Str)) (lam : Nat → Addr → HO → Addr → HO → Prop) : FnOk P w K mg base (L2N.CX P w) 3 T.D_deed_tag.a T.D_deed_tag.u pp_deed_tag (spF (c0 K tb lam mg) 1 f_deed_tag) := by
  refine fn_ok rfl T.D_deed_tag.F sc_deed_tag rfl fun cdv A outer s H E hr => ?_
  have nd := sc_deed_tag.nd
  have tk : L2N.Takes (cxOf (L2N.CX P w) P w K mg base nn_deed_tag "deed_tag" (defScope st_deed_tag) T.D_deed_tag.a cdv A outer s H E) (fun cls d _ H => ((c0 K tb lam mg).to E).W cls d H) := L2N.takes_of rfl rfl rfl rfl
  exact (ds_cons (ds_expr (de_trim (de_call tk (ok_check_name T tb lam) (hr.mono (by decide)) (by rfl) T.D_check_name.m T.D_check_name.F.kp T.D_check_name.b (da_cons (de_nm (pv 0)) da_nil))))
      dss_stuck)
theorem ok_is_tag (T : Top P w K mg) (tb : List (Addr × Str)) (lam : Nat → Addr → HO → Addr → HO → Prop) : FnOk P w K mg base (L2N.CX P w) 1 T.D_is_tag.a T.D_is_tag.u pp_is_tag (spF (c0 K tb lam mg) 1 f_is_tag) := by
  refine fn_ok rfl T.D_is_tag.F sc_is_tag rfl fun cdv A outer s H E hr => ?_
  have nd := sc_is_tag.nd
  have tk : L2N.Takes (cxOf (L2N.CX P w) P w K mg base nn_is_tag "is_tag" (defScope st_is_tag) T.D_is_tag.a cdv A outer s H E) (fun cls d _ H => ((c0 K tb lam mg).to E).W cls d H) := L2N.takes_of rfl rfl rfl rfl
  exact (ds_cons (ds_if (PW.pt (dw_or (dt_cmp rfl (hu65 hr) (de_callTy (cr_ty rfl) (by rfl) T.n_type (by decide +kernel) (da_cons (de_nm (pv 0)) da_nil)) (de_gty (by rfl) T.n_str (by decide +kernel)) (nomark _)) (dw_or1 (dt_not (dt_chain rfl (hu65 hr) (de_cst pe_int fun _ _ => .int _) (de_callB (cr_len rfl) (by rfl) T.n_len PySem.boot_len (da_cons (de_nm (pv 0)) da_nil)) (de_cst pe_int fun _ _ => .int _)))))) (ds_one (ds_ret (de_cst pe_bl fun _ _ => .bl _))) ds_nil)
      (ds_one (ds_ret (de_and (de_chain rfl (hu65 hr) (de_cst pe_str fun _ _ => .str _) (de_item rfl (hu1 hr) (de_nm (pv 0)) (de_cst pe_int fun _ _ => .int _)) (de_cst pe_str fun _ _ => .str _)) (pe_one (de_callB (cr_allD rfl rfl) (by rfl) T.n_all (by decide +kernel) (da_cons (de_lc rfl rfl nd (dp_any rfl (de_slice rfl (de_nm (pv 0)) (dp_some (de_cst pe_int fun _ _ => .int _)) dp_none)) (blkOk_by (own := [("sign", 1)]) (N := nn_is_tag) (sc := defScope st_is_tag) (by decide +kernel)) (by decide) (fun _ _ _ _ _ => pg_name (i := 1) nd rfl (Or.inl rfl)) (fun _ _ _ _ _ => dpts_nil) (fun _ _ _ _ _ => (de_chain rfl (hu65 hr) (de_cst pe_str fun _ _ => .str _) (de_nm (pv 1)) (de_cst pe_str fun _ _ => .str _)))) da_nil)))))))
theorem ok_deed_of (T : Top P w K mg) (tb : List (Addr × Str)) (lam : Nat → Addr → HO → Addr → HO → Prop) : FnOk P w K mg base (L2N.CX P w) 1 T.D_deed_of.a T.D_deed_of.u pp_deed_of (spF (c0 K tb lam mg) 1 f_deed_of) := by
  refine fn_ok rfl T.D_deed_of.F sc_deed_of rfl fun cdv A outer s H E hr => ?_
  have nd := sc_deed_of.nd
  have tk : L2N.Takes (cxOf (L2N.CX P w) P w K mg base nn_deed_of "deed_of" (defScope st_deed_of) T.D_deed_of.a cdv A outer s H E) (fun cls d _ H => ((c0 K tb lam mg).to E).W cls d H) := L2N.takes_of rfl rfl rfl rfl
  exact (ds_one (ds_ret (de_bin rfl (de_lower (de_item rfl (hu1 hr) (de_nm (pv 0)) (de_cst pe_int fun _ _ => .int _))) (de_slice rfl (de_nm (pv 0)) (dp_some (de_cst pe_int fun _ _ => .int _)) dp_none))))
theorem ok_is_deed_tag (T : Top P w K mg) (tb : List (Addr × Str)) (lam : Nat → Addr → HO → Addr → HO → Prop) : FnOk P w K mg base (L2N.CX P w) 2 T.D_is_deed_tag.a T.D_is_deed_tag.u pp_is_deed_tag (spF (c0 K tb lam mg) 1 f_is_deed_tag) := by
  refine fn_ok rfl T.D_is_deed_tag.F sc_is_deed_tag rfl fun cdv A outer s H E hr => ?_
  have nd := sc_is_deed_tag.nd
  have tk : L2N.Takes (cxOf (L2N.CX P w) P w K mg base nn_is_deed_tag "is_deed_tag" (defScope st_is_deed_tag) T.D_is_deed_tag.a cdv A outer s H E) (fun cls d _ H => ((c0 K tb lam mg).to E).W cls d H) := L2N.takes_of rfl rfl rfl rfl
  exact (ds_one (ds_ret (de_and (de_trim (de_call tk (ok_is_tag T tb lam) (hr.mono (by decide)) (by rfl) T.D_is_tag.m T.D_is_tag.F.kp T.D_is_tag.b (da_cons (de_nm (pv 0)) da_nil))) (pe_one (de_trim (de_call tk (ok_is_name T tb lam) (hr.mono (by decide)) (by rfl) T.D_is_name.m T.D_is_name.F.kp T.D_is_name.b (da_cons (de_trim (de_call tk (ok_deed_of T tb lam) (hr.mono (by decide)) (by rfl) T.D_deed_of.m T.D_deed_of.F.kp T.D_deed_of.b (da_cons (de_nm (pv 0)) da_nil))) da_nil)))))))
theorem ok_tag_deed (T : Top P w K mg) (tb : List (Addr × Str)) (lam : Nat → Addr → HO → Addr → HO → Prop) : FnOk P w K mg base (L2N.CX P w) 3 T.D_tag_deed.a T.D_tag_deed.u pp_tag_deed (spF (c0 K tb lam mg) 1 f_tag_deed) := by
  refine fn_ok rfl T.D_tag_deed.F sc_tag_deed rfl fun cdv A outer s H E hr => ?_
  have nd := sc_tag_deed.nd
  have tk : L2N.Takes (cxOf (L2N.CX P w) P w K mg base nn_tag_deed "tag_deed" (defScope st_tag_deed) T.D_tag_deed.a cdv A outer s H E) (fun cls d _ H => ((c0 K tb lam mg).to E).W cls d H) := L2N.takes_of rfl rfl rfl rfl
  exact (ds_cons (ds_if (dt_not (dt_val rfl (de_trim (de_call tk (ok_is_deed_tag T tb lam) (hr.mono (by decide)) (by rfl) T.D_is_deed_tag.m T.D_is_deed_tag.F.kp T.D_is_deed_tag.b (da_cons (de_nm (pv 0)) da_nil))))) (ds_one (ds_raise rfl tk T.C_InvalidName.m (L2N.pmk_own PySem.F.excBase_ValueError T.C_InvalidName.x T.C_InvalidName.m T.C_InvalidName.k (raises_own T.C_InvalidName.s T.C_InvalidName.t) (by rfl)))) ds_nil)
      (ds_one (ds_ret (de_trim (de_call tk (ok_deed_of T tb lam) (hr.mono (by decide)) (by rfl) T.D_deed_of.m T.D_deed_of.F.kp T.D_deed_of.b (da_cons (de_nm (pv 0)) da_nil))))))
theorem ok__law_others_right (T : Top P w K mg) (tb : List (Addr × Str)) (lam : Nat → Addr → HO → Addr → HO → Prop) (EA : EAll T base tb) (LL : Lams T base tb) : FnOk P w K mg base (L2N.CX P w) 146 T.D__law_others_right.a T.D__law_others_right.u pp__law_others_right (spF (c0 K tb lam mg) 1 f__law_others_right) := by
  refine fn_okL (fl := flds) (W := fun _ _ _ => False) T.D__law_others_right.F sc__law_others_right rfl fun cdv A outer s H E hr hcd => ⟨(lam__law_others_right s.heap.objs.size), ?_⟩
  have nd := sc__law_others_right.nd
  have LA : LamAt base mg tb (cxOf (L2N.CX P w) P w K mg base nn__law_others_right "_law_others_right" (defScope st__law_others_right) T.D__law_others_right.a cdv A outer s H E).env.code qv__law_others_right := hcd ▸ LL.la__law_others_right
  have tk : L2N.Takes (cxOf (L2N.CX P w) P w K mg base nn__law_others_right "_law_others_right" (defScope st__law_others_right) T.D__law_others_right.a cdv A outer s H E) (fun cls d _ H => E cls d H) := L2N.takes_of rfl rfl rfl rfl
  have hLS : ∀ n, (bd__law_others_right n).isSome = true → LOk (LS__law_others_right n) ∧ LamX.LamS (cxOf (L2N.CX P w) P w K mg base nn__law_others_right "_law_others_right" (defScope st__law_others_right) T.D__law_others_right.a cdv A outer s H E).env.scope (LS__law_others_right n).scope ∧ ∀ (q : Str) (clos : List (Str × Addr)) (pm cv ctv : Value), bindArgs (PySem.W.kla_fn "<lambda>" q (LS__law_others_right n).params (LS__law_others_right n).body (LS__law_others_right n).scope clos pm cv ctv) ⟨[], []⟩ = pure [] := fun n h => match n, h with
    | 0, _ => ⟨⟨rfl, rfl, rfl, by decide +kernel⟩, LamX.lamS_by (sc := defScope st__law_others_right) (by decide +kernel), fun _ _ _ _ _ => rfl⟩
    | 1, _ => ⟨⟨rfl, rfl, rfl, by decide +kernel⟩, LamX.lamS_by (sc := defScope st__law_others_right) (by decide +kernel), fun _ _ _ _ _ => rfl⟩
    | 2, _ => ⟨⟨rfl, rfl, rfl, by decide +kernel⟩, LamX.lamS_by (sc := defScope st__law_others_right) (by decide +kernel), fun _ _ _ _ _ => rfl⟩
    | 3, _ => ⟨⟨rfl, rfl, rfl, by decide +kernel⟩, LamX.lamS_by (sc := defScope st__law_others_right) (by decide +kernel), fun _ _ _ _ _ => rfl⟩
    | 4, _ => ⟨⟨rfl, rfl, rfl, by decide +kernel⟩, LamX.lamS_by (sc := defScope st__law_others_right) (by decide +kernel), fun _ _ _ _ _ => rfl⟩
    | 5, _ => ⟨⟨rfl, rfl, rfl, by decide +kernel⟩, LamX.lamS_by (sc := defScope st__law_others_right) (by decide +kernel), fun _ _ _ _ _ => rfl⟩
    | 6, _ => ⟨⟨rfl, rfl, rfl, by decide +kernel⟩, LamX.lamS_by (sc := defScope st__law_others_right) (by decide +kernel), fun _ _ _ _ _ => rfl⟩
    | 7, _ => ⟨⟨rfl, rfl, rfl, by decide +kernel⟩, LamX.lamS_by (sc := defScope st__law_others_right) (by decide +kernel), fun _ _ _ _ _ => rfl⟩
    | 8, _ => ⟨⟨rfl, rfl, rfl, by decide +kernel⟩, LamX.lamS_by (sc := defScope st__law_others_right) (by decide +kernel), fun _ _ _ _ _ => rfl⟩
    | _ + 9, h => by cases h
  have hbody : ∀ (n : Nat) (f : Den D), bd__law_others_right n = some f → ∀ (A1 : Around) (outer1 : List Env) (s1 : Shared) (H1 : Hp) (E1 : XK) (f0 b0 : Addr), Room 143 (A1.deeper (lEnv (qv__law_others_right ++ "<lambda>") (LS__law_others_right n) (cloFrom (cxOf (L2N.CX P w) P w K mg base nn__law_others_right "_law_others_right" (defScope st__law_others_right) T.D__law_others_right.a cdv A outer s H E).env.cells (LS__law_others_right n).scope.names []) s1.heap.objs.size f0 b0)) →
      PE (lCx P w K mg base nn__law_others_right (qv__law_others_right ++ "<lambda>") (LS__law_others_right n) (cloFrom (cxOf (L2N.CX P w) P w K mg base nn__law_others_right "_law_others_right" (defScope st__law_others_right) T.D__law_others_right.a cdv A outer s H E).env.cells (LS__law_others_right n).scope.names []) f0 b0 A1 outer1 s1 H1 E1) (LS__law_others_right n).body (sE ⟨k0x K tb (lam__law_others_right s.heap.objs.size), mg, flds, E1⟩ f) := fun n f e => match n, e with
    | 0, rfl => fun A1 outer1 s1 H1 E1 f0 b0 hr => by
      have tk : L2N.Takes (lCx P w K mg base nn__law_others_right (qv__law_others_right ++ "<lambda>") (LS__law_others_right 0) (cloFrom (cxOf (L2N.CX P w) P w K mg base nn__law_others_right "_law_others_right" (defScope st__law_others_right) T.D__law_others_right.a cdv A outer s H E).env.cells (LS__law_others_right 0).scope.names []) f0 b0 A1 outer1 s1 H1 E1) (fun cls d _ H => E1 cls d H) := L2N.takes_of rfl rfl rfl rfl
      exact (de_trim (de_call tk (ok_deed_tag T tb (lam__law_others_right s.heap.objs.size)) (hr.mono (by decide)) (by rfl) T.D_deed_tag.m T.D_deed_tag.F.kp T.D_deed_tag.b (da_cons (de_nm (pv 0)) da_nil)))
    | 1, rfl => fun A1 outer1 s1 H1 E1 f0 b0 hr => by
      have tk : L2N.Takes (lCx P w K mg base nn__law_others_right (qv__law_others_right ++ "<lambda>") (LS__law_others_right 1) (cloFrom (cxOf (L2N.CX P w) P w K mg base nn__law_others_right "_law_others_right" (defScope st__law_others_right) T.D__law_others_right.a cdv A outer s H E).env.cells (LS__law_others_right 1).scope.names []) f0 b0 A1 outer1 s1 H1 E1) (fun cls d _ H => E1 cls d H) := L2N.takes_of rfl rfl rfl rfl
      exact (de_trim (de_call tk (ok_tag_deed T tb (lam__law_others_right s.heap.objs.size)) (hr.mono (by decide)) (by rfl) T.D_tag_deed.m T.D_tag_deed.F.kp T.D_tag_deed.b (da_cons (de_nm (pv 0)) da_nil)))
    | 2, rfl => fun A1 outer1 s1 H1 E1 f0 b0 hr => by
      have tk : L2N.Takes (lCx P w K mg base nn__law_others_right (qv__law_others_right ++ "<lambda>") (LS__law_others_right 2) (cloFrom (cxOf (L2N.CX P w) P w K mg base nn__law_others_right "_law_others_right" (defScope st__law_others_right) T.D__law_others_right.a cdv A outer s H E).env.cells (LS__law_others_right 2).scope.names []) f0 b0 A1 outer1 s1 H1 E1) (fun cls d _ H => E1 cls d H) := L2N.takes_of rfl rfl rfl rfl
      exact (de_trim (de_call tk (ok_shown_by T tb (lam__law_others_right s.heap.objs.size)) (hr.mono (by decide)) (by rfl) T.D_shown_by.m T.D_shown_by.F.kp T.D_shown_by.b (da_cons (de_nm (pv 1)) (da_cons (de_nm (pv 0)) (da_cons (de_cst pe_non fun _ _ => .non) da_nil)))))
    | 3, rfl => fun A1 outer1 s1 H1 E1 f0 b0 hr => by
      have tk : L2N.Takes (lCx P w K mg base nn__law_others_right (qv__law_others_right ++ "<lambda>") (LS__law_others_right 3) (cloFrom (cxOf (L2N.CX P w) P w K mg base nn__law_others_right "_law_others_right" (defScope st__law_others_right) T.D__law_others_right.a cdv A outer s H E).env.cells (LS__law_others_right 3).scope.names []) f0 b0 A1 outer1 s1 H1 E1) (fun cls d _ H => E1 cls d H) := L2N.takes_of rfl rfl rfl rfl
      exact (de_trim (de_call tk (ok_are_shown_alike T tb (lam__law_others_right s.heap.objs.size)) (hr.mono (by decide)) (by rfl) T.D_are_shown_alike.m T.D_are_shown_alike.F.kp T.D_are_shown_alike.b (da_cons (de_nm (pv 1)) (da_cons (de_cst pe_str fun _ _ => .str _) (da_cons (de_nm (pv 0)) (da_cons (de_cst pe_non fun _ _ => .non) da_nil))))))
    | 4, rfl => fun A1 outer1 s1 H1 E1 f0 b0 hr => by
      have tk : L2N.Takes (lCx P w K mg base nn__law_others_right (qv__law_others_right ++ "<lambda>") (LS__law_others_right 4) (cloFrom (cxOf (L2N.CX P w) P w K mg base nn__law_others_right "_law_others_right" (defScope st__law_others_right) T.D__law_others_right.a cdv A outer s H E).env.cells (LS__law_others_right 4).scope.names []) f0 b0 A1 outer1 s1 H1 E1) (fun cls d _ H => E1 cls d H) := L2N.takes_of rfl rfl rfl rfl
      exact (de_trim (de_call tk (ok_shown_by T tb (lam__law_others_right s.heap.objs.size)) (hr.mono (by decide)) (by rfl) T.D_shown_by.m T.D_shown_by.F.kp T.D_shown_by.b (da_cons (de_nm (pv 1)) (da_cons (de_cst pe_str fun _ _ => .str _) (da_cons (de_nm (pv 0)) da_nil)))))
    | 5, rfl => fun A1 outer1 s1 H1 E1 f0 b0 hr => by
      have tk : L2N.Takes (lCx P w K mg base nn__law_others_right (qv__law_others_right ++ "<lambda>") (LS__law_others_right 5) (cloFrom (cxOf (L2N.CX P w) P w K mg base nn__law_others_right "_law_others_right" (defScope st__law_others_right) T.D__law_others_right.a cdv A outer s H E).env.cells (LS__law_others_right 5).scope.names []) f0 b0 A1 outer1 s1 H1 E1) (fun cls d _ H => E1 cls d H) := L2N.takes_of rfl rfl rfl rfl
      exact (de_trim (de_call tk (ok_talk_of T tb (lam__law_others_right s.heap.objs.size)) (hr.mono (by decide)) (by rfl) T.D_talk_of.m T.D_talk_of.F.kp T.D_talk_of.b (da_cons (de_nm (pv 1)) (da_cons (de_nm (pv 0)) (da_cons (de_cst pe_non fun _ _ => .non) da_nil)))))
    | 6, rfl => fun A1 outer1 s1 H1 E1 f0 b0 hr => by
      have tk : L2N.Takes (lCx P w K mg base nn__law_others_right (qv__law_others_right ++ "<lambda>") (LS__law_others_right 6) (cloFrom (cxOf (L2N.CX P w) P w K mg base nn__law_others_right "_law_others_right" (defScope st__law_others_right) T.D__law_others_right.a cdv A outer s H E).env.cells (LS__law_others_right 6).scope.names []) f0 b0 A1 outer1 s1 H1 E1) (fun cls d _ H => E1 cls d H) := L2N.takes_of rfl rfl rfl rfl
      exact (de_trim (de_call tk (ok_talk_of T tb (lam__law_others_right s.heap.objs.size)) (hr.mono (by decide)) (by rfl) T.D_talk_of.m T.D_talk_of.F.kp T.D_talk_of.b (da_cons (de_nm (pv 1)) (da_cons (de_tup da_nil) (da_cons (de_nm (pv 0)) da_nil)))))
    | 7, rfl => fun A1 outer1 s1 H1 E1 f0 b0 hr => by
      have tk : L2N.Takes (lCx P w K mg base nn__law_others_right (qv__law_others_right ++ "<lambda>") (LS__law_others_right 7) (cloFrom (cxOf (L2N.CX P w) P w K mg base nn__law_others_right "_law_others_right" (defScope st__law_others_right) T.D__law_others_right.a cdv A outer s H E).env.cells (LS__law_others_right 7).scope.names []) f0 b0 A1 outer1 s1 H1 E1) (fun cls d _ H => E1 cls d H) := L2N.takes_of rfl rfl rfl rfl
      exact (de_trim (de_call tk (ok_deed_tree T tb (lam__law_others_right s.heap.objs.size)) (hr.mono (by decide)) (by rfl) T.D_deed_tree.m T.D_deed_tree.F.kp T.D_deed_tree.b (da_cons (de_nm (pv 1)) (da_cons (de_nm (pv 0)) (da_cons (de_cst pe_non fun _ _ => .non) (da_cons (de_cst pe_non fun _ _ => .non) da_nil))))))
    | 8, rfl => fun A1 outer1 s1 H1 E1 f0 b0 hr => by
      have tk : L2N.Takes (lCx P w K mg base nn__law_others_right (qv__law_others_right ++ "<lambda>") (LS__law_others_right 8) (cloFrom (cxOf (L2N.CX P w) P w K mg base nn__law_others_right "_law_others_right" (defScope st__law_others_right) T.D__law_others_right.a cdv A outer s H E).env.cells (LS__law_others_right 8).scope.names []) f0 b0 A1 outer1 s1 H1 E1) (fun cls d _ H => E1 cls d H) := L2N.takes_of rfl rfl rfl rfl
      exact (de_trim (de_call tk (ok_deed_tree T tb (lam__law_others_right s.heap.objs.size)) (hr.mono (by decide)) (by rfl) T.D_deed_tree.m T.D_deed_tree.F.kp T.D_deed_tree.b (da_cons (de_nm (pv 1)) (da_cons (de_tup (da_cons (de_nm (pv 1)) da_nil)) (da_cons (de_nm (pv 0)) (da_cons (de_cst pe_non fun _ _ => .non) da_nil))))))
    | _ + 9, e => by cases e
  have ERR : ∀ {fe : Den D} {e : Expr} {p pos : Pos}, PE (cxOf (L2N.CX P w) P w K mg base nn__law_others_right "_law_others_right" (defScope st__law_others_right) T.D__law_others_right.a cdv A outer s H E) e (sE ⟨k0x K tb (lam__law_others_right s.heap.objs.size), mg, flds, E⟩ fe) → (starEach [e] (cxOf (L2N.CX P w) P w K mg base nn__law_others_right "_law_others_right" (defScope st__law_others_right) T.D__law_others_right.a cdv A outer s H E).env = (false, eval e (cxOf (L2N.CX P w) P w K mg base nn__law_others_right "_law_others_right" (defScope st__law_others_right) T.D__law_others_right.a cdv A outer s H E).env) :: starEach [] (cxOf (L2N.CX P w) P w K mg base nn__law_others_right "_law_others_right" (defScope st__law_others_right) T.D__law_others_right.a cdv A outer s H E).env) → PE (cxOf (L2N.CX P w) P w K mg base nn__law_others_right "_law_others_right" (defScope st__law_others_right) T.D__law_others_right.a cdv A outer s H E) (.Call (.Name "_law_error" p) [e] [] pos) (sE ⟨k0x K tb (lam__law_others_right s.heap.objs.size), mg, flds, E⟩ (errC known nn__law_name.length dnm [] bd__law_others_right fe)) := fun {fe e p pos} he hst =>
    de_errD (kl := 143) rfl rfl rfl rfl rfl EA hLS hbody (hr.mono (by decide)) (by decide) (by rfl) he (by decide) hst
  exact (ds_cons (ds_set (ps_asg (de_tup (da_cons (de_cst pe_str fun _ _ => .str _) (da_cons (de_cst pe_int fun _ _ => .int _) da_nil))) (dg_nm (pg_name (i := 1) nd rfl (Or.inr rfl)))))
      (ds_cons (ds_set (ps_asg (de_lst (da_cons (de_trim (ERR (de_lamN rfl rfl rfl LA (LamX.lamS_by (sc := defScope st__law_others_right) (by decide +kernel)) rfl rfl (n := 0)) (by rfl))) da_nil)) (dg_nm (pg_name (i := 2) nd rfl (Or.inl rfl)))))
      (ds_cons (ds_expr (de_meth rfl PySem.F.plainAttrs_list PySem.F.slot_list_append PySem.F.type_list_append (mr_append rfl) (de_nm (pv 2)) (da_cons (de_trim (ERR (de_lamN rfl rfl rfl LA (LamX.lamS_by (sc := defScope st__law_others_right) (by decide +kernel)) rfl rfl (n := 1)) (by rfl))) da_nil)))
      (ds_cons (ds_expr (de_meth rfl PySem.F.plainAttrs_list PySem.F.slot_list_append PySem.F.type_list_append (mr_append rfl) (de_nm (pv 2)) (da_cons (de_trim (ERR (de_lamN rfl rfl rfl LA (LamX.lamS_by (sc := defScope st__law_others_right) (by decide +kernel)) rfl rfl (n := 2)) (by rfl))) da_nil)))
      (ds_cons (ds_expr (de_meth rfl PySem.F.plainAttrs_list PySem.F.slot_list_append PySem.F.type_list_append (mr_append rfl) (de_nm (pv 2)) (da_cons (de_trim (ERR (de_lamN rfl rfl rfl LA (LamX.lamS_by (sc := defScope st__law_others_right) (by decide +kernel)) rfl rfl (n := 3)) (by rfl))) da_nil)))
      (ds_cons (ds_expr (de_meth rfl PySem.F.plainAttrs_list PySem.F.slot_list_append PySem.F.type_list_append (mr_append rfl) (de_nm (pv 2)) (da_cons (de_trim (ERR (de_lamN rfl rfl rfl LA (LamX.lamS_by (sc := defScope st__law_others_right) (by decide +kernel)) rfl rfl (n := 4)) (by rfl))) da_nil)))
      (ds_cons (ds_expr (de_meth rfl PySem.F.plainAttrs_list PySem.F.slot_list_append PySem.F.type_list_append (mr_append rfl) (de_nm (pv 2)) (da_cons (de_trim (ERR (de_lamN rfl rfl rfl LA (LamX.lamS_by (sc := defScope st__law_others_right) (by decide +kernel)) rfl rfl (n := 5)) (by rfl))) da_nil)))
      (ds_cons (ds_expr (de_meth rfl PySem.F.plainAttrs_list PySem.F.slot_list_append PySem.F.type_list_append (mr_append rfl) (de_nm (pv 2)) (da_cons (de_trim (ERR (de_lamN rfl rfl rfl LA (LamX.lamS_by (sc := defScope st__law_others_right) (by decide +kernel)) rfl rfl (n := 6)) (by rfl))) da_nil)))
      (ds_cons (ds_expr (de_meth rfl PySem.F.plainAttrs_list PySem.F.slot_list_append PySem.F.type_list_append (mr_append rfl) (de_nm (pv 2)) (da_cons (de_trim (ERR (de_lamN rfl rfl rfl LA (LamX.lamS_by (sc := defScope st__law_others_right) (by decide +kernel)) rfl rfl (n := 7)) (by rfl))) da_nil)))
      (ds_cons (ds_expr (de_meth rfl PySem.F.plainAttrs_list PySem.F.slot_list_append PySem.F.type_list_append (mr_append rfl) (de_nm (pv 2)) (da_cons (de_trim (ERR (de_lamN rfl rfl rfl LA (LamX.lamS_by (sc := defScope st__law_others_right) (by decide +kernel)) rfl rfl (n := 8)) (by rfl))) da_nil)))
      (ds_one (ds_ret (de_cmp rfl (hu65 hr) (de_nm (pv 2)) (de_lst (da_cons (de_cst pe_str fun _ _ => .str _) (da_cons (de_cst pe_str fun _ _ => .str _) (da_cons (de_cst pe_str fun _ _ => .str _) (da_cons (de_cst pe_str fun _ _ => .str _) (da_cons (de_cst pe_str fun _ _ => .str _) (da_cons (de_cst pe_str fun _ _ => .str _) (da_cons (de_cst pe_str fun _ _ => .str _) (da_cons (de_cst pe_str fun _ _ => .str _) (da_cons (de_cst pe_str fun _ _ => .str _) da_nil)))))))))) (nomark _))))))))))))))
theorem ok__law_six (T : Top P w K mg) (tb : List (Addr × Str)) (lam : Nat → Addr → HO → Addr → HO → Prop) : FnOk P w K mg base (L2N.CX P w) 1 T.D__law_six.a T.D__law_six.u pp__law_six (spF (c0 K tb lam mg) 0 f__law_six) := by
  refine fn_ok rfl T.D__law_six.F sc__law_six rfl fun cdv A outer s H E hr => ?_
  have nd := sc__law_six.nd
  have tk : L2N.Takes (cxOf (L2N.CX P w) P w K mg base nn__law_six "_law_six" (defScope st__law_six) T.D__law_six.a cdv A outer s H E) (fun cls d _ H => ((c0 K tb lam mg).to E).W cls d H) := L2N.takes_of rfl rfl rfl rfl
  exact (ds_cons (ds_set (ps_asg (de_callTy (cr_tuple rfl) (by rfl) T.n_tuple (by decide +kernel) (da_cons (de_lc rfl rfl nd (dp_any rfl (de_tup (da_cons (de_cst pe_str fun _ _ => .str _) (da_cons (de_cst pe_str fun _ _ => .str _) (da_cons (de_cst pe_str fun _ _ => .str _) (da_cons (de_cst pe_str fun _ _ => .str _) (da_cons (de_cst pe_str fun _ _ => .str _) (da_cons (de_cst pe_str fun _ _ => .str _) da_nil)))))))) (blkOk_by (own := [("_law_deed", 1)]) (N := nn__law_six) (sc := defScope st__law_six) (by decide +kernel)) (by decide) (fun _ _ _ _ _ => pg_name (i := 1) nd rfl (Or.inl rfl)) (fun _ _ _ _ _ => dpts_nil) (fun _ _ _ _ _ => (de_tup (da_cons (de_nm (pv 1)) (da_cons (de_cst pe_str fun _ _ => .str _) (da_cons (de_cst pe_str fun _ _ => .str _) (da_cons (de_tup (da_cons (de_cst pe_str fun _ _ => .str _) (da_cons (de_cst pe_str fun _ _ => .str _) da_nil))) da_nil))))))) da_nil)) (dg_nm (pg_name (i := 0) nd rfl (Or.inl rfl)))))
      (ds_one (ds_ret (de_tup (da_cons (de_cst pe_str fun _ _ => .str _) (da_cons (de_tup (da_cons (de_cst pe_str fun _ _ => .str _) (da_cons (de_cst pe_int fun _ _ => .int _) da_nil))) (da_cons (de_tup (da_cons (de_cst pe_str fun _ _ => .str _) (da_cons (de_tup (da_cons (de_cst pe_str fun _ _ => .str _) (da_cons (de_cst pe_str fun _ _ => .str _) da_nil))) da_nil))) (da_cons (de_nm (pv 0)) da_nil))))))))
theorem ok_law (T : Top P w K mg) (tb : List (Addr × Str)) (EA : EAll T base tb) (LL : Lams T base tb) (CUP : FnOk P w K mg base (L2N.CX P w) 1 T.D__law_cup.a T.D__law_cup.u pp__law_cup (spCup K tb)) :
    FnOk P w K mg base (L2N.CX P w) 147 T.D_law.a T.D_law.u pp_law (spLaw K tb fun ns => runsTo d_law 5 (cupOf ns).1 (cupOf ns).2) := by
  refine fn_mixed (W := fun c => c.K.f = K ∧ c.K.T = tb) (t0 := tCup K tb 0 1) T.D_law.F sc_law rfl (fun vs H Q E h => by obtain ⟨a, ns, rfl, _⟩ := h; rfl) (fun cdv A outer s H E hr hcd => ⟨⟨k0x K tb (lam_law s.heap.objs.size), mg, flds, E⟩, ⟨rfl, rfl⟩, ps_cup CUP (hr.mono (by decide)) (by rfl) T.D__law_cup.m T.D__law_cup.F.kp T.D__law_cup.b (pv 0) (pg_name (i := 1) sc_law.nd rfl (Or.inl rfl)), ?_⟩) (fun c vs H Q E hW h => law_sp rfl hW.1 hW.2 h)
  have nd := sc_law.nd
  have LA : LamAt base mg tb (cxOf (L2N.CX P w) P w K mg base nn_law "law" (defScope st_law) T.D_law.a cdv A outer s H E).env.code qv_law := hcd ▸ LL.la_law
  have tk : L2N.Takes (cxOf (L2N.CX P w) P w K mg base nn_law "law" (defScope st_law) T.D_law.a cdv A outer s H E) (fun cls d _ H => E cls d H) := L2N.takes_of rfl rfl rfl rfl
  have hLS : ∀ n, (bd_law n).isSome = true → LOk (LS_law n) ∧ LamX.LamS (cxOf (L2N.CX P w) P w K mg base nn_law "law" (defScope st_law) T.D_law.a cdv A outer s H E).env.scope (LS_law n).scope ∧ ∀ (q : Str) (clos : List (Str × Addr)) (pm cv ctv : Value), bindArgs (PySem.W.kla_fn "<lambda>" q (LS_law n).params (LS_law n).body (LS_law n).scope clos pm cv ctv) ⟨[], []⟩ = pure [] := fun n h => match n, h with
    | 0, _ => ⟨⟨rfl, rfl, rfl, by decide +kernel⟩, LamX.lamS_by (sc := defScope st_law) (by decide +kernel), fun _ _ _ _ _ => rfl⟩
    | 1, _ => ⟨⟨rfl, rfl, rfl, by decide +kernel⟩, LamX.lamS_by (sc := defScope st_law) (by decide +kernel), fun _ _ _ _ _ => rfl⟩
    | 2, _ => ⟨⟨rfl, rfl, rfl, by decide +kernel⟩, LamX.lamS_by (sc := defScope st_law) (by decide +kernel), fun _ _ _ _ _ => rfl⟩
    | 3, _ => ⟨⟨rfl, rfl, rfl, by decide +kernel⟩, LamX.lamS_by (sc := defScope st_law) (by decide +kernel), fun _ _ _ _ _ => rfl⟩
    | 4, _ => ⟨⟨rfl, rfl, rfl, by decide +kernel⟩, LamX.lamS_by (sc := defScope st_law) (by decide +kernel), fun _ _ _ _ _ => rfl⟩
    | 5, _ => ⟨⟨rfl, rfl, rfl, by decide +kernel⟩, LamX.lamS_by (sc := defScope st_law) (by decide +kernel), fun _ _ _ _ _ => rfl⟩
    | 6, _ => ⟨⟨rfl, rfl, rfl, by decide +kernel⟩, LamX.lamS_by (sc := defScope st_law) (by decide +kernel), fun _ _ _ _ _ => rfl⟩
    | 7, _ => ⟨⟨rfl, rfl, rfl, by decide +kernel⟩, LamX.lamS_by (sc := defScope st_law) (by decide +kernel), fun _ _ _ _ _ => rfl⟩
    | 8, _ => ⟨⟨rfl, rfl, rfl, by decide +kernel⟩, LamX.lamS_by (sc := defScope st_law) (by decide +kernel), fun _ _ _ _ _ => rfl⟩
    | 9, _ => ⟨⟨rfl, rfl, rfl, by decide +kernel⟩, LamX.lamS_by (sc := defScope st_law) (by decide +kernel), fun _ _ _ _ _ => rfl⟩
    | 10, _ => ⟨⟨rfl, rfl, rfl, by decide +kernel⟩, LamX.lamS_by (sc := defScope st_law) (by decide +kernel), fun _ _ _ _ _ => rfl⟩
    | _ + 11, h => by cases h
  have hbody : ∀ (n : Nat) (f : Den D), bd_law n = some f → ∀ (A1 : Around) (outer1 : List Env) (s1 : Shared) (H1 : Hp) (E1 : XK) (f0 b0 : Addr), Room 143 (A1.deeper (lEnv (qv_law ++ "<lambda>") (LS_law n) (cloFrom (cxOf (L2N.CX P w) P w K mg base nn_law "law" (defScope st_law) T.D_law.a cdv A outer s H E).env.cells (LS_law n).scope.names []) s1.heap.objs.size f0 b0)) →
      PE (lCx P w K mg base nn_law (qv_law ++ "<lambda>") (LS_law n) (cloFrom (cxOf (L2N.CX P w) P w K mg base nn_law "law" (defScope st_law) T.D_law.a cdv A outer s H E).env.cells (LS_law n).scope.names []) f0 b0 A1 outer1 s1 H1 E1) (LS_law n).body (sE ⟨k0x K tb (lam_law s.heap.objs.size), mg, flds, E1⟩ f) := fun n f e => match n, e with
    | 0, rfl => fun A1 outer1 s1 H1 E1 f0 b0 hr => by
      have tk : L2N.Takes (lCx P w K mg base nn_law (qv_law ++ "<lambda>") (LS_law 0) (cloFrom (cxOf (L2N.CX P w) P w K mg base nn_law "law" (defScope st_law) T.D_law.a cdv A outer s H E).env.cells (LS_law 0).scope.names []) f0 b0 A1 outer1 s1 H1 E1) (fun cls d _ H => E1 cls d H) := L2N.takes_of rfl rfl rfl rfl
      exact (de_call tk (ok_is_without_deeds T tb (lam_law s.heap.objs.size)) (hr.mono (by decide)) (by rfl) T.D_is_without_deeds.m T.D_is_without_deeds.F.kp T.D_is_without_deeds.b (da_cons (de_cst pe_non fun _ _ => .non) da_nil))
    | 1, rfl => fun A1 outer1 s1 H1 E1 f0 b0 hr => by
      have tk : L2N.Takes (lCx P w K mg base nn_law (qv_law ++ "<lambda>") (LS_law 1) (cloFrom (cxOf (L2N.CX P w) P w K mg base nn_law "law" (defScope st_law) T.D_law.a cdv A outer s H E).env.cells (LS_law 1).scope.names []) f0 b0 A1 outer1 s1 H1 E1) (fun cls d _ H => E1 cls d H) := L2N.takes_of rfl rfl rfl rfl
      exact (de_call tk (ok_by_trees T tb (lam_law s.heap.objs.size)) (hr.mono (by decide)) (by rfl) T.D_by_trees.m T.D_by_trees.F.kp T.D_by_trees.b (da_cons (de_nm (pv 3)) da_nil))
    | 2, rfl => fun A1 outer1 s1 H1 E1 f0 b0 hr => by
      have tk : L2N.Takes (lCx P w K mg base nn_law (qv_law ++ "<lambda>") (LS_law 2) (cloFrom (cxOf (L2N.CX P w) P w K mg base nn_law "law" (defScope st_law) T.D_law.a cdv A outer s H E).env.cells (LS_law 2).scope.names []) f0 b0 A1 outer1 s1 H1 E1) (fun cls d _ H => E1 cls d H) := L2N.takes_of rfl rfl rfl rfl
      exact (de_call tk (ok_shown_by T tb (lam_law s.heap.objs.size)) (hr.mono (by decide)) (by rfl) T.D_shown_by.m T.D_shown_by.F.kp T.D_shown_by.b (da_cons (de_nm (pv 3)) (da_cons (de_cst pe_str fun _ _ => .str _) (da_cons (de_cst pe_int fun _ _ => .int _) da_nil))))
    | 3, rfl => fun A1 outer1 s1 H1 E1 f0 b0 hr => by
      have tk : L2N.Takes (lCx P w K mg base nn_law (qv_law ++ "<lambda>") (LS_law 3) (cloFrom (cxOf (L2N.CX P w) P w K mg base nn_law "law" (defScope st_law) T.D_law.a cdv A outer s H E).env.cells (LS_law 3).scope.names []) f0 b0 A1 outer1 s1 H1 E1) (fun cls d _ H => E1 cls d H) := L2N.takes_of rfl rfl rfl rfl
      exact (de_call tk (ok_shown_by T tb (lam_law s.heap.objs.size)) (hr.mono (by decide)) (by rfl) T.D_shown_by.m T.D_shown_by.F.kp T.D_shown_by.b (da_cons (de_nm (pv 3)) (da_cons (de_cst pe_str fun _ _ => .str _) (da_cons (de_cst pe_int fun _ _ => .int _) da_nil))))
    | 4, rfl => fun A1 outer1 s1 H1 E1 f0 b0 hr => by
      have tk : L2N.Takes (lCx P w K mg base nn_law (qv_law ++ "<lambda>") (LS_law 4) (cloFrom (cxOf (L2N.CX P w) P w K mg base nn_law "law" (defScope st_law) T.D_law.a cdv A outer s H E).env.cells (LS_law 4).scope.names []) f0 b0 A1 outer1 s1 H1 E1) (fun cls d _ H => E1 cls d H) := L2N.takes_of rfl rfl rfl rfl
      exact (de_call tk (ok_by_next T tb (lam_law s.heap.objs.size)) (hr.mono (by decide)) (by rfl) T.D_by_next.m T.D_by_next.F.kp T.D_by_next.b (da_cons (de_nm (pv 3)) da_nil))
    | 5, rfl => fun A1 outer1 s1 H1 E1 f0 b0 hr => by
      have tk : L2N.Takes (lCx P w K mg base nn_law (qv_law ++ "<lambda>") (LS_law 5) (cloFrom (cxOf (L2N.CX P w) P w K mg base nn_law "law" (defScope st_law) T.D_law.a cdv A outer s H E).env.cells (LS_law 5).scope.names []) f0 b0 A1 outer1 s1 H1 E1) (fun cls d _ H => E1 cls d H) := L2N.takes_of rfl rfl rfl rfl
      exact (de_call tk (ok_shown_by T tb (lam_law s.heap.objs.size)) (hr.mono (by decide)) (by rfl) T.D_shown_by.m T.D_shown_by.F.kp T.D_shown_by.b (da_cons (de_nm (pv 3)) (da_cons (de_cst pe_str fun _ _ => .str _) (da_cons (de_cst pe_int fun _ _ => .int _) da_nil))))
    | 6, rfl => fun A1 outer1 s1 H1 E1 f0 b0 hr => by
      have tk : L2N.Takes (lCx P w K mg base nn_law (qv_law ++ "<lambda>") (LS_law 6) (cloFrom (cxOf (L2N.CX P w) P w K mg base nn_law "law" (defScope st_law) T.D_law.a cdv A outer s H E).env.cells (LS_law 6).scope.names []) f0 b0 A1 outer1 s1 H1 E1) (fun cls d _ H => E1 cls d H) := L2N.takes_of rfl rfl rfl rfl
      exact (de_call tk (ok_by_trees T tb (lam_law s.heap.objs.size)) (hr.mono (by decide)) (by rfl) T.D_by_trees.m T.D_by_trees.F.kp T.D_by_trees.b (da_cons (de_nm (pv 5)) da_nil))
    | 7, rfl => fun A1 outer1 s1 H1 E1 f0 b0 hr => by
      have tk : L2N.Takes (lCx P w K mg base nn_law (qv_law ++ "<lambda>") (LS_law 7) (cloFrom (cxOf (L2N.CX P w) P w K mg base nn_law "law" (defScope st_law) T.D_law.a cdv A outer s H E).env.cells (LS_law 7).scope.names []) f0 b0 A1 outer1 s1 H1 E1) (fun cls d _ H => E1 cls d H) := L2N.takes_of rfl rfl rfl rfl
      exact (de_call tk (ok_by_next T tb (lam_law s.heap.objs.size)) (hr.mono (by decide)) (by rfl) T.D_by_next.m T.D_by_next.F.kp T.D_by_next.b (da_cons (de_nm (pv 5)) da_nil))
    | 8, rfl => fun A1 outer1 s1 H1 E1 f0 b0 hr => by
      have tk : L2N.Takes (lCx P w K mg base nn_law (qv_law ++ "<lambda>") (LS_law 8) (cloFrom (cxOf (L2N.CX P w) P w K mg base nn_law "law" (defScope st_law) T.D_law.a cdv A outer s H E).env.cells (LS_law 8).scope.names []) f0 b0 A1 outer1 s1 H1 E1) (fun cls d _ H => E1 cls d H) := L2N.takes_of rfl rfl rfl rfl
      exact (de_call tk (ok_talk_of T tb (lam_law s.heap.objs.size)) (hr.mono (by decide)) (by rfl) T.D_talk_of.m T.D_talk_of.F.kp T.D_talk_of.b (da_cons (de_tup (da_cons (de_cst pe_str fun _ _ => .str _) (da_cons (de_cst pe_int fun _ _ => .int _) da_nil))) (da_cons (de_bin rfl (de_tup (da_cons (de_tup (da_cons (de_cst pe_str fun _ _ => .str _) (da_cons (de_cst pe_int fun _ _ => .int _) da_nil))) da_nil)) (de_cst pe_int fun _ _ => .int _)) (da_cons (de_cst pe_int fun _ _ => .int _) da_nil))))
    | 9, rfl => fun A1 outer1 s1 H1 E1 f0 b0 hr => by
      have tk : L2N.Takes (lCx P w K mg base nn_law (qv_law ++ "<lambda>") (LS_law 9) (cloFrom (cxOf (L2N.CX P w) P w K mg base nn_law "law" (defScope st_law) T.D_law.a cdv A outer s H E).env.cells (LS_law 9).scope.names []) f0 b0 A1 outer1 s1 H1 E1) (fun cls d _ H => E1 cls d H) := L2N.takes_of rfl rfl rfl rfl
      exact (de_call tk (ok_deed_tree T tb (lam_law s.heap.objs.size)) (hr.mono (by decide)) (by rfl) T.D_deed_tree.m T.D_deed_tree.F.kp T.D_deed_tree.b (da_cons (de_tup (da_cons (de_cst pe_str fun _ _ => .str _) (da_cons (de_cst pe_int fun _ _ => .int _) da_nil))) (da_cons (de_tup da_nil) (da_cons (de_cst pe_int fun _ _ => .int _) (da_cons (de_cst pe_int fun _ _ => .int _) da_nil)))))
    | 10, rfl => fun A1 outer1 s1 H1 E1 f0 b0 hr => by
      have tk : L2N.Takes (lCx P w K mg base nn_law (qv_law ++ "<lambda>") (LS_law 10) (cloFrom (cxOf (L2N.CX P w) P w K mg base nn_law "law" (defScope st_law) T.D_law.a cdv A outer s H E).env.cells (LS_law 10).scope.names []) f0 b0 A1 outer1 s1 H1 E1) (fun cls d _ H => E1 cls d H) := L2N.takes_of rfl rfl rfl rfl
      exact (de_call tk (ok_deed_tree T tb (lam_law s.heap.objs.size)) (hr.mono (by decide)) (by rfl) T.D_deed_tree.m T.D_deed_tree.F.kp T.D_deed_tree.b (da_cons (de_tup (da_cons (de_cst pe_str fun _ _ => .str _) (da_cons (de_cst pe_int fun _ _ => .int _) da_nil))) (da_cons (de_tup (da_cons (de_tup (da_cons (de_cst pe_str fun _ _ => .str _) (da_cons (de_cst pe_int fun _ _ => .int _) da_nil))) da_nil)) (da_cons (de_cst pe_int fun _ _ => .int _) (da_cons (de_cst pe_int fun _ _ => .int _) da_nil)))))
    | _ + 11, e => by cases e
  have ERR : ∀ {fe : Den D} {e : Expr} {p pos : Pos}, PE (cxOf (L2N.CX P w) P w K mg base nn_law "law" (defScope st_law) T.D_law.a cdv A outer s H E) e (sE ⟨k0x K tb (lam_law s.heap.objs.size), mg, flds, E⟩ fe) → (starEach [e] (cxOf (L2N.CX P w) P w K mg base nn_law "law" (defScope st_law) T.D_law.a cdv A outer s H E).env = (false, eval e (cxOf (L2N.CX P w) P w K mg base nn_law "law" (defScope st_law) T.D_law.a cdv A outer s H E).env) :: starEach [] (cxOf (L2N.CX P w) P w K mg base nn_law "law" (defScope st_law) T.D_law.a cdv A outer s H E).env) → PE (cxOf (L2N.CX P w) P w K mg base nn_law "law" (defScope st_law) T.D_law.a cdv A outer s H E) (.Call (.Name "_law_error" p) [e] [] pos) (sE ⟨k0x K tb (lam_law s.heap.objs.size), mg, flds, E⟩ (errC known nn__law_name.length dnm [] bd_law fe)) := fun {fe e p pos} he hst =>
    de_errD (kl := 143) rfl rfl rfl rfl rfl EA hLS hbody (hr.mono (by decide)) (by decide) (by rfl) he (by decide) hst
  exact (ds_cons (ds_set (ps_asg (de_lst (da_cons (de_cst pe_non fun _ _ => .non) (da_cons (de_cst pe_int fun _ _ => .int _) (da_cons (de_tup da_nil) (da_cons (de_tup (da_cons (de_cst pe_str fun _ _ => .str _) (da_cons (de_cst pe_bl fun _ _ => .bl _) da_nil))) (da_cons (de_tup (da_cons (de_cst pe_str fun _ _ => .str _) da_nil)) (da_cons (de_lst (da_cons (de_cst pe_str fun _ _ => .str _) (da_cons (de_cst pe_int fun _ _ => .int _) da_nil))) (da_cons (de_tup (da_cons (de_cst pe_str fun _ _ => .str _) (da_cons (de_cst pe_str fun _ _ => .str _) (da_cons (de_tup (da_cons (de_cst pe_str fun _ _ => .str _) (da_cons (de_cst pe_int fun _ _ => .int _) da_nil))) da_nil)))) da_nil)))))))) (dg_nm (pg_name (i := 2) nd rfl (Or.inl rfl)))))
      (ds_cons (ds_set (ps_asg (de_bin rfl (de_nm (pv 2)) (de_lst (da_cons (de_tup (da_cons (de_cst pe_str fun _ _ => .str _) (da_cons (de_cst pe_str fun _ _ => .str _) (da_cons (de_tup (da_cons (de_cst pe_str fun _ _ => .str _) (da_cons (de_cst pe_int fun _ _ => .int _) da_nil))) (da_cons (de_tup (da_cons (de_cst pe_str fun _ _ => .str _) (da_cons (de_cst pe_int fun _ _ => .int _) da_nil))) da_nil))))) da_nil))) (dg_nm (pg_name (i := 2) nd rfl (Or.inl rfl)))))
      (ds_cons (ds_trim (ds_if (PW.pt (dw_or (dt_not (dt_val rfl (de_call tk (ok__law_programs_right T tb (lam_law s.heap.objs.size) EA LL) (hr.mono (by decide)) (by rfl) T.D__law_programs_right.m T.D__law_programs_right.F.kp T.D__law_programs_right.b (da_cons (de_call tk (ok__law_some T tb (lam_law s.heap.objs.size)) (hr.mono (by decide)) (by rfl) T.D__law_some.m T.D__law_some.F.kp T.D__law_some.b (da_cons (de_nm (pv 1)) (da_cons (de_nm (pv 2)) da_nil))) (da_cons (de_cst pe_str fun _ _ => .str _) da_nil))))) (dw_or1 (dt_not (dt_val rfl (de_call tk (ok__law_programs_right T tb (lam_law s.heap.objs.size) EA LL) (hr.mono (by decide)) (by rfl) T.D__law_programs_right.m T.D__law_programs_right.F.kp T.D__law_programs_right.b (da_cons (de_tup (da_cons (de_cst pe_str fun _ _ => .str _) (da_cons (de_cst pe_str fun _ _ => .str _) da_nil))) (da_cons (de_cst pe_str fun _ _ => .str _) da_nil)))))))) dss_stuck ds_nil))
      (ds_cons (ds_trim (ds_if (PW.pt (dw_or (dt_cmp rfl (hu65 hr) (de_call tk (ok_is_without_deeds T tb (lam_law s.heap.objs.size)) (hr.mono (by decide)) (by rfl) T.D_is_without_deeds.m T.D_is_without_deeds.F.kp T.D_is_without_deeds.b (da_cons (de_tup (da_cons (de_cst pe_str fun _ _ => .str _) (da_cons (de_cst pe_str fun _ _ => .str _) da_nil))) da_nil)) (de_cst pe_bl fun _ _ => .bl _) (nomark _)) (dw_or1 (dt_cmp rfl (hu65 hr) (de_trim (ERR (de_lamN rfl rfl rfl LA (LamX.lamS_by (sc := defScope st_law) (by decide +kernel)) rfl rfl (n := 0)) (by rfl))) (de_cst pe_str fun _ _ => .str _) (nomark _))))) dss_stuck ds_nil))
      (ds_cons (ds_trim (ds_if (dt_not (dt_val rfl (de_call tk (ok__law_others_right T tb (lam_law s.heap.objs.size) EA LL) (hr.mono (by decide)) (by rfl) T.D__law_others_right.m T.D__law_others_right.F.kp T.D__law_others_right.b (da_cons (de_call tk (ok__law_some T tb (lam_law s.heap.objs.size)) (hr.mono (by decide)) (by rfl) T.D__law_some.m T.D__law_some.F.kp T.D__law_some.b (da_cons (de_nm (pv 1)) (da_cons (de_lst (da_cons (de_cst pe_non fun _ _ => .non) (da_cons (de_neg rfl (de_cst pe_int fun _ _ => .int _)) (da_cons (de_cst pe_str fun _ _ => .str _) (da_cons (de_cst pe_str fun _ _ => .str _) (da_cons (de_cst pe_bl fun _ _ => .bl _) (da_cons (de_tup (da_cons (de_cst pe_str fun _ _ => .str _) (da_cons (de_cst pe_int fun _ _ => .int _) da_nil))) (da_cons (de_lst da_nil) (da_cons (de_tup (da_cons (de_tup (da_cons (de_cst pe_str fun _ _ => .str _) (da_cons (de_cst pe_str fun _ _ => .str _) da_nil))) da_nil)) (da_cons (de_cst pe_bl fun _ _ => .bl _) da_nil)))))))))) da_nil))) da_nil)))) dss_stuck ds_nil))
      (ds_cons (ds_set (ps_asg (de_trim (de_call0 tk (ok__law_six T tb (lam_law s.heap.objs.size)) (hr.mono (by decide)) (by rfl) T.D__law_six.m T.D__law_six.F.kp T.D__law_six.b)) (dg_nm (pg_name (i := 3) nd rfl (Or.inr rfl)))))
      (ds_cons (ds_set (ps_asg (de_lst (da_cons (de_trim (ERR (de_lamN rfl rfl rfl LA (LamX.lamS_by (sc := defScope st_law) (by decide +kernel)) rfl rfl (n := 1)) (by rfl))) da_nil)) (dg_nm (pg_name (i := 4) nd rfl (Or.inl rfl)))))
      (ds_cons (ds_expr (de_meth rfl PySem.F.plainAttrs_list PySem.F.slot_list_append PySem.F.type_list_append (mr_append rfl) (de_nm (pv 4)) (da_cons (de_trim (ERR (de_lamN rfl rfl rfl LA (LamX.lamS_by (sc := defScope st_law) (by decide +kernel)) rfl rfl (n := 2)) (by rfl))) da_nil)))
      (ds_cons (ds_expr (de_meth rfl PySem.F.plainAttrs_list PySem.F.slot_list_append PySem.F.type_list_append (mr_append rfl) (de_nm (pv 4)) (da_cons (de_trim (ERR (de_lamN rfl rfl rfl LA (LamX.lamS_by (sc := defScope st_law) (by decide +kernel)) rfl rfl (n := 3)) (by rfl))) da_nil)))
      (ds_cons (ds_trim (ds_if (dt_cmp rfl (hu65 hr) (de_nm (pv 4)) (de_lst (da_cons (de_cst pe_str fun _ _ => .str _) (da_cons (de_cst pe_str fun _ _ => .str _) (da_cons (de_cst pe_str fun _ _ => .str _) da_nil)))) (nomark _)) dss_stuck ds_nil))
      (ds_cons (ds_trim (ds_if (dt_cmp rfl (hu65 hr) (de_trim (ERR (de_lamN rfl rfl rfl LA (LamX.lamS_by (sc := defScope st_law) (by decide +kernel)) rfl rfl (n := 4)) (by rfl))) (de_cst pe_str fun _ _ => .str _) (nomark _)) dss_stuck ds_nil))
      (ds_cons (ds_trim (ds_if (dt_cmp rfl (hu65 hr) (de_trim (ERR (de_lamN rfl rfl rfl LA (LamX.lamS_by (sc := defScope st_law) (by decide +kernel)) rfl rfl (n := 5)) (by rfl))) (de_cst pe_str fun _ _ => .str _) (nomark _)) dss_stuck ds_nil))
      (ds_cons (ds_set (ps_asg (de_tup (da_cons (de_cst pe_str fun _ _ => .str _) (da_cons (de_cst pe_int fun _ _ => .int _) da_nil))) (dg_nm (pg_name (i := 5) nd rfl (Or.inr rfl)))))
      (ds_cons (ds_for (n := 100000) (passes_of rfl) rfl (dp_rng1 (by rfl) T.n_range (da_cons (de_cst pe_int fun _ _ => .int _) da_nil)) (dg_nm (pg_name (i := 6) nd rfl (Or.inl rfl))) (ds_one (ds_set (ps_asg (de_tup (da_cons (de_cst pe_str fun _ _ => .str _) (da_cons (de_cst pe_str fun _ _ => .str _) (da_cons (de_tup (da_cons (de_cst pe_str fun _ _ => .str _) (da_cons (de_cst pe_int fun _ _ => .int _) da_nil))) (da_cons (de_nm (pv 5)) da_nil))))) (dg_nm (pg_name (i := 5) nd rfl (Or.inr rfl)))))))
      (ds_cons (ds_trim (ds_if (dt_cmp rfl (hu65 hr) (de_trim (ERR (de_lamN rfl rfl rfl LA (LamX.lamS_by (sc := defScope st_law) (by decide +kernel)) rfl rfl (n := 6)) (by rfl))) (de_cst pe_str fun _ _ => .str _) (nomark _)) dss_stuck ds_nil))
      (ds_cons (ds_trim (ds_if (dt_cmp rfl (hu65 hr) (de_trim (ERR (de_lamN rfl rfl rfl LA (LamX.lamS_by (sc := defScope st_law) (by decide +kernel)) rfl rfl (n := 7)) (by rfl))) (de_cst pe_str fun _ _ => .str _) (nomark _)) dss_stuck ds_nil))
      (ds_cons (ds_trim (ds_if (dt_cmp rfl (hu65 hr) (de_trim (ERR (de_lamN rfl rfl rfl LA (LamX.lamS_by (sc := defScope st_law) (by decide +kernel)) rfl rfl (n := 8)) (by rfl))) (de_cst pe_str fun _ _ => .str _) (nomark _)) dss_stuck ds_nil))
      (ds_cons (ds_trim (ds_if (dt_cmp rfl (hu65 hr) (de_trim (ERR (de_lamN rfl rfl rfl LA (LamX.lamS_by (sc := defScope st_law) (by decide +kernel)) rfl rfl (n := 9)) (by rfl))) (de_cst pe_str fun _ _ => .str _) (nomark _)) dss_stuck ds_nil))
      (ds_one (ds_ret (de_and (de_cmp rfl (hu65 hr) (de_trim (ERR (de_lamN rfl rfl rfl LA (LamX.lamS_by (sc := defScope st_law) (by decide +kernel)) rfl rfl (n := 10)) (by rfl))) (de_cst pe_str fun _ _ => .str _) (nomark _)) (pe_one (de_cmp rfl (hu65 hr) (de_call tk (ok_tag_deed T tb (lam_law s.heap.objs.size)) (hr.mono (by decide)) (by rfl) T.D_tag_deed.m T.D_tag_deed.F.kp T.D_tag_deed.b (da_cons (de_cst pe_str fun _ _ => .str _) da_nil)) (de_cst pe_str fun _ _ => .str _) (nomark _))))))))))))))))))))))))
end
end Py

-- E32
set_option maxRecDepth 100000
set_option maxHeartbeats 4000000
noncomputable section
namespace Py
open PySem PySem.Spec PyProof.Rows L2 PyD PyL PyH L2H HotX PyM
/-! ### the draws -/
abbrev cupC (g c : Int) : Cell := .lst [.int g, .int c]
theorem cup_eval (z : Int) : ∃ r', d__law_cup [none, some (.int z), none] [] = some (.rt (.lst 0), r', [.lst [.int (cup2 z).1, .int (cup2 z).2]]) := by
  by_cases h : (1000000000000000000 : Int) ≤ z
  · refine ⟨[none, some (.int z), some (.int (z / 11))], ?_⟩
    have e : ((10 : Int) ^ (18 : Int).toNat) = 1000000000000000000 := by decide
    have l11 : Nat.log2 11 < 9000 := by decide +kernel
    simp [sGet_eq, sApp_eq, l11, d__law_cup, seqS, setS, bindS, ifE, btestD, op2, bindD, liftD, nmD, cstD, binD, cmpD, powD, geD, nmT, retS, opS, consD, nilD, addD, mulD, modD, PyD.intD, fdivD, lstD, blD, cup2, h, e]
  · refine ⟨[none, some (.int z), some (.int 0)], ?_⟩
    have e : ((10 : Int) ^ (18 : Int).toNat) = 1000000000000000000 := by decide
    have l11 : Nat.log2 11 < 9000 := by decide +kernel
    simp [sGet_eq, sApp_eq, l11, d__law_cup, seqS, setS, bindS, ifE, btestD, op2, bindD, liftD, nmD, cstD, binD, cmpD, powD, geD, nmT, retS, opS, consD, nilD, addD, mulD, modD, PyD.intD, fdivD, lstD, blD, cup2, h, e]
theorem log_small {n : Nat} (h : n < 1000) : n.log2 < 9000 := by
  have := Nat.log2_le_self n
  omega
theorem at0 (x y : D) : atI [x, y] 0 = some x := by kernel_rfl
theorem at1 (x y : D) : atI [x, y] 1 = some y := by kernel_rfl
theorem ix0 : ixN 2 0 = some 0 := by kernel_rfl
theorem ix1 : ixN 2 1 = some 1 := by kernel_rfl
theorem roll_big (g c : Int) (n : Nat) (R : Sto) (hn : 0 < n) (hg : 0 < g) (hb : n < 1000) : f__law_roll [.lst 0, .int n] (cupC g c :: R) = some (.ok (.int (g.fmod n)), cupC (g / n) c :: R) := by
  have h0 : (n : Int) ≠ 0 := by omega
  have h1 := log_small hb
  have h2 : ¬ n = 0 := by omega
  simp [sGet_eq, sApp_eq, f__law_roll, bodyF, d__law_roll, seqS, ifS, setS, putS, putD, bindS, btestD, op2, bindD, liftD, nmD, cstD, itemD, ixD, ixN, binD, cmpD, gtD, nmT, retS, opS, consD, nilD, modD, PyD.intD, fdivD, blD, cupC, at0, at1, ix0, ix1, hg, h0, h1, h2, hn]
theorem roll_small (c : Int) (n : Nat) (R : Sto) (hn : 0 < n) (hb : n < 1000) : ∃ c' z : Int, f__law_roll [.lst 0, .int n] (cupC 0 c :: R) = some (.ok (.int (z.fmod n)), cupC 0 c' :: R) := by
  have h0 : (n : Int) ≠ 0 := by omega
  have h2 : ¬ n = 0 := by omega
  obtain ⟨c1, hc1, h3, h4⟩ : ∃ c1 : Int, (c * 30671 + 7919).fmod 2147483549 = c1 ∧ 0 ≤ c1 ∧ c1 < 2147483549 := ⟨_, rfl, Int.fmod_nonneg_of_pos _ (by decide), Int.fmod_lt_of_pos _ (by decide)⟩
  obtain ⟨z1, hz1⟩ : ∃ z1 : Int, (c1 * (c1 + 131)).fmod 2147483587 = z1 := ⟨_, rfl⟩
  refine ⟨c1, z1 / 709, ?_⟩
  have h5 : -18446744073709551616 < c1 + 131 ∧ c1 + 131 < 18446744073709551616 := ⟨by omega, by omega⟩
  have l709 : Nat.log2 709 < 9000 := by decide +kernel
  simp [sGet_eq, sApp_eq, f__law_roll, bodyF, d__law_roll, seqS, ifS, setS, putS, putD, bindS, btestD, op2, bindD, liftD, nmD, cstD, itemD, ixD, binD, cmpD, gtD, nmT, retS, opS, consD, nilD, modD, PyD.intD, fdivD, blD, cupC, mulD, addD, skipS, at0, at1, ix0, ix1, h0, h2, l709, hc1, h5.1, h5.2, hz1]
theorem roll_eval (g c : Int) (n : Nat) (R : Sto) (hn : 0 < n) (hg : 0 ≤ g) (hb : n < 1000) : ∃ (j : Nat) (g' c' : Int), j < n ∧ 0 ≤ g' ∧ f__law_roll [.lst 0, .int n] (cupC g c :: R) = some (.ok (.int j), cupC g' c' :: R) := by
  have hp : (0 : Int) < n := by omega
  have key : ∀ z : Int, ∃ j : Nat, j < n ∧ z.fmod n = j := fun z => ⟨(z.fmod n).toNat, by have := Int.fmod_lt_of_pos z hp; have := Int.fmod_nonneg_of_pos z hp; omega, by have := Int.fmod_nonneg_of_pos z hp; omega⟩
  by_cases h : 0 < g
  · obtain ⟨j, hj, e⟩ := key g
    refine ⟨j, g / n, c, hj, Int.ediv_nonneg hg (by omega), ?_⟩
    rw [roll_big g c n R hn h hb, e]
  · have e0 : g = 0 := by omega
    subst e0
    obtain ⟨c', z, e1⟩ := roll_small c n R hn hb
    obtain ⟨j, hj, e⟩ := key z
    exact ⟨j, 0, c', hj, Int.le_refl _, by rw [e1, e]⟩
theorem seq_nx {a b : SDen} {r r1 : DEnv} {M M1 : Sto} (h : a r M = some (.nx, r1, M1)) : seqS a b r M = b r1 M1 := by
  unfold seqS
  rw [h]
theorem of_map {x : Option (Fl × DEnv × Sto)} {f : Fl} (h : x.map (·.1) = some f) : ∃ r' M', x = some (f, r', M') := by
  cases x with
  | none => cases h
  | some p =>
    obtain ⟨f', r', M'⟩ := p
    cases h
    exact ⟨r', M', rfl⟩
theorem ret_and {A B : Den D} {r : DEnv} {M M1 : Sto} (h1 : A r M = some (.ok (.bl true), M1)) (h2 : (B r M1).map (·.1) = some (.ok (.bl true))) : (retS (andE A B) r M).map (·.1) = some (.rt (.bl true)) := by
  simp only [retS, bindS, andE, bindD, h1]
  cases hb : B r M1 with
  | none => rw [hb] at h2; cases h2
  | some p =>
    obtain ⟨x, M2⟩ := p
    rw [hb] at h2
    have e : x = .ok (.bl true) := Option.some.inj h2
    subst e
    rfl
theorem sec_swap {F : FDen} {X X2 : Den D} {T2 : Den Bool} {a b : SDen} {r : DEnv} {M M2 : Sto} (h : X r M = X2 r M2) (hl : M.length = M2.length) :
    trimS (ifS (orT (notT (testD (callE 1 F (consD X nilD)))) T2) a b) r M = trimS (ifS (orT (notT (testD (callE 1 F (consD X2 nilD)))) T2) a b) r M2 := by
  have e : ifS (orT (notT (testD (callE 1 F (consD X nilD)))) T2) a b r M = ifS (orT (notT (testD (callE 1 F (consD X2 nilD)))) T2) a b r M2 := by
    simp only [ifS, bindS, orT, notT, testD, callE, consD, bindD, h]
  simp only [trimS, e, hl]
theorem sec_eval {F : FDen} {L : Den D} {T2 : Den Bool} {a b : SDen} {r : DEnv} {R R1 : Sto} {things : List D} {k : Nat} (h1 : r[1]? = some (some (.lst 0))) (hL : ∀ g c, L r (cupC g c :: R) = some (.ok (.lst (k + 1)), cupC g c :: R1)) (hk : R1[k]? = some (.lst things)) (hn : 0 < things.length) (hb : things.length < 1000)
    (hE : ∀ x ∈ things, ∀ g c : Int, trimS (ifS (orT (notT (testD (callE 1 F (consD (bindD L fun _ => cstD x) nilD)))) T2) a b) r (cupC g c :: R) = some (.nx, r, cupC g c :: R)) :
    ∀ g c : Int, 0 ≤ g → ∃ g' c' : Int, 0 ≤ g' ∧ trimS (ifS (orT (notT (testD (callE 1 F (consD (callE 2 f__law_some (consD (nmD 1) (consD L nilD))) nilD)))) T2) a b) r (cupC g c :: R) = some (.nx, r, cupC g' c' :: R) := by
  intro g c hg
  obtain ⟨j, g', c', hj, hg', e⟩ := roll_eval g c things.length R1 hn hg hb
  refine ⟨g', c', hg', ?_⟩
  refine (sec_swap (X2 := bindD L fun _ => cstD things[j]) (M := cupC g c :: R) (M2 := cupC g' c' :: R) ?_ rfl).trans ?_
  rotate_left
  · exact hE _ (List.getElem_mem hj) g' c'
  · have hj0 : (j : Int) < (things.length : Int) := by omega
    have hj1 : (0 : Int) ≤ j := by omega
    have ei : ixN things.length (j : Int) = some j := by
      unfold ixN
      rw [if_pos hj1, if_pos hj0]
      simp
    have es : f__law_some [.lst 0, .lst (k + 1)] (cupC g c :: R1) = some (.ok things[j], cupC g' c' :: R1) := by
      simp [sGet_eq, sApp_eq, f__law_some, bodyF, d__law_some, retS, bindS, op2, bindD, nmD, callE, consD, nilD, opS, liftD, lenD, itemD, ixD, atI, hk, e, ei, List.getElem?_eq_getElem hj]
    simp [callE, bindD, consD, nilD, nmD, h1, hL, liftD, cstD, es]
/-- the same, wherever the choice stands first -/
theorem sec_evalC {C : Den D → SDen} {L : Den D} {r : DEnv} {R R1 : Sto} {things : List D} {k : Nat} (hC : ∀ (X X2 : Den D) (M M2 : Sto), X r M = X2 r M2 → M.length = M2.length → C X r M = C X2 r M2) (h1 : r[1]? = some (some (.lst 0))) (hL : ∀ g c, L r (cupC g c :: R) = some (.ok (.lst (k + 1)), cupC g c :: R1)) (hk : R1[k]? = some (.lst things)) (hn : 0 < things.length) (hb : things.length < 1000)
    (hE : ∀ x ∈ things, ∀ g c : Int, C (bindD L fun _ => cstD x) r (cupC g c :: R) = some (.nx, r, cupC g c :: R)) :
    ∀ g c : Int, 0 ≤ g → ∃ g' c' : Int, 0 ≤ g' ∧ C (callE 2 f__law_some (consD (nmD 1) (consD L nilD))) r (cupC g c :: R) = some (.nx, r, cupC g' c' :: R) := by
  intro g c hg
  obtain ⟨j, g', c', hj, hg', e⟩ := roll_eval g c things.length R1 hn hg hb
  refine ⟨g', c', hg', ?_⟩
  refine (hC _ (bindD L fun _ => cstD things[j]) (cupC g c :: R) (cupC g' c' :: R) ?_ rfl).trans ?_
  rotate_left
  · exact hE _ (List.getElem_mem hj) g' c'
  · have hj0 : (j : Int) < (things.length : Int) := by omega
    have hj1 : (0 : Int) ≤ j := by omega
    have ei : ixN things.length (j : Int) = some j := by
      unfold ixN
      rw [if_pos hj1, if_pos hj0]
      simp
    have es : f__law_some [.lst 0, .lst (k + 1)] (cupC g c :: R1) = some (.ok things[j], cupC g' c' :: R1) := by
      simp [sGet_eq, sApp_eq, f__law_some, bodyF, d__law_some, retS, bindS, op2, bindD, nmD, callE, consD, nilD, opS, liftD, lenD, itemD, ixD, atI, hk, e, ei, List.getElem?_eq_getElem hj]
    simp [callE, bindD, consD, nilD, nmD, h1, hL, liftD, cstD, es]
end Py

-- EvD32
set_option maxRecDepth 100000
set_option maxHeartbeats 8000000

noncomputable section
namespace Py
open PySem PySem.Spec PyProof.Rows L2 PyD PyL PyH L2H HotX PyM
def r_0 : DEnv := [none, some (.lst 0), none, none, none, none, none]
def R_0 : Sto := []
def r_1 : DEnv := [none, some (.lst 0), some (.lst 2), none, none, none, none]
def R_1 : Sto := [.lst [.str "num", .int 1], .lst [.non, .int 7, .tup [], .tup [.str "num", .bl true], .tup [.str "num"], .lst 1, .tup [.str "fun", .str "in", .tup [.str "num", .int 1]]]]
def r_2 : DEnv := [none, some (.lst 0), some (.lst 4), none, none, none, none]
def R_2 : Sto := [.lst [.str "num", .int 1], .lst [.non, .int 7, .tup [], .tup [.str "num", .bl true], .tup [.str "num"], .lst 1, .tup [.str "fun", .str "in", .tup [.str "num", .int 1]]], .lst [.tup [.str "op", .str "/", .tup [.str "num", .int 1], .tup [.str "num", .int 2]]], .lst [.non, .int 7, .tup [], .tup [.str "num", .bl true], .tup [.str "num"], .lst 1, .tup [.str "fun", .str "in", .tup [.str "num", .int 1]], .tup [.str "op", .str "/", .tup [.str "num", .int 1], .tup [.str "num", .int 2]]]]
def r_3 : DEnv := [none, some (.lst 0), some (.lst 4), none, none, none, none]
def R_3 : Sto := [.lst [.str "num", .int 1], .lst [.non, .int 7, .tup [], .tup [.str "num", .bl true], .tup [.str "num"], .lst 1, .tup [.str "fun", .str "in", .tup [.str "num", .int 1]]], .lst [.tup [.str "op", .str "/", .tup [.str "num", .int 1], .tup [.str "num", .int 2]]], .lst [.non, .int 7, .tup [], .tup [.str "num", .bl true], .tup [.str "num"], .lst 1, .tup [.str "fun", .str "in", .tup [.str "num", .int 1]], .tup [.str "op", .str "/", .tup [.str "num", .int 1], .tup [.str "num", .int 2]]]]
noncomputable def d_law_2_of (x : D) : SDen :=
    (trimS (ifS (orT (notT (testD (callE 2 f__law_programs_right (consD (bindD (nmD 2) fun _ => cstD x) (consD (cstD (.str "tree")) nilD))))) (notT (testD (callE 2 f__law_programs_right (consD (opS tupD (consD (cstD (.str "name")) (consD (cstD (.str "x")) nilD))) (consD (cstD (.str "program")) nilD)))))) stuckS skipS))
def th_2 : List D := [.non, .int 7, .tup [], .tup [.str "num", .bl true], .tup [.str "num"], .lst 1, .tup [.str "fun", .str "in", .tup [.str "num", .int 1]], .tup [.str "op", .str "/", .tup [.str "num", .int 1], .tup [.str "num", .int 2]]]
def r_4 : DEnv := [none, some (.lst 0), some (.lst 4), none, none, none, none]
def R_4 : Sto := [.lst [.str "num", .int 1], .lst [.non, .int 7, .tup [], .tup [.str "num", .bl true], .tup [.str "num"], .lst 1, .tup [.str "fun", .str "in", .tup [.str "num", .int 1]]], .lst [.tup [.str "op", .str "/", .tup [.str "num", .int 1], .tup [.str "num", .int 2]]], .lst [.non, .int 7, .tup [], .tup [.str "num", .bl true], .tup [.str "num"], .lst 1, .tup [.str "fun", .str "in", .tup [.str "num", .int 1]], .tup [.str "op", .str "/", .tup [.str "num", .int 1], .tup [.str "num", .int 2]]]]
def r_5 : DEnv := [none, some (.lst 0), some (.lst 4), none, none, none, none]
def R_5 : Sto := [.lst [.str "num", .int 1], .lst [.non, .int 7, .tup [], .tup [.str "num", .bl true], .tup [.str "num"], .lst 1, .tup [.str "fun", .str "in", .tup [.str "num", .int 1]]], .lst [.tup [.str "op", .str "/", .tup [.str "num", .int 1], .tup [.str "num", .int 2]]], .lst [.non, .int 7, .tup [], .tup [.str "num", .bl true], .tup [.str "num"], .lst 1, .tup [.str "fun", .str "in", .tup [.str "num", .int 1]], .tup [.str "op", .str "/", .tup [.str "num", .int 1], .tup [.str "num", .int 2]]]]
noncomputable def d_law_4_of (x : D) : SDen :=
    (trimS (ifS (notT (testD (callE 1 f__law_others_right (consD (bindD (opS lstD (consD (cstD .non) (consD (op1 negD (cstD (.int 1))) (consD (cstD (.str "In")) (consD (cstD (.str "fun")) (consD (cstD (.bl true)) (consD (opS tupD (consD (cstD (.str "num")) (consD (cstD (.int 1)) nilD))) (consD (opS lstD nilD) (consD (opS tupD (consD (opS tupD (consD (cstD (.str "name")) (consD (cstD (.str "x")) nilD))) nilD)) (consD (cstD (.bl false)) nilD)))))))))) fun _ => cstD x) nilD)))) stuckS skipS))
def th_4 : List D := [.non, .int (-1), .str "In", .str "fun", .bl true, .tup [.str "num", .int 1], .lst 5, .tup [.tup [.str "name", .str "x"]], .bl false]
def r_6 : DEnv := [none, some (.lst 0), some (.lst 4), some (.tup [.str "answer", .tup [.str "num", .int 1], .tup [.str "x", .tup [.str "name", .str "x"]], .tup [.tup [.str "a", .str "x", .str "k", .tup [.str "name", .str "x"]], .tup [.str "b", .str "x", .str "k", .tup [.str "name", .str "x"]], .tup [.str "c", .str "x", .str "k", .tup [.str "name", .str "x"]], .tup [.str "d", .str "x", .str "k", .tup [.str "name", .str "x"]], .tup [.str "e", .str "x", .str "k", .tup [.str "name", .str "x"]], .tup [.str "f", .str "x", .str "k", .tup [.str "name", .str "x"]]]]), none, none, none]
def R_6 : Sto := [.lst [.str "num", .int 1], .lst [.non, .int 7, .tup [], .tup [.str "num", .bl true], .tup [.str "num"], .lst 1, .tup [.str "fun", .str "in", .tup [.str "num", .int 1]]], .lst [.tup [.str "op", .str "/", .tup [.str "num", .int 1], .tup [.str "num", .int 2]]], .lst [.non, .int 7, .tup [], .tup [.str "num", .bl true], .tup [.str "num"], .lst 1, .tup [.str "fun", .str "in", .tup [.str "num", .int 1]], .tup [.str "op", .str "/", .tup [.str "num", .int 1], .tup [.str "num", .int 2]]]]
def r_7 : DEnv := [none, some (.lst 0), some (.lst 4), some (.tup [.str "answer", .tup [.str "num", .int 1], .tup [.str "x", .tup [.str "name", .str "x"]], .tup [.tup [.str "a", .str "x", .str "k", .tup [.str "name", .str "x"]], .tup [.str "b", .str "x", .str "k", .tup [.str "name", .str "x"]], .tup [.str "c", .str "x", .str "k", .tup [.str "name", .str "x"]], .tup [.str "d", .str "x", .str "k", .tup [.str "name", .str "x"]], .tup [.str "e", .str "x", .str "k", .tup [.str "name", .str "x"]], .tup [.str "f", .str "x", .str "k", .tup [.str "name", .str "x"]]]]), some (.lst 5), none, none]
def R_7 : Sto := [.lst [.str "num", .int 1], .lst [.non, .int 7, .tup [], .tup [.str "num", .bl true], .tup [.str "num"], .lst 1, .tup [.str "fun", .str "in", .tup [.str "num", .int 1]]], .lst [.tup [.str "op", .str "/", .tup [.str "num", .int 1], .tup [.str "num", .int 2]]], .lst [.non, .int 7, .tup [], .tup [.str "num", .bl true], .tup [.str "num"], .lst 1, .tup [.str "fun", .str "in", .tup [.str "num", .int 1]], .tup [.str "op", .str "/", .tup [.str "num", .int 1], .tup [.str "num", .int 2]]], .lst [.str "many 5"]]
def r_8 : DEnv := [none, some (.lst 0), some (.lst 4), some (.tup [.str "answer", .tup [.str "num", .int 1], .tup [.str "x", .tup [.str "name", .str "x"]], .tup [.tup [.str "a", .str "x", .str "k", .tup [.str "name", .str "x"]], .tup [.str "b", .str "x", .str "k", .tup [.str "name", .str "x"]], .tup [.str "c", .str "x", .str "k", .tup [.str "name", .str "x"]], .tup [.str "d", .str "x", .str "k", .tup [.str "name", .str "x"]], .tup [.str "e", .str "x", .str "k", .tup [.str "name", .str "x"]], .tup [.str "f", .str "x", .str "k", .tup [.str "name", .str "x"]]]]), some (.lst 5), none, none]
def R_8 : Sto := [.lst [.str "num", .int 1], .lst [.non, .int 7, .tup [], .tup [.str "num", .bl true], .tup [.str "num"], .lst 1, .tup [.str "fun", .str "in", .tup [.str "num", .int 1]]], .lst [.tup [.str "op", .str "/", .tup [.str "num", .int 1], .tup [.str "num", .int 2]]], .lst [.non, .int 7, .tup [], .tup [.str "num", .bl true], .tup [.str "num"], .lst 1, .tup [.str "fun", .str "in", .tup [.str "num", .int 1]], .tup [.str "op", .str "/", .tup [.str "num", .int 1], .tup [.str "num", .int 2]]], .lst [.str "many 5", .str "many 5"]]
def r_9 : DEnv := [none, some (.lst 0), some (.lst 4), some (.tup [.str "answer", .tup [.str "num", .int 1], .tup [.str "x", .tup [.str "name", .str "x"]], .tup [.tup [.str "a", .str "x", .str "k", .tup [.str "name", .str "x"]], .tup [.str "b", .str "x", .str "k", .tup [.str "name", .str "x"]], .tup [.str "c", .str "x", .str "k", .tup [.str "name", .str "x"]], .tup [.str "d", .str "x", .str "k", .tup [.str "name", .str "x"]], .tup [.str "e", .str "x", .str "k", .tup [.str "name", .str "x"]], .tup [.str "f", .str "x", .str "k", .tup [.str "name", .str "x"]]]]), some (.lst 5), none, none]
def R_9 : Sto := [.lst [.str "num", .int 1], .lst [.non, .int 7, .tup [], .tup [.str "num", .bl true], .tup [.str "num"], .lst 1, .tup [.str "fun", .str "in", .tup [.str "num", .int 1]]], .lst [.tup [.str "op", .str "/", .tup [.str "num", .int 1], .tup [.str "num", .int 2]]], .lst [.non, .int 7, .tup [], .tup [.str "num", .bl true], .tup [.str "num"], .lst 1, .tup [.str "fun", .str "in", .tup [.str "num", .int 1]], .tup [.str "op", .str "/", .tup [.str "num", .int 1], .tup [.str "num", .int 2]]], .lst [.str "many 5", .str "many 5", .str "none"]]
def r_10 : DEnv := [none, some (.lst 0), some (.lst 4), some (.tup [.str "answer", .tup [.str "num", .int 1], .tup [.str "x", .tup [.str "name", .str "x"]], .tup [.tup [.str "a", .str "x", .str "k", .tup [.str "name", .str "x"]], .tup [.str "b", .str "x", .str "k", .tup [.str "name", .str "x"]], .tup [.str "c", .str "x", .str "k", .tup [.str "name", .str "x"]], .tup [.str "d", .str "x", .str "k", .tup [.str "name", .str "x"]], .tup [.str "e", .str "x", .str "k", .tup [.str "name", .str "x"]], .tup [.str "f", .str "x", .str "k", .tup [.str "name", .str "x"]]]]), some (.lst 5), none, none]
def R_10 : Sto := [.lst [.str "num", .int 1], .lst [.non, .int 7, .tup [], .tup [.str "num", .bl true], .tup [.str "num"], .lst 1, .tup [.str "fun", .str "in", .tup [.str "num", .int 1]]], .lst [.tup [.str "op", .str "/", .tup [.str "num", .int 1], .tup [.str "num", .int 2]]], .lst [.non, .int 7, .tup [], .tup [.str "num", .bl true], .tup [.str "num"], .lst 1, .tup [.str "fun", .str "in", .tup [.str "num", .int 1]], .tup [.str "op", .str "/", .tup [.str "num", .int 1], .tup [.str "num", .int 2]]], .lst [.str "many 5", .str "many 5", .str "none"]]
def r_11 : DEnv := [none, some (.lst 0), some (.lst 4), some (.tup [.str "answer", .tup [.str "num", .int 1], .tup [.str "x", .tup [.str "name", .str "x"]], .tup [.tup [.str "a", .str "x", .str "k", .tup [.str "name", .str "x"]], .tup [.str "b", .str "x", .str "k", .tup [.str "name", .str "x"]], .tup [.str "c", .str "x", .str "k", .tup [.str "name", .str "x"]], .tup [.str "d", .str "x", .str "k", .tup [.str "name", .str "x"]], .tup [.str "e", .str "x", .str "k", .tup [.str "name", .str "x"]], .tup [.str "f", .str "x", .str "k", .tup [.str "name", .str "x"]]]]), some (.lst 5), none, none]
def R_11 : Sto := [.lst [.str "num", .int 1], .lst [.non, .int 7, .tup [], .tup [.str "num", .bl true], .tup [.str "num"], .lst 1, .tup [.str "fun", .str "in", .tup [.str "num", .int 1]]], .lst [.tup [.str "op", .str "/", .tup [.str "num", .int 1], .tup [.str "num", .int 2]]], .lst [.non, .int 7, .tup [], .tup [.str "num", .bl true], .tup [.str "num"], .lst 1, .tup [.str "fun", .str "in", .tup [.str "num", .int 1]], .tup [.str "op", .str "/", .tup [.str "num", .int 1], .tup [.str "num", .int 2]]], .lst [.str "many 5", .str "many 5", .str "none"]]
def r_12 : DEnv := [none, some (.lst 0), some (.lst 4), some (.tup [.str "answer", .tup [.str "num", .int 1], .tup [.str "x", .tup [.str "name", .str "x"]], .tup [.tup [.str "a", .str "x", .str "k", .tup [.str "name", .str "x"]], .tup [.str "b", .str "x", .str "k", .tup [.str "name", .str "x"]], .tup [.str "c", .str "x", .str "k", .tup [.str "name", .str "x"]], .tup [.str "d", .str "x", .str "k", .tup [.str "name", .str "x"]], .tup [.str "e", .str "x", .str "k", .tup [.str "name", .str "x"]], .tup [.str "f", .str "x", .str "k", .tup [.str "name", .str "x"]]]]), some (.lst 5), none, none]
def R_12 : Sto := [.lst [.str "num", .int 1], .lst [.non, .int 7, .tup [], .tup [.str "num", .bl true], .tup [.str "num"], .lst 1, .tup [.str "fun", .str "in", .tup [.str "num", .int 1]]], .lst [.tup [.str "op", .str "/", .tup [.str "num", .int 1], .tup [.str "num", .int 2]]], .lst [.non, .int 7, .tup [], .tup [.str "num", .bl true], .tup [.str "num"], .lst 1, .tup [.str "fun", .str "in", .tup [.str "num", .int 1]], .tup [.str "op", .str "/", .tup [.str "num", .int 1], .tup [.str "num", .int 2]]], .lst [.str "many 5", .str "many 5", .str "none"]]
def r_13 : DEnv := [none, some (.lst 0), some (.lst 4), some (.tup [.str "answer", .tup [.str "num", .int 1], .tup [.str "x", .tup [.str "name", .str "x"]], .tup [.tup [.str "a", .str "x", .str "k", .tup [.str "name", .str "x"]], .tup [.str "b", .str "x", .str "k", .tup [.str "name", .str "x"]], .tup [.str "c", .str "x", .str "k", .tup [.str "name", .str "x"]], .tup [.str "d", .str "x", .str "k", .tup [.str "name", .str "x"]], .tup [.str "e", .str "x", .str "k", .tup [.str "name", .str "x"]], .tup [.str "f", .str "x", .str "k", .tup [.str "name", .str "x"]]]]), some (.lst 5), some (.tup [.str "num", .int 1]), none]
def R_13 : Sto := [.lst [.str "num", .int 1], .lst [.non, .int 7, .tup [], .tup [.str "num", .bl true], .tup [.str "num"], .lst 1, .tup [.str "fun", .str "in", .tup [.str "num", .int 1]]], .lst [.tup [.str "op", .str "/", .tup [.str "num", .int 1], .tup [.str "num", .int 2]]], .lst [.non, .int 7, .tup [], .tup [.str "num", .bl true], .tup [.str "num"], .lst 1, .tup [.str "fun", .str "in", .tup [.str "num", .int 1]], .tup [.str "op", .str "/", .tup [.str "num", .int 1], .tup [.str "num", .int 2]]], .lst [.str "many 5", .str "many 5", .str "none"]]
def r_14 : DEnv := [none, some (.lst 0), some (.lst 4), some (.tup [.str "answer", .tup [.str "num", .int 1], .tup [.str "x", .tup [.str "name", .str "x"]], .tup [.tup [.str "a", .str "x", .str "k", .tup [.str "name", .str "x"]], .tup [.str "b", .str "x", .str "k", .tup [.str "name", .str "x"]], .tup [.str "c", .str "x", .str "k", .tup [.str "name", .str "x"]], .tup [.str "d", .str "x", .str "k", .tup [.str "name", .str "x"]], .tup [.str "e", .str "x", .str "k", .tup [.str "name", .str "x"]], .tup [.str "f", .str "x", .str "k", .tup [.str "name", .str "x"]]]]), some (.lst 5), some (.tup [.str "op", .str "+", .tup [.str "num", .int 1], .tup [.str "op", .str "+", .tup [.str "num", .int 1], .tup [.str "op", .str "+", .tup [.str "num", .int 1], .tup [.str "op", .str "+", .tup [.str "num", .int 1], .tup [.str "op", .str "+", .tup [.str "num", .int 1], .tup [.str "op", .str "+", .tup [.str "num", .int 1], .tup [.str "op", .str "+", .tup [.str "num", .int 1], .tup [.str "op", .str "+", .tup [.str "num", .int 1], .tup [.str "op", .str "+", .tup [.str "num", .int 1], .tup [.str "op", .str "+", .tup [.str "num", .int 1], .tup [.str "op", .str "+", .tup [.str "num", .int 1], .tup [.str "op", .str "+", .tup [.str "num", .int 1], .tup [.str "op", .str "+", .tup [.str "num", .int 1], .tup [.str "op", .str "+", .tup [.str "num", .int 1], .tup [.str "op", .str "+", .tup [.str "num", .int 1], .tup [.str "op", .str "+", .tup [.str "num", .int 1], .tup [.str "op", .str "+", .tup [.str "num", .int 1], .tup [.str "op", .str "+", .tup [.str "num", .int 1], .tup [.str "op", .str "+", .tup [.str "num", .int 1], .tup [.str "op", .str "+", .tup [.str "num", .int 1], .tup [.str "op", .str "+", .tup [.str "num", .int 1], .tup [.str "op", .str "+", .tup [.str "num", .int 1], .tup [.str "op", .str "+", .tup [.str "num", .int 1], .tup [.str "op", .str "+", .tup [.str "num", .int 1], .tup [.str "op", .str "+", .tup [.str "num", .int 1], .tup [.str "op", .str "+", .tup [.str "num", .int 1], .tup [.str "op", .str "+", .tup [.str "num", .int 1], .tup [.str "op", .str "+", .tup [.str "num", .int 1], .tup [.str "op", .str "+", .tup [.str "num", .int 1], .tup [.str "op", .str "+", .tup [.str "num", .int 1], .tup [.str "op", .str "+", .tup [.str "num", .int 1], .tup [.str "op", .str "+", .tup [.str "num", .int 1], .tup [.str "op", .str "+", .tup [.str "num", .int 1], .tup [.str "op", .str "+", .tup [.str "num", .int 1], .tup [.str "op", .str "+", .tup [.str "num", .int 1], .tup [.str "op", .str "+", .tup [.str "num", .int 1], .tup [.str "op", .str "+", .tup [.str "num", .int 1], .tup [.str "op", .str "+", .tup [.str "num", .int 1], .tup [.str "op", .str "+", .tup [.str "num", .int 1], .tup [.str "op", .str "+", .tup [.str "num", .int 1], .tup [.str "op", .str "+", .tup [.str "num", .int 1], .tup [.str "op", .str "+", .tup [.str "num", .int 1], .tup [.str "op", .str "+", .tup [.str "num", .int 1], .tup [.str "op", .str "+", .tup [.str "num", .int 1], .tup [.str "op", .str "+", .tup [.str "num", .int 1], .tup [.str "op", .str "+", .tup [.str "num", .int 1], .tup [.str "op", .str "+", .tup [.str "num", .int 1], .tup [.str "op", .str "+", .tup [.str "num", .int 1], .tup [.str "op", .str "+", .tup [.str "num", .int 1], .tup [.str "op", .str "+", .tup [.str "num", .int 1], .tup [.str "op", .str "+", .tup [.str "num", .int 1], .tup [.str "op", .str "+", .tup [.str "num", .int 1], .tup [.str "op", .str "+", .tup [.str "num", .int 1], .tup [.str "op", .str "+", .tup [.str "num", .int 1], .tup [.str "op", .str "+", .tup [.str "num", .int 1], .tup [.str "op", .str "+", .tup [.str "num", .int 1], .tup [.str "op", .str "+", .tup [.str "num", .int 1], .tup [.str "op", .str "+", .tup [.str "num", .int 1], .tup [.str "op", .str "+", .tup [.str "num", .int 1], .tup [.str "op", .str "+", .tup [.str "num", .int 1], .tup [.str "op", .str "+", .tup [.str "num", .int 1], .tup [.str "op", .str "+", .tup [.str "num", .int 1], .tup [.str "op", .str "+", .tup [.str "num", .int 1], .tup [.str "op", .str "+", .tup [.str "num", .int 1], .tup [.str "op", .str "+", .tup [.str "num", .int 1], .tup [.str "op", .str "+", .tup [.str "num", .int 1], .tup [.str "op", .str "+", .tup [.str "num", .int 1], .tup [.str "op", .str "+", .tup [.str "num", .int 1], .tup [.str "op", .str "+", .tup [.str "num", .int 1], .tup [.str "op", .str "+", .tup [.str "num", .int 1], .tup [.str "op", .str "+", .tup [.str "num", .int 1], .tup [.str "op", .str "+", .tup [.str "num", .int 1], .tup [.str "op", .str "+", .tup [.str "num", .int 1], .tup [.str "op", .str "+", .tup [.str "num", .int 1], .tup [.str "op", .str "+", .tup [.str "num", .int 1], .tup [.str "op", .str "+", .tup [.str "num", .int 1], .tup [.str "op", .str "+", .tup [.str "num", .int 1], .tup [.str "op", .str "+", .tup [.str "num", .int 1], .tup [.str "op", .str "+", .tup [.str "num", .int 1], .tup [.str "op", .str "+", .tup [.str "num", .int 1], .tup [.str "op", .str "+", .tup [.str "num", .int 1], .tup [.str "op", .str "+", .tup [.str "num", .int 1], .tup [.str "op", .str "+", .tup [.str "num", .int 1], .tup [.str "op", .str "+", .tup [.str "num", .int 1], .tup [.str "op", .str "+", .tup [.str "num", .int 1], .tup [.str "op", .str "+", .tup [.str "num", .int 1], .tup [.str "op", .str "+", .tup [.str "num", .int 1], .tup [.str "op", .str "+", .tup [.str "num", .int 1], .tup [.str "op", .str "+", .tup [.str "num", .int 1], .tup [.str "op", .str "+", .tup [.str "num", .int 1], .tup [.str "op", .str "+", .tup [.str "num", .int 1], .tup [.str "op", .str "+", .tup [.str "num", .int 1], .tup [.str "op", .str "+", .tup [.str "num", .int 1], .tup [.str "op", .str "+", .tup [.str "num", .int 1], .tup [.str "op", .str "+", .tup [.str "num", .int 1], .tup [.str "op", .str "+", .tup [.str "num", .int 1], .tup [.str "op", .str "+", .tup [.str "num", .int 1], .tup [.str "op", .str "+", .tup [.str "num", .int 1], .tup [.str "op", .str "+", .tup [.str "num", .int 1], .tup [.str "op", .str "+", .tup [.str "num", .int 1], .tup [.str "num", .int 1]]]]]]]]]]]]]]]]]]]]]]]]]]]]]]]]]]]]]]]]]]]]]]]]]]]]]]]]]]]]]]]]]]]]]]]]]]]]]]]]]]]]]]]]]]]]]]]]]]]]]), some (.int 99)]
def R_14 : Sto := [.lst [.str "num", .int 1], .lst [.non, .int 7, .tup [], .tup [.str "num", .bl true], .tup [.str "num"], .lst 1, .tup [.str "fun", .str "in", .tup [.str "num", .int 1]]], .lst [.tup [.str "op", .str "/", .tup [.str "num", .int 1], .tup [.str "num", .int 2]]], .lst [.non, .int 7, .tup [], .tup [.str "num", .bl true], .tup [.str "num"], .lst 1, .tup [.str "fun", .str "in", .tup [.str "num", .int 1]], .tup [.str "op", .str "/", .tup [.str "num", .int 1], .tup [.str "num", .int 2]]], .lst [.str "many 5", .str "many 5", .str "none"]]
def r_15 : DEnv := [none, some (.lst 0), some (.lst 4), some (.tup [.str "answer", .tup [.str "num", .int 1], .tup [.str "x", .tup [.str "name", .str "x"]], .tup [.tup [.str "a", .str "x", .str "k", .tup [.str "name", .str "x"]], .tup [.str "b", .str "x", .str "k", .tup [.str "name", .str "x"]], .tup [.str "c", .str "x", .str "k", .tup [.str "name", .str "x"]], .tup [.str "d", .str "x", .str "k", .tup [.str "name", .str "x"]], .tup [.str "e", .str "x", .str "k", .tup [.str "name", .str "x"]], .tup [.str "f", .str "x", .str "k", .tup [.str "name", .str "x"]]]]), some (.lst 5), some (.tup [.str "op", .str "+", .tup [.str "num", .int 1], .tup [.str "op", .str "+", .tup [.str "num", .int 1], .tup [.str "op", .str "+", .tup [.str "num", .int 1], .tup [.str "op", .str "+", .tup [.str "num", .int 1], .tup [.str "op", .str "+", .tup [.str "num", .int 1], .tup [.str "op", .str "+", .tup [.str "num", .int 1], .tup [.str "op", .str "+", .tup [.str "num", .int 1], .tup [.str "op", .str "+", .tup [.str "num", .int 1], .tup [.str "op", .str "+", .tup [.str "num", .int 1], .tup [.str "op", .str "+", .tup [.str "num", .int 1], .tup [.str "op", .str "+", .tup [.str "num", .int 1], .tup [.str "op", .str "+", .tup [.str "num", .int 1], .tup [.str "op", .str "+", .tup [.str "num", .int 1], .tup [.str "op", .str "+", .tup [.str "num", .int 1], .tup [.str "op", .str "+", .tup [.str "num", .int 1], .tup [.str "op", .str "+", .tup [.str "num", .int 1], .tup [.str "op", .str "+", .tup [.str "num", .int 1], .tup [.str "op", .str "+", .tup [.str "num", .int 1], .tup [.str "op", .str "+", .tup [.str "num", .int 1], .tup [.str "op", .str "+", .tup [.str "num", .int 1], .tup [.str "op", .str "+", .tup [.str "num", .int 1], .tup [.str "op", .str "+", .tup [.str "num", .int 1], .tup [.str "op", .str "+", .tup [.str "num", .int 1], .tup [.str "op", .str "+", .tup [.str "num", .int 1], .tup [.str "op", .str "+", .tup [.str "num", .int 1], .tup [.str "op", .str "+", .tup [.str "num", .int 1], .tup [.str "op", .str "+", .tup [.str "num", .int 1], .tup [.str "op", .str "+", .tup [.str "num", .int 1], .tup [.str "op", .str "+", .tup [.str "num", .int 1], .tup [.str "op", .str "+", .tup [.str "num", .int 1], .tup [.str "op", .str "+", .tup [.str "num", .int 1], .tup [.str "op", .str "+", .tup [.str "num", .int 1], .tup [.str "op", .str "+", .tup [.str "num", .int 1], .tup [.str "op", .str "+", .tup [.str "num", .int 1], .tup [.str "op", .str "+", .tup [.str "num", .int 1], .tup [.str "op", .str "+", .tup [.str "num", .int 1], .tup [.str "op", .str "+", .tup [.str "num", .int 1], .tup [.str "op", .str "+", .tup [.str "num", .int 1], .tup [.str "op", .str "+", .tup [.str "num", .int 1], .tup [.str "op", .str "+", .tup [.str "num", .int 1], .tup [.str "op", .str "+", .tup [.str "num", .int 1], .tup [.str "op", .str "+", .tup [.str "num", .int 1], .tup [.str "op", .str "+", .tup [.str "num", .int 1], .tup [.str "op", .str "+", .tup [.str "num", .int 1], .tup [.str "op", .str "+", .tup [.str "num", .int 1], .tup [.str "op", .str "+", .tup [.str "num", .int 1], .tup [.str "op", .str "+", .tup [.str "num", .int 1], .tup [.str "op", .str "+", .tup [.str "num", .int 1], .tup [.str "op", .str "+", .tup [.str "num", .int 1], .tup [.str "op", .str "+", .tup [.str "num", .int 1], .tup [.str "op", .str "+", .tup [.str "num", .int 1], .tup [.str "op", .str "+", .tup [.str "num", .int 1], .tup [.str "op", .str "+", .tup [.str "num", .int 1], .tup [.str "op", .str "+", .tup [.str "num", .int 1], .tup [.str "op", .str "+", .tup [.str "num", .int 1], .tup [.str "op", .str "+", .tup [.str "num", .int 1], .tup [.str "op", .str "+", .tup [.str "num", .int 1], .tup [.str "op", .str "+", .tup [.str "num", .int 1], .tup [.str "op", .str "+", .tup [.str "num", .int 1], .tup [.str "op", .str "+", .tup [.str "num", .int 1], .tup [.str "op", .str "+", .tup [.str "num", .int 1], .tup [.str "op", .str "+", .tup [.str "num", .int 1], .tup [.str "op", .str "+", .tup [.str "num", .int 1], .tup [.str "op", .str "+", .tup [.str "num", .int 1], .tup [.str "op", .str "+", .tup [.str "num", .int 1], .tup [.str "op", .str "+", .tup [.str "num", .int 1], .tup [.str "op", .str "+", .tup [.str "num", .int 1], .tup [.str "op", .str "+", .tup [.str "num", .int 1], .tup [.str "op", .str "+", .tup [.str "num", .int 1], .tup [.str "op", .str "+", .tup [.str "num", .int 1], .tup [.str "op", .str "+", .tup [.str "num", .int 1], .tup [.str "op", .str "+", .tup [.str "num", .int 1], .tup [.str "op", .str "+", .tup [.str "num", .int 1], .tup [.str "op", .str "+", .tup [.str "num", .int 1], .tup [.str "op", .str "+", .tup [.str "num", .int 1], .tup [.str "op", .str "+", .tup [.str "num", .int 1], .tup [.str "op", .str "+", .tup [.str "num", .int 1], .tup [.str "op", .str "+", .tup [.str "num", .int 1], .tup [.str "op", .str "+", .tup [.str "num", .int 1], .tup [.str "op", .str "+", .tup [.str "num", .int 1], .tup [.str "op", .str "+", .tup [.str "num", .int 1], .tup [.str "op", .str "+", .tup [.str "num", .int 1], .tup [.str "op", .str "+", .tup [.str "num", .int 1], .tup [.str "op", .str "+", .tup [.str "num", .int 1], .tup [.str "op", .str "+", .tup [.str "num", .int 1], .tup [.str "op", .str "+", .tup [.str "num", .int 1], .tup [.str "op", .str "+", .tup [.str "num", .int 1], .tup [.str "op", .str "+", .tup [.str "num", .int 1], .tup [.str "op", .str "+", .tup [.str "num", .int 1], .tup [.str "op", .str "+", .tup [.str "num", .int 1], .tup [.str "op", .str "+", .tup [.str "num", .int 1], .tup [.str "op", .str "+", .tup [.str "num", .int 1], .tup [.str "op", .str "+", .tup [.str "num", .int 1], .tup [.str "op", .str "+", .tup [.str "num", .int 1], .tup [.str "op", .str "+", .tup [.str "num", .int 1], .tup [.str "op", .str "+", .tup [.str "num", .int 1], .tup [.str "op", .str "+", .tup [.str "num", .int 1], .tup [.str "op", .str "+", .tup [.str "num", .int 1], .tup [.str "op", .str "+", .tup [.str "num", .int 1], .tup [.str "op", .str "+", .tup [.str "num", .int 1], .tup [.str "num", .int 1]]]]]]]]]]]]]]]]]]]]]]]]]]]]]]]]]]]]]]]]]]]]]]]]]]]]]]]]]]]]]]]]]]]]]]]]]]]]]]]]]]]]]]]]]]]]]]]]]]]]]), some (.int 99)]
def R_15 : Sto := [.lst [.str "num", .int 1], .lst [.non, .int 7, .tup [], .tup [.str "num", .bl true], .tup [.str "num"], .lst 1, .tup [.str "fun", .str "in", .tup [.str "num", .int 1]]], .lst [.tup [.str "op", .str "/", .tup [.str "num", .int 1], .tup [.str "num", .int 2]]], .lst [.non, .int 7, .tup [], .tup [.str "num", .bl true], .tup [.str "num"], .lst 1, .tup [.str "fun", .str "in", .tup [.str "num", .int 1]], .tup [.str "op", .str "/", .tup [.str "num", .int 1], .tup [.str "num", .int 2]]], .lst [.str "many 5", .str "many 5", .str "none"]]
def r_16 : DEnv := [none, some (.lst 0), some (.lst 4), some (.tup [.str "answer", .tup [.str "num", .int 1], .tup [.str "x", .tup [.str "name", .str "x"]], .tup [.tup [.str "a", .str "x", .str "k", .tup [.str "name", .str "x"]], .tup [.str "b", .str "x", .str "k", .tup [.str "name", .str "x"]], .tup [.str "c", .str "x", .str "k", .tup [.str "name", .str "x"]], .tup [.str "d", .str "x", .str "k", .tup [.str "name", .str "x"]], .tup [.str "e", .str "x", .str "k", .tup [.str "name", .str "x"]], .tup [.str "f", .str "x", .str "k", .tup [.str "name", .str "x"]]]]), some (.lst 5), some (.tup [.str "op", .str "+", .tup [.str "num", .int 1], .tup [.str "op", .str "+", .tup [.str "num", .int 1], .tup [.str "op", .str "+", .tup [.str "num", .int 1], .tup [.str "op", .str "+", .tup [.str "num", .int 1], .tup [.str "op", .str "+", .tup [.str "num", .int 1], .tup [.str "op", .str "+", .tup [.str "num", .int 1], .tup [.str "op", .str "+", .tup [.str "num", .int 1], .tup [.str "op", .str "+", .tup [.str "num", .int 1], .tup [.str "op", .str "+", .tup [.str "num", .int 1], .tup [.str "op", .str "+", .tup [.str "num", .int 1], .tup [.str "op", .str "+", .tup [.str "num", .int 1], .tup [.str "op", .str "+", .tup [.str "num", .int 1], .tup [.str "op", .str "+", .tup [.str "num", .int 1], .tup [.str "op", .str "+", .tup [.str "num", .int 1], .tup [.str "op", .str "+", .tup [.str "num", .int 1], .tup [.str "op", .str "+", .tup [.str "num", .int 1], .tup [.str "op", .str "+", .tup [.str "num", .int 1], .tup [.str "op", .str "+", .tup [.str "num", .int 1], .tup [.str "op", .str "+", .tup [.str "num", .int 1], .tup [.str "op", .str "+", .tup [.str "num", .int 1], .tup [.str "op", .str "+", .tup [.str "num", .int 1], .tup [.str "op", .str "+", .tup [.str "num", .int 1], .tup [.str "op", .str "+", .tup [.str "num", .int 1], .tup [.str "op", .str "+", .tup [.str "num", .int 1], .tup [.str "op", .str "+", .tup [.str "num", .int 1], .tup [.str "op", .str "+", .tup [.str "num", .int 1], .tup [.str "op", .str "+", .tup [.str "num", .int 1], .tup [.str "op", .str "+", .tup [.str "num", .int 1], .tup [.str "op", .str "+", .tup [.str "num", .int 1], .tup [.str "op", .str "+", .tup [.str "num", .int 1], .tup [.str "op", .str "+", .tup [.str "num", .int 1], .tup [.str "op", .str "+", .tup [.str "num", .int 1], .tup [.str "op", .str "+", .tup [.str "num", .int 1], .tup [.str "op", .str "+", .tup [.str "num", .int 1], .tup [.str "op", .str "+", .tup [.str "num", .int 1], .tup [.str "op", .str "+", .tup [.str "num", .int 1], .tup [.str "op", .str "+", .tup [.str "num", .int 1], .tup [.str "op", .str "+", .tup [.str "num", .int 1], .tup [.str "op", .str "+", .tup [.str "num", .int 1], .tup [.str "op", .str "+", .tup [.str "num", .int 1], .tup [.str "op", .str "+", .tup [.str "num", .int 1], .tup [.str "op", .str "+", .tup [.str "num", .int 1], .tup [.str "op", .str "+", .tup [.str "num", .int 1], .tup [.str "op", .str "+", .tup [.str "num", .int 1], .tup [.str "op", .str "+", .tup [.str "num", .int 1], .tup [.str "op", .str "+", .tup [.str "num", .int 1], .tup [.str "op", .str "+", .tup [.str "num", .int 1], .tup [.str "op", .str "+", .tup [.str "num", .int 1], .tup [.str "op", .str "+", .tup [.str "num", .int 1], .tup [.str "op", .str "+", .tup [.str "num", .int 1], .tup [.str "op", .str "+", .tup [.str "num", .int 1], .tup [.str "op", .str "+", .tup [.str "num", .int 1], .tup [.str "op", .str "+", .tup [.str "num", .int 1], .tup [.str "op", .str "+", .tup [.str "num", .int 1], .tup [.str "op", .str "+", .tup [.str "num", .int 1], .tup [.str "op", .str "+", .tup [.str "num", .int 1], .tup [.str "op", .str "+", .tup [.str "num", .int 1], .tup [.str "op", .str "+", .tup [.str "num", .int 1], .tup [.str "op", .str "+", .tup [.str "num", .int 1], .tup [.str "op", .str "+", .tup [.str "num", .int 1], .tup [.str "op", .str "+", .tup [.str "num", .int 1], .tup [.str "op", .str "+", .tup [.str "num", .int 1], .tup [.str "op", .str "+", .tup [.str "num", .int 1], .tup [.str "op", .str "+", .tup [.str "num", .int 1], .tup [.str "op", .str "+", .tup [.str "num", .int 1], .tup [.str "op", .str "+", .tup [.str "num", .int 1], .tup [.str "op", .str "+", .tup [.str "num", .int 1], .tup [.str "op", .str "+", .tup [.str "num", .int 1], .tup [.str "op", .str "+", .tup [.str "num", .int 1], .tup [.str "op", .str "+", .tup [.str "num", .int 1], .tup [.str "op", .str "+", .tup [.str "num", .int 1], .tup [.str "op", .str "+", .tup [.str "num", .int 1], .tup [.str "op", .str "+", .tup [.str "num", .int 1], .tup [.str "op", .str "+", .tup [.str "num", .int 1], .tup [.str "op", .str "+", .tup [.str "num", .int 1], .tup [.str "op", .str "+", .tup [.str "num", .int 1], .tup [.str "op", .str "+", .tup [.str "num", .int 1], .tup [.str "op", .str "+", .tup [.str "num", .int 1], .tup [.str "op", .str "+", .tup [.str "num", .int 1], .tup [.str "op", .str "+", .tup [.str "num", .int 1], .tup [.str "op", .str "+", .tup [.str "num", .int 1], .tup [.str "op", .str "+", .tup [.str "num", .int 1], .tup [.str "op", .str "+", .tup [.str "num", .int 1], .tup [.str "op", .str "+", .tup [.str "num", .int 1], .tup [.str "op", .str "+", .tup [.str "num", .int 1], .tup [.str "op", .str "+", .tup [.str "num", .int 1], .tup [.str "op", .str "+", .tup [.str "num", .int 1], .tup [.str "op", .str "+", .tup [.str "num", .int 1], .tup [.str "op", .str "+", .tup [.str "num", .int 1], .tup [.str "op", .str "+", .tup [.str "num", .int 1], .tup [.str "op", .str "+", .tup [.str "num", .int 1], .tup [.str "op", .str "+", .tup [.str "num", .int 1], .tup [.str "op", .str "+", .tup [.str "num", .int 1], .tup [.str "op", .str "+", .tup [.str "num", .int 1], .tup [.str "op", .str "+", .tup [.str "num", .int 1], .tup [.str "op", .str "+", .tup [.str "num", .int 1], .tup [.str "op", .str "+", .tup [.str "num", .int 1], .tup [.str "op", .str "+", .tup [.str "num", .int 1], .tup [.str "op", .str "+", .tup [.str "num", .int 1], .tup [.str "op", .str "+", .tup [.str "num", .int 1], .tup [.str "num", .int 1]]]]]]]]]]]]]]]]]]]]]]]]]]]]]]]]]]]]]]]]]]]]]]]]]]]]]]]]]]]]]]]]]]]]]]]]]]]]]]]]]]]]]]]]]]]]]]]]]]]]]), some (.int 99)]
def R_16 : Sto := [.lst [.str "num", .int 1], .lst [.non, .int 7, .tup [], .tup [.str "num", .bl true], .tup [.str "num"], .lst 1, .tup [.str "fun", .str "in", .tup [.str "num", .int 1]]], .lst [.tup [.str "op", .str "/", .tup [.str "num", .int 1], .tup [.str "num", .int 2]]], .lst [.non, .int 7, .tup [], .tup [.str "num", .bl true], .tup [.str "num"], .lst 1, .tup [.str "fun", .str "in", .tup [.str "num", .int 1]], .tup [.str "op", .str "/", .tup [.str "num", .int 1], .tup [.str "num", .int 2]]], .lst [.str "many 5", .str "many 5", .str "none"]]
def r_17 : DEnv := [none, some (.lst 0), some (.lst 4), some (.tup [.str "answer", .tup [.str "num", .int 1], .tup [.str "x", .tup [.str "name", .str "x"]], .tup [.tup [.str "a", .str "x", .str "k", .tup [.str "name", .str "x"]], .tup [.str "b", .str "x", .str "k", .tup [.str "name", .str "x"]], .tup [.str "c", .str "x", .str "k", .tup [.str "name", .str "x"]], .tup [.str "d", .str "x", .str "k", .tup [.str "name", .str "x"]], .tup [.str "e", .str "x", .str "k", .tup [.str "name", .str "x"]], .tup [.str "f", .str "x", .str "k", .tup [.str "name", .str "x"]]]]), some (.lst 5), some (.tup [.str "op", .str "+", .tup [.str "num", .int 1], .tup [.str "op", .str "+", .tup [.str "num", .int 1], .tup [.str "op", .str "+", .tup [.str "num", .int 1], .tup [.str "op", .str "+", .tup [.str "num", .int 1], .tup [.str "op", .str "+", .tup [.str "num", .int 1], .tup [.str "op", .str "+", .tup [.str "num", .int 1], .tup [.str "op", .str "+", .tup [.str "num", .int 1], .tup [.str "op", .str "+", .tup [.str "num", .int 1], .tup [.str "op", .str "+", .tup [.str "num", .int 1], .tup [.str "op", .str "+", .tup [.str "num", .int 1], .tup [.str "op", .str "+", .tup [.str "num", .int 1], .tup [.str "op", .str "+", .tup [.str "num", .int 1], .tup [.str "op", .str "+", .tup [.str "num", .int 1], .tup [.str "op", .str "+", .tup [.str "num", .int 1], .tup [.str "op", .str "+", .tup [.str "num", .int 1], .tup [.str "op", .str "+", .tup [.str "num", .int 1], .tup [.str "op", .str "+", .tup [.str "num", .int 1], .tup [.str "op", .str "+", .tup [.str "num", .int 1], .tup [.str "op", .str "+", .tup [.str "num", .int 1], .tup [.str "op", .str "+", .tup [.str "num", .int 1], .tup [.str "op", .str "+", .tup [.str "num", .int 1], .tup [.str "op", .str "+", .tup [.str "num", .int 1], .tup [.str "op", .str "+", .tup [.str "num", .int 1], .tup [.str "op", .str "+", .tup [.str "num", .int 1], .tup [.str "op", .str "+", .tup [.str "num", .int 1], .tup [.str "op", .str "+", .tup [.str "num", .int 1], .tup [.str "op", .str "+", .tup [.str "num", .int 1], .tup [.str "op", .str "+", .tup [.str "num", .int 1], .tup [.str "op", .str "+", .tup [.str "num", .int 1], .tup [.str "op", .str "+", .tup [.str "num", .int 1], .tup [.str "op", .str "+", .tup [.str "num", .int 1], .tup [.str "op", .str "+", .tup [.str "num", .int 1], .tup [.str "op", .str "+", .tup [.str "num", .int 1], .tup [.str "op", .str "+", .tup [.str "num", .int 1], .tup [.str "op", .str "+", .tup [.str "num", .int 1], .tup [.str "op", .str "+", .tup [.str "num", .int 1], .tup [.str "op", .str "+", .tup [.str "num", .int 1], .tup [.str "op", .str "+", .tup [.str "num", .int 1], .tup [.str "op", .str "+", .tup [.str "num", .int 1], .tup [.str "op", .str "+", .tup [.str "num", .int 1], .tup [.str "op", .str "+", .tup [.str "num", .int 1], .tup [.str "op", .str "+", .tup [.str "num", .int 1], .tup [.str "op", .str "+", .tup [.str "num", .int 1], .tup [.str "op", .str "+", .tup [.str "num", .int 1], .tup [.str "op", .str "+", .tup [.str "num", .int 1], .tup [.str "op", .str "+", .tup [.str "num", .int 1], .tup [.str "op", .str "+", .tup [.str "num", .int 1], .tup [.str "op", .str "+", .tup [.str "num", .int 1], .tup [.str "op", .str "+", .tup [.str "num", .int 1], .tup [.str "op", .str "+", .tup [.str "num", .int 1], .tup [.str "op", .str "+", .tup [.str "num", .int 1], .tup [.str "op", .str "+", .tup [.str "num", .int 1], .tup [.str "op", .str "+", .tup [.str "num", .int 1], .tup [.str "op", .str "+", .tup [.str "num", .int 1], .tup [.str "op", .str "+", .tup [.str "num", .int 1], .tup [.str "op", .str "+", .tup [.str "num", .int 1], .tup [.str "op", .str "+", .tup [.str "num", .int 1], .tup [.str "op", .str "+", .tup [.str "num", .int 1], .tup [.str "op", .str "+", .tup [.str "num", .int 1], .tup [.str "op", .str "+", .tup [.str "num", .int 1], .tup [.str "op", .str "+", .tup [.str "num", .int 1], .tup [.str "op", .str "+", .tup [.str "num", .int 1], .tup [.str "op", .str "+", .tup [.str "num", .int 1], .tup [.str "op", .str "+", .tup [.str "num", .int 1], .tup [.str "op", .str "+", .tup [.str "num", .int 1], .tup [.str "op", .str "+", .tup [.str "num", .int 1], .tup [.str "op", .str "+", .tup [.str "num", .int 1], .tup [.str "op", .str "+", .tup [.str "num", .int 1], .tup [.str "op", .str "+", .tup [.str "num", .int 1], .tup [.str "op", .str "+", .tup [.str "num", .int 1], .tup [.str "op", .str "+", .tup [.str "num", .int 1], .tup [.str "op", .str "+", .tup [.str "num", .int 1], .tup [.str "op", .str "+", .tup [.str "num", .int 1], .tup [.str "op", .str "+", .tup [.str "num", .int 1], .tup [.str "op", .str "+", .tup [.str "num", .int 1], .tup [.str "op", .str "+", .tup [.str "num", .int 1], .tup [.str "op", .str "+", .tup [.str "num", .int 1], .tup [.str "op", .str "+", .tup [.str "num", .int 1], .tup [.str "op", .str "+", .tup [.str "num", .int 1], .tup [.str "op", .str "+", .tup [.str "num", .int 1], .tup [.str "op", .str "+", .tup [.str "num", .int 1], .tup [.str "op", .str "+", .tup [.str "num", .int 1], .tup [.str "op", .str "+", .tup [.str "num", .int 1], .tup [.str "op", .str "+", .tup [.str "num", .int 1], .tup [.str "op", .str "+", .tup [.str "num", .int 1], .tup [.str "op", .str "+", .tup [.str "num", .int 1], .tup [.str "op", .str "+", .tup [.str "num", .int 1], .tup [.str "op", .str "+", .tup [.str "num", .int 1], .tup [.str "op", .str "+", .tup [.str "num", .int 1], .tup [.str "op", .str "+", .tup [.str "num", .int 1], .tup [.str "op", .str "+", .tup [.str "num", .int 1], .tup [.str "op", .str "+", .tup [.str "num", .int 1], .tup [.str "op", .str "+", .tup [.str "num", .int 1], .tup [.str "op", .str "+", .tup [.str "num", .int 1], .tup [.str "op", .str "+", .tup [.str "num", .int 1], .tup [.str "op", .str "+", .tup [.str "num", .int 1], .tup [.str "op", .str "+", .tup [.str "num", .int 1], .tup [.str "op", .str "+", .tup [.str "num", .int 1], .tup [.str "op", .str "+", .tup [.str "num", .int 1], .tup [.str "op", .str "+", .tup [.str "num", .int 1], .tup [.str "num", .int 1]]]]]]]]]]]]]]]]]]]]]]]]]]]]]]]]]]]]]]]]]]]]]]]]]]]]]]]]]]]]]]]]]]]]]]]]]]]]]]]]]]]]]]]]]]]]]]]]]]]]]), some (.int 99)]
def R_17 : Sto := [.lst [.str "num", .int 1], .lst [.non, .int 7, .tup [], .tup [.str "num", .bl true], .tup [.str "num"], .lst 1, .tup [.str "fun", .str "in", .tup [.str "num", .int 1]]], .lst [.tup [.str "op", .str "/", .tup [.str "num", .int 1], .tup [.str "num", .int 2]]], .lst [.non, .int 7, .tup [], .tup [.str "num", .bl true], .tup [.str "num"], .lst 1, .tup [.str "fun", .str "in", .tup [.str "num", .int 1]], .tup [.str "op", .str "/", .tup [.str "num", .int 1], .tup [.str "num", .int 2]]], .lst [.str "many 5", .str "many 5", .str "none"]]
def r_18 : DEnv := [none, some (.lst 0), some (.lst 4), some (.tup [.str "answer", .tup [.str "num", .int 1], .tup [.str "x", .tup [.str "name", .str "x"]], .tup [.tup [.str "a", .str "x", .str "k", .tup [.str "name", .str "x"]], .tup [.str "b", .str "x", .str "k", .tup [.str "name", .str "x"]], .tup [.str "c", .str "x", .str "k", .tup [.str "name", .str "x"]], .tup [.str "d", .str "x", .str "k", .tup [.str "name", .str "x"]], .tup [.str "e", .str "x", .str "k", .tup [.str "name", .str "x"]], .tup [.str "f", .str "x", .str "k", .tup [.str "name", .str "x"]]]]), some (.lst 5), some (.tup [.str "op", .str "+", .tup [.str "num", .int 1], .tup [.str "op", .str "+", .tup [.str "num", .int 1], .tup [.str "op", .str "+", .tup [.str "num", .int 1], .tup [.str "op", .str "+", .tup [.str "num", .int 1], .tup [.str "op", .str "+", .tup [.str "num", .int 1], .tup [.str "op", .str "+", .tup [.str "num", .int 1], .tup [.str "op", .str "+", .tup [.str "num", .int 1], .tup [.str "op", .str "+", .tup [.str "num", .int 1], .tup [.str "op", .str "+", .tup [.str "num", .int 1], .tup [.str "op", .str "+", .tup [.str "num", .int 1], .tup [.str "op", .str "+", .tup [.str "num", .int 1], .tup [.str "op", .str "+", .tup [.str "num", .int 1], .tup [.str "op", .str "+", .tup [.str "num", .int 1], .tup [.str "op", .str "+", .tup [.str "num", .int 1], .tup [.str "op", .str "+", .tup [.str "num", .int 1], .tup [.str "op", .str "+", .tup [.str "num", .int 1], .tup [.str "op", .str "+", .tup [.str "num", .int 1], .tup [.str "op", .str "+", .tup [.str "num", .int 1], .tup [.str "op", .str "+", .tup [.str "num", .int 1], .tup [.str "op", .str "+", .tup [.str "num", .int 1], .tup [.str "op", .str "+", .tup [.str "num", .int 1], .tup [.str "op", .str "+", .tup [.str "num", .int 1], .tup [.str "op", .str "+", .tup [.str "num", .int 1], .tup [.str "op", .str "+", .tup [.str "num", .int 1], .tup [.str "op", .str "+", .tup [.str "num", .int 1], .tup [.str "op", .str "+", .tup [.str "num", .int 1], .tup [.str "op", .str "+", .tup [.str "num", .int 1], .tup [.str "op", .str "+", .tup [.str "num", .int 1], .tup [.str "op", .str "+", .tup [.str "num", .int 1], .tup [.str "op", .str "+", .tup [.str "num", .int 1], .tup [.str "op", .str "+", .tup [.str "num", .int 1], .tup [.str "op", .str "+", .tup [.str "num", .int 1], .tup [.str "op", .str "+", .tup [.str "num", .int 1], .tup [.str "op", .str "+", .tup [.str "num", .int 1], .tup [.str "op", .str "+", .tup [.str "num", .int 1], .tup [.str "op", .str "+", .tup [.str "num", .int 1], .tup [.str "op", .str "+", .tup [.str "num", .int 1], .tup [.str "op", .str "+", .tup [.str "num", .int 1], .tup [.str "op", .str "+", .tup [.str "num", .int 1], .tup [.str "op", .str "+", .tup [.str "num", .int 1], .tup [.str "op", .str "+", .tup [.str "num", .int 1], .tup [.str "op", .str "+", .tup [.str "num", .int 1], .tup [.str "op", .str "+", .tup [.str "num", .int 1], .tup [.str "op", .str "+", .tup [.str "num", .int 1], .tup [.str "op", .str "+", .tup [.str "num", .int 1], .tup [.str "op", .str "+", .tup [.str "num", .int 1], .tup [.str "op", .str "+", .tup [.str "num", .int 1], .tup [.str "op", .str "+", .tup [.str "num", .int 1], .tup [.str "op", .str "+", .tup [.str "num", .int 1], .tup [.str "op", .str "+", .tup [.str "num", .int 1], .tup [.str "op", .str "+", .tup [.str "num", .int 1], .tup [.str "op", .str "+", .tup [.str "num", .int 1], .tup [.str "op", .str "+", .tup [.str "num", .int 1], .tup [.str "op", .str "+", .tup [.str "num", .int 1], .tup [.str "op", .str "+", .tup [.str "num", .int 1], .tup [.str "op", .str "+", .tup [.str "num", .int 1], .tup [.str "op", .str "+", .tup [.str "num", .int 1], .tup [.str "op", .str "+", .tup [.str "num", .int 1], .tup [.str "op", .str "+", .tup [.str "num", .int 1], .tup [.str "op", .str "+", .tup [.str "num", .int 1], .tup [.str "op", .str "+", .tup [.str "num", .int 1], .tup [.str "op", .str "+", .tup [.str "num", .int 1], .tup [.str "op", .str "+", .tup [.str "num", .int 1], .tup [.str "op", .str "+", .tup [.str "num", .int 1], .tup [.str "op", .str "+", .tup [.str "num", .int 1], .tup [.str "op", .str "+", .tup [.str "num", .int 1], .tup [.str "op", .str "+", .tup [.str "num", .int 1], .tup [.str "op", .str "+", .tup [.str "num", .int 1], .tup [.str "op", .str "+", .tup [.str "num", .int 1], .tup [.str "op", .str "+", .tup [.str "num", .int 1], .tup [.str "op", .str "+", .tup [.str "num", .int 1], .tup [.str "op", .str "+", .tup [.str "num", .int 1], .tup [.str "op", .str "+", .tup [.str "num", .int 1], .tup [.str "op", .str "+", .tup [.str "num", .int 1], .tup [.str "op", .str "+", .tup [.str "num", .int 1], .tup [.str "op", .str "+", .tup [.str "num", .int 1], .tup [.str "op", .str "+", .tup [.str "num", .int 1], .tup [.str "op", .str "+", .tup [.str "num", .int 1], .tup [.str "op", .str "+", .tup [.str "num", .int 1], .tup [.str "op", .str "+", .tup [.str "num", .int 1], .tup [.str "op", .str "+", .tup [.str "num", .int 1], .tup [.str "op", .str "+", .tup [.str "num", .int 1], .tup [.str "op", .str "+", .tup [.str "num", .int 1], .tup [.str "op", .str "+", .tup [.str "num", .int 1], .tup [.str "op", .str "+", .tup [.str "num", .int 1], .tup [.str "op", .str "+", .tup [.str "num", .int 1], .tup [.str "op", .str "+", .tup [.str "num", .int 1], .tup [.str "op", .str "+", .tup [.str "num", .int 1], .tup [.str "op", .str "+", .tup [.str "num", .int 1], .tup [.str "op", .str "+", .tup [.str "num", .int 1], .tup [.str "op", .str "+", .tup [.str "num", .int 1], .tup [.str "op", .str "+", .tup [.str "num", .int 1], .tup [.str "op", .str "+", .tup [.str "num", .int 1], .tup [.str "op", .str "+", .tup [.str "num", .int 1], .tup [.str "op", .str "+", .tup [.str "num", .int 1], .tup [.str "op", .str "+", .tup [.str "num", .int 1], .tup [.str "op", .str "+", .tup [.str "num", .int 1], .tup [.str "op", .str "+", .tup [.str "num", .int 1], .tup [.str "op", .str "+", .tup [.str "num", .int 1], .tup [.str "op", .str "+", .tup [.str "num", .int 1], .tup [.str "num", .int 1]]]]]]]]]]]]]]]]]]]]]]]]]]]]]]]]]]]]]]]]]]]]]]]]]]]]]]]]]]]]]]]]]]]]]]]]]]]]]]]]]]]]]]]]]]]]]]]]]]]]]), some (.int 99)]
def R_18 : Sto := [.lst [.str "num", .int 1], .lst [.non, .int 7, .tup [], .tup [.str "num", .bl true], .tup [.str "num"], .lst 1, .tup [.str "fun", .str "in", .tup [.str "num", .int 1]]], .lst [.tup [.str "op", .str "/", .tup [.str "num", .int 1], .tup [.str "num", .int 2]]], .lst [.non, .int 7, .tup [], .tup [.str "num", .bl true], .tup [.str "num"], .lst 1, .tup [.str "fun", .str "in", .tup [.str "num", .int 1]], .tup [.str "op", .str "/", .tup [.str "num", .int 1], .tup [.str "num", .int 2]]], .lst [.str "many 5", .str "many 5", .str "none"]]
end Py

-- Ew_2
set_option maxRecDepth 100000
set_option maxHeartbeats 8000000
noncomputable section
namespace Py
open PySem PySem.Spec PyProof.Rows L2 PyD PyL PyH L2H HotX PyM
theorem e_2_0 (g c : Int) : d_law_2_of (.non) r_2 (cupC g c :: R_2) = some (.nx, r_3, cupC g c :: R_3) := by kernel_rfl
theorem e_2_1 (g c : Int) : d_law_2_of (.int 7) r_2 (cupC g c :: R_2) = some (.nx, r_3, cupC g c :: R_3) := by kernel_rfl
theorem e_2_2 (g c : Int) : d_law_2_of (.tup []) r_2 (cupC g c :: R_2) = some (.nx, r_3, cupC g c :: R_3) := by kernel_rfl
theorem e_2_3 (g c : Int) : d_law_2_of (.tup [.str "num", .bl true]) r_2 (cupC g c :: R_2) = some (.nx, r_3, cupC g c :: R_3) := by kernel_rfl
theorem e_2_4 (g c : Int) : d_law_2_of (.tup [.str "num"]) r_2 (cupC g c :: R_2) = some (.nx, r_3, cupC g c :: R_3) := by kernel_rfl
theorem e_2_5 (g c : Int) : d_law_2_of (.lst 1) r_2 (cupC g c :: R_2) = some (.nx, r_3, cupC g c :: R_3) := by kernel_rfl
theorem e_2_6 (g c : Int) : d_law_2_of (.tup [.str "fun", .str "in", .tup [.str "num", .int 1]]) r_2 (cupC g c :: R_2) = some (.nx, r_3, cupC g c :: R_3) := by kernel_rfl
theorem e_2_7 (g c : Int) : d_law_2_of (.tup [.str "op", .str "/", .tup [.str "num", .int 1], .tup [.str "num", .int 2]]) r_2 (cupC g c :: R_2) = some (.nx, r_3, cupC g c :: R_3) := by kernel_rfl
theorem s_2 (g c : Int) (hg : 0 ≤ g) : ∃ g' c' : Int, 0 ≤ g' ∧ d_law_2 r_2 (cupC g c :: R_2) = some (.nx, r_3, cupC g' c' :: R_3) :=
  sec_evalC (C := fun X => (trimS (ifS (orT (notT (testD (callE 2 f__law_programs_right (consD X (consD (cstD (.str "tree")) nilD))))) (notT (testD (callE 2 f__law_programs_right (consD (opS tupD (consD (cstD (.str "name")) (consD (cstD (.str "x")) nilD))) (consD (cstD (.str "program")) nilD)))))) stuckS skipS))) (r := r_2) (R := R_2) (R1 := [.lst [.str "num", .int 1], .lst [.non, .int 7, .tup [], .tup [.str "num", .bl true], .tup [.str "num"], .lst 1, .tup [.str "fun", .str "in", .tup [.str "num", .int 1]]], .lst [.tup [.str "op", .str "/", .tup [.str "num", .int 1], .tup [.str "num", .int 2]]], .lst [.non, .int 7, .tup [], .tup [.str "num", .bl true], .tup [.str "num"], .lst 1, .tup [.str "fun", .str "in", .tup [.str "num", .int 1]], .tup [.str "op", .str "/", .tup [.str "num", .int 1], .tup [.str "num", .int 2]]]]) (k := 3) (things := th_2) (fun X X2 M M2 h hl => by simp only [trimS, ifS, bindS, orT, notT, testD, callE, consD, bindD, h, hl]) (by kernel_rfl) (fun g c => by kernel_rfl) (by kernel_rfl) (by decide) (by decide) (List.forall_mem_cons.mpr ⟨e_2_0, List.forall_mem_cons.mpr ⟨e_2_1, List.forall_mem_cons.mpr ⟨e_2_2, List.forall_mem_cons.mpr ⟨e_2_3, List.forall_mem_cons.mpr ⟨e_2_4, List.forall_mem_cons.mpr ⟨e_2_5, List.forall_mem_cons.mpr ⟨e_2_6, List.forall_mem_cons.mpr ⟨e_2_7, List.forall_mem_nil _⟩⟩⟩⟩⟩⟩⟩⟩) g c hg
end Py

-- Ew_4
set_option maxRecDepth 100000
set_option maxHeartbeats 8000000
noncomputable section
namespace Py
open PySem PySem.Spec PyProof.Rows L2 PyD PyL PyH L2H HotX PyM
theorem e_4_0 (g c : Int) : d_law_4_of (.non) r_4 (cupC g c :: R_4) = some (.nx, r_5, cupC g c :: R_5) := by kernel_rfl
theorem e_4_1 (g c : Int) : d_law_4_of (.int (-1)) r_4 (cupC g c :: R_4) = some (.nx, r_5, cupC g c :: R_5) := by kernel_rfl
theorem e_4_2 (g c : Int) : d_law_4_of (.str "In") r_4 (cupC g c :: R_4) = some (.nx, r_5, cupC g c :: R_5) := by kernel_rfl
theorem e_4_3 (g c : Int) : d_law_4_of (.str "fun") r_4 (cupC g c :: R_4) = some (.nx, r_5, cupC g c :: R_5) := by kernel_rfl
theorem e_4_4 (g c : Int) : d_law_4_of (.bl true) r_4 (cupC g c :: R_4) = some (.nx, r_5, cupC g c :: R_5) := by kernel_rfl
theorem e_4_5 (g c : Int) : d_law_4_of (.tup [.str "num", .int 1]) r_4 (cupC g c :: R_4) = some (.nx, r_5, cupC g c :: R_5) := by kernel_rfl
theorem e_4_6 (g c : Int) : d_law_4_of (.lst 5) r_4 (cupC g c :: R_4) = some (.nx, r_5, cupC g c :: R_5) := by kernel_rfl
theorem e_4_7 (g c : Int) : d_law_4_of (.tup [.tup [.str "name", .str "x"]]) r_4 (cupC g c :: R_4) = some (.nx, r_5, cupC g c :: R_5) := by kernel_rfl
theorem e_4_8 (g c : Int) : d_law_4_of (.bl false) r_4 (cupC g c :: R_4) = some (.nx, r_5, cupC g c :: R_5) := by kernel_rfl
theorem s_4 (g c : Int) (hg : 0 ≤ g) : ∃ g' c' : Int, 0 ≤ g' ∧ d_law_4 r_4 (cupC g c :: R_4) = some (.nx, r_5, cupC g' c' :: R_5) :=
  sec_evalC (C := fun X => (trimS (ifS (notT (testD (callE 1 f__law_others_right (consD X nilD)))) stuckS skipS))) (r := r_4) (R := R_4) (R1 := [.lst [.str "num", .int 1], .lst [.non, .int 7, .tup [], .tup [.str "num", .bl true], .tup [.str "num"], .lst 1, .tup [.str "fun", .str "in", .tup [.str "num", .int 1]]], .lst [.tup [.str "op", .str "/", .tup [.str "num", .int 1], .tup [.str "num", .int 2]]], .lst [.non, .int 7, .tup [], .tup [.str "num", .bl true], .tup [.str "num"], .lst 1, .tup [.str "fun", .str "in", .tup [.str "num", .int 1]], .tup [.str "op", .str "/", .tup [.str "num", .int 1], .tup [.str "num", .int 2]]], .lst [], .lst [.non, .int (-1), .str "In", .str "fun", .bl true, .tup [.str "num", .int 1], .lst 5, .tup [.tup [.str "name", .str "x"]], .bl false]]) (k := 5) (things := th_4) (fun X X2 M M2 h hl => by simp only [trimS, ifS, bindS, orT, notT, testD, callE, consD, bindD, h, hl]) (by kernel_rfl) (fun g c => by kernel_rfl) (by kernel_rfl) (by decide) (by decide) (List.forall_mem_cons.mpr ⟨e_4_0, List.forall_mem_cons.mpr ⟨e_4_1, List.forall_mem_cons.mpr ⟨e_4_2, List.forall_mem_cons.mpr ⟨e_4_3, List.forall_mem_cons.mpr ⟨e_4_4, List.forall_mem_cons.mpr ⟨e_4_5, List.forall_mem_cons.mpr ⟨e_4_6, List.forall_mem_cons.mpr ⟨e_4_7, List.forall_mem_cons.mpr ⟨e_4_8, List.forall_mem_nil _⟩⟩⟩⟩⟩⟩⟩⟩⟩) g c hg
end Py

-- PyE1
set_option maxRecDepth 100000
set_option maxHeartbeats 4000000
noncomputable section
namespace Py
open PySem PySem.Spec PyProof.Rows L2 PyD PyL PyH L2H HotX PyM
/-! ### single steps of what is worked out, each with its parts known -/
section
variable {f : Den D} {h as : Den (List D)} {r r1 : DEnv} {M M1 M2 : Sto} {a : D} {ds : List D} {e : Ex} {n : Nat} {fd : FDen}
theorem ev_cons (h1 : f r M = some (.ok a, M1)) (h2 : h r M1 = some (.ok ds, M2)) : consD f h r M = some (.ok (a :: ds), M2) := by
  simp only [consD, bindD, h1, h2, liftD]
theorem ev_tup (h1 : as r M = some (.ok ds, M1)) (hl : ds.length ≤ 100000) : opS tupD as r M = some (.ok (.tup ds), M1) := by
  simp only [opS, bindD, h1, liftD, tupD, if_pos hl]
theorem ev_call (h1 : as r M = some (.ok ds, M1)) (hn : ds.length = n) {x : Option (Res D × Sto)} (hf : fd ds M1 = x) : callE n fd as r M = x := by
  simp only [callE, bindD, h1, if_pos hn, hf]
theorem ev_trim_ex (h1 : f r M = some (.ex e, M1)) : trimE f r M = some (.ex e, M1) := by
  simp only [trimE, h1]
theorem ev_trim_same (h1 : f r M = some (.ok a, M)) : trimE f r M = some (.ok a, M) := by
  have z : Nat.ble M.length M.length = true := Nat.ble_eq.mpr (Nat.le_refl _)
  simp only [trimE, h1, z]
theorem ev_ret_ex (h1 : f r M = some (.ex e, M1)) : retS f r M = some (.ex e, r, M1) := by
  simp only [retS, bindS, h1]
theorem ev_ret (h1 : f r M = some (.ok a, M1)) : retS f r M = some (.rt a, r, M1) := by
  simp only [retS, bindS, h1]
theorem ev_expr (h1 : f r M = some (.ok a, M1)) : exprS f r M = some (.nx, r, M1) := by
  simp only [exprS, bindS, h1]
theorem ev_seq {a b : SDen} (h : a r M = some (.nx, r1, M1)) : seqS a b r M = b r1 M1 := by
  unfold seqS
  rw [h]
theorem ev_body_ex {b : SDen} (h : b (ds.map some ++ List.replicate (n - ds.length) none) M = some (.ex e, r1, M1)) : bodyF n b ds M = some (.ex e, M1) := by
  simp only [bodyF, h]
theorem ev_err {known : List Str} {name : Str → FDen} {z : Str} (h : f r M = some (.ex e, M1)) (hk : hasS known e.cls = true) (hn : name e.cls [.exn e.cls e.arg.toList] M1 = some (.ok (.str z), M2)) (hm : noExM M2 = true) : errE known name f r M = some (.ok (.str z), M2) := by
  simp only [errE, h, hk, hn, hm, if_true]
end
end Py

-- Ez_0
set_option maxRecDepth 100000
set_option maxHeartbeats 8000000
noncomputable section
namespace Py
open PySem PySem.Spec PyProof.Rows L2 PyD PyL PyH L2H HotX PyM
def z_used (x : Str) : D := .tup [.str "name", .str x]
def z_one : D := .tup [.str "num", .int 1]
def z_done (d : D) : D := .tup [.str "shape", .str "Done", .tup [d]]
def z_op : D := .tup [.str "op", .str "+", z_used "One", z_used "Two"]
def z_call (a b : D) : D := .tup [.str "call", a, b]
def z_fun (x : Str) (b : D) : D := .tup [.str "fun", .str x, b]
def z_after (l : D) (x : Str) (b : D) : D := z_call (z_call (z_used "After") l) (z_fun x b)
def z_ahead (l : D) (x : Str) (b : D) : D := z_call (z_fun "Next" l) (z_fun x b)
def z_deep (n : Nat) : D := Nat.rec (motive := fun _ => D) z_one (fun _ ih => .tup [.str "op", .str "+", z_one, ih]) n
def z_led (n : Nat) : D := Nat.rec (motive := fun _ => D) (z_done z_one) (fun _ ih => z_after (z_done z_one) "One" (z_after ih "Two" (z_done z_op))) n
def z_nxt0 : D := z_call (z_used "Next") z_one
def z_nxt (n : Nat) : D := Nat.rec (motive := fun _ => D) z_nxt0 (fun _ ih => z_ahead z_nxt0 "One" (z_ahead ih "Two" (z_call (z_used "Next") z_op))) n
def z_behind : D := z_fun "Again" (z_call (z_call (z_used "After") (z_call (z_used "Rest") (z_used "Again"))) (z_used "Next"))
def z_did : D := .tup [.str "shape", .str "Did", .tup [z_used "Deed", z_used "Value", z_behind]]
def z_bind (x : Str) : D := .tup [.str "bind", .str x]
def z_plan : D := .tup [.str "match", z_used "Plan", .tup [.tup [.tup [.str "shapeis", .str "Done", .tup [z_bind "Value"]], z_call (z_used "Next") (z_used "Value")], .tup [.tup [.str "shapeis", .str "Did", .tup [z_bind "Deed", z_bind "Value", z_bind "Rest"]], z_did]]]
abbrev z_d : D := z_deep 100
abbrev z_M (g c : Int) : Sto := cupC g c :: R_14
def z_rec : D := .tup [.str "rec", .str "After", .str "Plan", z_fun "Next" z_plan, z_led 100]
def z_fin : D := z_call (z_fun "Next" (z_nxt 100)) (z_fun "Value" (z_done (z_used "Value")))
end Py

-- Ez_a
set_option maxRecDepth 100000
set_option maxHeartbeats 8000000
noncomputable section
namespace Py
open PySem PySem.Spec PyProof.Rows L2 PyD PyL PyH L2H HotX PyM
theorem z_1 (g c : Int) : trimE (callE 1 f_check_program (consD (nmD 0) nilD)) [some z_d] (z_M g c) = some (.ok .non, z_M g c) := by kernel_rfl
end Py

-- Ez_b
set_option maxRecDepth 100000
set_option maxHeartbeats 8000000
noncomputable section
namespace Py
open PySem PySem.Spec PyProof.Rows L2 PyD PyL PyH L2H HotX PyM
theorem z_2 (g c : Int) : trimE (callE 1 f_check_led_rows (consD (nmD 0) nilD)) [some z_d] (z_M g c) = some (.ok .non, z_M g c) := by kernel_rfl
end Py

-- Ez_c
set_option maxRecDepth 100000
set_option maxHeartbeats 8000000
noncomputable section
namespace Py
open PySem PySem.Spec PyProof.Rows L2 PyD PyL PyH L2H HotX PyM
theorem z_3 (g c : Int) : trimE (callE 1 f_led_tree (consD (nmD 0) nilD)) [some z_d, some z_behind, some z_plan] (z_M g c) = some (.ok (z_led 100), z_M g c) := by kernel_rfl
end Py

-- Ez_d
set_option maxRecDepth 100000
set_option maxHeartbeats 8000000
noncomputable section
namespace Py
open PySem PySem.Spec PyProof.Rows L2 PyD PyL PyH L2H HotX PyM
theorem z_4 (g c : Int) : trimE (callE 1 f_led_next (consD (nmD 0) nilD)) [some z_d] (z_M g c) = some (.ok (z_fun "Next" (z_nxt 100)), z_M g c) := by kernel_rfl
end Py

-- Ez_i
set_option maxRecDepth 100000
set_option maxHeartbeats 8000000
noncomputable section
namespace Py
open PySem PySem.Spec PyProof.Rows L2 PyD PyL PyH L2H HotX PyM
def z_T : Den Bool := (andT (testD (nmD 3)) (btestD (op2 (cmpD .LtE) (nmD 1) (cstD (.int 3000)))))
def z_B : SDen := (trimW (seqS (setS (meth0 popD (nmD 3)) (tupT 2 (consT (nmT 4) (consT (nmT 5) nilT))))
    (seqS (setS (op2 (binD .Add) (nmD 1) (cstD (.int 1))) (nmT 1))
    (seqS (ifS (btestD (op2 (cmpD .Gt) (nmD 5) (nmD 2))) (setS (nmD 5) (nmT 2)) skipS)
    (forS (anySrc (trimE (callE 1 f_trees_and_patterns_in (consD (nmD 4) nilD)))) (nmT 6) (trimW (exprS (methE appendD (nmD 3) (consD (opS tupD (consD (nmD 6) (consD (op2 (binD .Add) (nmD 5) (cstD (.int 1))) nilD))) nilD)))) 100000)))))
def z_Ml (g c : Int) (l : List D) : Sto := cupC g c :: (R_14 ++ [.lst l])
def z_rm (n : Nat) (s d e : Int) : DEnv := [some z_rec, some (.int s), some (.int d), some (.lst 6), some (z_call (z_used "After") (z_led n)), some (.int e), some (z_led n)]
def z_stk (k : Nat) (l : List D) (d : Int) : List D := match k with
  | 0 => l
  | k + 1 => z_stk k (.tup [z_call (z_used "After") (z_done z_one), .int (d - 4)] :: .tup [z_used "After", .int (d - 1)] :: l) (d - 4)
def z_Ms (g c : Int) (k : Nat) (l : List D) (d : Int) : Sto := z_Ml g c (.tup [z_fun "Next" z_plan, .int 2] :: z_stk k l d)
def z_ru : DEnv := [some z_rec, some (.int 1153), some (.int 404), some (.lst 6), some (z_used "After"), some (.int 204), some z_one]
def z_re : DEnv := [some z_rec, some (.int 1426), some (.int 404), some (.lst 6), some (z_used "Plan"), some (.int 4), some (z_bind "Value")]
def z_fm (n : Nat) (s d e : Int) : DEnv := [some z_fin, some (.int s), some (.int d), some (.lst 6), some (z_fun "Next" (z_nxt n)), some (.int e), some (z_nxt n)]
def z_fstk (k : Nat) (l : List D) (d : Int) : List D := match k with
  | 0 => l
  | k + 1 => z_fstk k (.tup [z_fun "Next" z_nxt0, .int d] :: l) (d - 4)
def z_fu : DEnv := [some z_fin, some (.int 1208), some (.int 405), some (.lst 6), some (z_used "Next"), some (.int 206), some z_one]
def z_fe : DEnv := [some z_fin, some (.int 1408), some (.int 405), some (.lst 6), some (z_used "Next"), some (.int 6), some z_one]
def iterS (t : Den Bool) (b : SDen) (k : Nat) : DEnv → Sto → Option (DEnv × Sto) := Nat.rec (motive := fun _ => DEnv → Sto → Option (DEnv × Sto)) (fun r M => some (r, M)) (fun _ ih r M => match t r M with
  | some (.ok true, M1) => (match b r M1 with
    | some (.nx, r2, M2) => ih r2 M2
    | _ => none)
  | _ => none) k
end Py

-- Ez_e1
set_option maxRecDepth 100000
set_option maxHeartbeats 8000000
noncomputable section
namespace Py
open PySem PySem.Spec PyProof.Rows L2 PyD PyL PyH L2H HotX PyM
theorem z_m1 (g c : Int) : iterS z_T z_B 451 [some z_rec, some (.int 0), some (.int 0), some (.lst 6), none, none, none] (z_Ml g c [.tup [z_rec, .int 1]]) = some (z_rm 50 451 204 201, z_Ms g c 50 [.tup [z_led 50, .int 202]] 203) := by kernel_rfl
end Py

-- Ez_e2
set_option maxRecDepth 100000
set_option maxHeartbeats 8000000
noncomputable section
namespace Py
open PySem PySem.Spec PyProof.Rows L2 PyD PyL PyH L2H HotX PyM
theorem z_m2 (g c : Int) : iterS z_T z_B 225 (z_rm 50 451 204 201) (z_Ms g c 50 [.tup [z_led 50, .int 202]] 203) = some (z_rm 25 676 304 301, z_Ms g c 75 [.tup [z_led 25, .int 302]] 303) := by kernel_rfl
end Py

-- Ez_e3
set_option maxRecDepth 100000
set_option maxHeartbeats 8000000
noncomputable section
namespace Py
open PySem PySem.Spec PyProof.Rows L2 PyD PyL PyH L2H HotX PyM
theorem z_m3 (g c : Int) : iterS z_T z_B 225 (z_rm 25 676 304 301) (z_Ms g c 75 [.tup [z_led 25, .int 302]] 303) = some (z_rm 0 901 404 401, z_Ms g c 100 [.tup [z_led 0, .int 402]] 403) := by kernel_rfl
end Py

-- Ez_e4
set_option maxRecDepth 100000
set_option maxHeartbeats 8000000
noncomputable section
namespace Py
open PySem PySem.Spec PyProof.Rows L2 PyD PyL PyH L2H HotX PyM
theorem z_m4 (g c : Int) : iterS z_T z_B 252 (z_rm 0 901 404 401) (z_Ms g c 100 [.tup [z_led 0, .int 402]] 403) = some (z_ru, z_Ms g c 50 [] 203) := by kernel_rfl
end Py

-- Ez_e5
set_option maxRecDepth 100000
set_option maxHeartbeats 8000000
noncomputable section
namespace Py
open PySem PySem.Spec PyProof.Rows L2 PyD PyL PyH L2H HotX PyM
theorem z_m5 (g c : Int) : whileS z_T z_B 98847 z_ru (z_Ms g c 50 [] 203) = some (.nx, z_re, z_Ml g c []) := by kernel_rfl
end Py

-- Ez_ef1
set_option maxRecDepth 100000
set_option maxHeartbeats 8000000
noncomputable section
namespace Py
open PySem PySem.Spec PyProof.Rows L2 PyD PyL PyH L2H HotX PyM
theorem z_f1 (g c : Int) : iterS z_T z_B 505 [some z_fin, some (.int 0), some (.int 0), some (.lst 6), none, none, none] (z_Ml g c [.tup [z_fin, .int 1]]) = some (z_fm 50 505 205 202, z_Ml g c (z_fstk 50 [.tup [z_nxt 50, .int 203]] 200)) := by kernel_rfl
end Py

-- Ez_ef2
set_option maxRecDepth 100000
set_option maxHeartbeats 8000000
noncomputable section
namespace Py
open PySem PySem.Spec PyProof.Rows L2 PyD PyL PyH L2H HotX PyM
theorem z_f2 (g c : Int) : iterS z_T z_B 250 (z_fm 50 505 205 202) (z_Ml g c (z_fstk 50 [.tup [z_nxt 50, .int 203]] 200)) = some (z_fm 25 755 305 302, z_Ml g c (z_fstk 75 [.tup [z_nxt 25, .int 303]] 300)) := by kernel_rfl
end Py

-- Ez_ef3
set_option maxRecDepth 100000
set_option maxHeartbeats 8000000
noncomputable section
namespace Py
open PySem PySem.Spec PyProof.Rows L2 PyD PyL PyH L2H HotX PyM
theorem z_f3 (g c : Int) : iterS z_T z_B 250 (z_fm 25 755 305 302) (z_Ml g c (z_fstk 75 [.tup [z_nxt 25, .int 303]] 300)) = some (z_fm 0 1005 405 402, z_Ml g c (z_fstk 100 [.tup [z_nxt 0, .int 403]] 400)) := by kernel_rfl
end Py

-- Ez_ef4
set_option maxRecDepth 100000
set_option maxHeartbeats 8000000
noncomputable section
namespace Py
open PySem PySem.Spec PyProof.Rows L2 PyD PyL PyH L2H HotX PyM
theorem z_f4 (g c : Int) : iterS z_T z_B 203 (z_fm 0 1005 405 402) (z_Ml g c (z_fstk 100 [.tup [z_nxt 0, .int 403]] 400)) = some (z_fu, z_Ml g c (z_fstk 50 [] 200)) := by kernel_rfl
end Py

-- Ez_ef5
set_option maxRecDepth 100000
set_option maxHeartbeats 8000000
noncomputable section
namespace Py
open PySem PySem.Spec PyProof.Rows L2 PyD PyL PyH L2H HotX PyM
theorem z_f5 (g c : Int) : whileS z_T z_B 98792 z_fu (z_Ml g c (z_fstk 50 [] 200)) = some (.nx, z_fe, z_Ml g c []) := by kernel_rfl
end Py

-- Ez_g
set_option maxRecDepth 100000
set_option maxHeartbeats 8000000
noncomputable section
namespace Py
open PySem PySem.Spec PyProof.Rows L2 PyD PyL PyH L2H HotX PyM
theorem z_8 (g c : Int) : trimE (callE 1 f_finished (consD (cstD (z_fun "Next" (z_nxt 100))) nilD)) [some z_d] (z_M g c) = some (.ok z_fin, z_M g c) := by kernel_rfl
end Py

-- Ez_m
set_option maxRecDepth 100000
set_option maxHeartbeats 400000
noncomputable section
namespace Py
open PySem PySem.Spec PyProof.Rows L2 PyD PyL PyH L2H HotX PyM
section
variable {f : Den D} {h as : Den (List D)} {r r1 : DEnv} {M M1 M2 : Sto} {a : D} {ds : List D} {e : Ex} {n : Nat} {fd : FDen}
theorem ev_arg {r' : DEnv} (h : r[0]? = r'[0]?) : trimE (callE n fd (consD (nmD 0) nilD)) r M = trimE (callE n fd (consD (nmD 0) nilD)) r' M := by
  simp only [trimE, callE, consD, bindD, nmD, h, nilD, liftD]
theorem ev_cons1 {f' : Den D} (h : f r M = f' r M) : consD f nilD r M = consD f' nilD r M := by
  simp only [consD, bindD, h, nilD, liftD]
theorem ev_args {as' : Den (List D)} (h : as r M = as' r M) : trimE (callE n fd as) r M = trimE (callE n fd as') r M := by
  simp only [trimE, callE, bindD, h]
end
theorem z_1t {r : DEnv} (hr : r[0]? = [some z_d][0]?) (g c : Int) : trimE (callE 1 f_check_program (consD (nmD 0) nilD)) r (z_M g c) = some (.ok .non, z_M g c) := (ev_arg hr).trans (z_1 g c)
theorem z_2t {r : DEnv} (hr : r[0]? = [some z_d][0]?) (g c : Int) : trimE (callE 1 f_check_led_rows (consD (nmD 0) nilD)) r (z_M g c) = some (.ok .non, z_M g c) := (ev_arg hr).trans (z_2 g c)
theorem iterS_ok {t : Den Bool} {b : SDen} {n : Nat} {r' : DEnv} {M' : Sto} : ∀ (k : Nat) {r : DEnv} {M : Sto}, iterS t b k r M = some (r', M') → whileS t b (n + k) r M = whileS t b n r' M'
  | 0, r, M, h => by
    cases h
    rfl
  | k + 1, r, M, h => by
    have h2 : (match t r M with
      | some (.ok true, M1) => (match b r M1 with
        | some (.nx, r2, M2) => iterS t b k r2 M2
        | _ => none)
      | _ => none) = some (r', M') := h
    split at h2
    · rename_i M1 h1
      split at h2
      · rename_i r2 M2 h3
        show bindS t _ r M = _
        simp only [bindS, h1, if_true, h3]
        exact iterS_ok k h2
      · cases h2
    · cases h2
theorem z_mw (g c : Int) : whileS z_T z_B 100000 [some z_rec, some (.int 0), some (.int 0), some (.lst 6), none, none, none] (z_Ml g c [.tup [z_rec, .int 1]]) = some (.nx, z_re, z_Ml g c []) :=
  (iterS_ok (n := 99549) 451 (z_m1 g c)).trans ((iterS_ok (n := 99324) 225 (z_m2 g c)).trans ((iterS_ok (n := 99099) 225 (z_m3 g c)).trans ((iterS_ok (n := 98847) 252 (z_m4 g c)).trans (z_m5 g c))))
theorem z_fw (g c : Int) : whileS z_T z_B 100000 [some z_fin, some (.int 0), some (.int 0), some (.lst 6), none, none, none] (z_Ml g c [.tup [z_fin, .int 1]]) = some (.nx, z_fe, z_Ml g c []) :=
  (iterS_ok (n := 99495) 505 (z_f1 g c)).trans ((iterS_ok (n := 99245) 250 (z_f2 g c)).trans ((iterS_ok (n := 98995) 250 (z_f3 g c)).trans ((iterS_ok (n := 98792) 203 (z_f4 g c)).trans (z_f5 g c))))
theorem ev_body_rt {n : Nat} {ds : List D} {r1 : DEnv} {M M1 : Sto} {d : D} {b : SDen} (h : b (ds.map some ++ List.replicate (n - ds.length) none) M = some (.rt d, r1, M1)) : bodyF n b ds M = some (.ok d, M1) := by
  simp only [bodyF, h]
theorem z_meas (g c : Int) : f_measure [z_rec] (z_M g c) = some (.ok (.tup [.int 1426, .int 404]), z_Ml g c []) := by
  refine ev_body_rt (r1 := z_re) ?_
  show d_measure [some z_rec, none, none, none, none, none, none] (z_M g c) = _
  unfold d_measure
  rw [ev_seq (r1 := [some z_rec, some (.int 0), none, none, none, none, none]) (M1 := z_M g c) (by kernel_rfl), ev_seq (r1 := [some z_rec, some (.int 0), some (.int 0), none, none, none, none]) (M1 := z_M g c) (by kernel_rfl), ev_seq (r1 := [some z_rec, some (.int 0), some (.int 0), some (.lst 6), none, none, none]) (M1 := z_Ml g c [.tup [z_rec, .int 1]]) (by kernel_rfl)]
  refine (ev_seq (z_mw g c)).trans ?_
  kernel_rfl
theorem z_tr (g c : Int) : trimE (fun _ _ => some (.ok (.tup [.int 1426, .int 404]), z_Ml g c [])) [] (z_M g c) = some (.ok (.tup [.int 1426, .int 404]), z_M g c) := by kernel_rfl
theorem ev_trim_to {f g : Den D} {r r' : DEnv} {M : Sto} (h : f r M = g r' M) : trimE f r M = trimE g r' M := by
  simp only [trimE, h]
theorem z_meas2 (g c : Int) : trimE (callE 1 f_measure (consD (nmD 0) nilD)) [some z_rec, none, none] (z_M g c) = some (.ok (.tup [.int 1426, .int 404]), z_M g c) := by
  have h : callE 1 f_measure (consD (nmD 0) nilD) [some z_rec, none, none] (z_M g c) = some (.ok (.tup [.int 1426, .int 404]), z_Ml g c []) := ev_call (ds := [z_rec]) (ev_cons (M1 := z_M g c) rfl rfl) rfl (z_meas g c)
  exact (ev_trim_to (g := fun _ _ => some (.ok (.tup [.int 1426, .int 404]), z_Ml g c [])) (r' := []) h).trans (z_tr g c)
theorem ev_setc {f f' : Den D} {t : TDen} {r : DEnv} {M : Sto} (h : f r M = f' r M) : setS f t r M = setS f' t r M := by
  simp only [setS, bindS, h]
theorem z_within (g c : Int) : f_is_within_bounds [z_rec] (z_M g c) = some (.ok (.bl false), z_M g c) := by
  refine ev_body_rt (r1 := [some z_rec, some (.int 1426), some (.int 404)]) ?_
  show d_is_within_bounds [some z_rec, none, none] (z_M g c) = _
  unfold d_is_within_bounds
  rw [ev_seq (r1 := [some z_rec, some (.int 1426), some (.int 404)]) (M1 := z_M g c) ((ev_setc (f' := cstD (.tup [.int 1426, .int 404])) (z_meas2 g c)).trans (by kernel_rfl))]
  kernel_rfl
theorem ev_testc {f f' : Den D} {a b : SDen} {r : DEnv} {M : Sto} (h : f r M = f' r M) : ifS (notT (testD f)) a b r M = ifS (notT (testD f')) a b r M := by
  simp only [ifS, bindS, notT, testD, bindD, h]
theorem z_bounds (g c : Int) : f_check_bounds [z_rec] (z_M g c) = some (.ex ⟨"InvalidTree", none⟩, z_M g c) := by
  refine ev_body_ex (r1 := [some z_rec]) ?_
  show d_check_bounds [some z_rec] (z_M g c) = _
  unfold d_check_bounds
  refine (ev_testc (f' := cstD (.bl false)) (ev_trim_same (ev_call (ds := [z_rec]) (ev_cons (M1 := z_M g c) rfl rfl) rfl (z_within g c)))).trans ?_
  kernel_rfl
theorem ev_seq_ex {a b : SDen} {r r1 : DEnv} {M M1 : Sto} {e : Ex} (h : a r M = some (.ex e, r1, M1)) : seqS a b r M = some (.ex e, r1, M1) := by
  simp only [seqS, h]
theorem ev_expr_ex {f : Den D} {r : DEnv} {M M1 : Sto} {e : Ex} (h : f r M = some (.ex e, M1)) : exprS f r M = some (.ex e, r, M1) := by
  simp only [exprS, bindS, h]
theorem z_7 (g c : Int) : f_with_led_names [z_rec] (z_M g c) = some (.ex ⟨"InvalidTree", none⟩, z_M g c) := by
  refine ev_body_ex (r1 := [some z_rec]) ?_
  show d_with_led_names [some z_rec] (z_M g c) = _
  unfold d_with_led_names
  exact ev_seq_ex (ev_expr_ex (ev_trim_ex (ev_call (ds := [z_rec]) (ev_cons (M1 := z_M g c) rfl rfl) rfl (z_bounds g c))))
theorem z_fmeas (g c : Int) : f_measure [z_fin] (z_M g c) = some (.ok (.tup [.int 1408, .int 405]), z_Ml g c []) := by
  refine ev_body_rt (r1 := z_fe) ?_
  show d_measure [some z_fin, none, none, none, none, none, none] (z_M g c) = _
  unfold d_measure
  rw [ev_seq (r1 := [some z_fin, some (.int 0), none, none, none, none, none]) (M1 := z_M g c) (by kernel_rfl), ev_seq (r1 := [some z_fin, some (.int 0), some (.int 0), none, none, none, none]) (M1 := z_M g c) (by kernel_rfl), ev_seq (r1 := [some z_fin, some (.int 0), some (.int 0), some (.lst 6), none, none, none]) (M1 := z_Ml g c [.tup [z_fin, .int 1]]) (by kernel_rfl)]
  refine (ev_seq (z_fw g c)).trans ?_
  kernel_rfl
theorem z_ftr (g c : Int) : trimE (fun _ _ => some (.ok (.tup [.int 1408, .int 405]), z_Ml g c [])) [] (z_M g c) = some (.ok (.tup [.int 1408, .int 405]), z_M g c) := by kernel_rfl
theorem z_fmeas2 (g c : Int) : trimE (callE 1 f_measure (consD (nmD 0) nilD)) [some z_fin, none, none] (z_M g c) = some (.ok (.tup [.int 1408, .int 405]), z_M g c) := by
  have h : callE 1 f_measure (consD (nmD 0) nilD) [some z_fin, none, none] (z_M g c) = some (.ok (.tup [.int 1408, .int 405]), z_Ml g c []) := ev_call (ds := [z_fin]) (ev_cons (M1 := z_M g c) rfl rfl) rfl (z_fmeas g c)
  exact (ev_trim_to (g := fun _ _ => some (.ok (.tup [.int 1408, .int 405]), z_Ml g c [])) (r' := []) h).trans (z_ftr g c)
theorem z_fwithin (g c : Int) : f_is_within_bounds [z_fin] (z_M g c) = some (.ok (.bl false), z_M g c) := by
  refine ev_body_rt (r1 := [some z_fin, some (.int 1408), some (.int 405)]) ?_
  show d_is_within_bounds [some z_fin, none, none] (z_M g c) = _
  unfold d_is_within_bounds
  rw [ev_seq (r1 := [some z_fin, some (.int 1408), some (.int 405)]) (M1 := z_M g c) ((ev_setc (f' := cstD (.tup [.int 1408, .int 405])) (z_fmeas2 g c)).trans (by kernel_rfl))]
  kernel_rfl
theorem z_fbounds (g c : Int) : f_check_bounds [z_fin] (z_M g c) = some (.ex ⟨"InvalidTree", none⟩, z_M g c) := by
  refine ev_body_ex (r1 := [some z_fin]) ?_
  show d_check_bounds [some z_fin] (z_M g c) = _
  unfold d_check_bounds
  refine (ev_testc (f' := cstD (.bl false)) (ev_trim_same (ev_call (ds := [z_fin]) (ev_cons (M1 := z_M g c) rfl rfl) rfl (z_fwithin g c)))).trans ?_
  kernel_rfl
theorem z_9 (g c : Int) : f_with_led_names [z_fin] (z_M g c) = some (.ex ⟨"InvalidTree", none⟩, z_M g c) := by
  refine ev_body_ex (r1 := [some z_fin]) ?_
  show d_with_led_names [some z_fin] (z_M g c) = _
  unfold d_with_led_names
  exact ev_seq_ex (ev_expr_ex (ev_trim_ex (ev_call (ds := [z_fin]) (ev_cons (M1 := z_M g c) rfl rfl) rfl (z_fbounds g c))))
theorem y_next (g c : Int) : f_by_next [z_d] (z_M g c) = some (.ex ⟨"InvalidTree", none⟩, z_M g c) := by
  refine ev_body_ex (r1 := [some z_d]) ?_
  show d_by_next [some z_d] (z_M g c) = _
  unfold d_by_next
  rw [ev_seq (ev_expr (z_1t rfl g c)), ev_seq (ev_expr (z_2 g c))]
  refine ev_ret_ex (ev_trim_ex (ev_call (ds := [z_fin]) (M1 := z_M g c) (ev_cons (M1 := z_M g c) ?_ rfl) rfl (z_9 g c)))
  exact (ev_args (ev_cons1 (z_4 g c))).trans (z_8 g c)
theorem y_trees (g c : Int) : f_by_trees [z_d] (z_M g c) = some (.ex ⟨"InvalidTree", none⟩, z_M g c) := by
  refine ev_body_ex (r1 := [some z_d, some z_behind, some z_plan]) ?_
  show d_by_trees [some z_d, none, none] (z_M g c) = _
  unfold d_by_trees
  rw [ev_seq (ev_expr (z_1t (r := [some z_d, none, none]) rfl g c)), ev_seq (ev_expr (z_2t (r := [some z_d, none, none]) rfl g c)), ev_seq (r1 := [some z_d, some z_behind, none]) (M1 := z_M g c) (by kernel_rfl), ev_seq (r1 := [some z_d, some z_behind, some z_plan]) (M1 := z_M g c) (by kernel_rfl)]
  refine ev_ret_ex (ev_trim_ex (ev_call (ds := [z_rec]) (M1 := z_M g c) (ev_cons (M1 := z_M g c) (ev_tup (ds := [.str "rec", .str "After", .str "Plan", z_fun "Next" z_plan, z_led 100]) (ev_cons (M1 := z_M g c) rfl (ev_cons (M1 := z_M g c) rfl (ev_cons (M1 := z_M g c) rfl (ev_cons (M1 := z_M g c) (by kernel_rfl) (ev_cons (M1 := z_M g c) (z_3 g c) rfl))))) (by decide)) rfl) rfl (z_7 g c)))
abbrev z_nm : FDen := bodyF nn__law_name.length (dnm "InvalidTree")
def z_M2 (g c : Int) : Sto := match z_nm [.exn "InvalidTree" []] (z_M g c) with
  | some (_, M2) => M2
  | none => []
theorem z_nm1 (g c : Int) : z_nm [.exn "InvalidTree" []] (z_M g c) = some (.ok (.str "tree"), z_M2 g c) := by kernel_rfl
theorem z_nm2 (g c : Int) : noExM (z_M2 g c) = true := by kernel_rfl
theorem z_err {n : Nat} {f : Den D} {r : DEnv} {g c : Int} (hb : bd_law n = some f) (h : f r (z_M g c) = some (.ex ⟨"InvalidTree", none⟩, z_M g c)) : errC known nn__law_name.length dnm [] bd_law (lamD n) r (z_M g c) = some (.ok (.str "tree"), z_M2 g c) := by
  have e : errC known nn__law_name.length dnm [] bd_law (lamD n) r (z_M g c) = (match bd_law n with
    | some f => errE known (fun cls => bodyF nn__law_name.length (dnm cls)) f r (z_M g c)
    | none => none) := rfl
  rw [e, hb]
  exact ev_err (e := ⟨"InvalidTree", none⟩) h (by kernel_rfl) (z_nm1 g c) (z_nm2 g c)
theorem z_trim (g c : Int) : trimE (fun _ _ => some (.ok (.str "tree"), z_M2 g c)) [] (z_M g c) = some (.ok (.str "tree"), z_M g c) := by kernel_rfl
theorem z_errT {n : Nat} {f : Den D} {r : DEnv} {g c : Int} (hb : bd_law n = some f) (h : f r (z_M g c) = some (.ex ⟨"InvalidTree", none⟩, z_M g c)) : trimE (errC known nn__law_name.length dnm [] bd_law (lamD n)) r (z_M g c) = some (.ok (.str "tree"), z_M g c) := by
  refine Eq.trans ?_ (z_trim g c)
  simp only [trimE, z_err hb h]
def z_ifs (f : Den D) : SDen := trimS (ifS (btestD (op2 (cmpD .NotEq) f (cstD (.str "tree")))) stuckS skipS)
theorem z_ifs1 (g c : Int) : z_ifs (cstD (.str "tree")) r_14 (z_M g c) = some (.nx, r_15, cupC g c :: R_15) := by kernel_rfl
theorem z_ifs2 (g c : Int) : z_ifs (cstD (.str "tree")) r_15 (z_M g c) = some (.nx, r_16, cupC g c :: R_16) := by kernel_rfl
theorem z_ifs3 {f : Den D} {r : DEnv} {g c : Int} (h : f r (z_M g c) = some (.ok (.str "tree"), z_M g c)) : z_ifs f r (z_M g c) = z_ifs (cstD (.str "tree")) r (z_M g c) := by
  simp only [z_ifs, trimS, ifS, bindS, btestD, op2, bindD, h, cstD]
theorem p_14 (g c : Int) : d_law_14 r_14 (cupC g c :: R_14) = some (.nx, r_15, cupC g c :: R_15) :=
  Eq.trans (z_ifs3 (z_errT (n := 6) rfl (ev_call (ds := [z_d]) (ev_cons (M1 := z_M g c) (by kernel_rfl) rfl) rfl (y_trees g c)))) (z_ifs1 g c)
theorem p_15 (g c : Int) : d_law_15 r_15 (cupC g c :: R_15) = some (.nx, r_16, cupC g c :: R_16) :=
  Eq.trans (z_ifs3 (z_errT (n := 7) rfl (ev_call (ds := [z_d]) (ev_cons (M1 := z_M g c) (by kernel_rfl) rfl) rfl (y_next g c)))) (z_ifs2 g c)
end Py

-- Ew_p
set_option maxRecDepth 100000
set_option maxHeartbeats 8000000
noncomputable section
namespace Py
open PySem PySem.Spec PyProof.Rows L2 PyD PyL PyH L2H HotX PyM
theorem p_0 (g c : Int) : d_law_0 r_0 (cupC g c :: R_0) = some (.nx, r_1, cupC g c :: R_1) := by kernel_rfl
theorem p_1 (g c : Int) : d_law_1 r_1 (cupC g c :: R_1) = some (.nx, r_2, cupC g c :: R_2) := by kernel_rfl
theorem p_3 (g c : Int) : d_law_3 r_3 (cupC g c :: R_3) = some (.nx, r_4, cupC g c :: R_4) := by kernel_rfl
theorem p_5 (g c : Int) : d_law_5 r_5 (cupC g c :: R_5) = some (.nx, r_6, cupC g c :: R_6) := by kernel_rfl
theorem p_6 (g c : Int) : d_law_6 r_6 (cupC g c :: R_6) = some (.nx, r_7, cupC g c :: R_7) := by kernel_rfl
theorem p_7 (g c : Int) : d_law_7 r_7 (cupC g c :: R_7) = some (.nx, r_8, cupC g c :: R_8) := by kernel_rfl
theorem p_8 (g c : Int) : d_law_8 r_8 (cupC g c :: R_8) = some (.nx, r_9, cupC g c :: R_9) := by kernel_rfl
theorem p_9 (g c : Int) : d_law_9 r_9 (cupC g c :: R_9) = some (.nx, r_10, cupC g c :: R_10) := by kernel_rfl
theorem p_10 (g c : Int) : d_law_10 r_10 (cupC g c :: R_10) = some (.nx, r_11, cupC g c :: R_11) := by kernel_rfl
theorem p_11 (g c : Int) : d_law_11 r_11 (cupC g c :: R_11) = some (.nx, r_12, cupC g c :: R_12) := by kernel_rfl
theorem p_12 (g c : Int) : d_law_12 r_12 (cupC g c :: R_12) = some (.nx, r_13, cupC g c :: R_13) := by kernel_rfl
theorem p_13 (g c : Int) : d_law_13 r_13 (cupC g c :: R_13) = some (.nx, r_14, cupC g c :: R_14) := by kernel_rfl
theorem p_16 (g c : Int) : d_law_16 r_16 (cupC g c :: R_16) = some (.nx, r_17, cupC g c :: R_17) := by kernel_rfl
theorem p_17 (g c : Int) : d_law_17 r_17 (cupC g c :: R_17) = some (.nx, r_18, cupC g c :: R_18) := by kernel_rfl
theorem p_18a (g c : Int) : (op2 (cmpD .Eq) (trimE (errC known nn__law_name.length dnm [] bd_law (lamD 10))) (cstD (.str "number"))) r_18 (cupC g c :: R_18) = some (.ok (.bl true), cupC g c :: R_18) := by kernel_rfl
theorem p_18b (g c : Int) : ((op2 (cmpD .Eq) (callE 1 f_tag_deed (consD (cstD (.str "Inn")) nilD)) (cstD (.str "inn"))) r_18 (cupC g c :: R_18)).map (·.1) = some (.ok (.bl true)) := by kernel_rfl
theorem p_18 (g c : Int) : (d_law_18 r_18 (cupC g c :: R_18)).map (·.1) = some (.rt (.bl true)) := ret_and (p_18a g c) (p_18b g c)
end Py

-- EvRun32
set_option maxRecDepth 100000
set_option maxHeartbeats 8000000

noncomputable section
namespace Py
open PySem PySem.Spec PyProof.Rows L2 PyD PyL PyH L2H HotX PyM
theorem law_runs (g c : Int) (hg : 0 ≤ g) : runsTo d_law 5 g c := by
  show ∃ r' M', d_law r_0 (cupC g c :: R_0) = some (.rt (.bl true), r', M')
  unfold d_law
  rw [seq_nx (p_0 g c)]
  rw [seq_nx (p_1 g c)]
  obtain ⟨g2, c2, hg2, e2⟩ := s_2 g c hg
  rw [seq_nx e2]
  rw [seq_nx (p_3 g2 c2)]
  obtain ⟨g4, c4, hg4, e4⟩ := s_4 g2 c2 hg2
  rw [seq_nx e4]
  rw [seq_nx (p_5 g4 c4)]
  rw [seq_nx (p_6 g4 c4)]
  rw [seq_nx (p_7 g4 c4)]
  rw [seq_nx (p_8 g4 c4)]
  rw [seq_nx (p_9 g4 c4)]
  rw [seq_nx (p_10 g4 c4)]
  rw [seq_nx (p_11 g4 c4)]
  rw [seq_nx (p_12 g4 c4)]
  rw [seq_nx (p_13 g4 c4)]
  rw [seq_nx (p_14 g4 c4)]
  rw [seq_nx (p_15 g4 c4)]
  rw [seq_nx (p_16 g4 c4)]
  rw [seq_nx (p_17 g4 c4)]
  exact of_map (p_18 g4 c4)
end Py

-- Top32
set_option maxRecDepth 100000
set_option maxHeartbeats 0
namespace Py
open PySem PySem.Spec PyProof.Rows L2 PyD PyL PyH L2H HotX PyM NdefX
theorem top32 {w : World} {h : Heap} {K : PySem.W.Frag} {mg : Str → Option Value} (X : K.In h) (G : h.Ns mainGlobals mg) (S : look32.Says w h K) :
    ∃ T : Top P32 w K mg, (∀ base : Heap, EAll T base (PyT.mkT K mk32)) ∧ (∀ base : Heap, (∀ p ∈ PyT.mkC K mk32, LamX.TabB base mg p.1 p.2) → Lams T base (PyT.mkT K mk32)) ∧
      ∀ (s : Shared) (us : List Value), us.length = pp_law.length → BindsTo s T.D_law.u ⟨us, []⟩ (pp_law.zip us) := by
  have c : He.SaysD fa32 fn32 K := S.x.t.d
  have more : ex32 K = true := S.x.more
  unfold ex32 at more
  simp only [Bool.and_eq_true] at more
  obtain ⟨m_mkB, m_t_BARRED, m_t_ENGINES, m_t_PART_NAMES, m_t_SIGNS, m_d_PART_SLICES, m_d_STEP_WORDS, m_i_PART_SLICES, m_f_InvalidTree, m_f_InvalidProgram, m_f_InvalidValue, m_f_InvalidName, m_f_InvalidNumber, m_f_InvalidEngine, m_f_TooMany, m_n_TooMany⟩ := more
  obtain ⟨D__law_cup, a__law_cup, b__law_cup⟩ := PyT.defAt (x := "_law_cup") (st := st__law_cup) (ps := pp__law_cup) X G c (List.mem_of_getElem? (i := 0) (by kernel_rfl)) (List.mem_of_getElem? (i := 0) (by kernel_rfl)) (fun _ _ _ _ _ _ us hl => match us, hl with | [_], _ => rfl)
  obtain ⟨D_begins_with_word, a_begins_with_word, b_begins_with_word⟩ := PyT.defAt (x := "begins_with_word") (st := st_begins_with_word) (ps := pp_begins_with_word) X G c (List.mem_of_getElem? (i := 1) (by kernel_rfl)) (List.mem_of_getElem? (i := 1) (by kernel_rfl)) (fun _ _ _ _ _ _ us hl => match us, hl with | [_], _ => rfl)
  obtain ⟨D_is_integer, a_is_integer, b_is_integer⟩ := PyT.defAt (x := "is_integer") (st := st_is_integer) (ps := pp_is_integer) X G c (List.mem_of_getElem? (i := 2) (by kernel_rfl)) (List.mem_of_getElem? (i := 2) (by kernel_rfl)) (fun _ _ _ _ _ _ us hl => match us, hl with | [_, _, _], _ => rfl)
  obtain ⟨D_is_number, a_is_number, b_is_number⟩ := PyT.defAt (x := "is_number") (st := st_is_number) (ps := pp_is_number) X G c (List.mem_of_getElem? (i := 3) (by kernel_rfl)) (List.mem_of_getElem? (i := 3) (by kernel_rfl)) (fun _ _ _ _ _ _ us hl => match us, hl with | [_], _ => rfl)
  obtain ⟨D_is_name, a_is_name, b_is_name⟩ := PyT.defAt (x := "is_name") (st := st_is_name) (ps := pp_is_name) X G c (List.mem_of_getElem? (i := 4) (by kernel_rfl)) (List.mem_of_getElem? (i := 4) (by kernel_rfl)) (fun _ _ _ _ _ _ us hl => match us, hl with | [_], _ => rfl)
  obtain ⟨D_is_tuple_of, a_is_tuple_of, b_is_tuple_of⟩ := PyT.defAt (x := "is_tuple_of") (st := st_is_tuple_of) (ps := pp_is_tuple_of) X G c (List.mem_of_getElem? (i := 5) (by kernel_rfl)) (List.mem_of_getElem? (i := 5) (by kernel_rfl)) (fun _ _ _ _ _ _ us hl => match us, hl with | [_, _, _], _ => rfl)
  obtain ⟨D_has_plain_pair, a_has_plain_pair, b_has_plain_pair⟩ := PyT.defAt (x := "has_plain_pair") (st := st_has_plain_pair) (ps := pp_has_plain_pair) X G c (List.mem_of_getElem? (i := 6) (by kernel_rfl)) (List.mem_of_getElem? (i := 6) (by kernel_rfl)) (fun _ _ _ _ _ _ us hl => match us, hl with | [_], _ => rfl)
  obtain ⟨D_are_unlike, a_are_unlike, b_are_unlike⟩ := PyT.defAt (x := "are_unlike") (st := st_are_unlike) (ps := pp_are_unlike) X G c (List.mem_of_getElem? (i := 7) (by kernel_rfl)) (List.mem_of_getElem? (i := 7) (by kernel_rfl)) (fun _ _ _ _ _ _ us hl => match us, hl with | [_], _ => rfl)
  obtain ⟨D_has_answer_rows, a_has_answer_rows, b_has_answer_rows⟩ := PyT.defAt (x := "has_answer_rows") (st := st_has_answer_rows) (ps := pp_has_answer_rows) X G c (List.mem_of_getElem? (i := 8) (by kernel_rfl)) (List.mem_of_getElem? (i := 8) (by kernel_rfl)) (fun _ _ _ _ _ _ us hl => match us, hl with | [_], _ => rfl)
  obtain ⟨D_has_tree_form, a_has_tree_form, b_has_tree_form⟩ := PyT.defAt (x := "has_tree_form") (st := st_has_tree_form) (ps := pp_has_tree_form) X G c (List.mem_of_getElem? (i := 9) (by kernel_rfl)) (List.mem_of_getElem? (i := 9) (by kernel_rfl)) (fun _ _ _ _ _ _ us hl => match us, hl with | [_], _ => rfl)
  obtain ⟨D_patterns_in, a_patterns_in, b_patterns_in⟩ := PyT.defAt (x := "patterns_in") (st := st_patterns_in) (ps := pp_patterns_in) X G c (List.mem_of_getElem? (i := 10) (by kernel_rfl)) (List.mem_of_getElem? (i := 10) (by kernel_rfl)) (fun _ _ _ _ _ _ us hl => match us, hl with | [_], _ => rfl)
  obtain ⟨D_parts_in, a_parts_in, b_parts_in⟩ := PyT.defAt (x := "parts_in") (st := st_parts_in) (ps := pp_parts_in) X G c (List.mem_of_getElem? (i := 11) (by kernel_rfl)) (List.mem_of_getElem? (i := 11) (by kernel_rfl)) (fun _ _ _ _ _ _ us hl => match us, hl with | [_], _ => rfl)
  obtain ⟨D_fits_tree, a_fits_tree, b_fits_tree⟩ := PyT.defAt (x := "fits_tree") (st := st_fits_tree) (ps := pp_fits_tree) X G c (List.mem_of_getElem? (i := 12) (by kernel_rfl)) (List.mem_of_getElem? (i := 12) (by kernel_rfl)) (fun _ _ _ _ _ _ us hl => match us, hl with | [_], _ => rfl)
  obtain ⟨D_check_tree, a_check_tree, b_check_tree⟩ := PyT.defAt (x := "check_tree") (st := st_check_tree) (ps := pp_check_tree) X G c (List.mem_of_getElem? (i := 13) (by kernel_rfl)) (List.mem_of_getElem? (i := 13) (by kernel_rfl)) (fun _ _ _ _ _ _ us hl => match us, hl with | [_], _ => rfl)
  obtain ⟨D_scopes, a_scopes, b_scopes⟩ := PyT.defAt (x := "scopes") (st := st_scopes) (ps := pp_scopes) X G c (List.mem_of_getElem? (i := 14) (by kernel_rfl)) (List.mem_of_getElem? (i := 14) (by kernel_rfl)) (fun _ _ _ _ _ _ us hl => match us, hl with | [_], _ => rfl)
  obtain ⟨D_with_added, a_with_added, b_with_added⟩ := PyT.defAt (x := "with_added") (st := st_with_added) (ps := pp_with_added) X G c (List.mem_of_getElem? (i := 15) (by kernel_rfl)) (List.mem_of_getElem? (i := 15) (by kernel_rfl)) (fun _ _ _ _ _ _ us hl => match us, hl with | [_, _], _ => rfl)
  obtain ⟨D_free_in, a_free_in, b_free_in⟩ := PyT.defAt (x := "free_in") (st := st_free_in) (ps := pp_free_in) X G c (List.mem_of_getElem? (i := 16) (by kernel_rfl)) (List.mem_of_getElem? (i := 16) (by kernel_rfl)) (fun _ _ _ _ _ _ us hl => match us, hl with | [_], _ => rfl)
  obtain ⟨D_check_program, a_check_program, b_check_program⟩ := PyT.defAt (x := "check_program") (st := st_check_program) (ps := pp_check_program) X G c (List.mem_of_getElem? (i := 17) (by kernel_rfl)) (List.mem_of_getElem? (i := 17) (by kernel_rfl)) (fun _ _ _ _ _ _ us hl => match us, hl with | [_], _ => rfl)
  obtain ⟨D_trees_in, a_trees_in, b_trees_in⟩ := PyT.defAt (x := "trees_in") (st := st_trees_in) (ps := pp_trees_in) X G c (List.mem_of_getElem? (i := 18) (by kernel_rfl)) (List.mem_of_getElem? (i := 18) (by kernel_rfl)) (fun _ _ _ _ _ _ us hl => match us, hl with | [_], _ => rfl)
  obtain ⟨D_check_led_rows, a_check_led_rows, b_check_led_rows⟩ := PyT.defAt (x := "check_led_rows") (st := st_check_led_rows) (ps := pp_check_led_rows) X G c (List.mem_of_getElem? (i := 19) (by kernel_rfl)) (List.mem_of_getElem? (i := 19) (by kernel_rfl)) (fun _ _ _ _ _ _ us hl => match us, hl with | [_], _ => rfl)
  obtain ⟨D_used, a_used, b_used⟩ := PyT.defAt (x := "used") (st := st_used) (ps := pp_used) X G c (List.mem_of_getElem? (i := 20) (by kernel_rfl)) (List.mem_of_getElem? (i := 20) (by kernel_rfl)) (fun _ _ _ _ _ _ us hl => match us, hl with | [_], _ => rfl)
  obtain ⟨D_plan_match, a_plan_match, b_plan_match⟩ := PyT.defAt (x := "plan_match") (st := st_plan_match) (ps := pp_plan_match) X G c (List.mem_of_getElem? (i := 21) (by kernel_rfl)) (List.mem_of_getElem? (i := 21) (by kernel_rfl)) (fun _ _ _ _ _ _ us hl => match us, hl with | [_, _], _ => rfl)
  obtain ⟨D_did, a_did, b_did⟩ := PyT.defAt (x := "did") (st := st_did) (ps := pp_did) X G c (List.mem_of_getElem? (i := 22) (by kernel_rfl)) (List.mem_of_getElem? (i := 22) (by kernel_rfl)) (fun _ _ _ _ _ _ us hl => match us, hl with | [_, _, _], _ => rfl)
  obtain ⟨D_trees_and_patterns_in, a_trees_and_patterns_in, b_trees_and_patterns_in⟩ := PyT.defAt (x := "trees_and_patterns_in") (st := st_trees_and_patterns_in) (ps := pp_trees_and_patterns_in) X G c (List.mem_of_getElem? (i := 23) (by kernel_rfl)) (List.mem_of_getElem? (i := 23) (by kernel_rfl)) (fun _ _ _ _ _ _ us hl => match us, hl with | [_], _ => rfl)
  obtain ⟨D_measure, a_measure, b_measure⟩ := PyT.defAt (x := "measure") (st := st_measure) (ps := pp_measure) X G c (List.mem_of_getElem? (i := 24) (by kernel_rfl)) (List.mem_of_getElem? (i := 24) (by kernel_rfl)) (fun _ _ _ _ _ _ us hl => match us, hl with | [_], _ => rfl)
  obtain ⟨D_is_within_bounds, a_is_within_bounds, b_is_within_bounds⟩ := PyT.defAt (x := "is_within_bounds") (st := st_is_within_bounds) (ps := pp_is_within_bounds) X G c (List.mem_of_getElem? (i := 25) (by kernel_rfl)) (List.mem_of_getElem? (i := 25) (by kernel_rfl)) (fun _ _ _ _ _ _ us hl => match us, hl with | [_], _ => rfl)
  obtain ⟨D_check_bounds, a_check_bounds, b_check_bounds⟩ := PyT.defAt (x := "check_bounds") (st := st_check_bounds) (ps := pp_check_bounds) X G c (List.mem_of_getElem? (i := 26) (by kernel_rfl)) (List.mem_of_getElem? (i := 26) (by kernel_rfl)) (fun _ _ _ _ _ _ us hl => match us, hl with | [_], _ => rfl)
  obtain ⟨D_with_led_names, a_with_led_names, b_with_led_names⟩ := PyT.defAt (x := "with_led_names") (st := st_with_led_names) (ps := pp_with_led_names) X G c (List.mem_of_getElem? (i := 27) (by kernel_rfl)) (List.mem_of_getElem? (i := 27) (by kernel_rfl)) (fun _ _ _ _ _ _ us hl => match us, hl with | [_], _ => rfl)
  obtain ⟨D_with_parts, a_with_parts, b_with_parts⟩ := PyT.defAt (x := "with_parts") (st := st_with_parts) (ps := pp_with_parts) X G c (List.mem_of_getElem? (i := 28) (by kernel_rfl)) (List.mem_of_getElem? (i := 28) (by kernel_rfl)) (fun _ _ _ _ _ _ us hl => match us, hl with | [_, _], _ => rfl)
  obtain ⟨D_done, a_done, b_done⟩ := PyT.defAt (x := "done") (st := st_done) (ps := pp_done) X G c (List.mem_of_getElem? (i := 29) (by kernel_rfl)) (List.mem_of_getElem? (i := 29) (by kernel_rfl)) (fun _ _ _ _ _ _ us hl => match us, hl with | [_], _ => rfl)
  obtain ⟨D_after, a_after, b_after⟩ := PyT.defAt (x := "after") (st := st_after) (ps := pp_after) X G c (List.mem_of_getElem? (i := 30) (by kernel_rfl)) (List.mem_of_getElem? (i := 30) (by kernel_rfl)) (fun _ _ _ _ _ _ us hl => match us, hl with | [_, _, _], _ => rfl)
  obtain ⟨D_led_parts_bytrees⟩ := PyT.aliAt (x := "led_parts_bytrees") (y := "led_parts") (st := st_led_parts_bytrees) (ps := pp_led_parts_bytrees) X G c (List.mem_of_getElem? (i := 31) (by kernel_rfl)) (List.mem_of_getElem? (i := 31) (by kernel_rfl)) (fun _ _ _ _ _ _ us hl => match us, hl with | [_], _ => rfl)
  obtain ⟨D_led_tree, a_led_tree, b_led_tree⟩ := PyT.defAt (x := "led_tree") (st := st_led_tree) (ps := pp_led_tree) X G c (List.mem_of_getElem? (i := 32) (by kernel_rfl)) (List.mem_of_getElem? (i := 32) (by kernel_rfl)) (fun _ _ _ _ _ _ us hl => match us, hl with | [_], _ => rfl)
  obtain ⟨D_by_trees, a_by_trees, b_by_trees⟩ := PyT.defAt (x := "by_trees") (st := st_by_trees) (ps := pp_by_trees) X G c (List.mem_of_getElem? (i := 33) (by kernel_rfl)) (List.mem_of_getElem? (i := 33) (by kernel_rfl)) (fun _ _ _ _ _ _ us hl => match us, hl with | [_], _ => rfl)
  obtain ⟨D_finished, a_finished, b_finished⟩ := PyT.defAt (x := "finished") (st := st_finished) (ps := pp_finished) X G c (List.mem_of_getElem? (i := 34) (by kernel_rfl)) (List.mem_of_getElem? (i := 34) (by kernel_rfl)) (fun _ _ _ _ _ _ us hl => match us, hl with | [_], _ => rfl)
  obtain ⟨D_ahead, a_ahead, b_ahead⟩ := PyT.defAt (x := "ahead") (st := st_ahead) (ps := pp_ahead) X G c (List.mem_of_getElem? (i := 35) (by kernel_rfl)) (List.mem_of_getElem? (i := 35) (by kernel_rfl)) (fun _ _ _ _ _ _ us hl => match us, hl with | [_, _, _], _ => rfl)
  obtain ⟨D_led_parts_bynext⟩ := PyT.aliAt (x := "led_parts_bynext") (y := "led_parts") (st := st_led_parts_bynext) (ps := pp_led_parts_bynext) X G c (List.mem_of_getElem? (i := 36) (by kernel_rfl)) (List.mem_of_getElem? (i := 36) (by kernel_rfl)) (fun _ _ _ _ _ _ us hl => match us, hl with | [_], _ => rfl)
  obtain ⟨D_led_body, a_led_body, b_led_body⟩ := PyT.defAt (x := "led_body") (st := st_led_body) (ps := pp_led_body) X G c (List.mem_of_getElem? (i := 37) (by kernel_rfl)) (List.mem_of_getElem? (i := 37) (by kernel_rfl)) (fun _ _ _ _ _ _ us hl => match us, hl with | [_], _ => rfl)
  obtain ⟨D_led_next, a_led_next, b_led_next⟩ := PyT.defAt (x := "led_next") (st := st_led_next) (ps := pp_led_next) X G c (List.mem_of_getElem? (i := 38) (by kernel_rfl)) (List.mem_of_getElem? (i := 38) (by kernel_rfl)) (fun _ _ _ _ _ _ us hl => match us, hl with | [_], _ => rfl)
  obtain ⟨D_by_next, a_by_next, b_by_next⟩ := PyT.defAt (x := "by_next") (st := st_by_next) (ps := pp_by_next) X G c (List.mem_of_getElem? (i := 39) (by kernel_rfl)) (List.mem_of_getElem? (i := 39) (by kernel_rfl)) (fun _ _ _ _ _ _ us hl => match us, hl with | [_], _ => rfl)
  obtain ⟨D_check_engine, a_check_engine, b_check_engine⟩ := PyT.defAt (x := "check_engine") (st := st_check_engine) (ps := pp_check_engine) X G c (List.mem_of_getElem? (i := 40) (by kernel_rfl)) (List.mem_of_getElem? (i := 40) (by kernel_rfl)) (fun _ _ _ _ _ _ us hl => match us, hl with | [_], _ => rfl)
  obtain ⟨D_check_number, a_check_number, b_check_number⟩ := PyT.defAt (x := "check_number") (st := st_check_number) (ps := pp_check_number) X G c (List.mem_of_getElem? (i := 41) (by kernel_rfl)) (List.mem_of_getElem? (i := 41) (by kernel_rfl)) (fun _ _ _ _ _ _ us hl => match us, hl with | [_, _, _], _ => rfl)
  obtain ⟨D_holds_value, a_holds_value, b_holds_value⟩ := PyT.defAt (x := "holds_value") (st := st_holds_value) (ps := pp_holds_value) X G c (List.mem_of_getElem? (i := 42) (by kernel_rfl)) (List.mem_of_getElem? (i := 42) (by kernel_rfl)) (fun _ _ _ _ _ _ us hl => match us, hl with | [_], _ => rfl)
  obtain ⟨D_working_index, a_working_index, b_working_index⟩ := PyT.defAt (x := "working_index") (st := st_working_index) (ps := pp_working_index) X G c (List.mem_of_getElem? (i := 43) (by kernel_rfl)) (List.mem_of_getElem? (i := 43) (by kernel_rfl)) (fun _ _ _ _ _ _ us hl => match us, hl with | [_], _ => rfl)
  obtain ⟨D_Course__seek, a_Course__seek⟩ := PyT.methAt (C := "Course") (m := "seek") (q := "Course.seek") (st := st_Course__seek) (ps := pp_Course__seek) c (List.mem_of_getElem? (i := 44) (by kernel_rfl)) (List.mem_of_getElem? (i := 125) (by kernel_rfl)) (fun _ _ _ _ _ _ us hl => match us, hl with | [_], _ => rfl)
  obtain ⟨D_Course__init, a_Course__init⟩ := PyT.methAt (C := "Course") (m := "__init__") (q := "Course.__init__") (st := st_Course__init) (ps := pp_Course__init) c (List.mem_of_getElem? (i := 45) (by kernel_rfl)) (List.mem_of_getElem? (i := 126) (by kernel_rfl)) (fun _ _ _ _ _ _ us hl => match us, hl with | [_, _], _ => rfl)
  obtain ⟨D_stuck_at, a_stuck_at, b_stuck_at⟩ := PyT.defAt (x := "stuck_at") (st := st_stuck_at) (ps := pp_stuck_at) X G c (List.mem_of_getElem? (i := 46) (by kernel_rfl)) (List.mem_of_getElem? (i := 44) (by kernel_rfl)) (fun _ _ _ _ _ _ us hl => match us, hl with | [_], _ => rfl)
  obtain ⟨D_stop_at, a_stop_at, b_stop_at⟩ := PyT.defAt (x := "stop_at") (st := st_stop_at) (ps := pp_stop_at) X G c (List.mem_of_getElem? (i := 47) (by kernel_rfl)) (List.mem_of_getElem? (i := 45) (by kernel_rfl)) (fun _ _ _ _ _ _ us hl => match us, hl with | [_, _], _ => rfl)
  obtain ⟨D_Course__ending, a_Course__ending⟩ := PyT.methAt (C := "Course") (m := "ending") (q := "Course.ending") (st := st_Course__ending) (ps := pp_Course__ending) c (List.mem_of_getElem? (i := 48) (by kernel_rfl)) (List.mem_of_getElem? (i := 127) (by kernel_rfl)) (fun _ _ _ _ _ _ us hl => match us, hl with | [_], _ => rfl)
  obtain ⟨D_Course__change, a_Course__change⟩ := PyT.methAt (C := "Course") (m := "change") (q := "Course.change") (st := st_Course__change) (ps := pp_Course__change) c (List.mem_of_getElem? (i := 49) (by kernel_rfl)) (List.mem_of_getElem? (i := 128) (by kernel_rfl)) (fun _ _ _ _ _ _ us hl => match us, hl with | [_, _, _], _ => rfl)
  obtain ⟨D_put_in, a_put_in, b_put_in⟩ := PyT.defAt (x := "put_in") (st := st_put_in) (ps := pp_put_in) X G c (List.mem_of_getElem? (i := 50) (by kernel_rfl)) (List.mem_of_getElem? (i := 46) (by kernel_rfl)) (fun _ _ _ _ _ _ us hl => match us, hl with | [_, _], _ => rfl)
  obtain ⟨D_changed_at, a_changed_at, b_changed_at⟩ := PyT.defAt (x := "changed_at") (st := st_changed_at) (ps := pp_changed_at) X G c (List.mem_of_getElem? (i := 51) (by kernel_rfl)) (List.mem_of_getElem? (i := 47) (by kernel_rfl)) (fun _ _ _ _ _ _ us hl => match us, hl with | [_], _ => rfl)
  obtain ⟨D_Course__advance, a_Course__advance⟩ := PyT.methAt (C := "Course") (m := "advance") (q := "Course.advance") (st := st_Course__advance) (ps := pp_Course__advance) c (List.mem_of_getElem? (i := 52) (by kernel_rfl)) (List.mem_of_getElem? (i := 129) (by kernel_rfl)) (fun _ _ _ _ _ _ us hl => match us, hl with | [_], _ => rfl)
  obtain ⟨D_Course__lead, a_Course__lead⟩ := PyT.methAt (C := "Course") (m := "lead") (q := "Course.lead") (st := st_Course__lead) (ps := pp_Course__lead) c (List.mem_of_getElem? (i := 53) (by kernel_rfl)) (List.mem_of_getElem? (i := 130) (by kernel_rfl)) (fun _ _ _ _ _ _ us hl => match us, hl with | [_, _], _ => rfl)
  obtain ⟨D_shown, a_shown, b_shown⟩ := PyT.defAt (x := "shown") (st := st_shown) (ps := pp_shown) X G c (List.mem_of_getElem? (i := 54) (by kernel_rfl)) (List.mem_of_getElem? (i := 48) (by kernel_rfl)) (fun _ _ _ _ _ _ us hl => match us, hl with | [_], _ => rfl)
  obtain ⟨D_shown_end, a_shown_end, b_shown_end⟩ := PyT.defAt (x := "shown_end") (st := st_shown_end) (ps := pp_shown_end) X G c (List.mem_of_getElem? (i := 55) (by kernel_rfl)) (List.mem_of_getElem? (i := 49) (by kernel_rfl)) (fun _ _ _ _ _ _ us hl => match us, hl with | [_], _ => rfl)
  obtain ⟨D_Course__shown_ending, a_Course__shown_ending⟩ := PyT.methAt (C := "Course") (m := "shown_ending") (q := "Course.shown_ending") (st := st_Course__shown_ending) (ps := pp_Course__shown_ending) c (List.mem_of_getElem? (i := 56) (by kernel_rfl)) (List.mem_of_getElem? (i := 131) (by kernel_rfl)) (fun _ _ _ _ _ _ us hl => match us, hl with | [_], _ => rfl)
  obtain ⟨D_run_by_rewriting, a_run_by_rewriting, b_run_by_rewriting⟩ := PyT.defAt (x := "run_by_rewriting") (st := st_run_by_rewriting) (ps := pp_run_by_rewriting) X G c (List.mem_of_getElem? (i := 57) (by kernel_rfl)) (List.mem_of_getElem? (i := 50) (by kernel_rfl)) (fun _ _ _ _ _ _ us hl => match us, hl with | [_, _], _ => rfl)
  obtain ⟨D_shown_and_steps, a_shown_and_steps, b_shown_and_steps⟩ := PyT.defAt (x := "shown_and_steps") (st := st_shown_and_steps) (ps := pp_shown_and_steps) X G c (List.mem_of_getElem? (i := 58) (by kernel_rfl)) (List.mem_of_getElem? (i := 51) (by kernel_rfl)) (fun _ _ _ _ _ _ us hl => match us, hl with | [_, _, _], _ => rfl)
  obtain ⟨D_shown_by, a_shown_by, b_shown_by⟩ := PyT.defAt (x := "shown_by") (st := st_shown_by) (ps := pp_shown_by) X G c (List.mem_of_getElem? (i := 59) (by kernel_rfl)) (List.mem_of_getElem? (i := 52) (by kernel_rfl)) (fun _ _ _ _ _ _ us hl => match us, hl with | [_, _, _], _ => rfl)
  obtain ⟨D_are_shown_alike, a_are_shown_alike, b_are_shown_alike⟩ := PyT.defAt (x := "are_shown_alike") (st := st_are_shown_alike) (ps := pp_are_shown_alike) X G c (List.mem_of_getElem? (i := 60) (by kernel_rfl)) (List.mem_of_getElem? (i := 53) (by kernel_rfl)) (fun _ _ _ _ _ _ us hl => match us, hl with | [_, _, _, _], _ => rfl)
  obtain ⟨D_fits_program, a_fits_program, b_fits_program⟩ := PyT.defAt (x := "fits_program") (st := st_fits_program) (ps := pp_fits_program) X G c (List.mem_of_getElem? (i := 61) (by kernel_rfl)) (List.mem_of_getElem? (i := 54) (by kernel_rfl)) (fun _ _ _ _ _ _ us hl => match us, hl with | [_], _ => rfl)
  obtain ⟨D_is_value_program, a_is_value_program, b_is_value_program⟩ := PyT.defAt (x := "is_value_program") (st := st_is_value_program) (ps := pp_is_value_program) X G c (List.mem_of_getElem? (i := 62) (by kernel_rfl)) (List.mem_of_getElem? (i := 55) (by kernel_rfl)) (fun _ _ _ _ _ _ us hl => match us, hl with | [_], _ => rfl)
  obtain ⟨D_check_value, a_check_value, b_check_value⟩ := PyT.defAt (x := "check_value") (st := st_check_value) (ps := pp_check_value) X G c (List.mem_of_getElem? (i := 63) (by kernel_rfl)) (List.mem_of_getElem? (i := 56) (by kernel_rfl)) (fun _ _ _ _ _ _ us hl => match us, hl with | [_], _ => rfl)
  obtain ⟨D_check_values, a_check_values, b_check_values⟩ := PyT.defAt (x := "check_values") (st := st_check_values) (ps := pp_check_values) X G c (List.mem_of_getElem? (i := 64) (by kernel_rfl)) (List.mem_of_getElem? (i := 57) (by kernel_rfl)) (fun _ _ _ _ _ _ us hl => match us, hl with | [_, _, _], _ => rfl)
  obtain ⟨D_check_talk, a_check_talk, b_check_talk⟩ := PyT.defAt (x := "check_talk") (st := st_check_talk) (ps := pp_check_talk) X G c (List.mem_of_getElem? (i := 65) (by kernel_rfl)) (List.mem_of_getElem? (i := 58) (by kernel_rfl)) (fun _ _ _ _ _ _ us hl => match us, hl with | [_, _, _], _ => rfl)
  obtain ⟨D_talk_of, a_talk_of, b_talk_of⟩ := PyT.defAt (x := "talk_of") (st := st_talk_of) (ps := pp_talk_of) X G c (List.mem_of_getElem? (i := 66) (by kernel_rfl)) (List.mem_of_getElem? (i := 59) (by kernel_rfl)) (fun _ _ _ _ _ _ us hl => match us, hl with | [_, _, _], _ => rfl)
  obtain ⟨D_program_behind, a_program_behind, b_program_behind⟩ := PyT.defAt (x := "program_behind") (st := st_program_behind) (ps := pp_program_behind) X G c (List.mem_of_getElem? (i := 67) (by kernel_rfl)) (List.mem_of_getElem? (i := 60) (by kernel_rfl)) (fun _ _ _ _ _ _ us hl => match us, hl with | [_, _, _], _ => rfl)
  obtain ⟨D_deed_tree, a_deed_tree, b_deed_tree⟩ := PyT.defAt (x := "deed_tree") (st := st_deed_tree) (ps := pp_deed_tree) X G c (List.mem_of_getElem? (i := 68) (by kernel_rfl)) (List.mem_of_getElem? (i := 61) (by kernel_rfl)) (fun _ _ _ _ _ _ us hl => match us, hl with | [_, _, _, _], _ => rfl)
  obtain ⟨D__law_name, a__law_name, b__law_name⟩ := PyT.defAt (x := "_law_name") (st := st__law_name) (ps := pp__law_name) X G c (List.mem_of_getElem? (i := 69) (by kernel_rfl)) (List.mem_of_getElem? (i := 62) (by kernel_rfl)) (fun _ _ _ _ _ _ us hl => match us, hl with | [_], _ => rfl)
  obtain ⟨D__law_error, a__law_error, b__law_error⟩ := PyT.defAt (x := "_law_error") (st := st__law_error) (ps := pp__law_error) X G c (List.mem_of_getElem? (i := 70) (by kernel_rfl)) (List.mem_of_getElem? (i := 63) (by kernel_rfl)) (fun _ _ _ _ _ _ us hl => match us, hl with | [_], _ => rfl)
  obtain ⟨D__law_programs_right, a__law_programs_right, b__law_programs_right⟩ := PyT.defAt (x := "_law_programs_right") (st := st__law_programs_right) (ps := pp__law_programs_right) X G c (List.mem_of_getElem? (i := 71) (by kernel_rfl)) (List.mem_of_getElem? (i := 64) (by kernel_rfl)) (fun _ _ _ _ _ _ us hl => match us, hl with | [_, _], _ => rfl)
  obtain ⟨D__law_roll, a__law_roll, b__law_roll⟩ := PyT.defAt (x := "_law_roll") (st := st__law_roll) (ps := pp__law_roll) X G c (List.mem_of_getElem? (i := 72) (by kernel_rfl)) (List.mem_of_getElem? (i := 65) (by kernel_rfl)) (fun _ _ _ _ _ _ us hl => match us, hl with | [_, _], _ => rfl)
  obtain ⟨D__law_some, a__law_some, b__law_some⟩ := PyT.defAt (x := "_law_some") (st := st__law_some) (ps := pp__law_some) X G c (List.mem_of_getElem? (i := 73) (by kernel_rfl)) (List.mem_of_getElem? (i := 66) (by kernel_rfl)) (fun _ _ _ _ _ _ us hl => match us, hl with | [_, _], _ => rfl)
  obtain ⟨D_has_deeds, a_has_deeds, b_has_deeds⟩ := PyT.defAt (x := "has_deeds") (st := st_has_deeds) (ps := pp_has_deeds) X G c (List.mem_of_getElem? (i := 74) (by kernel_rfl)) (List.mem_of_getElem? (i := 67) (by kernel_rfl)) (fun _ _ _ _ _ _ us hl => match us, hl with | [_], _ => rfl)
  obtain ⟨D_is_without_deeds, a_is_without_deeds, b_is_without_deeds⟩ := PyT.defAt (x := "is_without_deeds") (st := st_is_without_deeds) (ps := pp_is_without_deeds) X G c (List.mem_of_getElem? (i := 75) (by kernel_rfl)) (List.mem_of_getElem? (i := 68) (by kernel_rfl)) (fun _ _ _ _ _ _ us hl => match us, hl with | [_], _ => rfl)
  obtain ⟨D_check_name, a_check_name, b_check_name⟩ := PyT.defAt (x := "check_name") (st := st_check_name) (ps := pp_check_name) X G c (List.mem_of_getElem? (i := 76) (by kernel_rfl)) (List.mem_of_getElem? (i := 69) (by kernel_rfl)) (fun _ _ _ _ _ _ us hl => match us, hl with | [_], _ => rfl)
  obtain ⟨D_deed_tag, a_deed_tag, b_deed_tag⟩ := PyT.defAt (x := "deed_tag") (st := st_deed_tag) (ps := pp_deed_tag) X G c (List.mem_of_getElem? (i := 77) (by kernel_rfl)) (List.mem_of_getElem? (i := 70) (by kernel_rfl)) (fun _ _ _ _ _ _ us hl => match us, hl with | [_], _ => rfl)
  obtain ⟨D_is_tag, a_is_tag, b_is_tag⟩ := PyT.defAt (x := "is_tag") (st := st_is_tag) (ps := pp_is_tag) X G c (List.mem_of_getElem? (i := 78) (by kernel_rfl)) (List.mem_of_getElem? (i := 71) (by kernel_rfl)) (fun _ _ _ _ _ _ us hl => match us, hl with | [_], _ => rfl)
  obtain ⟨D_deed_of, a_deed_of, b_deed_of⟩ := PyT.defAt (x := "deed_of") (st := st_deed_of) (ps := pp_deed_of) X G c (List.mem_of_getElem? (i := 79) (by kernel_rfl)) (List.mem_of_getElem? (i := 72) (by kernel_rfl)) (fun _ _ _ _ _ _ us hl => match us, hl with | [_], _ => rfl)
  obtain ⟨D_is_deed_tag, a_is_deed_tag, b_is_deed_tag⟩ := PyT.defAt (x := "is_deed_tag") (st := st_is_deed_tag) (ps := pp_is_deed_tag) X G c (List.mem_of_getElem? (i := 80) (by kernel_rfl)) (List.mem_of_getElem? (i := 73) (by kernel_rfl)) (fun _ _ _ _ _ _ us hl => match us, hl with | [_], _ => rfl)
  obtain ⟨D_tag_deed, a_tag_deed, b_tag_deed⟩ := PyT.defAt (x := "tag_deed") (st := st_tag_deed) (ps := pp_tag_deed) X G c (List.mem_of_getElem? (i := 81) (by kernel_rfl)) (List.mem_of_getElem? (i := 74) (by kernel_rfl)) (fun _ _ _ _ _ _ us hl => match us, hl with | [_], _ => rfl)
  obtain ⟨D__law_others_right, a__law_others_right, b__law_others_right⟩ := PyT.defAt (x := "_law_others_right") (st := st__law_others_right) (ps := pp__law_others_right) X G c (List.mem_of_getElem? (i := 82) (by kernel_rfl)) (List.mem_of_getElem? (i := 75) (by kernel_rfl)) (fun _ _ _ _ _ _ us hl => match us, hl with | [_], _ => rfl)
  obtain ⟨D__law_six, a__law_six, b__law_six⟩ := PyT.defAt (x := "_law_six") (st := st__law_six) (ps := pp__law_six) X G c (List.mem_of_getElem? (i := 83) (by kernel_rfl)) (List.mem_of_getElem? (i := 76) (by kernel_rfl)) (fun _ _ _ _ _ _ us hl => match us, hl with | [], _ => rfl)
  obtain ⟨D_law, a_law, b_law⟩ := PyT.defAt (x := "law") (st := st_law) (ps := pp_law) X G c (List.mem_of_getElem? (i := 84) (by kernel_rfl)) (List.mem_of_getElem? (i := 77) (by kernel_rfl)) (fun _ _ _ _ _ _ us hl => match us, hl with | [_], _ => rfl)
  obtain ⟨es_PART_SLICES, en_PART_SLICES, kd_PART_SLICES⟩ := S.x.t.tab 0 (t := (fun K => He.ga K "PART_SLICES", ["num", "name", "fun", "call", "let", "rec", "op", "do"])) (by kernel_rfl)
  obtain ⟨es_STEP_WORDS, en_STEP_WORDS, kd_STEP_WORDS⟩ := S.x.t.tab 1 (t := (fun K => He.ga K "STEP_WORDS", ["call", "let", "rec", "match", "op", "answer", "do"])) (by kernel_rfl)
  obtain ⟨I_TooMany⟩ := PyT.initAt (P := P32) (mg := mg) (y := "TooMany") (x := "limit") (q := "TooMany.__init__") (st := initStmt ic_TooMany) (e := ie_TooMany) (List.cons.inj S.f).1 m_n_TooMany (by kernel_rfl) (He.free_ok X G (c.facts (List.mem_of_getElem? (i := 108) (by kernel_rfl)))) (nscope_by (by decide +kernel)) (by decide +kernel) ⟨_, rfl, rfl⟩
    (fun _ _ _ _ _ _ _ us hl => match us, hl with | [_, _], _ => rfl) ⟨_, _, _, _, _, _, _, _, _, rfl, fun env => ⟨_, rfl⟩⟩
  refine ⟨⟨D__law_cup, D_begins_with_word, D_is_integer, D_is_number, D_is_name, D_is_tuple_of, D_has_plain_pair, D_are_unlike, D_has_answer_rows, D_has_tree_form, D_patterns_in, D_parts_in, D_fits_tree, D_check_tree, D_scopes, D_with_added, D_free_in, D_check_program, D_trees_in, D_check_led_rows, D_used, D_plan_match, D_did, D_trees_and_patterns_in, D_measure, D_is_within_bounds, D_check_bounds, D_with_led_names, D_with_parts, D_done, D_after, D_led_parts_bytrees, D_led_tree, D_by_trees, D_finished, D_ahead, D_led_parts_bynext, D_led_body, D_led_next, D_by_next, D_check_engine, D_check_number, D_holds_value, D_working_index, D_Course__seek, D_Course__init, D_stuck_at, D_stop_at, D_Course__ending, D_Course__change, D_put_in, D_changed_at, D_Course__advance, D_Course__lead, D_shown, D_shown_end, D_Course__shown_ending, D_run_by_rewriting, D_shown_and_steps, D_shown_by, D_are_shown_alike, D_fits_program, D_is_value_program, D_check_value, D_check_values, D_check_talk, D_talk_of, D_program_behind, D_deed_tree, D__law_name, D__law_error, D__law_programs_right, D__law_roll, D__law_some, D_has_deeds, D_is_without_deeds, D_check_name, D_deed_tag, D_is_tag, D_deed_of, D_is_deed_tag, D_tag_deed, D__law_others_right, D__law_six, D_law, He.free_ok X G (c.facts (List.mem_of_getElem? (i := 93) (by kernel_rfl))), He.free_ok X G (c.facts (List.mem_of_getElem? (i := 94) (by kernel_rfl))), He.free_ok X G (c.facts (List.mem_of_getElem? (i := 95) (by kernel_rfl))), He.free_ok X G (c.facts (List.mem_of_getElem? (i := 96) (by kernel_rfl))), He.free_ok X G (c.facts (List.mem_of_getElem? (i := 97) (by kernel_rfl))), He.free_ok X G (c.facts (List.mem_of_getElem? (i := 98) (by kernel_rfl))), He.free_ok X G (c.facts (List.mem_of_getElem? (i := 99) (by kernel_rfl))), He.free_ok X G (c.facts (List.mem_of_getElem? (i := 100) (by kernel_rfl))), He.free_ok X G (c.facts (List.mem_of_getElem? (i := 101) (by kernel_rfl))), He.free_ok X G (c.facts (List.mem_of_getElem? (i := 102) (by kernel_rfl))), He.free_ok X G (c.facts (List.mem_of_getElem? (i := 103) (by kernel_rfl))), He.free_ok X G (c.facts (List.mem_of_getElem? (i := 104) (by kernel_rfl))), He.free_ok X G (c.facts (List.mem_of_getElem? (i := 105) (by kernel_rfl))), He.free_ok X G (c.facts (List.mem_of_getElem? (i := 106) (by kernel_rfl))), He.free_ok X G (c.facts (List.mem_of_getElem? (i := 107) (by kernel_rfl))), PyT.kTup X G c (List.mem_of_getElem? (i := 87) (by kernel_rfl)) m_t_BARRED, PyT.kTup X G c (List.mem_of_getElem? (i := 88) (by kernel_rfl)) m_t_ENGINES, He.int_ok X G (c.facts (List.mem_of_getElem? (i := 109) (by kernel_rfl))), He.int_ok X G (c.facts (List.mem_of_getElem? (i := 110) (by kernel_rfl))), He.int_ok X G (c.facts (List.mem_of_getElem? (i := 111) (by kernel_rfl))), He.int_ok X G (c.facts (List.mem_of_getElem? (i := 112) (by kernel_rfl))), PyT.kTup X G c (List.mem_of_getElem? (i := 89) (by kernel_rfl)) m_t_PART_NAMES, PyT.kDic X G c (List.mem_of_getElem? (i := 91) (by kernel_rfl)) kd_PART_SLICES m_d_PART_SLICES, PyT.kTup X G c (List.mem_of_getElem? (i := 90) (by kernel_rfl)) m_t_SIGNS, PyT.kDicS X G c (List.mem_of_getElem? (i := 92) (by kernel_rfl)) kd_STEP_WORDS m_d_STEP_WORDS, PyT.clsMk X G c (List.mem_of_getElem? (i := 79) (by kernel_rfl)) (List.mem_of_getElem? (i := 113) (by kernel_rfl)), PyT.clsMk X G c (List.mem_of_getElem? (i := 80) (by kernel_rfl)) (List.mem_of_getElem? (i := 114) (by kernel_rfl)), PyT.clsMk X G c (List.mem_of_getElem? (i := 81) (by kernel_rfl)) (List.mem_of_getElem? (i := 115) (by kernel_rfl)), PyT.clsMk X G c (List.mem_of_getElem? (i := 82) (by kernel_rfl)) (List.mem_of_getElem? (i := 116) (by kernel_rfl)), PyT.clsMk X G c (List.mem_of_getElem? (i := 83) (by kernel_rfl)) (List.mem_of_getElem? (i := 117) (by kernel_rfl)), PyT.clsMk X G c (List.mem_of_getElem? (i := 84) (by kernel_rfl)) (List.mem_of_getElem? (i := 118) (by kernel_rfl)), PyT.clsMk X G c (List.mem_of_getElem? (i := 85) (by kernel_rfl)) (List.mem_of_getElem? (i := 119) (by kernel_rfl)), PyT.clsN X G c (List.mem_of_getElem? (i := 86) (by kernel_rfl)), ⟨He.glo_ok X G (c.facts (List.mem_of_getElem? (i := 78) (by kernel_rfl))), He.cls_ok (c.facts (List.mem_of_getElem? (i := 120) (by kernel_rfl)))⟩, (by rw [a_Course__init]; exact He.mkr_ok (c.facts (List.mem_of_getElem? (i := 121) (by kernel_rfl)))), He.noat_ok (c.facts (List.mem_of_getElem? (i := 122) (by kernel_rfl))), He.noat_ok (c.facts (List.mem_of_getElem? (i := 123) (by kernel_rfl))), He.noat_ok (c.facts (List.mem_of_getElem? (i := 124) (by kernel_rfl))), I_TooMany, PyT.kIn X G c (List.mem_of_getElem? (i := 91) (by kernel_rfl)) kd_PART_SLICES m_i_PART_SLICES⟩, fun base => ?_, fun base TB => ?_, b_law⟩
  · refine ⟨fun lam => ⟨D__law_name.F, sc__law_name, D__law_name.m, D__law_name.b, fun hot cl zc fl hX hf ht hn hr => ?_⟩, ?_, ⟨D__law_error.F, ⟨rfl, rfl, rfl, by decide +kernel, rfl, by decide +kernel, by decide +kernel⟩, D__law_error.m, D__law_error.b, ⟨_, _, _, _, _, _, _, _, _, _, _, _, _, _, _, _, _, rfl⟩, by rfl, by rfl, by rfl, by rfl, by rfl, He.glo_ok X G (c.facts (List.mem_of_getElem? (i := 85) (by kernel_rfl))), by decide, by decide, by decide, by decide, by decide, by decide, by decide, by decide⟩, by decide, fun cls hc => ?_⟩
    · exact hot__law_name _ hot cl zc fl hX hf hn (ht _ (List.mem_of_getElem? (i := 0) rfl)) (ht _ (List.mem_of_getElem? (i := 1) rfl)) (ht _ (List.mem_of_getElem? (i := 2) rfl)) (ht _ (List.mem_of_getElem? (i := 3) rfl)) (ht _ (List.mem_of_getElem? (i := 4) rfl)) (ht _ (List.mem_of_getElem? (i := 5) rfl)) (ht _ (List.mem_of_getElem? (i := 6) rfl)) hr
    · intro y f e
      unfold flds at e
      split at e
      · exact (Option.some.inj e).symm
      · cases e
    · have all : ∀ cls ∈ known, ClsF K mg (He.ga K "NearError") (tab32.map fun p => (p, He.ga K p)) sub0 "limit" cls := List.forall_mem_cons.mpr ⟨PyT.clsF (tab := tab32) X G c (List.mem_of_getElem? (i := 83) (by kernel_rfl)) m_f_InvalidTree, List.forall_mem_cons.mpr ⟨PyT.clsF (tab := tab32) X G c (List.mem_of_getElem? (i := 82) (by kernel_rfl)) m_f_InvalidProgram, List.forall_mem_cons.mpr ⟨PyT.clsF (tab := tab32) X G c (List.mem_of_getElem? (i := 84) (by kernel_rfl)) m_f_InvalidValue, List.forall_mem_cons.mpr ⟨PyT.clsF (tab := tab32) X G c (List.mem_of_getElem? (i := 80) (by kernel_rfl)) m_f_InvalidName, List.forall_mem_cons.mpr ⟨PyT.clsF (tab := tab32) X G c (List.mem_of_getElem? (i := 81) (by kernel_rfl)) m_f_InvalidNumber, List.forall_mem_cons.mpr ⟨PyT.clsF (tab := tab32) X G c (List.mem_of_getElem? (i := 79) (by kernel_rfl)) m_f_InvalidEngine, List.forall_mem_cons.mpr ⟨PyT.clsF (tab := tab32) X G c (List.mem_of_getElem? (i := 86) (by kernel_rfl)) m_f_TooMany, List.forall_mem_nil _⟩⟩⟩⟩⟩⟩⟩
      exact all cls (anyS_iff.mp hc)
  · exact ⟨PyT.lamAt D__law_programs_right a__law_programs_right (List.mem_of_getElem? (i := 0) rfl) m_mkB TB, PyT.lamAt D__law_others_right a__law_others_right (List.mem_of_getElem? (i := 1) rfl) m_mkB TB, PyT.lamAt D_law a_law (List.mem_of_getElem? (i := 2) rfl) m_mkB TB⟩
end Py
set_option maxHeartbeats 0
namespace Py
open PySem PySem.Spec PyProof.Rows L2 PyD PyL PyH L2H HotX PyM NdefX
theorem cup_nn (ns : List Int) : 0 ≤ (cupOf ns).1 := by
  unfold cupOf cup2
  split
  · rename_i h
    exact Int.ediv_nonneg (Int.le_trans (by decide) h) (by decide)
  · exact Int.le_refl _
theorem last32 (w : World) (mg : Str → Option Value) (fa : Addr) (h : Heap) (Y : look32.hook.says w h) (G : h.Ns mainGlobals mg) (hm : mg ("law" : Str) = some (.ref fa)) :
    ∃ K : PySem.W.Frag, K.In h ∧ LamX.LawAtS PySem.Challenge.rw_nearanswer_k32_programs_led_that_are_non w K (L2N.CX P32 w) 147 63 "_law_script" mg fa h := by
  obtain ⟨K, X, S⟩ := Y
  obtain ⟨T, hE, hL, hb⟩ := top32 X G S
  have e : fa = T.D_law.a := by
    have z := hm.symm.trans T.D_law.m
    cases z
    rfl
  subst e
  refine ⟨K, X, T.D_law.u, PyT.mkC K mk32, spLaw K (PyT.mkT K mk32) (fun ns => runsTo d_law 5 (cupOf ns).1 (cupOf ns).2), fun p hp => ?_, fun p hp => ?_, fun p hp => ?_, fun s u => hb s [u] rfl, fun H a ns hl hbits hH hS => ?_, fun base hk hg TB => ?_⟩
  · obtain ⟨r, hr, rfl⟩ := List.mem_map.mp hp
    exact S.x.empty _ (List.mem_map.mpr ⟨r, hr, rfl⟩)
  · obtain ⟨r, hr, rfl⟩ := List.mem_map.mp hp
    exact S.x.out _ (List.mem_map.mpr ⟨r, hr, rfl⟩)
  · obtain ⟨r, hr, rfl⟩ := List.mem_map.mp hp
    exact PySem.W.codeHd_of_K X (S.x.hd _ (List.mem_map.mpr ⟨r, hr, rfl⟩))
  · exact ⟨a, ns, rfl, hS, PyT.tabs0 hH, Nat.le_trans (Nat.succ_le_succ hl) (by decide), law_runs _ _ (cup_nn ns), fun _ => rfl⟩
  · exact ok_law T _ (hE base) (hL base TB) (ok__law_cup T _ cup_eval)
end Py
open PySem PySem.W PyProof.Rows
theorem PySem.Challenge.cw_nearanswer_k32_programs_led_that_are_non_holds : PySem.Challenge.rw_nearanswer_k32_programs_led_that_are_non.Holds := by
  w_on; o_law
  refine HandSHeadRun.head_any (r := OpenLaw.row PySem.Challenge.rw_nearanswer_k32_programs_led_that_are_non) (q := Py.vw32) (H := Py.look32.hook) (ob := fun s => Py.look32.obs (HandSHeadRun.getT s)) (M := 60000) (loose := Py.nm32) (d := HandSHeadRun.topDef (OpenLaw.row PySem.Challenge.rw_nearanswer_k32_programs_led_that_are_non).prog 154) (kwd := []) Py.look32.obs_eq
    (by kernel_rfl) (fun s => by kernel_rfl) Py.run32 (by kernel_rfl) (by kernel_rfl) (by kernel_rfl) (by rfl) (by first | assumption | decide +kernel) (by decide +kernel) ⟨rfl, rfl, rfl, rfl, rfl, by decide +kernel⟩ ?hw ?hc
  case hw => w_witness2
  case hc =>
    refine LamX.walk_ofTsE (l := PySem.Challenge.rw_nearanswer_k32_programs_led_that_are_non) (n := 63) (k := 147) (x := "_law_script") (CX := fun w => L2N.CX Py.P32 w) rfl (by decide) (by kernel_rfl) ⟨rfl, by decide, by decide⟩ (fun w mg fa h Y G hm => ?_) (fun w H s e s' z => ?_)
    · have hn : (HandSHeadRun.topDef (OpenLaw.row PySem.Challenge.rw_nearanswer_k32_programs_led_that_are_non).prog 154).name = ("law" : PySem.Str) := by kernel_rfl
      rw [hn] at hm
      exact Py.last32 w mg fa h Y G hm
    · obtain ⟨_, _, _, _, _, _, _, _, _, _, _, _, q⟩ := z
      exact q
