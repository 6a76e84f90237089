import PyProof.Rows.All
import Wide.All
import OpenK.AllK
import Wide.FinOn
import KE.KIsAll
import KE.KTryMore
import KE.KExcInit
import HandS.ForMost
import HandS.ForExc
import HandS.ExcInit
import HandS.ExcIs
import HandS.IsInst
import HandS.Codes
import HandS.Evl
import HandS.Wide
import HandS.Defaults
import HandS.StrMore
import HandS.Walk
import HandS.More
import HandS.Zip
import HandS.TryMany
import HandS.ExcOwn
import HandS.ExcField
import HandS.HeadHook1
import HandS.HeadHook2
import KE.KxText
import KE.KStateDown
import HandS.Head0
import HandS.Head1
import HandS.Head2
import HandS.HeadEnd
import HandS.Ends
import PySem.Challenge.RW_remainways_k00_errors_by_themselves
set_option Elab.async false
set_option linter.all false
set_option maxRecDepth 100000
set_option maxHeartbeats 0
/-! errors of the program's own that are held as values: made, given fields, read, asked for their classes -/
namespace XV
open PySem PySem.Spec PySem.W PySem.Calls PyProof.Rows L2
/-- an own error class over one of the built-in ones -/
structure XC (K : Frag) (C : Addr) : Prop where
  base : ∃ (B nI iI : String) (bmB : List Value), ExcBaseFacts B nI iI bmB ∧ StoreFacts B bmB "object.__setattr__" "object" ∧
    excInitIn K C bmB nI = true ∧ excOver K C bmB = true
  sa : findIn K (.ref C) "__setattr__" = some (some (.builtin "object.__setattr__"))
  ga : findIn K (.ref C) "__getattribute__" = some (some (.builtin "BaseException.__getattribute__"))
  gg : findIn K (.ref C) "__getattr__" = some none
  ex : subIn K (.ref C) (.type "BaseException") = some true
  ty : typeIn K (.ref C) = some (.type "type")
  kp : keepIn K (.ref C) = true
  hd : hasDictIn K C = true
  ca : findIn K (.ref C) "__class__" = some (some (.builtin "object.__class__"))
  cn : specialIn K (.builtin "object.__class__") "__get__" = some (some (.builtin "getset_descriptor.__get__"))
  ct : takesIn K (.builtin "object.__class__") = some true
  cm : mroIn K C (.type "object") = some true
def baseB (K : Frag) (C : Addr) (bmB : List Value) (nI : String) : Bool := excInitIn K C bmB nI && excOver K C bmB
def veB : List Value := [.type "ValueError", .type "Exception", .type "BaseException", .type "object"]
def leB : List Value := [.type "LookupError", .type "Exception", .type "BaseException", .type "object"]
def ieB : List Value := [.type "IndexError", .type "LookupError", .type "Exception", .type "BaseException", .type "object"]
def xcB (K : Frag) (C : Addr) : Bool :=
  (baseB K C veB "ValueError.__new__" || (baseB K C leB "LookupError.__new__" || baseB K C ieB "IndexError.__new__")) &&
  (decide (findIn K (.ref C) "__setattr__" = some (some (.builtin "object.__setattr__"))) &&
  (decide (findIn K (.ref C) "__getattribute__" = some (some (.builtin "BaseException.__getattribute__"))) &&
  (decide (findIn K (.ref C) "__getattr__" = some none) &&
  (decide (subIn K (.ref C) (.type "BaseException") = some true) &&
  (decide (typeIn K (.ref C) = some (.type "type")) && (keepIn K (.ref C) && (hasDictIn K C &&
  (decide (findIn K (.ref C) "__class__" = some (some (.builtin "object.__class__"))) &&
  (decide (specialIn K (.builtin "object.__class__") "__get__" = some (some (.builtin "getset_descriptor.__get__"))) &&
  (decide (takesIn K (.builtin "object.__class__") = some true) && decide (mroIn K C (.type "object") = some true)))))))))))
theorem ba2 {a b : Bool} (h : (a && b) = true) : a = true ∧ b = true := Bool.and_eq_true_iff.mp h
theorem xcB_ok {K : Frag} {C : Addr} (h : xcB K C = true) : XC K C := by
  obtain ⟨h0, h⟩ := ba2 h
  obtain ⟨h1, h⟩ := ba2 h
  obtain ⟨h2, h⟩ := ba2 h
  obtain ⟨h3, h⟩ := ba2 h
  obtain ⟨h4, h⟩ := ba2 h
  obtain ⟨h5, h⟩ := ba2 h
  obtain ⟨h6, h⟩ := ba2 h
  obtain ⟨h7, h⟩ := ba2 h
  obtain ⟨h8, h⟩ := ba2 h
  obtain ⟨h9, h⟩ := ba2 h
  obtain ⟨h10, h11⟩ := ba2 h
  refine ⟨?_, of_decide_eq_true h1, of_decide_eq_true h2, of_decide_eq_true h3, of_decide_eq_true h4, of_decide_eq_true h5, h6, h7,
    of_decide_eq_true h8, of_decide_eq_true h9, of_decide_eq_true h10, of_decide_eq_true h11⟩
  cases q : baseB K C veB "ValueError.__new__" with
  | true =>
    obtain ⟨a, b⟩ := ba2 q
    exact ⟨_, _, _, _, F.excBase_ValueError, F.store_ValueError, a, b⟩
  | false =>
    rw [q, Bool.false_or] at h0
    cases q2 : baseB K C leB "LookupError.__new__" with
    | true =>
      obtain ⟨a, b⟩ := ba2 q2
      exact ⟨_, _, _, _, F.excBase_LookupError, F.store_LookupError, a, b⟩
    | false =>
      rw [q2, Bool.false_or] at h0
      obtain ⟨a, b⟩ := ba2 h0
      exact ⟨_, _, _, _, F.excBase_IndexError, F.store_IndexError, a, b⟩
theorem taker_none {K : Frag} {C : Addr} {f : Str} (h : findIn K (.ref C) f = some none) : takerIn K C f = some none := by
  unfold takerIn
  rw [h, Option.bind_some]

section
open Builtin Builtin.ObjectAttr
variable {prog : Program} {w : World} {A : Around} {E : Value → Shared → Prop} {R : Result → Shared → Prop} {hp : Heap} {g : Array GenState} {d : Drawn} {t : Nat} {os : OsState}
/-- the first field: the dict is laid -/
theorem sa_new {K : Frag} {B : String} {bmB : List Value} {name : Str} {tk : Tok} {v : Value} {x C : Addr} {fv : Array Value}
    (SF : StoreFacts B bmB "object.__setattr__" "object") (X : K.In hp) (hx : hp.get? x = some { cls := .ref C, data := .fields fv })
    (ov : excOver K C bmB = true) (hh : hasDictIn K C = true) (ha : findIn K (.ref C) name = some none)
    (hq : ∀ h' tk' dx, (∀ b o, b ≠ x → hp.get? b = some o → h'.get? b = some o) → hp.objs.size ≤ dx → dx ≠ x →
      h'.get? x = some { cls := .ref C, dict := some dx, data := .fields fv } → h'.Ns1 dx (fun y => if y = name then some v else none) → R (.ok (.ret .none)) ⟨h', g, d, tk', os⟩) :
    codeAny (model prog w) A (.call (.builtin "object.__setattr__") ⟨[.ref x, .str name tk, v], []⟩) R ⟨hp, g, d, t, os⟩ := by
  have I : W.InstAt hp x { cls := .ref C, data := .fields fv } C none := ⟨hx, rfl, rfl, trivial⟩
  have hxs : x ≠ hp.objs.size := Nat.ne_of_lt (Heap.lt_size hx)
  obtain ⟨cd, hcd, hdt⟩ := any_some hh
  have lc : W.Looks (model prog w) hp (classData C) cd := W.looks_clsIn X hcd
  refine osa_openX SF X I ov (taker_none ha) fun b => ?_
  show wpAny _ _ (storeInOwnDict (.ref x) (.ref C) (.str name tk) name v b) _ _ _
  obtain ⟨n1, n2, n3, n4, n5, hdd, n6, n7, n8, n9, n10⟩ := cd
  (try dsimp only at hdt)
  subst hdt
  unfold storeInOwnDict ownDictForStores
  repeat (first
    | with_reducible refine HandSPX.store_in_new ?_ ?_
    | with_reducible refine wpAny_loadPart_at hx ?_
    | with_reducible refine lc.at ?_
    | wp_step)
  · exact ⟨_, #[], _, (Heap.get?_update_ne _ _ _ _ hxs.symm).trans (Heap.get?_push_at rfl rfl), rfl, fun e he => absurd he (by simp), fun _ => rfl⟩
  · intro h' tk' hn' hs
    have h1 : (hp.push { cls := .type "dict", data := .dict #[] }).get? x = some { cls := .ref C, data := .fields fv } := Heap.get?_push_of_some _ hx
    refine hq h' tk' hp.objs.size (fun b o hb ho => ?_) (Nat.le_refl _) hxs.symm ?_ hn'
    · exact (hs.2 b (Nat.ne_of_lt (Heap.lt_size ho))).trans ((Heap.get?_update_ne _ _ _ _ hb).trans (Heap.get?_push_of_some _ ho))
    · exact (hs.2 x hxs).trans (Heap.get?_update_self _ h1 rfl)
/-- a further field -/
theorem sa_old {K : Frag} {B : String} {bmB : List Value} {name : Str} {tk : Tok} {v : Value} {x C dx : Addr} {fv : Array Value} {m0 : Str → Option Value} {nl : List Str}
    (SF : StoreFacts B bmB "object.__setattr__" "object") (X : K.In hp) (hx : hp.get? x = some { cls := .ref C, dict := some dx, data := .fields fv })
    (hns : hp.Ns1 dx m0) (hw : Within m0 nl) (hz : nl.length ≤ 1000) (ov : excOver K C bmB = true) (hh : hasDictIn K C = true) (ha : findIn K (.ref C) name = some none)
    (hq : ∀ h' tk', (∀ b o, b ≠ dx → hp.get? b = some o → h'.get? b = some o) → h'.Ns1 dx (fun y => if y = name then some v else m0 y) → R (.ok (.ret .none)) ⟨h', g, d, tk', os⟩) :
    codeAny (model prog w) A (.call (.builtin "object.__setattr__") ⟨[.ref x, .str name tk, v], []⟩) R ⟨hp, g, d, t, os⟩ := by
  obtain ⟨oD, esD, epD, hoD, hdD, _⟩ := hns.count hw
  have I : W.InstAt hp x { cls := .ref C, dict := some dx, data := .fields fv } C (some oD) := ⟨hx, rfl, rfl, hoD⟩
  obtain ⟨cd, hcd, hdt⟩ := any_some hh
  have lc : W.Looks (model prog w) hp (classData C) cd := W.looks_clsIn X hcd
  refine osa_openX SF X I ov (taker_none ha) fun b => ?_
  show wpAny _ _ (storeInOwnDict (.ref x) (.ref C) (.str name tk) name v b) _ _ _
  obtain ⟨n1, n2, n3, n4, n5, hdd, n6, n7, n8, n9, n10⟩ := cd
  (try dsimp only at hdt)
  subst hdt
  unfold storeInOwnDict ownDictForStores
  repeat (first
    | with_reducible refine PySem.OEX.store_in_old hns hw hz ?_
    | with_reducible refine HandSPX.store_in_old hns hw hz ?_
    | with_reducible refine wpAny_loadPart_at hx ?_
    | with_reducible refine lc.at ?_
    | wp_step)
  intro h' tk' hn' hs
  exact hq h' tk' (fun b o hb ho => (hs.2 b hb).trans ho) hn'
end
end XV

namespace K00
open PySem PySem.Spec PySem.W PyProof.Rows L2 XV C8 He
def topS (i : Nat) : Stmt := PySem.Challenge.pw_remainways_k00_errors_by_themselves.main.body.getD i (.Pass ⟨0, 0, 0, 0⟩)
abbrev s__law_draw : Stmt := topS 50
abbrev s__law_bag : Stmt := topS 49
abbrev s__law_of : Stmt := topS 51
abbrev s__law_same : Stmt := topS 52
abbrev s__law_name : Stmt := topS 53
abbrev s__law_value : Stmt := topS 54
abbrev s__law_codes : Stmt := topS 55
abbrev s__law_many : Stmt := topS 62
abbrev s__law_stands : Stmt := topS 60
abbrev s__law_sorts : Stmt := topS 58
abbrev s__law_bases : Stmt := topS 59
abbrev s__law_fields : Stmt := topS 61
abbrev s__law_by_place : Stmt := topS 56
abbrev s__law_by_name : Stmt := topS 57
abbrev s__law_raised : Stmt := topS 63
abbrev s__law_caught : Stmt := topS 64
abbrev s_law : Stmt := topS 65
def inClass (st : Stmt) (j : Nat) : Stmt := (clsBody st).getD j (.Pass ⟨0, 0, 0, 0⟩)
abbrev si_InvalidName : Stmt := inClass (topS 4) 0
abbrev si_InvalidPart : Stmt := inClass (topS 5) 0
abbrev si_InvalidSide : Stmt := inClass (topS 6) 0
abbrev si_InvalidDue : Stmt := inClass (topS 7) 0
abbrev si_InvalidRule : Stmt := inClass (topS 8) 0
abbrev si_InvalidRow : Stmt := inClass (topS 9) 0
abbrev si_InvalidText : Stmt := inClass (topS 10) 0
abbrev si_InvalidTerm : Stmt := inClass (topS 11) 0
abbrev si_InvalidLot : Stmt := inClass (topS 12) 0
abbrev si_NoStep : Stmt := inClass (topS 13) 0
abbrev si_InvalidNumber : Stmt := inClass (topS 14) 0
abbrev si_TooMany : Stmt := inClass (topS 15) 0
abbrev si_TooGreat : Stmt := inClass (topS 16) 0
abbrev si_TwiceHole : Stmt := inClass (topS 17) 0
abbrev si_LooseHole : Stmt := inClass (topS 18) 0
abbrev si_Overlaps : Stmt := inClass (topS 19) 0
abbrev si_NotTurned : Stmt := inClass (topS 20) 0
abbrev si_OtherStart : Stmt := inClass (topS 21) 0
abbrev si_OtherBook : Stmt := inClass (topS 22) 0
abbrev si_Alike : Stmt := inClass (topS 23) 0
abbrev si_Strikes : Stmt := inClass (topS 24) 0
abbrev si_Copies : Stmt := inClass (topS 25) 0
abbrev si_NotPiece : Stmt := inClass (topS 26) 0
abbrev si_Clash : Stmt := inClass (topS 27) 0
abbrev si_NoRest : Stmt := inClass (topS 28) 0
abbrev si_Needed : Stmt := inClass (topS 29) 0
abbrev si_InvalidKnot : Stmt := inClass (topS 30) 0
abbrev si_InvalidMaker : Stmt := inClass (topS 31) 0
abbrev si_NotSplit : Stmt := inClass (topS 32) 0
abbrev si_NoTree : Stmt := inClass (topS 33) 0
abbrev si_NotWithin : Stmt := inClass (topS 34) 0
abbrev si_NotClosed : Stmt := inClass (topS 35) 0
abbrev si_NotRow : Stmt := inClass (topS 36) 0
abbrev si_NotKey : Stmt := inClass (topS 37) 0
abbrev si_DuplicateName : Stmt := inClass (topS 38) 0
abbrev si_LastHand : Stmt := inClass (topS 39) 0
abbrev si_InvalidDeed : Stmt := inClass (topS 40) 0
abbrev si_UnknownName : Stmt := inClass (topS 41) 0
abbrev si_UnknownDoer : Stmt := inClass (topS 42) 0
abbrev si_UnknownEvent : Stmt := inClass (topS 43) 0
abbrev si_UnknownLetter : Stmt := inClass (topS 44) 0
abbrev si_NoPlace : Stmt := inClass (topS 45) 0
abbrev si_NoOrder : Stmt := inClass (topS 46) 0
abbrev si_NoHistory : Stmt := inClass (topS 47) 0
def exL : List (Str × List Str) := ([("InvalidName", ["value"]), ("InvalidPart", ["at"]), ("InvalidSide", ["word"]), ("InvalidDue", ["value"]), ("InvalidRule", ["at"]), ("InvalidRow", ["at"]), ("InvalidText", ["line", "at"]), ("InvalidTerm", [])] : List (Str × List Str)) ++ (([("InvalidLot", ["at"]), ("NoStep", ["at", "place"]), ("InvalidNumber", ["value"]), ("TooMany", ["most"]), ("TooGreat", []), ("TwiceHole", ["hole"]), ("LooseHole", ["hole"]), ("Overlaps", ["one", "other", "place", "piece"])] : List (Str × List Str)) ++ (([("NotTurned", ["at"]), ("OtherStart", []), ("OtherBook", []), ("Alike", []), ("Strikes", ["rule"]), ("Copies", ["rule"]), ("NotPiece", []), ("Clash", ["place"])] : List (Str × List Str)) ++ (([("NoRest", ["word"]), ("Needed", ["place"]), ("InvalidKnot", ["at"]), ("InvalidMaker", ["at"]), ("NotSplit", ["rule", "place"]), ("NoTree", ["doer", "sides", "piece"]), ("NotWithin", []), ("NotClosed", ["event", "cause"])] : List (Str × List Str)) ++ (([("NotRow", ["at"]), ("NotKey", []), ("DuplicateName", ["name"]), ("LastHand", []), ("InvalidDeed", ["at"]), ("UnknownName", ["name"]), ("UnknownDoer", ["doer"]), ("UnknownEvent", ["event"])] : List (Str × List Str)) ++ (([("UnknownLetter", ["number"]), ("NoPlace", ["place"]), ("NoOrder", ["number"]), ("NoHistory", [])] : List (Str × List Str)))))))
def exN : List Str := exL.map fun p => p.1
def rsL : List (Str × List Str) := [("InvalidText", (["line", "at"] : List Str)), ("NoStep", (["at", "place"] : List Str)), ("UnknownName", (["name"] : List Str)), ("NoPlace", (["place"] : List Str)), ("NoOrder", (["number"] : List Str)), ("NoHistory", ([] : List Str)), ("TooGreat", ([] : List Str))]
def clL : List Str := (["InvalidText", "NoPlace", "NoOrder", "Missing", "NothingLeft", "WorkError"] : List Str)
def tabX : List (List Bool) := [[true, false, false, false, false, true], [false, false, false, false, false, true], [false, false, false, true, false, false], [false, true, false, true, false, false], [false, false, true, false, true, false], [false, false, false, false, true, false], [false, false, false, false, false, true]]
/-! ### what the head must tell of the classes -/
def cfB (K : Frag) (p : Str × List Str) : Bool :=
  xcB K (ga K p.1) && (decide (findIn K (.ref (ga K p.1)) "__init__" = some (some (.ref (ma K (ga K p.1) "__init__")))) && (decide (typeIn K (.ref (ma K (ga K p.1) "__init__")) = some (.type "function")) &&
    (((("code" : Str) :: p.2)).all fun f => decide (findIn K (.ref (ga K p.1)) f = some none))))
def xvB (K : Frag) (C : Addr) : Bool := decide (findIn K (.ref C) "__eq__" = some (some (.builtin "object.__eq__"))) && (decide (kitOne K (.ref C) (.type "list") = some false) && (decide (kitOne K (.ref C) (.type "tuple") = some false) &&
  (decide (kitOne K (.ref C) (.type "bool") = some false) && (decide (kitOne K (.ref C) (.type "int") = some false) && decide (kitOne K (.ref C) (.type "str") = some false)))))
def soAll (K : Frag) (C : Addr) (n : Nat) : Nat → List Str → Bool
  | _, [] => true
  | i, y :: ys => decide (kitOne K (.ref C) (.ref (ga K y)) = some (decide (i = n))) && soAll K C n (i + 1) ys
def baB (K : Frag) (C : Addr) (n : Nat) : Bool :=
  decide (kitOne K (.ref C) (.ref (ga K "WorkError")) = some (decide (n < 37))) && (decide (kitOne K (.ref C) (.type "ValueError") = some (decide (n < 37))) &&
  (decide (kitOne K (.ref C) (.ref (ga K "Missing")) = some (decide (36 < n) && decide (n < 42))) && (decide (kitOne K (.ref C) (.type "LookupError") = some (decide (36 < n))) &&
  (decide (kitOne K (.ref C) (.ref (ga K "NothingLeft")) = some (decide (41 < n))) && (decide (kitOne K (.ref C) (.type "IndexError") = some (decide (41 < n))) &&
  (decide (kitOne K (.ref C) (.type "KeyError") = some false) && decide (kitOne K (.ref C) (.type "ArithmeticError") = some false)))))))
def allSo (K : Frag) : Nat → List Str → Bool
  | _, [] => true
  | n, x :: xs => (soAll K (ga K x) n 0 exN && baB K (ga K x) n) && allSo K (n + 1) xs
def exmAll (K : Frag) (C : Addr) : List Str → List Bool → Bool
  | y :: ys, b :: bs => decide (exmOne K (.ref C) (.ref (ga K y)) = some b) && exmAll K C ys bs
  | _, _ => true
def catchB (K : Frag) : List (Str × List Str) → List (List Bool) → Bool
  | p :: ps, r :: rs => exmAll K (ga K p.1) clL r && catchB K ps rs
  | _, _ => true
def exB1 (K : Frag) : Bool := exL.all (cfB K)
def exB2 (K : Frag) : Bool := xvB K (ga K "TooGreat") && catchB K rsL tabX
def exB3 (K : Frag) : Bool := allSo K 0 exN
def exB (K : Frag) : Bool := exB1 K && (exB2 K && exB3 K)
def dd__law_bag : DefD := ⟨("_law_bag", none), "_law_bag", "_law_bag", defArgs s__law_bag, defBody s__law_bag, defScope s__law_bag, [], []⟩
def dd__law_draw : DefD := ⟨("_law_draw", none), "_law_draw", "_law_draw", defArgs s__law_draw, defBody s__law_draw, defScope s__law_draw, [], []⟩
def dd__law_of : DefD := ⟨("_law_of", none), "_law_of", "_law_of", defArgs s__law_of, defBody s__law_of, defScope s__law_of, [], []⟩
def dd__law_same : DefD := ⟨("_law_same", none), "_law_same", "_law_same", defArgs s__law_same, defBody s__law_same, defScope s__law_same, [], []⟩
def dd__law_name : DefD := ⟨("_law_name", none), "_law_name", "_law_name", defArgs s__law_name, defBody s__law_name, defScope s__law_name, [], []⟩
def dd__law_value : DefD := ⟨("_law_value", none), "_law_value", "_law_value", defArgs s__law_value, defBody s__law_value, defScope s__law_value, [], []⟩
def dd__law_codes : DefD := ⟨("_law_codes", none), "_law_codes", "_law_codes", defArgs s__law_codes, defBody s__law_codes, defScope s__law_codes, [], []⟩
def dd__law_by_place : DefD := ⟨("_law_by_place", none), "_law_by_place", "_law_by_place", defArgs s__law_by_place, defBody s__law_by_place, defScope s__law_by_place, [], []⟩
def dd__law_by_name : DefD := ⟨("_law_by_name", none), "_law_by_name", "_law_by_name", defArgs s__law_by_name, defBody s__law_by_name, defScope s__law_by_name, [], []⟩
def dd__law_sorts : DefD := ⟨("_law_sorts", none), "_law_sorts", "_law_sorts", defArgs s__law_sorts, defBody s__law_sorts, defScope s__law_sorts, [], []⟩
def dd__law_bases : DefD := ⟨("_law_bases", none), "_law_bases", "_law_bases", defArgs s__law_bases, defBody s__law_bases, defScope s__law_bases, [], []⟩
def dd__law_stands : DefD := ⟨("_law_stands", none), "_law_stands", "_law_stands", defArgs s__law_stands, defBody s__law_stands, defScope s__law_stands, [], []⟩
def dd__law_fields : DefD := ⟨("_law_fields", none), "_law_fields", "_law_fields", defArgs s__law_fields, defBody s__law_fields, defScope s__law_fields, [], []⟩
def dd__law_many : DefD := ⟨("_law_many", none), "_law_many", "_law_many", defArgs s__law_many, defBody s__law_many, defScope s__law_many, [], []⟩
def dd__law_raised : DefD := ⟨("_law_raised", none), "_law_raised", "_law_raised", defArgs s__law_raised, defBody s__law_raised, defScope s__law_raised, [], []⟩
def dd__law_caught : DefD := ⟨("_law_caught", none), "_law_caught", "_law_caught", defArgs s__law_caught, defBody s__law_caught, defScope s__law_caught, [], []⟩
def dd_law : DefD := ⟨("law", none), "law", "law", defArgs s_law, defBody s_law, defScope s_law, [], []⟩
def di_InvalidName : DefD := ⟨("InvalidName", some "__init__"), "__init__", "InvalidName.__init__", defArgs si_InvalidName, defBody si_InvalidName, defScope si_InvalidName, [], []⟩
def di_InvalidPart : DefD := ⟨("InvalidPart", some "__init__"), "__init__", "InvalidPart.__init__", defArgs si_InvalidPart, defBody si_InvalidPart, defScope si_InvalidPart, [], []⟩
def di_InvalidSide : DefD := ⟨("InvalidSide", some "__init__"), "__init__", "InvalidSide.__init__", defArgs si_InvalidSide, defBody si_InvalidSide, defScope si_InvalidSide, [], []⟩
def di_InvalidDue : DefD := ⟨("InvalidDue", some "__init__"), "__init__", "InvalidDue.__init__", defArgs si_InvalidDue, defBody si_InvalidDue, defScope si_InvalidDue, [], []⟩
def di_InvalidRule : DefD := ⟨("InvalidRule", some "__init__"), "__init__", "InvalidRule.__init__", defArgs si_InvalidRule, defBody si_InvalidRule, defScope si_InvalidRule, [], []⟩
def di_InvalidRow : DefD := ⟨("InvalidRow", some "__init__"), "__init__", "InvalidRow.__init__", defArgs si_InvalidRow, defBody si_InvalidRow, defScope si_InvalidRow, [], []⟩
def di_InvalidText : DefD := ⟨("InvalidText", some "__init__"), "__init__", "InvalidText.__init__", defArgs si_InvalidText, defBody si_InvalidText, defScope si_InvalidText, [], []⟩
def di_InvalidTerm : DefD := ⟨("InvalidTerm", some "__init__"), "__init__", "InvalidTerm.__init__", defArgs si_InvalidTerm, defBody si_InvalidTerm, defScope si_InvalidTerm, [], []⟩
def di_InvalidLot : DefD := ⟨("InvalidLot", some "__init__"), "__init__", "InvalidLot.__init__", defArgs si_InvalidLot, defBody si_InvalidLot, defScope si_InvalidLot, [], []⟩
def di_NoStep : DefD := ⟨("NoStep", some "__init__"), "__init__", "NoStep.__init__", defArgs si_NoStep, defBody si_NoStep, defScope si_NoStep, [], []⟩
def di_InvalidNumber : DefD := ⟨("InvalidNumber", some "__init__"), "__init__", "InvalidNumber.__init__", defArgs si_InvalidNumber, defBody si_InvalidNumber, defScope si_InvalidNumber, [], []⟩
def di_TooMany : DefD := ⟨("TooMany", some "__init__"), "__init__", "TooMany.__init__", defArgs si_TooMany, defBody si_TooMany, defScope si_TooMany, [], []⟩
def di_TooGreat : DefD := ⟨("TooGreat", some "__init__"), "__init__", "TooGreat.__init__", defArgs si_TooGreat, defBody si_TooGreat, defScope si_TooGreat, [], []⟩
def di_TwiceHole : DefD := ⟨("TwiceHole", some "__init__"), "__init__", "TwiceHole.__init__", defArgs si_TwiceHole, defBody si_TwiceHole, defScope si_TwiceHole, [], []⟩
def di_LooseHole : DefD := ⟨("LooseHole", some "__init__"), "__init__", "LooseHole.__init__", defArgs si_LooseHole, defBody si_LooseHole, defScope si_LooseHole, [], []⟩
def di_Overlaps : DefD := ⟨("Overlaps", some "__init__"), "__init__", "Overlaps.__init__", defArgs si_Overlaps, defBody si_Overlaps, defScope si_Overlaps, [], []⟩
def di_NotTurned : DefD := ⟨("NotTurned", some "__init__"), "__init__", "NotTurned.__init__", defArgs si_NotTurned, defBody si_NotTurned, defScope si_NotTurned, [], []⟩
def di_OtherStart : DefD := ⟨("OtherStart", some "__init__"), "__init__", "OtherStart.__init__", defArgs si_OtherStart, defBody si_OtherStart, defScope si_OtherStart, [], []⟩
def di_OtherBook : DefD := ⟨("OtherBook", some "__init__"), "__init__", "OtherBook.__init__", defArgs si_OtherBook, defBody si_OtherBook, defScope si_OtherBook, [], []⟩
def di_Alike : DefD := ⟨("Alike", some "__init__"), "__init__", "Alike.__init__", defArgs si_Alike, defBody si_Alike, defScope si_Alike, [], []⟩
def di_Strikes : DefD := ⟨("Strikes", some "__init__"), "__init__", "Strikes.__init__", defArgs si_Strikes, defBody si_Strikes, defScope si_Strikes, [], []⟩
def di_Copies : DefD := ⟨("Copies", some "__init__"), "__init__", "Copies.__init__", defArgs si_Copies, defBody si_Copies, defScope si_Copies, [], []⟩
def di_NotPiece : DefD := ⟨("NotPiece", some "__init__"), "__init__", "NotPiece.__init__", defArgs si_NotPiece, defBody si_NotPiece, defScope si_NotPiece, [], []⟩
def di_Clash : DefD := ⟨("Clash", some "__init__"), "__init__", "Clash.__init__", defArgs si_Clash, defBody si_Clash, defScope si_Clash, [], []⟩
def di_NoRest : DefD := ⟨("NoRest", some "__init__"), "__init__", "NoRest.__init__", defArgs si_NoRest, defBody si_NoRest, defScope si_NoRest, [], []⟩
def di_Needed : DefD := ⟨("Needed", some "__init__"), "__init__", "Needed.__init__", defArgs si_Needed, defBody si_Needed, defScope si_Needed, [], []⟩
def di_InvalidKnot : DefD := ⟨("InvalidKnot", some "__init__"), "__init__", "InvalidKnot.__init__", defArgs si_InvalidKnot, defBody si_InvalidKnot, defScope si_InvalidKnot, [], []⟩
def di_InvalidMaker : DefD := ⟨("InvalidMaker", some "__init__"), "__init__", "InvalidMaker.__init__", defArgs si_InvalidMaker, defBody si_InvalidMaker, defScope si_InvalidMaker, [], []⟩
def di_NotSplit : DefD := ⟨("NotSplit", some "__init__"), "__init__", "NotSplit.__init__", defArgs si_NotSplit, defBody si_NotSplit, defScope si_NotSplit, [], []⟩
def di_NoTree : DefD := ⟨("NoTree", some "__init__"), "__init__", "NoTree.__init__", defArgs si_NoTree, defBody si_NoTree, defScope si_NoTree, [], []⟩
def di_NotWithin : DefD := ⟨("NotWithin", some "__init__"), "__init__", "NotWithin.__init__", defArgs si_NotWithin, defBody si_NotWithin, defScope si_NotWithin, [], []⟩
def di_NotClosed : DefD := ⟨("NotClosed", some "__init__"), "__init__", "NotClosed.__init__", defArgs si_NotClosed, defBody si_NotClosed, defScope si_NotClosed, [], []⟩
def di_NotRow : DefD := ⟨("NotRow", some "__init__"), "__init__", "NotRow.__init__", defArgs si_NotRow, defBody si_NotRow, defScope si_NotRow, [], []⟩
def di_NotKey : DefD := ⟨("NotKey", some "__init__"), "__init__", "NotKey.__init__", defArgs si_NotKey, defBody si_NotKey, defScope si_NotKey, [], []⟩
def di_DuplicateName : DefD := ⟨("DuplicateName", some "__init__"), "__init__", "DuplicateName.__init__", defArgs si_DuplicateName, defBody si_DuplicateName, defScope si_DuplicateName, [], []⟩
def di_LastHand : DefD := ⟨("LastHand", some "__init__"), "__init__", "LastHand.__init__", defArgs si_LastHand, defBody si_LastHand, defScope si_LastHand, [], []⟩
def di_InvalidDeed : DefD := ⟨("InvalidDeed", some "__init__"), "__init__", "InvalidDeed.__init__", defArgs si_InvalidDeed, defBody si_InvalidDeed, defScope si_InvalidDeed, [], []⟩
def di_UnknownName : DefD := ⟨("UnknownName", some "__init__"), "__init__", "UnknownName.__init__", defArgs si_UnknownName, defBody si_UnknownName, defScope si_UnknownName, [], []⟩
def di_UnknownDoer : DefD := ⟨("UnknownDoer", some "__init__"), "__init__", "UnknownDoer.__init__", defArgs si_UnknownDoer, defBody si_UnknownDoer, defScope si_UnknownDoer, [], []⟩
def di_UnknownEvent : DefD := ⟨("UnknownEvent", some "__init__"), "__init__", "UnknownEvent.__init__", defArgs si_UnknownEvent, defBody si_UnknownEvent, defScope si_UnknownEvent, [], []⟩
def di_UnknownLetter : DefD := ⟨("UnknownLetter", some "__init__"), "__init__", "UnknownLetter.__init__", defArgs si_UnknownLetter, defBody si_UnknownLetter, defScope si_UnknownLetter, [], []⟩
def di_NoPlace : DefD := ⟨("NoPlace", some "__init__"), "__init__", "NoPlace.__init__", defArgs si_NoPlace, defBody si_NoPlace, defScope si_NoPlace, [], []⟩
def di_NoOrder : DefD := ⟨("NoOrder", some "__init__"), "__init__", "NoOrder.__init__", defArgs si_NoOrder, defBody si_NoOrder, defScope si_NoOrder, [], []⟩
def di_NoHistory : DefD := ⟨("NoHistory", some "__init__"), "__init__", "NoHistory.__init__", defArgs si_NoHistory, defBody si_NoHistory, defScope si_NoHistory, [], []⟩
def fnL : List DefD := ([dd__law_bag, dd__law_draw, dd__law_of, dd__law_same, dd__law_name, dd__law_value, dd__law_codes, dd__law_by_place] : List DefD) ++ (([dd__law_by_name, dd__law_sorts, dd__law_bases, dd__law_stands, dd__law_fields, dd__law_many, dd__law_raised, dd__law_caught] : List DefD) ++ (([dd_law, di_InvalidName, di_InvalidPart, di_InvalidSide, di_InvalidDue, di_InvalidRule, di_InvalidRow, di_InvalidText] : List DefD) ++ (([di_InvalidTerm, di_InvalidLot, di_NoStep, di_InvalidNumber, di_TooMany, di_TooGreat, di_TwiceHole, di_LooseHole] : List DefD) ++ (([di_Overlaps, di_NotTurned, di_OtherStart, di_OtherBook, di_Alike, di_Strikes, di_Copies, di_NotPiece] : List DefD) ++ (([di_Clash, di_NoRest, di_Needed, di_InvalidKnot, di_InvalidMaker, di_NotSplit, di_NoTree, di_NotWithin] : List DefD) ++ (([di_NotClosed, di_NotRow, di_NotKey, di_DuplicateName, di_LastHand, di_InvalidDeed, di_UnknownName, di_UnknownDoer] : List DefD) ++ (([di_UnknownEvent, di_UnknownLetter, di_NoPlace, di_NoOrder, di_NoHistory] : List DefD))))))))
def faL : List Fa := ([Fa.glo "InvalidName", Fa.glo "InvalidPart", Fa.glo "InvalidSide", Fa.glo "InvalidDue", Fa.glo "InvalidRule", Fa.glo "InvalidRow", Fa.glo "InvalidText", Fa.glo "InvalidTerm"] : List Fa) ++ (([Fa.glo "InvalidLot", Fa.glo "NoStep", Fa.glo "InvalidNumber", Fa.glo "TooMany", Fa.glo "TooGreat", Fa.glo "TwiceHole", Fa.glo "LooseHole", Fa.glo "Overlaps"] : List Fa) ++ (([Fa.glo "NotTurned", Fa.glo "OtherStart", Fa.glo "OtherBook", Fa.glo "Alike", Fa.glo "Strikes", Fa.glo "Copies", Fa.glo "NotPiece", Fa.glo "Clash"] : List Fa) ++ (([Fa.glo "NoRest", Fa.glo "Needed", Fa.glo "InvalidKnot", Fa.glo "InvalidMaker", Fa.glo "NotSplit", Fa.glo "NoTree", Fa.glo "NotWithin", Fa.glo "NotClosed"] : List Fa) ++ (([Fa.glo "NotRow", Fa.glo "NotKey", Fa.glo "DuplicateName", Fa.glo "LastHand", Fa.glo "InvalidDeed", Fa.glo "UnknownName", Fa.glo "UnknownDoer", Fa.glo "UnknownEvent"] : List Fa) ++ (([Fa.glo "UnknownLetter", Fa.glo "NoPlace", Fa.glo "NoOrder", Fa.glo "NoHistory", Fa.glo "WorkError", Fa.glo "Missing", Fa.glo "NothingLeft", Fa.glo "_law_bag"] : List Fa) ++ (([Fa.glo "_law_draw", Fa.glo "_law_of", Fa.glo "_law_same", Fa.glo "_law_name", Fa.glo "_law_value", Fa.glo "_law_codes", Fa.glo "_law_by_place", Fa.glo "_law_by_name"] : List Fa) ++ (([Fa.glo "_law_sorts", Fa.glo "_law_bases", Fa.glo "_law_stands", Fa.glo "_law_fields", Fa.glo "_law_many", Fa.glo "_law_raised", Fa.glo "_law_caught", Fa.glo "law"] : List Fa) ++ (([Fa.free "int", Fa.free "len", Fa.free "abs", Fa.free "list", Fa.free "tuple", Fa.free "range", Fa.free "zip", Fa.free "all"] : List Fa) ++ (([Fa.free "isinstance", Fa.free "bool", Fa.free "str", Fa.free "ValueError", Fa.free "LookupError", Fa.free "IndexError", Fa.free "KeyError", Fa.free "ArithmeticError"] : List Fa))))))))))
/-! ### the head -/
/-- where the module and all that it names stand -/
def asL : List Addr := ([3, 6, 4, 24, 37, 50, 70, 89, 108, 127, 146, 165, 184, 203, 222, 241] : List Addr) ++ (([260, 279, 298, 317, 336, 355, 374, 393, 412, 431, 450, 469, 488, 507, 526, 545] : List Addr) ++ (([564, 583, 602, 621, 640, 659, 678, 697, 716, 735, 754, 773, 792, 811, 830, 849] : List Addr) ++ (([868, 887, 896, 903, 910, 915, 920, 927, 934, 941, 948, 955, 962, 969, 976, 983] : List Addr) ++ (([990, 997, 1002, 0, 23, 36, 49, 69, 88, 107, 126, 145, 164, 183, 202, 221] : List Addr) ++ (([240, 259, 278, 297, 316, 335, 354, 373, 392, 411, 430, 449, 468, 487, 506, 525] : List Addr) ++ (([544, 563, 582, 601, 620, 639, 658, 677, 696, 715, 734, 753, 772, 791, 810, 829] : List Addr) ++ (([848, 867, 886, 895, 902, 909, 914, 919, 926, 933, 940, 947, 954, 961, 968, 975] : List Addr) ++ (([982, 989, 996, 1001, 22, 25, 35, 38, 48, 51, 67, 68, 86, 87, 105, 106] : List Addr) ++ (([124, 125, 143, 144, 162, 163, 181, 182, 200, 201, 219, 220, 238, 239, 257, 258] : List Addr) ++ (([276, 277, 295, 296, 314, 315, 333, 334, 352, 353, 371, 372, 390, 391, 409, 410] : List Addr) ++ (([428, 429, 447, 448, 466, 467, 485, 486, 504, 505, 523, 524, 542, 543, 561, 562] : List Addr) ++ (([580, 581, 599, 600, 618, 619, 637, 638, 656, 657, 675, 676, 694, 695, 713, 714] : List Addr) ++ (([732, 733, 751, 752, 770, 771, 789, 790, 808, 809, 827, 828, 846, 847, 865, 866] : List Addr) ++ (([884, 885, 890, 891, 892, 893, 894, 897, 898, 899, 900, 901, 904, 905, 906, 907] : List Addr) ++ (([908, 911, 912, 913, 916, 917, 918, 921, 922, 923, 924, 925, 928, 929, 930, 931] : List Addr) ++ (([932, 935, 936, 937, 938, 939, 942, 943, 944, 945, 946, 949, 950, 951, 952, 953] : List Addr) ++ (([956, 957, 958, 959, 960, 963, 964, 965, 966, 967, 970, 971, 972, 973, 974, 977] : List Addr) ++ (([978, 979, 980, 981, 984, 985, 986, 987, 988, 991, 992, 993, 994, 995, 998, 999] : List Addr) ++ (([1000, 66, 85, 104, 123, 142, 161, 180, 199, 218, 237, 256, 275, 294, 313, 332] : List Addr) ++ (([351, 370, 389, 408, 427, 446, 465, 484, 503, 522, 541, 560, 579, 598, 617, 636] : List Addr) ++ (([655, 674, 693, 712, 731, 750, 769, 788, 807, 826, 845, 864, 883] : List Addr))))))))))))))))))))))
abbrev AlK : Type := AlD × Bool
def obsK (K : PySem.W.Frag) : AlK := (obsD faL fnL K, exB K)
def hookK : PySem.W.Hook where
  α := AlK
  obs := fun s => obsK (frG s.heap.get? asL)
  val := fun _ => (valD fnL, true)
  says := fun _ h => ∃ K : PySem.W.Frag, K.In h ∧ SaysD faL fnL K ∧ exB K = true
  of := fun _ _ e => ⟨_, frG_in, congrArg (fun z : AlK => z.1) e, congrArg (fun z : AlK => z.2) e⟩
  keeps := fun _ _ _ ⟨K, hK, c⟩ k => ⟨K, PySem.W.Frag.In.keeps hK k, c⟩
def obK (s : PySem.W.SharedT) : AlK := obsK (frG (HandSHeadRun.getT s) asL)
theorem obK_eq (s : PySem.W.SharedT) : obK s = hookK.obs s.abs := by
  have e : HandSHeadRun.getT s = s.abs.heap.get? := funext (HandSHeadRun.getT_eq s)
  unfold obK
  rw [e] <;> rfl
abbrev R : PySem.W.OpenRow := PySem.W.OpenLaw.row PySem.Challenge.rw_remainways_k00_errors_by_themselves
def looseL : List PySem.Str := (["WorkError", "Missing", "NothingLeft", "InvalidName", "InvalidPart", "InvalidSide", "InvalidDue", "InvalidRule", "InvalidRow", "InvalidText", "InvalidTerm", "InvalidLot", "NoStep", "InvalidNumber", "TooMany", "TooGreat"] : List PySem.Str) ++ ((["TwiceHole", "LooseHole", "Overlaps", "NotTurned", "OtherStart", "OtherBook", "Alike", "Strikes", "Copies", "NotPiece", "Clash", "NoRest", "Needed", "InvalidKnot", "InvalidMaker", "NotSplit"] : List PySem.Str) ++ ((["NoTree", "NotWithin", "NotClosed", "NotRow", "NotKey", "DuplicateName", "LastHand", "InvalidDeed", "UnknownName", "UnknownDoer", "UnknownEvent", "UnknownLetter", "NoPlace", "NoOrder", "NoHistory", "_law_bag"] : List PySem.Str) ++ ((["_law_draw", "_law_of", "_law_same", "_law_name", "_law_value", "_law_codes", "_law_by_place", "_law_by_name", "_law_sorts", "_law_bases", "_law_stands", "_law_fields", "_law_many", "_law_raised", "_law_caught"] : List PySem.Str))))
theorem run (w : World) : HandSHeadRun.RunEq R (PySem.W.view R.prog [65]) hookK obK 30000 looseL w := by
  intro os
  kernel_rfl
end K00
namespace XV
open PySem PySem.Spec PySem.W PySem.Calls PyProof.Rows L2
section
variable {X : Cx} {pins : List (Addr × Obj)} {σ : L2.St} {H : Hp} {s : Shared} {a C dx : Addr} {f : Str} {y : V} {u : Value} {fs : List (Str × V)} {Q : Unit → Shared → Prop} {E : Value → Shared → Prop} {A : Around}
/-- one error gets its dict: what the abstract heap says then -/
theorem inv_dict {hp h' : Heap} {g : Array GenState} {d : Drawn} {tk tk' : Nat} {os : OsState} {mA : Str → Option Value} {t1 : Addr}
    (I : Inv X pins σ H ⟨hp, g, d, tk, os⟩) (e : H a = some (exo a C none)) (big : hp.objs.size ≤ dx) (ne : dx ≠ a)
    (keep : ∀ b o, b ≠ a → hp.get? b = some o → h'.get? b = some o)
    (at_ : h'.get? a = some { cls := .ref C, dict := some dx, data := .fields #[.ref t1, .none, .none, .none, .bool false, .none] })
    (ns : h'.Ns1 dx mA) (rel : ∀ z, RelO (fs.lookup z) (mA z)) :
    Inv X pins σ (upd (upd H dx (exd dx fs)) a (exo a C (some dx))) ⟨h', g, d, tk', os⟩ := by
  have fresh : H dx = none := I.hok.fresh big
  have old : ∀ {b : Addr} {o : Obj}, hp.get? b = some o → b ≠ dx := fun {b o} q z => by
    rw [z] at q
    exact absurd (Nat.lt_of_lt_of_le (Heap.lt_size q) big) (Nat.lt_irrefl _)
  have off : ∀ {b : Addr}, H b = none → b ≠ a := fun {b} n z => by
    rw [z, e] at n
    exact nomatch n
  have track : ∀ {b : Addr} {o : HO}, H b = some o → o ≠ exo a C none → b ≠ a ∧ b ≠ dx := fun {b o} q d => by
    refine ⟨fun z => ?_, fun z => ?_⟩
    · rw [z, e] at q
      exact d (Option.some.inj q).symm
    · rw [z, fresh] at q
      exact nomatch q
  have un : Un X.fs [] H (upd (upd H dx (exd dx fs)) a (exo a C (some dx))) hp h' := by
    refine ⟨?_, ?_, ?_, ?_, ?_, ?_, ?_⟩
    · intro b o q n _ _
      exact keep b o (off n) q
    · intro b o q n _ _
      exact ⟨o.slots, keep b o (off n) q⟩
    · intro b o q n _
      rw [upd_ne (off n), upd_ne (old q)]
      exact n
    · intro b o q _
      by_cases hb : b = a
      · subst hb
        exact ⟨_, at_⟩
      · exact ⟨o, keep b o hb q⟩
    · intro b xs q
      obtain ⟨n1, n2⟩ := track q (fun z => exo_tup z.symm)
      rw [upd_ne n1, upd_ne n2]
      exact q
    · intro b o v q
      obtain ⟨n1, n2⟩ := track q (fun z => exo_frz z.symm)
      rw [upd_ne n1, upd_ne n2]
      exact q
    · intro b ps q
      obtain ⟨n1, n2⟩ := track q (fun z => exo_tbl z.symm)
      exact ⟨#[], by rw [upd_ne n1, upd_ne n2, q]; simp⟩
  refine I.un (t' := tk') un fun b o q => ?_
  by_cases hb : b = a
  · subst hb
    rw [upd_same] at q
    obtain rfl := Option.some.inj q
    exact exo_ok at_
  · rw [upd_ne hb] at q
    by_cases hd : b = dx
    · subst hd
      rw [upd_same] at q
      obtain rfl := Option.some.inj q
      exact exd_ok ns rel
    · rw [upd_ne hd] at q
      have own : ∀ {c : Addr}, H c = some (.own b) → c ≠ a ∧ c ≠ dx := fun {c} hc => track hc (fun z => exo_own z.symm)
      refine (I.hok b o q).stay (fun c v hc z => keep c v ?_ z) (fun c hc => ?_) (fun c xs hc => ?_)
      · rcases hc with rfl | hc
        · exact hb
        · exact (own hc).1
      · rw [upd_ne (own hc).1, upd_ne (own hc).2]
        exact hc
      · obtain ⟨n1, n2⟩ := track hc (fun z => exo_tup z.symm)
        rw [upd_ne n1, upd_ne n2]
        exact hc
theorem rel_one (ry : RelV y u) (z : Str) : RelO (List.lookup z [(f, y)]) (if z = f then some u else none) :=
  relO_put (fs := []) (mA := fun _ => none) ry (fun _ => True.intro) z
/-- self.f = y, the first -/
theorem st_first (T : XC X.K C) (I : Inv X pins σ H s) (e : H a = some (exo a C none)) (hno : findIn X.K (.ref C) f = some none) (ry : RelV y u)
    (h : ∀ dx s', H dx = none → dx ≠ a → Inv X pins σ (upd (upd H dx (exd dx [(f, y)])) a (exo a C (some dx))) s' → Q () s') :
    wpAny (model X.prog X.w) A (setAttr (.ref a) f u) Q E s := by
  obtain ⟨B, nI, iI, bmB, FB, SF, c1, c2⟩ := T.base
  obtain ⟨t1, ho⟩ := exo_at I.hok e
  obtain ⟨hp, g, d, t, os⟩ := s
  refine set_plain I.kIn (od := none) ⟨ho, rfl, rfl, trivial⟩ T.sa ?_
  refine sa_new SF I.kIn ho c2 T.hd hno fun h' tk' dx k big ne hx hn => ?_
  exact h dx _ (I.hok.fresh big) ne (inv_dict I e big ne k hx hn (rel_one ry))
/-- self.f = y, a further one -/
theorem st_next (T : XC X.K C) (I : Inv X pins σ H s) (e : H a = some (exo a C (some dx))) (ed : H dx = some (exd dx fs)) (hl : fs.length ≤ 900)
    (hno : findIn X.K (.ref C) f = some none) (ry : RelV y u) (h : ∀ s', Inv X pins σ (upd H dx (exd dx ((f, y) :: fs))) s' → Q () s') :
    wpAny (model X.prog X.w) A (setAttr (.ref a) f u) Q E s := by
  obtain ⟨B, nI, iI, bmB, FB, SF, c1, c2⟩ := T.base
  obtain ⟨t1, ho⟩ := exo_at I.hok e
  obtain ⟨mA, hns, rel⟩ := exd_at I.hok ed
  have wi := within_of rel
  obtain ⟨hp, g, d, t, os⟩ := s
  obtain ⟨od, _, _, hod, _, _⟩ := hns.count wi
  refine set_plain I.kIn (od := some od) ⟨ho, rfl, rfl, hod⟩ T.sa ?_
  refine sa_old SF I.kIn ho hns wi (by rw [List.length_map]; omega) c2 T.hd hno fun h' tk' k hn => ?_
  have ex : ∃ o, h'.get? dx = some o := by
    obtain ⟨o, _, _, q, _⟩ := hn
    exact ⟨o, q⟩
  exact h _ (I.write (t' := tk') (x := dx) (e := dx) (o := exd dx ((f, y) :: fs)) (by rw [ed]; exact trivial) (.inl rfl) k ex (exd_ok hn (relO_put ry rel)))
end

/-- self.f = e, self an error that is being made -/
def tFl (K : Frag) (f : Str) (to te : TE) : TS := fun D σ H => te σ H fun y H1 => to σ H1 fun x H2 => ∃ a C : Addr, x = .ref a ∧ XC K C ∧ findIn K (.ref C) f = some none ∧
  ((H2 a = some (exo a C none) ∧ ∀ dx, H2 dx = none → dx ≠ a → D.nx σ (upd (upd H2 dx (exd dx [(f, y)])) a (exo a C (some dx)))) ∨
   ∃ (dx : Addr) (fs : List (Str × V)), H2 a = some (exo a C (some dx)) ∧ H2 dx = some (exd dx fs) ∧ fs.length ≤ 900 ∧ D.nx σ (upd H2 dx (exd dx ((f, y) :: fs))))
section
variable {X : Cx} {o e : Expr} {es : List Expr} {to te : TE} {ta : TA} {f : Str} {p p' p1 p2 pos : Pos}
theorem ps_fl (ho : PE X o to) (he : PE X e te) (hs : swapsWith e (some (.Attribute o f p')) pos.line X.env = pure false := by rfl) :
    PS X (.Assign [.Attribute o f p'] e pos) (tFl X.K f to te) := by
  constructor
  intro pins s σ H D I h
  refine plainObj_wpAny_Assign_Attribute ?_ hs
  refine thn (he.run pins s σ H _ I h) fun v s1 hv => ?_
  obtain ⟨y, H1, I1, r1, q1⟩ := hv
  refine thn (ho.run pins s1 σ H1 _ I1 q1) fun u s2 hu => ?_
  obtain ⟨x, H2, I2, r2, a, C, ex, T, hno, q⟩ := hu
  subst ex
  obtain rfl : u = Value.ref a := r2
  rcases q with ⟨ea, q⟩ | ⟨dx, fs, ea, ed, hl, q⟩
  · exact st_first T I2 ea hno r1 fun dx s' n ne J => ⟨σ, _, J, q dx n ne⟩
  · exact st_next T I2 ea ed hl hno r1 fun s' J => ⟨σ, _, J, q⟩
end

/-! ### C(..) as a value -/
/-- C(..): __init__ keeps sp; the error stands at a -/
def tMkV (C : Addr) (sp : Sp) (ta : TA) : TE := fun σ H Q => ta σ H fun vs H1 => vs.length ≤ 1000 ∧ ∀ a, H1 a = none → sp (.ref a :: vs) (upd H1 a (exo a C none)) (fun v H2 => v = .non ∧ Q (.ref a) H2) (fun _ _ _ => False)
section
variable {X : Cx} {CX : CXT} {x : Str} {C fI : Addr} {k : Nat} {fd : FuncData} {ps : List Str} {sp : Sp} {e : Expr} {es : List Expr} {ta : TA} {p pos : Pos}
theorem run_mk {pins : List (Addr × Obj)} {σ : L2.St} {H : Hp} {s : Shared} {Q : VK} {us : List Value} {vs : List V} (T : XC X.K C)
    (iC : findIn X.K (.ref C) "__init__" = some (some (.ref fI))) (tI : typeIn X.K (.ref fI) = some (.type "function"))
    (F1 : FnOk X.prog X.w X.K X.mg X.base CX k fI fd ps sp) (hr : Room (k + 1) X.A) (hb : Binds X.K fd ps []) (hx : Passes CX X (fun _ _ _ => False))
    (I : Inv X pins σ H s) (r : Vals vs us) (hz : vs.length ≤ 1000)
    (h : ∀ a, H a = none → sp (.ref a :: vs) (upd H a (exo a C none)) (fun v H2 => v = .non ∧ Q (.ref a) H2) (fun _ _ _ => False)) :
    wpAny (model X.prog X.w) X.A (call (.ref C) us) (EP X pins σ Q) X.xe s := by
  obtain ⟨B, nI, iI, bmB, FB, SF, c1, c2⟩ := T.base
  obtain ⟨nm, N, qn, bs, bm, hdct, sn, sub, ab, col, dd, k0, k1, k2, k3, k5, hC, hT⟩ := excInit_of I.kIn c1
  obtain ⟨hp, g, dr, tk, os⟩ := s
  have big : hp.objs.size ≤ hp.objs.size + 1 := Nat.le_succ _
  have hn : H (hp.objs.size + 1) = none := I.hok.fresh big
  have hq := h (hp.objs.size + 1) hn
  have kk : ∀ b o, hp.get? b = some o → ((hp.push (kdv_tup us)).push (HandSPX.excO C hp.objs.size)).get? b = some o := fun b o q => Heap.get?_push_of_some _ (Heap.get?_push_of_some _ q)
  have hget : ((hp.push (kdv_tup us)).push (HandSPX.excO C hp.objs.size)).get? (hp.objs.size + 1) = some (HandSPX.excO C hp.objs.size) := by heap_get
  have I2 : Inv X pins σ (upd H (hp.objs.size + 1) (exo (hp.objs.size + 1) C none)) ⟨(hp.push (kdv_tup us)).push (HandSPX.excO C hp.objs.size), g, dr, tk, os⟩ :=
    I.laid (t' := tk) (a := hp.objs.size + 1) (o := exo (hp.objs.size + 1) C none) kk big (exo_ok hget)
  have r2 : Vals (V.ref (hp.objs.size + 1) :: vs) (Value.ref (hp.objs.size + 1) :: us) := .cons rfl r
  have hl : (Value.ref (hp.objs.size + 1) :: us).length = ps.length := by
    rw [← r2.length]
    exact F1.len _ _ _ _ hq
  have hus : us.length ≤ sizeLine := by
    rw [← r.length, sizeLine_eq]
    omega
  have hbd := hb ⟨(hp.push (kdv_tup us)).push (HandSPX.excO C hp.objs.size), g, dr, tk, os⟩ (Value.ref (hp.objs.size + 1) :: us) I2.kIn (by rw [List.append_nil]; exact hl)
  rw [List.append_nil] at hbd
  refine wpAny_call (HandSPX.call_own FB hT hC (looks_findIn I.kIn iC) (fun self => bind_fn I.kIn self tI) hus ?_)
  refine codeAny_mono (F1.run _ X.stack _ _ ⟨Value.ref (hp.objs.size + 1) :: us, []⟩ (Value.ref (hp.objs.size + 1) :: us) _ _ (fun _ _ _ => False) (hr.make C us []) (I2.env0.make C us []) hbd r2 hq) fun rr s' hq' => ?_
  cases rr with
  | error er => exact hx pins σ _ _ er s' I2 hq'
  | ok fl =>
    cases fl with
    | ret v0 =>
      obtain ⟨v, H2, I3, rv, ev, q3⟩ := I2.after hq'
      subst ev
      exact ⟨rv, .ref (hp.objs.size + 1), H2, I3, rfl, q3⟩
    | next => exact False.elim hq'
    | brk => exact False.elim hq'
    | cont => exact False.elim hq'
theorem pe_mkv (T : XC X.K C) (iC : findIn X.K (.ref C) "__init__" = some (some (.ref fI))) (tI : typeIn X.K (.ref fI) = some (.type "function"))
    (F1 : FnOk X.prog X.w X.K X.mg X.base CX k fI fd ps sp) (hr : Room (k + 1) X.A) (hb : Binds X.K fd ps []) (hx : Passes CX X (fun _ _ _ => False))
    (hg : Gl X x) (hm : X.mg x = some (.ref C)) (ha : PA X (e :: es) ta) (hdb : (x == ("__debug__" : Str)) = false := by decide)
    (he : starEach (e :: es) X.env = (false, eval e X.env) :: starEach es X.env := by rfl) (hpl : (backTo pos (starEach es X.env)).any (·.1) = false := by rfl) :
    PE X (.Call (.Name x p) (e :: es) [] pos) (tMkV C sp ta) := by
  constructor
  intro pins s σ H Q I h
  refine wpAny_Call_Name_kw (ld_glob I hg hm ?_ hdb)
  refine callWith_K (h₀ := X.base) I.ok.mod.kin T.kp (thn (ha.run pos pins s σ H _ I h) fun us s1 hu => ?_) he hpl
  obtain ⟨vs, H1, I1, r1, hz, q1⟩ := hu
  exact ⟨I1.kIn, run_mk T iC tI F1 hr hb hx I1 r1 hz q1⟩
theorem pe_mkv0 (T : XC X.K C) (iC : findIn X.K (.ref C) "__init__" = some (some (.ref fI))) (tI : typeIn X.K (.ref fI) = some (.type "function"))
    (F1 : FnOk X.prog X.w X.K X.mg X.base CX k fI fd ps sp) (hr : Room (k + 1) X.A) (hb : Binds X.K fd ps []) (hx : Passes CX X (fun _ _ _ => False))
    (hg : Gl X x) (hm : X.mg x = some (.ref C)) (hdb : (x == ("__debug__" : Str)) = false := by decide) :
    PE X (.Call (.Name x p) [] [] pos) (tMkV C sp tNil) := by
  constructor
  intro pins s σ H Q I h
  obtain ⟨hz, q1⟩ := (show ([] : List V).length ≤ 1000 ∧ ∀ a, H a = none → sp (.ref a :: []) (upd H a (exo a C none)) (fun v H2 => v = .non ∧ Q (.ref a) H2) (fun _ _ _ => False) from h)
  refine wpAny_Call_Name_kw (ld_glob I hg hm ?_ hdb)
  exact callWith_K0 I.kIn T.kp (run_mk (us := []) T iC tI F1 hr hb hx I .nil hz q1)
end
end XV

namespace XV
open PySem PySem.Spec PySem.W PySem.Calls PyProof.Rows L2
section
variable {M : Model} {A : Around} {E : Value → Shared → Prop} {h : Heap} {g : Array GenState} {d : Drawn} {t : Nat} {os : OsState}
variable {nm q : Str} {C N : Addr} {bs bm bmB : List Value} {hdct : Bool} {sn : List Str} {sub : List Value} {ab : Bool} {col : Option Bool} {dd : Option Addr} {k0 k1 k2 k3 k5 : Option Value} {B newId initId : String}
theorem kw_check (F : ExcBaseFacts B newId initId bmB) (hT : ∀ X : String, bm.contains (.type X) = bmB.contains (.type X)) {kw : List (Str × Value)} {Q : Unit → Shared → Prop}
    (hC : h.get? C = some (excClassObj nm q C N bs bm hdct sn sub ab col dd k0 k1 k2 k3 k5 newId)) (hq : Q () ⟨h, g, d, t, os⟩) : wpAny M A (checkBuiltinCall newId ⟨[.ref C], kw⟩) Q E ⟨h, g, d, t, os⟩ := by
  have c1 : (Value.ref C :: bm).contains (.type B) = true := by rw [List.contains_cons, hT, F.hasB, Bool.or_true]
  have c2 := F.noStar
  simp only [checkBuiltinCall, F.newKind, F.newSplit, F.newRow]
  repeat (first
    | refine wpAny_loadPart_at hC ?_
    | (refine wpAny_isSubtype_exc hC ?_; rw [c1])
    | refine wpAny_staticBase_exc hC ?_
    | refine wpAny_madeBy_exc hC ?_
    | simp only [bne_self_eq_false, Bool.false_eq_true, if_false]
    | wp_step)
  exact hq
end
end XV
namespace PySem
namespace XVK
open Builtin Builtin.ObjectAttr
section
variable {prog : Program} {w : World} {A : Around} {E : Value → Shared → Prop} {R : Result → Shared → Prop} {h : Heap} {g : Array GenState} {d : Drawn} {t : Nat} {os : OsState}
variable {nm q : Str} {C N : Addr} {bs bm bmB : List Value} {hdct : Bool} {sn : List Str} {sub : List Value} {ab : Bool} {col : Option Bool} {dd : Option Addr} {k0 k1 k2 k3 k5 : Option Value} {B newId initId : String}
theorem kw_new (F : ExcBaseFacts B newId initId bmB) (hT : ∀ X : String, bm.contains (.type X) = bmB.contains (.type X)) {kw : List (Str × Value)}
    (hC : h.get? C = some (excClassObj nm q C N bs bm hdct sn sub ab col dd k0 k1 k2 k3 k5 newId))
    (hq : R (.ok (.ret (.ref (h.objs.size + 1)))) ⟨(h.push { cls := .type "tuple", data := .seq #[] }).push { cls := .ref C, data := .fields #[.ref h.objs.size, .none, .none, .none, .bool false, .none] }, g, d, t, os⟩) :
    codeAny (model prog w) A (.builtin newId ⟨[.ref C], kw⟩) R ⟨h, g, d, t, os⟩ := by
  have c0 := F.ends
  have c1 : (Value.ref C :: bm).contains (.type B) = true := by rw [List.contains_cons, hT, F.hasB, Bool.or_true]
  have c2 : (Value.ref C :: bm).contains (.type "AttributeError") = false := by rw [List.contains_cons, hT, F.noAttr]; rfl
  have c3 : (Value.ref C :: bm).contains (.type "NameError") = false := by rw [List.contains_cons, hT, F.noName]; rfl
  refine codeAny_builtinAt F.entry ?_
  unfold Builtin.«BaseException.__new__»
  refine wpAt_bind ?_
  show wpAt _ _ _ (stack >>= _) _ _ _
  refine wpAt_bind (wpAt_stack fun p below => wpAt_of_wpAny ?_)
  wp_walk
  refine wpAt_of_wpAny ?_
  rw [F.owner]
  repeat (first
    | with_reducible refine wpAny_madeHere_exc F.canon hC ?_
    | with_reducible refine wpAny_loadPart_at hC ?_
    | (with_reducible refine wpAny_isSubtype_exc hC ?_; first | rw [c1] | rw [c2] | rw [c3])
    | wp_step)
  show R _ _
  rw [Heap.size_push]
  exact hq
theorem kw_type_call (F : ExcBaseFacts B newId initId bmB) (hT : ∀ X : String, bm.contains (.type X) = bmB.contains (.type X)) {kw : List (Str × Value)} {fI : Addr} {Q : Fin → Shared → Prop}
    (hC : h.get? C = some (excClassObj nm q C N bs bm hdct sn sub ab col dd k0 k1 k2 k3 k5 newId))
    (hi : W.Looks (model prog w) h (typeLookup (.ref C) "__init__") (some (.ref fI))) (hb : ∀ self, W.Looks (model prog w) h (bindSpecial (.ref fI) self) (.ref fI, [self]))
    (hq : codeAny (model prog w) A (.call (.ref fI) ⟨[.ref (h.objs.size + 1)], kw⟩)
      (fun r s' => match r with | .ok (.ret v) => v = .none ∧ Q (.done (.ret (.ref (h.objs.size + 1)))) s' | .ok _ => False | .error e => E e s')
      ⟨(h.push (W.kdv_tup [])).push (HandSPX.excO C h.objs.size), g, d, t, os⟩) :
    wpAny (model prog w) A (Builtin.«type.__call__» ⟨[.ref C], kw⟩) Q E ⟨h, g, d, t, os⟩ := by
  repeat (first
    | with_reducible refine wpAny_loadPart_at hC ?_
    | with_reducible refine wpAny_madeBy_exc hC ?_
    | wp_step)
  refine codeAny_call_builtin_code (Code.quiet_builtin _ F.quiet) (XV.kw_check F hT hC ?_)
  refine kw_new F hT hC ?_
  show wpAny _ _ _ _ _ _
  have k : ∀ b o, h.get? b = some o → ((h.push (W.kdv_tup [])).push (HandSPX.excO C h.objs.size)).get? b = some o :=
    fun b o e => Heap.get?_push_of_some _ (Heap.get?_push_of_some _ e)
  have hC1 := k _ _ hC
  have at1 : ((h.push (W.kdv_tup [])).push (HandSPX.excO C h.objs.size)).get? (h.objs.size + 1) = some (HandSPX.excO C h.objs.size) := by heap_get
  have c4 : (Value.ref C :: bm).contains (.ref C) = true := by simp
  have i1 := hi.keeps k
  have b1 := (hb (.ref (h.objs.size + 1))).keeps k
  unfold isInstance
  repeat (first
    | with_reducible refine wpAny_loadPart_at at1 ?_
    | (with_reducible refine wpAny_isSubtype_exc hC1 ?_; rw [c4])
    | wp_step)
  show wpAny _ _ (typeLookup (.ref C) _) _ _ _
  refine i1.at ?_
  refine wpAny_holding (wpAny_bind (b1.at ?_))
  refine wpAny_bind (wpAny_call (codeAny_mono hq fun r s' z => ?_))
  rcases r with e | (v | _ | _ | _) <;> first | exact z | exact z.elim | skip
  obtain ⟨rfl, z⟩ := z
  first
    | exact wpAny_pure (wpAny_pure z)
    | (wp_walk; exact z)
theorem kw_call (F : ExcBaseFacts B newId initId bmB) (hT : ∀ X : String, bm.contains (.type X) = bmB.contains (.type X)) {kw : List (Str × Value)} {fI : Addr}
    (hC : h.get? C = some (excClassObj nm q C N bs bm hdct sn sub ab col dd k0 k1 k2 k3 k5 newId))
    (hi : W.Looks (model prog w) h (typeLookup (.ref C) "__init__") (some (.ref fI))) (hb : ∀ self, W.Looks (model prog w) h (bindSpecial (.ref fI) self) (.ref fI, [self]))
    (hq : codeAny (model prog w) (A.under (.builtin "type.__call__" ⟨[.ref C], kw⟩)) (.call (.ref fI) ⟨[.ref (h.objs.size + 1)], kw⟩) (W.InitBack (h.objs.size + 1) R)
      ⟨(h.push (W.kdv_tup [])).push (HandSPX.excO C h.objs.size), g, d, t, os⟩) :
    codeAny (model prog w) A (.call (.ref C) ⟨[], kw⟩) R ⟨h, g, d, t, os⟩ := by
  have f1 := tc_lookup
  have f2 := tc_bind (.ref C)
  have ty : (⟨h, g, d, t, os⟩ : Shared).TypeIs (.ref C) "type" := ⟨_, hC, rfl⟩
  refine codeAny_of_tree ?_
  show wpAny _ _ (callAny (.ref C) _) _ _ _
  repeat (any_goals (first
    | assumption
    | with_reducible refine wpAny_loadPart_at hC ?_
    | wp_step))
  refine ⟨rfl, ?_⟩
  refine codeAny_call_builtin_at (Code.quiet_builtin _ (by decide +kernel)) entry_typeCall (wpAny_check_type_call_sub hC (kw_type_call F hT hC hi hb ?_))
  refine codeAny_mono hq fun r s' z => ?_
  rcases r with e | (v | _ | _ | _) <;> exact z
end
end XVK
end PySem

namespace XV
open PySem PySem.Spec PySem.W PySem.Calls PyProof.Rows L2
/-! ### C(k = v, ..) as a value -/
def tMkW (C : Addr) (sp : Sp) (gV : List V → List V → List V) (tk : TA) : TE := fun σ H Q => tk σ H fun zs H1 => ∀ a, H1 a = none → sp (gV [.ref a] zs) (upd H1 a (exo a C none)) (fun v H2 => v = .non ∧ Q (.ref a) H2) (fun _ _ _ => False)
section
variable {X : Cx} {CX : CXT} {x : Str} {C fI : Addr} {k : Nat} {fd : FuncData} {ps ks : List Str} {sp : Sp} {kws : List Keyword} {tk : TA} {p pos : Pos} {g : List Value → List Value → List Value} {gV : List V → List V → List V}
theorem run_mkw {pins : List (Addr × Obj)} {σ : L2.St} {H : Hp} {s : Shared} {Q : VK} {ws : List Value} {zs : List V} (T : XC X.K C)
    (iC : findIn X.K (.ref C) "__init__" = some (some (.ref fI))) (tI : typeIn X.K (.ref fI) = some (.type "function"))
    (F1 : FnOk X.prog X.w X.K X.mg X.base CX k fI fd ps sp) (hr : Room (k + 1) X.A) (hb : KBinds X.K fd ps ks g gV) (hx : Passes CX X (fun _ _ _ => False))
    (I : Inv X pins σ H s) (r : Vals zs ws)
    (h : ∀ a, H a = none → sp (gV [.ref a] zs) (upd H a (exo a C none)) (fun v H2 => v = .non ∧ Q (.ref a) H2) (fun _ _ _ => False)) :
    wpAny (model X.prog X.w) X.A (call (.ref C) [] (ks.zip ws)) (EP X pins σ Q) X.xe s := by
  obtain ⟨B, nI, iI, bmB, FB, SF, c1, c2⟩ := T.base
  obtain ⟨nm, N, qn, bs, bm, hdct, sn, sub, ab, col, dd, k0, k1, k2, k3, k5, hC, hT⟩ := excInit_of I.kIn c1
  obtain ⟨hp, g0, dr, tk, os⟩ := s
  have big : hp.objs.size ≤ hp.objs.size + 1 := Nat.le_succ _
  have hn : H (hp.objs.size + 1) = none := I.hok.fresh big
  have hq := h (hp.objs.size + 1) hn
  have kk : ∀ b o, hp.get? b = some o → ((hp.push (kdv_tup [])).push (HandSPX.excO C hp.objs.size)).get? b = some o := fun b o q => Heap.get?_push_of_some _ (Heap.get?_push_of_some _ q)
  have hget : ((hp.push (kdv_tup [])).push (HandSPX.excO C hp.objs.size)).get? (hp.objs.size + 1) = some (HandSPX.excO C hp.objs.size) := by heap_get
  have I2 : Inv X pins σ (upd H (hp.objs.size + 1) (exo (hp.objs.size + 1) C none)) ⟨(hp.push (kdv_tup [])).push (HandSPX.excO C hp.objs.size), g0, dr, tk, os⟩ :=
    I.laid (t' := tk) (a := hp.objs.size + 1) (o := exo (hp.objs.size + 1) C none) kk big (exo_ok hget)
  have r2 : Vals (gV [V.ref (hp.objs.size + 1)] zs) (g [Value.ref (hp.objs.size + 1)] ws) := hb.rel (.cons rfl .nil) r
  have hl : (g [Value.ref (hp.objs.size + 1)] ws).length = ps.length := by
    rw [← r2.length]
    exact F1.len _ _ _ _ hq
  have hbd := hb.to ⟨(hp.push (kdv_tup [])).push (HandSPX.excO C hp.objs.size), g0, dr, tk, os⟩ [Value.ref (hp.objs.size + 1)] ws I2.kIn hl
  refine wpAny_call (PySem.XVK.kw_call FB hT hC (looks_findIn I.kIn iC) (fun self => bind_fn I.kIn self tI) ?_)
  refine codeAny_mono (F1.run _ X.stack _ _ ⟨[Value.ref (hp.objs.size + 1)], ks.zip ws⟩ (g [Value.ref (hp.objs.size + 1)] ws) _ _ (fun _ _ _ => False) (hr.make C [] (ks.zip ws)) (I2.env0.make C [] (ks.zip ws)) hbd r2 hq) fun rr s' hq' => ?_
  cases rr with
  | error er => exact hx pins σ _ _ er s' I2 hq'
  | ok fl =>
    cases fl with
    | ret v0 =>
      obtain ⟨v, H2, I3, rv, ev, q3⟩ := I2.after hq'
      subst ev
      exact ⟨rv, .ref (hp.objs.size + 1), H2, I3, rfl, q3⟩
    | next => exact False.elim hq'
    | brk => exact False.elim hq'
    | cont => exact False.elim hq'
theorem pe_mkw (T : XC X.K C) (iC : findIn X.K (.ref C) "__init__" = some (some (.ref fI))) (tI : typeIn X.K (.ref fI) = some (.type "function"))
    (F1 : FnOk X.prog X.w X.K X.mg X.base CX k fI fd ps sp) (hr : Room (k + 1) X.A) (hb : KBinds X.K fd ps ks g gV) (hx : Passes CX X (fun _ _ _ => False))
    (hg : Gl X x) (hm : X.mg x = some (.ref C)) (hkw : PK X kws tk)
    (hall : (backToKw pos (keywordEach kws X.env)).all (·.1.isSome) = true := by rfl) (hks : (backToKw pos (keywordEach kws X.env)).filterMap (·.1) = ks := by rfl)
    (hdb : (x == ("__debug__" : Str)) = false := by decide)
    (hpl : ((backTo pos (starEach [] X.env)).any (·.1) || (backToKw pos (keywordEach kws X.env)).any (·.1.isNone)) = false := by rfl) :
    PE X (.Call (.Name x p) [] kws pos) (tMkW C sp gV tk) := by
  constructor
  intro pins s σ H Q I h
  refine wpAny_Call_Name_kw (ld_glob I hg hm ?_ hdb)
  refine callWith_KW0 (h₀ := X.base) I.ok.mod.kin T.kp hall ?_ hpl
  refine thn (hkw.run pos pins s σ H _ I h) fun ws s2 hw => ?_
  obtain ⟨zs, H2, I2, rz, q2⟩ := hw
  refine ⟨I2.kIn, ?_⟩
  rw [hks]
  exact run_mkw T iC tI F1 hr hb hx I2 rz q2
end

/-! ### e.f -/
/-- at a: an error of the class at C whose fields are fs -/
def XAt (H : Hp) (a C : Addr) (fs : List (Str × V)) : Prop := ∃ dx, H a = some (exo a C (some dx)) ∧ H dx = some (exd dx fs)
def tXg (K : Frag) (f : Str) (te : TE) : TE := fun σ H Q => te σ H fun x H1 => ∃ (a C : Addr) (fs : List (Str × V)) (v : V), x = .ref a ∧ XAt H1 a C fs ∧ XC K C ∧ findIn K (.ref C) f = some none ∧ fs.lookup f = some v ∧ Q v H1
theorem inst_of {X : Cx} {pins : List (Addr × Obj)} {σ : L2.St} {H : Hp} {s : Shared} {a C : Addr} {fs : List (Str × V)} (I : Inv X pins σ H s) (h : XAt H a C fs) :
    ∃ (ox od : Obj) (mA : Str → Option Value), W.InstAt s.heap a ox C (some od) ∧ (∀ n, lookIn n od = some (mA n)) ∧ (∀ z, RelO (fs.lookup z) (mA z)) := by
  obtain ⟨dx, e1, e2⟩ := h
  obtain ⟨t1, ho⟩ := exo_at I.hok e1
  obtain ⟨mA, hns, rel⟩ := exd_at I.hok e2
  obtain ⟨od, hod, hl⟩ := lookIn_ns hns
  exact ⟨_, od, mA, ⟨ho, rfl, rfl, hod⟩, hl, rel⟩
theorem pe_xg {X : Cx} {e : Expr} {te : TE} {pos : Pos} {f : Str} (he : PE X e te) (hb : attributeBase e f X.env (eval e X.env) = eval e X.env := by rfl) :
    PE X (.Attribute e f pos) (tXg X.K f te) := by
  constructor
  intro pins s σ H Q I h
  refine attr_of hb (thn (he.run pins s σ H _ I h) fun u s1 hu => ?_)
  obtain ⟨x, H1, I1, rx, a, C, fs, v, ex, hX, T, hno, l, q⟩ := hu
  subst ex
  obtain rfl : u = Value.ref a := rx
  obtain ⟨ox, od, mA, J, hl, rel⟩ := inst_of I1 hX
  obtain ⟨u, hu, ru⟩ := RelO.some_of (v := v) (o := mA f) (by rw [← l]; exact rel f)
  exact HandSPX.exc_get I1.kIn J T.ga T.gg T.ex (findObj_own T.hd hno rfl (by rw [hl, hu])) (handed_of ru) ⟨v, H1, I1.tok _, ru, q⟩

/-! ### isinstance -/
section
variable {prog : Program} {w : World} {A : Around} {E : Value → Shared → Prop} {s : Shared} {K : Frag} {x D : Addr} {ox od : Obj}
theorem find_cls (T : XC K D) {o : Option Obj} : findObj K D o "__class__" = some (.bind (.builtin "getset_descriptor.__get__") (.builtin "object.__class__")) := by
  obtain ⟨cd, hc, _⟩ := any_some T.hd
  have h1 := T.ca
  have h2 := T.cn
  have h3 := T.ct
  unfold findObj
  rw [hc, Option.bind_some, h1, Option.bind_some]
  simp [h2, h3]
theorem ask_class {Q : Option Value → Shared → Prop} (T : XC K D) (X : K.In s.heap) (I : W.InstAt s.heap x ox D (some od)) (h : Q (some (.ref D)) { s with toks := s.toks + 1 }) :
    wpAny (model prog w) A (getAttr? (.ref x) "__class__") Q E s := by
  obtain ⟨hp, g, d, t, os⟩ := s
  have l0 := I.type (M := model prog w)
  have l1 := looks_findIn (M := model prog w) X T.ga
  have l2 := looks_findIn (M := model prog w) X T.gg
  have l3 := looks_find (M := model prog w) X I (find_cls T)
  have l4 : Looks (model prog w) hp (isInstance (.ref x) (.type "BaseException")) true := l0.andThen (looks_subIn X T.ex)
  have b1 : (false && onTheHeap (Value.builtin "BaseException.__getattribute__")) = false := rfl
  have b2 : (onTheHeap (Value.ref D) && Value.builtin "BaseException.__getattribute__" == Value.builtin "object.__getattribute__") = false := by
    rw [show (Value.builtin "BaseException.__getattribute__" == Value.builtin "object.__getattribute__") = false by decide +kernel, Bool.and_false]
  unfold getAttr? getAttrBy? getAttrBy
  refine wpAny_bind (wpAny_mkText (wpAny_bind (wpAny_attempt (wpAny_holding (wpAny_bind (l0.at (wpAny_bind (l1.at ?_))))))))
  show wpAny _ _ (if (onTheHeap (Value.ref D) && Value.builtin "BaseException.__getattribute__" == Value.builtin "object.__getattribute__") = true then _ else _) _ _ _
  rw [b2, if_neg Bool.false_ne_true]
  unfold getAttrByItsOwn hookBefore
  refine wpAny_bind ?_
  rw [if_pos (show onTheHeap (Value.ref D) = true from rfl)]
  refine l2.at ?_
  refine wpAny_bind (wpAny_attempt (wpAny_holding ?_))
  unfold callGetattribute
  rw [b1, if_neg Bool.false_ne_true]
  unfold boundAndCalled
  rw [PySem.F.excAttr_ValueError.ga.bind (.ref x)]
  refine wpAny_bind (wpAny_pure ?_)
  show wpAny _ _ (call (.builtin "BaseException.__getattribute__") [.ref x, .str "__class__" t]) _ _ _
  refine wpAny_call (codeAny_call_builtin PySem.F.excAttr_ValueError.ga.plain PySem.F.entry_bexc_ga ?_)
  refine @check_slot (model prog w) _ _ ⟨hp, g, d, t + 1, os⟩ "BaseException.__getattribute__" "BaseException" "__getattribute__" (.ref x) [.str "__class__" t] [] _ (by decide +kernel) (by decide +kernel) l4 (PySem.F.args_bexc_ga (.ref x) (.str "__class__" t)) ?_
  unfold Builtin.«object.__getattribute__»
  refine wpAny_bind (wpAny_of_eq (a := ((Value.ref x : Value), [Value.str "__class__" t])) (by first | rfl | (simp only [slotArgs]; rfl)) ?_)
  refine wpAny_bind (wpAny_pure (wpAny_bind (l0.at (wpAny_bind (l3.at ?_)))))
  show wpAny _ _ (holding [Value.builtin "object.__class__"] (call (.builtin "getset_descriptor.__get__") [.builtin "object.__class__", .ref x, .ref D]) >>= ret) _ _ _
  refine wpAny_bind (wpAny_holding (wpAny_call (class_get (s := ⟨hp, g, d, t + 1, os⟩) (ox := ox) (od := some od) X I T.cm ?_)))
  refine wpAny_pure ?_
  show wpAny _ _ (handedOut (.ref D)) _ _ _
  rw [handedOut_of (v := .ref D) rfl]
  first
    | exact wpAny_pure (wpAny_pure h)
    | exact wpAny_pure h
    | exact wpAny_pure (wpAny_bind (wpAny_pure (wpAny_pure h)))
theorem kit_x (T : XC K D) : KitX K (.ref x) (.ref D) (fun h => ∃ ox od, W.InstAt h x ox D (some od)) where
  ty := fun M h _ ⟨_, _, I⟩ => I.type
  it := fun M h X _ => by
    obtain ⟨cd, hc, _⟩ := any_some T.hd
    unfold clsIn at hc
    split at hc
    · rename_i c' d' cd' sl' ho
      intro A' Q' E' s' k q
      unfold isType loadHead
      exact wpAny_bind (wpAny_loadPart (k _ _ (X _ _ ho)) (wpAny_pure q))
    · cases hc
  ne := fun h tp dd its n sl X htp => by
    obtain ⟨cd, hc, _⟩ := any_some T.hd
    refine Bool.eq_false_iff.mpr fun q => ?_
    have e : D = tp := Value.ref.inj (beq_iff_eq.mp q)
    subst e
    unfold clsIn at hc
    split at hc
    · rename_i c' d' cd' sl' ho
      have z := (X _ _ ho).symm.trans htp
      cases z
    · cases hc
  ca := fun X ⟨_, _, I⟩ k => ask_class T X I k
end
/-- isinstance(e, c), e an error -/
def rIsX (K : Frag) : List V → Hp → VK → Prop := fun xs H Q => ∃ (a C : Addr) (fs : List (Str × V)) (c : V) (cv : Value) (b : Bool), xs = [.ref a, c] ∧ XAt H a C fs ∧ XC K C ∧ ClsV c cv ∧ kitOne K (.ref C) cv = some b ∧ Q (.bl b) H
theorem call_isX {X : Cx} : CallR X (.builtin "isinstance") (rIsX X.K) := by
  intro pins s σ H xs us Q I r h
  obtain ⟨a, C, fs, c, cv, b, rfl, hX, T, hc, e, q⟩ := h
  cases r with
  | cons rx rr =>
    cases rr with
    | cons rt rr =>
      cases rr
      cases rx
      have ec := hc.eq rt
      subst ec
      obtain ⟨ox, od, mA, J, _, _⟩ := inst_of I hX
      exact kia_one (kit_x T) I.kIn ⟨_, _, J⟩ e (fun z => nomatch z) fun tk => ⟨.bl b, H, I.kept (t' := tk) fun _ _ z => z, rfl, q⟩
/-- isinstance(e, (c1, c2, ..)), e an error, the tuple just laid -/
def rIsXT (K : Frag) : List V → Hp → VK → Prop := fun xs H Q => ∃ (a C : Addr) (fs : List (Str × V)) (tp : Addr) (cs : List V) (us : List Value) (b : Bool), xs = [.ref a, .ref tp] ∧ H tp = some (.tup cs) ∧ Paired ClsV cs us ∧ XAt H a C fs ∧ XC K C ∧ kitAny K (.ref C) us = some b ∧ Q (.bl b) H
end XV

namespace XV
open PySem PySem.Spec PySem.W PySem.Calls PyProof.Rows L2 Evl
/-! ### isinstance of anything that is drawn -/
inductive TyE (K : Frag) (H : Hp) : V → Value → Prop where
  | plain {x : V} {t : Value} (h : TyX K H x t) : TyE K H x t
  | err {a C : Addr} {fs : List (Str × V)} (h : XAt H a C fs) (T : XC K C) : TyE K H (.ref a) (.ref C)
theorem kit_e {X : Cx} {pins : List (Addr × Obj)} {σ : L2.St} {H : Hp} {s : Shared} {x : V} {u t : Value} (I : Inv X pins σ H s) (rx : RelV x u) (ty : TyE X.K H x t) :
    ∃ P : Heap → Prop, KitX X.K u t P ∧ P s.heap ∧ u ≠ .builtin "__main__.__loader__#opaque" := by
  cases ty with
  | plain h => exact kit_of I rx h
  | @err a C fs h T =>
    obtain rfl : u = Value.ref a := rx
    obtain ⟨ox, od, mA, J, _, _⟩ := inst_of I h
    exact ⟨_, kit_x T, ⟨_, _, J⟩, fun z => nomatch z⟩
def rIs1 (K : Frag) : List V → Hp → VK → Prop := fun xs H Q => ∃ (x c : V) (t u : Value) (b : Bool), xs = [x, c] ∧ ClsV c u ∧ TyE K H x t ∧ kitOne K t u = some b ∧ Q (.bl b) H
def rIs2 (K : Frag) : List V → Hp → VK → Prop := fun xs H Q => ∃ (x : V) (tp : Addr) (cs : List V) (t : Value) (us : List Value) (b : Bool), xs = [x, .ref tp] ∧ H tp = some (.tup cs) ∧ Paired ClsV cs us ∧ TyE K H x t ∧ kitAny K t us = some b ∧ Q (.bl b) H
theorem call_is1 {X : Cx} : CallR X (.builtin "isinstance") (rIs1 X.K) := by
  intro pins s σ H xs us Q I r h
  obtain ⟨x, c, t, u, b, rfl, k, ty, e, q⟩ := h
  obtain ⟨u1, u2, rfl, r1, r2⟩ := vals2 r
  obtain rfl := k.eq r2
  obtain ⟨P, Z, p, hx⟩ := kit_e I r1 ty
  exact kia_one Z I.kIn p e hx fun tk => ⟨.bl b, H, I.tok tk, rfl, q⟩
theorem call_is2 {X : Cx} : CallR X (.builtin "isinstance") (rIs2 X.K) := by
  intro pins s σ H xs us Q I r h
  obtain ⟨x, tp, cs, t, ws, b, rfl, hT, k, ty, e, q⟩ := h
  obtain ⟨u1, u2, rfl, r1, r2⟩ := vals2 r
  obtain rfl : u2 = Value.ref tp := r2
  obtain ⟨P, Z, p, hx⟩ := kit_e I r1 ty
  have ok := I.hok tp _ hT
  obtain ⟨_, its, rv, o, h1, h2, n, h3⟩ := (show ObjOk X.prog X.w H s.heap tp (.tup cs) from ok)
  obtain rfl := ClsV.all k rv
  obtain ⟨oc, od, dt, sl⟩ := o
  simp only at h2 h3
  subst h2 h3
  exact kia_tup Z I.kIn p h1 e hx fun tk => ⟨.bl b, H, I.tok tk, rfl, q⟩

/-! ### the bag: a list whose numbers change while it stands -/
def lim : Int := 2147483647
structure Nums (i l m : Int) : Prop where
  i0 : 0 ≤ i
  l0 : 0 ≤ l
  m0 : 0 ≤ m
  m1 : m < lim
def bagL (c : Addr) (i l m k : Int) : List V := [.ref c, .int i, .int l, .int m, .int k]
def BagO (B c : Addr) : HO := .ext fun h => ∃ (its : List Value) (n : Nat) (i l m k : Int), Vals (bagL c i l m k) its ∧ h.get? B = some { cls := .type "list", data := .seq its.toArray n } ∧ Nums i l m
theorem bag_small (c : Addr) (i l m k : Int) : (bagL c i l m k).length ≤ sizeLine := by
  show 5 ≤ sizeLine
  decide
theorem upd_back {H : Hp} {B : Addr} {o u : HO} (h : H B = some o) : upd (upd H B u) B o = H := by
  funext b
  by_cases e : b = B
  · rw [e, upd_same, h]
  · rw [upd_ne e, upd_ne e]
def packD (B c : Addr) (D : Ends) : Ends where
  nx := fun σ H => (∃ i l m k, Nums i l m ∧ H B = some (.lst (bagL c i l m k))) ∧ D.nx σ (upd H B (BagO B c))
  rt := fun v H => (∃ i l m k, Nums i l m ∧ H B = some (.lst (bagL c i l m k))) ∧ D.rt v (upd H B (BagO B c))
  bk := fun σ H => (∃ i l m k, Nums i l m ∧ H B = some (.lst (bagL c i l m k))) ∧ D.bk σ (upd H B (BagO B c))
  ct := fun σ H => (∃ i l m k, Nums i l m ∧ H B = some (.lst (bagL c i l m k))) ∧ D.ct σ (upd H B (BagO B c))
/-- the body sees the list; behind it the bag stands as it stood -/
def tView (B c : Addr) (t : TS) : TS := fun D σ H => H B = some (BagO B c) ∧ ∀ i l m k, Nums i l m → t (packD B c D) σ (upd H B (.lst (bagL c i l m k)))
section
variable {X : Cx} {pins : List (Addr × Obj)} {σ : L2.St} {H : Hp} {s : Shared} {B c : Addr}
theorem inv_open (I : Inv X pins σ H s) (h : H B = some (BagO B c)) : ∃ i l m k, Nums i l m ∧ Inv X pins σ (upd H B (.lst (bagL c i l m k))) s := by
  obtain ⟨⟨its, n, i, l, m, k, hv, hg, hn⟩, _, _⟩ := (show ObjOk X.prog X.w H s.heap B (BagO B c) from I.hok B _ h)
  refine ⟨i, l, m, k, hn, ?_⟩
  have J := I.write (t' := s.toks) (x := B) (e := B) (o := .lst (bagL c i l m k)) (h' := s.heap) (by rw [h]; exact trivial) (.inl rfl) (fun _ _ _ q => q) ⟨_, hg⟩ ⟨bag_small c i l m k, its, n, hv, hg⟩
  exact J
theorem bag_ok {P : Program} {w : World} {H' : Hp} {h : Heap} {i l m k : Int} (hn : Nums i l m) (ok : ObjOk P w H h B (.lst (bagL c i l m k))) : ObjOk P w H' h B (BagO B c) := by
  obtain ⟨_, its, n, hv, hg⟩ := ok
  exact ⟨⟨its, n, i, l, m, k, hv, hg, hn⟩, ⟨_, hg⟩, fun h1 h2 ⟨its', n', i', l', m', k', a, b, d⟩ kp => ⟨its', n', i', l', m', k', a, kp _ b, d⟩⟩
theorem inv_shut (I : Inv X pins σ H s) (h : ∃ i l m k, Nums i l m ∧ H B = some (.lst (bagL c i l m k))) : Inv X pins σ (upd H B (BagO B c)) s := by
  obtain ⟨i, l, m, k, hn, h⟩ := h
  have ok := I.hok B _ h
  have hx : ∃ u, s.heap.get? B = some u := by
    obtain ⟨_, its, n, _, hg⟩ := (show ObjOk X.prog X.w H s.heap B (.lst (bagL c i l m k)) from ok)
    exact ⟨_, hg⟩
  have J := I.write (t' := s.toks) (x := B) (e := B) (o := BagO B c) (h' := s.heap) (by rw [h]; exact trivial) (.inl rfl) (fun _ _ _ q => q) hx (bag_ok hn ok)
  exact J
theorem pss_view {st : List Stmt} {t : TS} (h : PSs X st t) : PSs X st (tView B c t) := by
  constructor
  intro pins s σ H D I hv
  obtain ⟨hB, hv⟩ := hv
  obtain ⟨i, l, m, k, hn, J⟩ := inv_open I hB
  refine thn (h.run pins s σ _ (packD B c D) J (hv i l m k hn)) fun f s1 q => ?_
  cases f with
  | next =>
    obtain ⟨σ1, H1, I1, e, q⟩ := q
    exact ⟨σ1, _, inv_shut I1 e, q⟩
  | brk =>
    obtain ⟨σ1, H1, I1, e, q⟩ := q
    exact ⟨σ1, _, inv_shut I1 e, q⟩
  | cont =>
    obtain ⟨σ1, H1, I1, e, q⟩ := q
    exact ⟨σ1, _, inv_shut I1 e, q⟩
  | ret u =>
    obtain ⟨v, σ1, H1, I1, r, e, q⟩ := q
    exact ⟨v, σ1, _, inv_shut I1 e, r, q⟩
/-- a new list is shut into a bag: a call's end -/
def Bag (H : Hp) (B : Addr) : Prop := ∃ (c : Addr) (ns : List Int), H B = some (BagO B c) ∧ H c = some (.lst (ns.map V.int)) ∧ ns.length ≤ 63
theorem Bag.mono {H H' : Hp} {B : Addr} (e : Ex H H') (h : Bag H B) : Bag H' B := by
  obtain ⟨c, ns, h1, h2, h3⟩ := h
  exact ⟨c, ns, e _ _ h1, e _ _ h2, h3⟩
end
end XV
namespace XV
open L2
/-- a suite cut in two at a promise between -/
theorem seq_cut {A T : TS} {D : Ends} {σ : L2.St} {H : Hp} (J : L2.St → Hp → Prop) (h : ∀ n : L2.St → Hp → Prop, (∀ σ H, J σ H → n σ H) → A { D with nx := n } σ H) (k : ∀ σ H, J σ H → T D σ H) : tSeq A T D σ H := h _ k
end XV
namespace XV
open L2
theorem ifb {b : Bool} {p q : Prop} (h1 : b = true → p) (h2 : b = false → q) : if b = true then p else q := by
  cases b
  · exact h2 rfl
  · exact h1 rfl
end XV

namespace XV
open PySem PySem.Spec PySem.W PySem.Calls PyProof.Rows L2 Evl
/-! ### one of two rules -/
theorem ix_or {X : Cx} {r1 r2 : R2} (h1 : IxR X r1) (h2 : IxR X r2) : IxR X (fun x y H Q => r1 x y H Q ∨ r2 x y H Q) := fun v s pins st σ H x y a b Q I ra rb h e =>
  h.elim (fun h => h1 v s pins st σ H x y a b Q I ra rb h e) fun h => h2 v s pins st σ H x y a b Q I ra rb h e
theorem cr_or {X : Cx} {f : Value} {r1 r2 : List V → Hp → VK → Prop} (h1 : CallR X f r1) (h2 : CallR X f r2) : CallR X f (fun xs H Q => r1 xs H Q ∨ r2 xs H Q) := fun pins s σ H xs us Q I r h =>
  h.elim (fun h => h1 pins s σ H xs us Q I r h) fun h => h2 pins s σ H xs us Q I r h
theorem op_or {X : Cx} {f : Value → Value → Sem Value} {r1 r2 : R2} (h1 : OpR X f r1) (h2 : OpR X f r2) : OpR X f (fun x y H Q => r1 x y H Q ∨ r2 x y H Q) := fun pins s σ H x y a b Q I ra rb h =>
  h.elim (fun h => h1 pins s σ H x y a b Q I ra rb h) fun h => h2 pins s σ H x y a b Q I ra rb h
/-! ### what is given back is shut into a bag -/
def shutD (D : Ends) : Ends := { D with rt := fun v H => ∃ B c, v = .ref B ∧ (∃ i l m k, Nums i l m ∧ H B = some (.lst (bagL c i l m k))) ∧ D.rt v (upd H B (BagO B c)) }
def tShut (t : TS) : TS := fun D σ H => t (shutD D) σ H
theorem pss_shut {X : Cx} {st : List Stmt} {t : TS} (h : PSs X st t) : PSs X st (tShut t) := by
  constructor
  intro pins s σ H D I hv
  refine thn (h.run pins s σ H (shutD D) I hv) fun f s1 q => ?_
  cases f with
  | next => exact q
  | brk => exact q
  | cont => exact q
  | ret u =>
    obtain ⟨v, σ1, H1, I1, r, B, c, e, hb, q⟩ := q
    exact ⟨v, σ1, _, inv_shut I1 hb, r, q⟩
/-! ### values of which only a word is known: P H0 v H, v new since H0 -/
abbrev Pd := Hp → V → Hp → Prop
abbrev Pds := Hp → List V → Hp → Prop
structure Fs (P : Pd) : Prop where
  st : ∀ {H0 H H' : Hp} {v : V}, (∀ a o, H0 a = none → H a = some o → H' a = some o) → P H0 v H → P H0 v H'
  an : ∀ {H0 H0' H : Hp} {v : V}, (∀ a, H0' a = none → H0 a = none) → P H0' v H → P H0 v H
theorem Fs.ex {P : Pd} (f : Fs P) {H0 H H' : Hp} {v : V} (e : Ex H H') (h : P H0 v H) : P H0 v H' := f.st (fun a o _ x => e a o x) h
theorem Fs.back {P : Pd} (f : Fs P) {H0 H0' H : Hp} {v : V} (e : Ex H0 H0') (h : P H0' v H) : P H0 v H := f.an (fun a x => fresh_back e x) h
def EN (te : TE) (σ : L2.St) (H : Hp) (P : Pd) : Prop := ∀ H1, Ex H H1 → ∀ Q : VK, (∀ v H2, Ex H1 H2 → P H1 v H2 → Q v H2) → te σ H1 Q
def AN (ta : TA) (σ : L2.St) (H : Hp) (R : Pds) : Prop := ∀ H1, Ex H H1 → ∀ Q : List V → Hp → Prop, (∀ vs H2, Ex H1 H2 → R H1 vs H2 → Q vs H2) → ta σ H1 Q
/-- each by its own word -/
def Each (H0 H : Hp) : List Pd → List V → Prop
  | [], [] => True
  | P :: Ps, v :: vs => P H0 v H ∧ Each H0 H Ps vs
  | _, _ => False
theorem Each.len {H0 H : Hp} : ∀ {Ps : List Pd} {vs : List V}, Each H0 H Ps vs → vs.length = Ps.length
  | [], [], _ => rfl
  | P :: Ps, v :: vs, h => by rw [List.length_cons, List.length_cons, Each.len h.2]
theorem Each.at {H0 H : Hp} : ∀ {Ps : List Pd} {vs : List V}, Each H0 H Ps vs → ∀ {i : Nat} {P : Pd}, Ps[i]? = some P → ∃ v, vs[i]? = some v ∧ P H0 v H
  | P :: Ps, v :: vs, h, 0, P', e => by
    obtain rfl := Option.some.inj e
    exact ⟨v, rfl, h.1⟩
  | P :: Ps, v :: vs, h, i + 1, P', e => by
    obtain ⟨u, e1, e2⟩ := Each.at h.2 (i := i) e
    exact ⟨u, e1, e2⟩
theorem Each.to {H0 H0' H H' : Hp} : ∀ {Ps : List Pd} {vs : List V}, (∀ P, P ∈ Ps → ∀ v, P H0 v H → P H0' v H') → Each H0 H Ps vs → Each H0' H' Ps vs
  | [], [], _, _ => trivial
  | P :: Ps, v :: vs, k, h => ⟨k P (List.mem_cons_self ..) v h.1, Each.to (fun P' m => k P' (List.mem_cons_of_mem _ m)) h.2⟩
theorem Each.app {H0 H : Hp} : ∀ {Ps Qs : List Pd} {vs us : List V}, Each H0 H Ps vs → Each H0 H Qs us → Each H0 H (Ps ++ Qs) (vs ++ us)
  | [], _, [], _, _, h => h
  | P :: Ps, _, v :: vs, _, h, g => ⟨h.1, Each.app h.2 g⟩
theorem Each.snoc {H0 H : Hp} {P : Pd} {n : Nat} {vs : List V} {v : V} (h : Each H0 H (List.replicate n P) vs) (g : P H0 v H) : Each H0 H (List.replicate (n + 1) P) (vs ++ [v]) := by
  rw [List.replicate_succ']
  exact h.app ⟨g, trivial⟩
theorem Each.all {H0 H : Hp} {P : Pd} : ∀ {n : Nat} {vs : List V}, Each H0 H (List.replicate n P) vs → ∀ v, v ∈ vs → P H0 v H
  | 0, [], _, _, m => nomatch m
  | n + 1, u :: us, h, v, m => by
    rcases List.mem_cons.mp m with m | m
    · exact m ▸ h.1
    · exact Each.all (n := n) h.2 v m
/-- a new list, a new tuple of such -/
def PL (Ps : List Pd) : Pd := fun H0 v H => ∃ p xs, v = .ref p ∧ H0 p = none ∧ H p = some (.lst xs) ∧ Each H0 H Ps xs
def PU (Ps : List Pd) : Pd := fun H0 v H => ∃ p xs, v = .ref p ∧ H0 p = none ∧ H p = some (.tup xs) ∧ Each H0 H Ps xs
def PE1 (v : V) : Pd := fun _ x _ => x = v
theorem fs_v (v : V) : Fs (PE1 v) := ⟨fun _ h => h, fun _ h => h⟩
theorem fs_l {Ps : List Pd} (h : ∀ P, P ∈ Ps → Fs P) : Fs (PL Ps) := ⟨fun k ⟨p, xs, e1, e2, e3, e4⟩ => ⟨p, xs, e1, e2, k p _ e2 e3, e4.to fun P m v x => (h P m).st k x⟩,
  fun k ⟨p, xs, e1, e2, e3, e4⟩ => ⟨p, xs, e1, k p e2, e3, e4.to fun P m v x => (h P m).an k x⟩⟩
theorem fs_u {Ps : List Pd} (h : ∀ P, P ∈ Ps → Fs P) : Fs (PU Ps) := ⟨fun k ⟨p, xs, e1, e2, e3, e4⟩ => ⟨p, xs, e1, e2, k p _ e2 e3, e4.to fun P m v x => (h P m).st k x⟩,
  fun k ⟨p, xs, e1, e2, e3, e4⟩ => ⟨p, xs, e1, k p e2, e3, e4.to fun P m v x => (h P m).an k x⟩⟩
section
variable {K : Frag} {σ : L2.St} {H H' : Hp} {te tu : TE} {ta : TA} {P P' : Pd} {R R' : Pds} {Ps Qs : List Pd}
theorem EN.mono (e : Ex H H') (h : EN te σ H P) : EN te σ H' P := fun H1 a Q q => h H1 (e.trans a) Q q
theorem AN.mono (e : Ex H H') (h : AN ta σ H R) : AN ta σ H' R := fun H1 a Q q => h H1 (e.trans a) Q q
theorem EN.to (h : EN te σ H P) (k : ∀ H0 v H', Ex H H0 → Ex H0 H' → P H0 v H' → P' H0 v H') : EN te σ H P' := fun H1 e Q q => h H1 e Q fun v H2 e2 p => q v H2 e2 (k H1 v H2 e e2 p)
theorem AN.to (h : AN ta σ H R) (k : ∀ H0 v H', Ex H H0 → Ex H0 H' → R H0 v H' → R' H0 v H') : AN ta σ H R' := fun H1 e Q q => h H1 e Q fun v H2 e2 p => q v H2 e2 (k H1 v H2 e e2 p)
theorem en_ev {v : V} (h : Ev te σ H v) : EN te σ H (PE1 v) := fun H1 e Q q => h H1 e Q fun H2 e2 => q v H2 e2 rfl
theorem en_is {v : V} (h : Ev te σ H v) (k : ∀ H0 H', Ex H H0 → Ex H0 H' → P H0 v H') : EN te σ H P := (en_ev h).to fun H0 x H' e e2 q => q ▸ k H0 H' e e2
theorem an_ev {vs : List V} (h : EvA ta σ H vs) : AN ta σ H (fun _ xs _ => xs = vs) := fun H1 e Q q => h H1 e Q fun H2 e2 => q vs H2 e2 rfl
theorem ae_nil : AN tNil σ H (fun H0 vs H' => Each H0 H' [] vs) := fun H1 e Q q => q [] H1 (Ex.refl H1) trivial
theorem ae_cons (f : Fs P) (g : ∀ P, P ∈ Ps → Fs P) (h : EN te σ H P) (hr : AN ta σ H (fun H0 vs H' => Each H0 H' Ps vs)) : AN (tCons te ta) σ H (fun H0 vs H' => Each H0 H' (P :: Ps) vs) := fun H1 e Q q =>
  h H1 e _ fun v H2 e2 p => hr H2 (e.trans e2) _ fun vs H3 e3 r => q (v :: vs) H3 (e2.trans e3) ⟨f.ex e3 p, r.to fun P' m v x => (g P' m).back e2 x⟩
theorem en_lst (g : ∀ P, P ∈ Ps → Fs P) (h : AN ta σ H (fun H0 vs H' => Each H0 H' Ps vs)) (hn : Ps.length ≤ 100000) : EN (tLst ta) σ H (PL Ps) := fun H1 e Q q =>
  h H1 e _ fun vs H2 e2 r => ⟨sz_of (by rw [r.len]; exact hn), fun p hp => q _ _ (e2.trans (Ex.new hp)) ⟨p, vs, rfl, fresh_back e2 hp, upd_same, r.to fun P' m v x => (g P' m).ex (Ex.new hp) x⟩⟩
theorem en_tup (g : ∀ P, P ∈ Ps → Fs P) (h : AN ta σ H (fun H0 vs H' => Each H0 H' Ps vs)) (hn : Ps.length ≤ 100000) : EN (tTup ta) σ H (PU Ps) := fun H1 e Q q =>
  h H1 e _ fun vs H2 e2 r => ⟨sz_of (by rw [r.len]; exact hn), fun p hp => q _ _ (e2.trans (Ex.new hp)) ⟨p, vs, rfl, fresh_back e2 hp, upd_same, r.to fun P' m v x => (g P' m).ex (Ex.new hp) x⟩⟩
/-- a call whose promise says a word of what it gives -/
def SpN (sp : Sp) (vs : List V) (H : Hp) (P : Pd) : Prop := ∀ H1, Ex H H1 → ∀ Q : VK, (∀ v H2, Ex H1 H2 → P H1 v H2 → Q v H2) → ∀ E : XK, sp vs H1 Q E
theorem en_call {sp : Sp} {dvs : List V} {E : XK} (f : Fs P) (h : AN ta σ H R) (hs : ∀ H0 vs H', Ex H H0 → Ex H0 H' → R H0 vs H' → SpN sp (vs ++ dvs) H' P) : EN (tCall sp dvs E ta) σ H P := fun H1 e Q q =>
  h H1 e _ fun vs H2 e2 r => hs H1 vs H2 e e2 r H2 (Ex.refl H2) Q (fun v H3 e3 p => q v H3 (e2.trans e3) (f.back e2 p)) E
/-- a comprehension that tests nothing -/
theorem lc_all {J : It} {n : Nat} {G : Hp → Prop} {Y : Nat → Hp → V → Hp → Prop} (f : Fs P) (w : Walk J n G Y) (hz : n ≤ 40000) {g : TG} {vs : List Nat} {H1 : Hp} {D : Addr} {Qd : Hp → Prop} (hD : H1 D = none) (hG : ∀ H', Ex H1 H' → G H')
    (hs : ∀ i x H H', i < n → Ex H1 H → Y i H x H' → ∀ Q : L2.St → Hp → Prop, (∀ σ2 H2, wipe σ2 vs = wipe σ vs → Ex H H2 → EN te σ2 H2 P → Q σ2 H2) → g x (wipe σ vs) H' Q)
    (hd : ∀ H' xs, Ex H1 H' → H' D = some (.lst xs) → Each H1 H' (List.replicate n P) xs → Qd H') :
    ∃ W : Nat → Nat → Hp → Prop, (∃ m, W 0 m (upd H1 D (.lst []))) ∧ ∀ i m H, W i m H →
      (J.stop i H ∧ Qd H) ∨ (J.go i H ∧ ∃ Nx : Hp → Prop, (∀ H', Nx H' → ∃ m', m' < m ∧ W (i + 1) m' H') ∧ ∀ x H', J.yld i H x H' → g x (wipe σ vs) H' fun σ2 H2 => wipe σ2 vs = wipe σ vs ∧ tYes σ2 H2 fun b H3 =>
        if b = true then te σ2 H3 fun y H4 => ∃ acc, H4 D = some (.lst acc) ∧ acc.length < sizeLine ∧ Nx (upd H4 D (.lst (acc ++ [y]))) else Nx H3) := by
  refine lc_it w (fun i H' => Ex H1 H' ∧ ∃ acc, H' D = some (.lst acc) ∧ Each (upd H1 D (.lst [])) H' (List.replicate i P) acc) ⟨Ex.new hD, [], upd_same, trivial⟩ (fun i H' _ h => hG H' h.1) (fun i x H' H'' hi h y => ?_) (fun H' h => ?_)
  · obtain ⟨e1, acc, e2, e3⟩ := h
    refine hs i x H' H'' hi e1 y _ fun σ2 H2 hw e4 hE => ⟨hw, ?_⟩
    show te σ2 H2 _
    refine hE H2 (Ex.refl H2) _ fun v H4 e5 p => ⟨acc, (e4.trans e5) _ _ e2, sz_lt (by rw [e3.len, List.length_replicate]; omega), Ex.mut ((e1.trans e4).trans e5) hD, acc ++ [v], upd_same, ?_⟩
    have nD : ∀ a, upd H1 D (.lst []) a = none → a ≠ D := fun a h e => by
      rw [e, upd_same] at h
      cases h
    refine Each.snoc (e3.to fun P' m u x => ?_) ?_
    · obtain rfl := List.eq_of_mem_replicate m
      exact f.st (fun a o h0 h => by rw [upd_ne (nD a h0)]; exact (e4.trans e5) a o h) x
    · refine f.st (fun a o h0 h => by rw [upd_ne (nD a h0)]; exact h) (f.an (fun a h => ?_) p)
      by_cases q : a = D
      · rw [q, e4 _ _ e2] at h
        cases h
      · rw [upd_ne q]
        exact fresh_back (e1.trans e4) h
  · obtain ⟨e1, acc, e2, e3⟩ := h
    refine hd H' acc e1 e2 (e3.to fun P' m u x => ?_)
    obtain rfl := List.eq_of_mem_replicate m
    exact f.an (fun a h => fresh_back (Ex.new hD) h) x
end
end XV

namespace XV
open PySem PySem.Spec PyProof.Rows PySem.SeqAt
/-! ### one instance compared with itself -/
section
variable {M : Model} {prog : Program} {w : World} {A : Around} {E : Value → Shared → Prop} {s : Shared} {K : PySem.W.Frag} {x C : Addr} {ox : Obj} {od : Option Obj}
theorem self_call {Q : Value → Shared → Prop} (X : K.In s.heap) (I : PySem.W.InstAt s.heap x ox C od) (hm : PySem.W.mroIn K C (.type "object") = some true) (hq : Q (.bool true) s) :
    wpAny (model prog w) A (call (.builtin "object.__eq__") [.ref x, .ref x]) Q E s :=
  wpAny_call (codeAny_call_builtin F.cmp_object.eq.plain F.cmpEntry_eq (PySem.W.check_slot F.cmpKind_eq F.cmpSplit_eq (I.type.andThen (PySem.W.looks_mroIn X hm)) (F.cmpArgs_eq _ _) (PySem.objEq_entry_same hq)))
theorem self_eq {Q : Value → Shared → Prop} (hu : A.units < cLine) (X : K.In s.heap) (I : PySem.W.InstAt s.heap x ox C od) (hm : PySem.W.mroIn K C (.type "object") = some true) (hs : PySem.W.findIn K (.ref C) "__eq__" = some (some (.builtin "object.__eq__")))
    (h : Q (.bool true) s) : wpAny (model prog w) A (richCompare .Eq (.ref x) (.ref x)) Q E s := by
  have one : wpAny (model prog w) A (tryCompare (.ref x) "__eq__" (.ref x)) (fun r s' => r = some (.bool true) ∧ s' = s) E s := by
    unfold tryCompare
    exact wpAny_bind (HN.ifBound_objEq X I hs (self_call X I hm (wpAny_pure ⟨rfl, rfl⟩)))
  simp only [richCompare, cmpInfo_Eq, oneThing_ref]
  refine wpAny_holding (wpAny_bind (wpAny_cRoomFor hu ?_))
  refine wpAny_bind (I.type.here ?_)
  refine wpAny_bind (I.type.here ?_)
  simp only [bne_self_eq_false, Bool.false_eq_true, if_false]
  refine wpAny_bind (wpAny_pure ?_)
  refine wpAny_bind (m := tryCompare (.ref x) _ (.ref x)) (wpAny_mono one (fun r s1 z => ?_) fun _ _ e => e)
  obtain ⟨z1, z2⟩ := z
  subst z1
  subst z2
  exact wpAny_pure h
end
end XV
namespace XV
open PySem PySem.Spec PySem.W PySem.Calls PyProof.Rows L2 Evl
def rEqX (K : Frag) : R2 := fun x y H Q => ∃ (a C : Addr) (fs : List (Str × V)), x = .ref a ∧ y = .ref a ∧ XAt H a C fs ∧ XC K C ∧ findIn K (.ref C) "__eq__" = some (some (.builtin "object.__eq__")) ∧ Q (.bl true) H
theorem op_eqX {X : Cx} (hu : X.A.units < cLine) : OpR X (compareOp .Eq) (rEqX X.K) := by
  intro pins s σ H x y v u Q I rx ry h
  obtain ⟨a, C, fs, rfl, rfl, hX, T, he, q⟩ := h
  obtain rfl : v = Value.ref a := rx
  obtain rfl : u = Value.ref a := ry
  obtain ⟨ox, od, mA, J, _, _⟩ := inst_of I hX
  show wpAny _ _ (richCompare .Eq (.ref a) (.ref a)) _ _ _
  exact self_eq hu I.kIn J T.cm he ⟨.bl true, H, I, rfl, q⟩
end XV

namespace XV
open PySem PySem.Spec PySem.W PySem.Calls PyProof.Rows L2 Evl
/-! ### the kinds of what is drawn -/
inductive Ty0 (K : Frag) (H : Hp) : V → Value → Prop where
  | non : Ty0 K H .non (.type "NoneType")
  | bl (b : Bool) : Ty0 K H (.bl b) (.type "bool")
  | int (i : Int) : Ty0 K H (.int i) (.type "int")
  | str (z : Str) : Ty0 K H (.str z) (.type "str")
  | lst {a : Addr} {xs : List V} (h : H a = some (.lst xs)) : Ty0 K H (.ref a) (.type "list")
  | tup {a : Addr} {xs : List V} (h : H a = some (.tup xs)) : Ty0 K H (.ref a) (.type "tuple")
  | err {a C : Addr} {fs : List (Str × V)} (h : XAt H a C fs) (x : XC K C) : Ty0 K H (.ref a) (.ref C)
theorem xat_mono {H H' : Hp} {a C : Addr} {fs : List (Str × V)} (e : Ex H H') (h : XAt H a C fs) : XAt H' a C fs := by
  obtain ⟨d, h1, h2⟩ := h
  exact ⟨d, e _ _ h1, e _ _ h2⟩
theorem Ty0.mono {K : Frag} {H H' : Hp} {x : V} {t : Value} (e : Ex H H') (h : Ty0 K H x t) : Ty0 K H' x t := by
  cases h with
  | non => exact .non
  | bl b => exact .bl b
  | int i => exact .int i
  | str z => exact .str z
  | lst h => exact .lst (e _ _ h)
  | tup h => exact .tup (e _ _ h)
  | err h x => exact .err (xat_mono e h) x
theorem Ty0.to {K : Frag} {H : Hp} {x : V} {t : Value} (h : Ty0 K H x t) : TyE K H x t := by
  cases h with
  | non => exact .plain (.base .non)
  | bl b => exact .plain (.base (.bl b))
  | int i => exact .plain (.base (.int i))
  | str z => exact .plain (.base (.str z))
  | lst h => exact .plain (.base (.lst h))
  | tup h => exact .plain (.base (.tup h))
  | err h x => exact .err h x
section
variable {K : Frag} {σ : L2.St} {H : Hp} {te : TE} {x : V} {t : Value}
theorem ev_is1 {T : String} {b : Bool} (h : Ev te σ H x) (ty : Ty0 K H x t) (e : kitOne K t (.type T) = some b) : Ev (tCB (rIs1 K) (tCons te (tCons (tC (.ty T)) tNil))) σ H (.bl b) := fun H1 e1 Q q =>
  h H1 e1 _ fun H2 e2 => ⟨x, .ty T, t, .type T, b, rfl, .ty T, (ty.mono (e1.trans e2)).to, e, q H2 e2⟩
theorem ev_is2 {S T : String} {b : Bool} (h : Ev te σ H x) (ty : Ty0 K H x t) (e : kitAny K t [.type S, .type T] = some b) :
    Ev (tCB (rIs2 K) (tCons te (tCons (tTup (tCons (tC (.ty S)) (tCons (tC (.ty T)) tNil))) tNil))) σ H (.bl b) := fun H1 e1 Q q =>
  h H1 e1 _ fun H2 e2 => ⟨show [V.ty S, V.ty T].length ≤ sizeLine by show 2 ≤ sizeLine; decide, fun p hp => ⟨x, p, [.ty S, .ty T], t, [.type S, .type T], b, rfl, upd_same, .cons (.ty S) (.cons (.ty T) .nil), ((ty.mono (e1.trans e2)).mono (Ex.new hp)).to, e, q _ (e2.trans (Ex.new hp))⟩⟩
end
theorem ev_isN {σ : L2.St} {H : Hp} {te : TE} {x : V} (h : Ev te σ H x) : Ev (tIsN te) σ H (.bl (decide (x = .non))) := fun H1 e Q q => h H1 e _ fun H2 e2 => q H2 e2
/-! ### comprehensions over zip, over range -/
section
variable {K : Frag} {a b : Addr} {xs ys : List V}
theorem walk_zipT {n : Nat} (hn : n = min xs.length ys.length) : Walk (RZ.ItzT K a b) n (fun H => SqT K H a xs ∧ SqT K H b ys) (YPair (fun i => xs[i]?) (fun i => ys[i]?)) := by
  subst hn
  refine ⟨fun i _ hi q => ?_, fun _ q => ⟨xs, ys, q.1, q.2, by omega⟩, fun i H v H' _ q y => ?_⟩
  · have h1 : i < xs.length := by omega
    have h2 : i < ys.length := by omega
    exact ⟨xs, ys, xs[i], ys[i], q.1, q.2, by simp [h1], by simp [h2]⟩
  · obtain ⟨T, x, z, h1, h2, h3, h4, h5⟩ := y
    exact ⟨T, x, z, h1, h2, h3, h4 xs q.1, h5 ys q.2⟩
variable {σ : L2.St} {H : Hp} {te : TE} {ta : TA} {P : Pd} {vs : List Nat} {i j : Nat}
theorem en_zip (f : Fs P) (hl : xs.length = ys.length) (hz : xs.length ≤ 40000) (ha : EvA ta σ H [.ref a, .ref b]) (hx : (SqL K H a xs ∧ SqL K H b ys) ∨ (SqT K H a xs ∧ SqT K H b ys))
    (hw : ∀ x y, wipe (((wipe σ vs).set i (some x)).set j (some y)) vs = wipe σ vs)
    (he : ∀ (k : Nat) (x y : V) H1, Ex H H1 → xs[k]? = some x → ys[k]? = some y → EN te (((wipe σ vs).set i (some x)).set j (some y)) H1 P) :
    EN (tLc (RZ.iZipA K ta) (gTup K 2 (gCons (gName i) (gCons (gName j) gNil))) tYes te vs) σ H (PL (List.replicate xs.length P)) := fun H1 e Q q => ha H1 e _ fun H2 e2 => by
  have turn : ∀ (k : Nat) (x : V) (H3 H4 : Hp), k < xs.length → Ex H2 H3 → YPair (fun i => xs[i]?) (fun i => ys[i]?) k H3 x H4 → ∀ Q : L2.St → Hp → Prop, (∀ σ2 H5, wipe σ2 vs = wipe σ vs → Ex H3 H5 → EN te σ2 H5 P → Q σ2 H5) →
      gTup K 2 (gCons (gName i) (gCons (gName j) gNil)) x (wipe σ vs) H4 Q := by
    intro k x H3 H4 hk e3 y Q q
    obtain ⟨T, u, v, rfl, hT, rfl, hu, hv⟩ := y
    exact ⟨T, [u, v], rfl, st_of upd_same, rfl, u, [v], rfl, v, [], rfl, rfl, q _ _ (hw u v) (Ex.new hT) (he k u v _ (((e.trans e2).trans e3).trans (Ex.new hT)) hu hv)⟩
  rcases hx with ⟨h1, h2⟩ | ⟨h1, h2⟩
  · refine ⟨a, b, xs, ys, rfl, .inl ⟨ex_l (e.trans e2) h1, ex_l (e.trans e2) h2, fun D hD => ?_⟩⟩
    refine lc_all f (walk_zip (K := K) (a := a) (b := b) (xs := xs) (ys := ys) (n := xs.length) (by omega)) hz hD (fun H' e3 => ⟨ex_l e3 (ex_l (e.trans e2) h1), ex_l e3 (ex_l (e.trans e2) h2)⟩) turn fun H' zs e3 h3 h4 => ?_
    exact q _ _ (e2.trans e3) ⟨D, zs, rfl, fresh_back e2 hD, h3, h4.to fun P' m v x => by
      obtain rfl := List.eq_of_mem_replicate m
      exact f.back e2 x⟩
  · refine ⟨a, b, xs, ys, rfl, .inr ⟨ex_t (e.trans e2) h1, ex_t (e.trans e2) h2, fun D hD => ?_⟩⟩
    refine lc_all f (walk_zipT (K := K) (a := a) (b := b) (xs := xs) (ys := ys) (n := xs.length) (by omega)) hz hD (fun H' e3 => ⟨ex_t e3 (ex_t (e.trans e2) h1), ex_t e3 (ex_t (e.trans e2) h2)⟩) turn fun H' zs e3 h3 h4 => ?_
    exact q _ _ (e2.trans e3) ⟨D, zs, rfl, fresh_back e2 hD, h3, h4.to fun P' m v x => by
      obtain rfl := List.eq_of_mem_replicate m
      exact f.back e2 x⟩
/-- over range(n), the number told by a word -/
theorem en_rng {n : Nat} (f : Fs P) (hz : n ≤ 40000) (ha : EvA ta σ H [.int (n : Int)]) (hw : ∀ x, wipe ((wipe σ vs).set j (some x)) vs = wipe σ vs)
    (he : ∀ (k : Nat) H1, Ex H H1 → k < n → EN te ((wipe σ vs).set j (some (.int (k : Int)))) H1 P) : EN (tLc (iRng1 ta) (gName j) tYes te vs) σ H (PL (List.replicate n P)) := fun H1 e Q q => ha H1 e _ fun H2 e2 => by
  refine ⟨(n : Int), rfl, by omega, by omega, fun D hD => ?_⟩
  show ∃ W : Nat → Nat → Hp → Prop, _
  refine lc_all f (walk_range (lo := 0) (n := n)) hz hD (fun _ _ => trivial) (fun k x H3 H4 hk e3 y Q q => ?_) fun H' zs e3 h3 h4 => ?_
  · obtain ⟨rfl, rfl⟩ := y
    show Q ((wipe σ vs).set j (some (.int ((0 : Int) + (k : Int))))) H4
    rw [Int.zero_add]
    exact q _ _ (hw _) (Ex.refl _) (he k _ ((e.trans e2).trans e3) hk)
  · exact q _ _ (e2.trans e3) ⟨D, zs, rfl, fresh_back e2 hD, h3, h4.to fun P' m v x => by
      obtain rfl := List.eq_of_mem_replicate m
      exact f.back e2 x⟩
/-- .. a number of which only a word is known -/
theorem en_rngN {m : Nat} (f : Fs P) (hz : m ≤ 40000) (ha : AN ta σ H (fun _ xs _ => ∃ n : Nat, 1 ≤ n ∧ n ≤ m ∧ xs = [.int (n : Int)])) (hw : ∀ x, wipe ((wipe σ vs).set j (some x)) vs = wipe σ vs)
    (he : ∀ (k : Nat) H1, Ex H H1 → k < m → EN te ((wipe σ vs).set j (some (.int (k : Int)))) H1 P) : EN (tLc (iRng1 ta) (gName j) tYes te vs) σ H (fun H0 v H' => ∃ n, 1 ≤ n ∧ n ≤ m ∧ PL (List.replicate n P) H0 v H') := fun H1 e Q q => ha H1 e _ fun us H2 e2 h => by
  obtain ⟨n, n1, n2, rfl⟩ := h
  refine ⟨(n : Int), rfl, by omega, by omega, fun D hD => ?_⟩
  show ∃ W : Nat → Nat → Hp → Prop, _
  refine lc_all f (walk_range (lo := 0) (n := n)) (by omega) hD (fun _ _ => trivial) (fun k x H3 H4 hk e3 y Q q => ?_) fun H' zs e3 h3 h4 => ?_
  · obtain ⟨rfl, rfl⟩ := y
    show Q ((wipe σ vs).set j (some (.int ((0 : Int) + (k : Int))))) H4
    rw [Int.zero_add]
    exact q _ _ (hw _) (Ex.refl _) (he k _ ((e.trans e2).trans e3) (by omega))
  · exact q _ _ (e2.trans e3) ⟨n, n1, n2, D, zs, rfl, fresh_back e2 hD, h3, h4.to fun P' m v x => by
      obtain rfl := List.eq_of_mem_replicate m
      exact f.back e2 x⟩
end
section
variable {K : Frag} {σ : L2.St} {H : Hp} {te : TE}
theorem each_bl {H0 H : Hp} : ∀ {n : Nat} {xs : List V}, Each H0 H (List.replicate n (PE1 (.bl true))) xs → xs = (List.replicate n true).map V.bl
  | 0, [], _ => rfl
  | n + 1, x :: xs, h => by
    obtain ⟨h1, h2⟩ := (show PE1 (.bl true) H0 x H ∧ Each H0 H (List.replicate n (PE1 (.bl true))) xs from h)
    rw [each_bl h2, show x = V.bl true from h1]
    rfl
theorem ev_all {n : Nat} (h : EN te σ H (PL (List.replicate n (PE1 (.bl true))))) : Ev (tCB (rAll K) (tCons te tNil)) σ H (.bl true) := fun H1 e Q q =>
  h H1 e _ fun v H2 e2 p => by
    obtain ⟨a, xs, rfl, _, h2, h3⟩ := p
    obtain rfl := each_bl h3
    refine ⟨a, List.replicate n true, rfl, sq_of h2, ?_⟩
    rw [show (List.replicate n true).all id = true by simp]
    exact q H2 e2
theorem ev_lenA {p : Addr} {xs : List V} (h : Ev te σ H (.ref p)) (hx : SqL K H p xs ∨ SqT K H p xs) :
    Ev (tCB (fun us H Q => (∃ p ys, us = [V.ref p] ∧ (SqL K H p ys ∨ SqT K H p ys) ∧ Q (.int ys.length) H) ∨ ∃ z : Str, us = [V.str z] ∧ z.length ≤ sizeLine ∧ Q (.int z.length) H) (tCons te tNil)) σ H (.int xs.length) := fun H1 e Q q =>
  h H1 e _ fun H2 e2 => .inl ⟨p, xs, rfl, hx.elim (fun h => .inl (ex_l (e.trans e2) h)) (fun h => .inr (ex_t (e.trans e2) h)), q H2 e2⟩
end
end XV

namespace XV
open PySem PySem.Spec PySem.W PySem.Calls PyProof.Rows L2 Evl
/-! ### an __init__ that stores its arguments -/
/-- the error at a, its fields at dx -/
def mkX (H : Hp) (a dx C : Addr) (fs : List (Str × V)) : Hp := upd (upd H dx (exd dx fs)) a (exo a C (some dx))
theorem mkX_a {H : Hp} {a dx C : Addr} {fs : List (Str × V)} : mkX H a dx C fs a = some (exo a C (some dx)) := upd_same
theorem mkX_d {H : Hp} {a dx C : Addr} {fs : List (Str × V)} (n : dx ≠ a) : mkX H a dx C fs dx = some (exd dx fs) := by
  unfold mkX
  rw [upd_ne n, upd_same]
theorem mkX_o {H : Hp} {a dx C b : Addr} {fs : List (Str × V)} (h1 : b ≠ a) (h2 : b ≠ dx) : mkX H a dx C fs b = H b := by
  unfold mkX
  rw [upd_ne h1, upd_ne h2]
theorem mkX_put {H : Hp} {a dx C : Addr} {fs gs : List (Str × V)} (n : dx ≠ a) : upd (mkX H a dx C fs) dx (exd dx gs) = mkX H a dx C gs := by
  unfold mkX
  funext b
  by_cases h1 : b = dx
  · subst h1
    rw [upd_same, upd_ne n, upd_same]
  · rw [upd_ne h1]
    by_cases h2 : b = a
    · rw [h2, upd_same, upd_same]
    · rw [upd_ne h2, upd_ne h2, upd_ne h1, upd_ne h1]
/-- no class attribute stands in the way of these fields -/
def Free (K : Frag) (C : Addr) (fs : List Str) : Prop := ∀ f, f ∈ fs → findIn K (.ref C) f = some none
section
variable {K : Frag} {D : Ends} {σ : L2.St} {H : Hp} {a dx C : Addr} {fs : List (Str × V)} {f : Str} {to te : TE} {y : V}
theorem fl_first (T : XC K C) (hno : findIn K (.ref C) f = some none) (ho : ∀ (H : Hp) (Q : VK), Q (.ref a) H → to σ H Q) (he : ∀ (H : Hp) (Q : VK), Q y H → te σ H Q) (hH : H a = some (exo a C none))
    (h : ∀ dx, H dx = none → dx ≠ a → D.nx σ (mkX H a dx C [(f, y)])) : tFl K f to te D σ H :=
  he H _ (ho H _ ⟨a, C, rfl, T, hno, .inl ⟨hH, h⟩⟩)
theorem fl_next (T : XC K C) (hno : findIn K (.ref C) f = some none) (n : dx ≠ a) (ho : ∀ (H : Hp) (Q : VK), Q (.ref a) H → to σ H Q) (he : ∀ (H : Hp) (Q : VK), Q y H → te σ H Q) (hl : fs.length ≤ 900)
    (h : D.nx σ (mkX H a dx C ((f, y) :: fs))) : tFl K f to te D σ (mkX H a dx C fs) :=
  he _ _ (ho _ _ ⟨a, C, rfl, T, hno, .inr ⟨dx, fs, mkX_a, mkX_d n, hl, by rw [mkX_put n]; exact h⟩⟩)
end
theorem go_var {σ : L2.St} {i : Nat} {v : V} (h : σ[i]? = some (some v)) : ∀ (H : Hp) (Q : VK), Q v H → tVar i σ H Q := fun H Q q => ⟨v, h, q⟩
theorem go_c {σ : L2.St} {v : V} : ∀ (H : Hp) (Q : VK), Q v H → tC v σ H Q := fun H Q q => q
/-- the fields as they stand behind the __init__ -/
def fldsX (code : Str) (fs : List Str) (ys : List V) : List (Str × V) := (fs.zip ys).reverse ++ [(("code" : Str), V.str code)]
def spInit (C : Addr) (code : Str) (fs : List Str) : Sp := fun vs H Q _ => ∃ (a : Addr) (ys : List V), vs = .ref a :: ys ∧ ys.length = fs.length ∧ H a = some (exo a C none) ∧
  ∀ dx, H dx = none → dx ≠ a → Q .non (mkX H a dx C (fldsX code fs ys))
section
variable {K : Frag} {C : Addr} {code f1 f2 f3 f4 : Str} {vs : List V} {H : Hp} {Q : VK} {E : XK} {N0 N1 N2 N3 N4 : Str}
abbrev DQ (Q : VK) : Ends := { nx := fun _ H' => Q .non H', rt := Q }
theorem rd0 (T : XC K C) (hf : Free K C ["code"]) (h : spInit C code [] vs H Q E) : tFl K "code" (tVar 0) (tC (.str code)) (DQ Q) (L2.start [N0] vs) H := by
  obtain ⟨a, ys, rfl, hl, hH, q⟩ := h
  match ys, hl with
  | [], _ => exact fl_first T (hf _ (by simp)) (go_var rfl) go_c hH fun dx h1 h2 => q dx h1 h2
theorem rd1 (T : XC K C) (hf : Free K C ["code", f1]) (h : spInit C code [f1] vs H Q E) : tSeq (tFl K "code" (tVar 0) (tC (.str code))) (tFl K f1 (tVar 0) (tVar 1)) (DQ Q) (L2.start [N0, N1] vs) H := by
  obtain ⟨a, ys, rfl, hl, hH, q⟩ := h
  match ys, hl with
  | [y1], _ => exact fl_first T (hf _ (by simp)) (go_var rfl) go_c hH fun dx h1 h2 => fl_next T (hf _ (by simp)) h2 (go_var rfl) (go_var rfl) (by simp) (q dx h1 h2)
theorem rd2 (T : XC K C) (hf : Free K C ["code", f1, f2]) (h : spInit C code [f1, f2] vs H Q E) : tSeq (tFl K "code" (tVar 0) (tC (.str code))) (tSeq (tFl K f1 (tVar 0) (tVar 1)) (tFl K f2 (tVar 0) (tVar 2))) (DQ Q) (L2.start [N0, N1, N2] vs) H := by
  obtain ⟨a, ys, rfl, hl, hH, q⟩ := h
  match ys, hl with
  | [y1, y2], _ => exact fl_first T (hf _ (by simp)) (go_var rfl) go_c hH fun dx h1 h2 => fl_next T (hf _ (by simp)) h2 (go_var rfl) (go_var rfl) (by simp) (fl_next T (hf _ (by simp)) h2 (go_var rfl) (go_var rfl) (by simp) (q dx h1 h2))
theorem rd3 (T : XC K C) (hf : Free K C ["code", f1, f2, f3]) (h : spInit C code [f1, f2, f3] vs H Q E) : tSeq (tFl K "code" (tVar 0) (tC (.str code))) (tSeq (tFl K f1 (tVar 0) (tVar 1)) (tSeq (tFl K f2 (tVar 0) (tVar 2)) (tFl K f3 (tVar 0) (tVar 3)))) (DQ Q) (L2.start [N0, N1, N2, N3] vs) H := by
  obtain ⟨a, ys, rfl, hl, hH, q⟩ := h
  match ys, hl with
  | [y1, y2, y3], _ => exact fl_first T (hf _ (by simp)) (go_var rfl) go_c hH fun dx h1 h2 => fl_next T (hf _ (by simp)) h2 (go_var rfl) (go_var rfl) (by simp) (fl_next T (hf _ (by simp)) h2 (go_var rfl) (go_var rfl) (by simp) (fl_next T (hf _ (by simp)) h2 (go_var rfl) (go_var rfl) (by simp) (q dx h1 h2)))
theorem rd4 (T : XC K C) (hf : Free K C ["code", f1, f2, f3, f4]) (h : spInit C code [f1, f2, f3, f4] vs H Q E) : tSeq (tFl K "code" (tVar 0) (tC (.str code))) (tSeq (tFl K f1 (tVar 0) (tVar 1)) (tSeq (tFl K f2 (tVar 0) (tVar 2)) (tSeq (tFl K f3 (tVar 0) (tVar 3)) (tFl K f4 (tVar 0) (tVar 4))))) (DQ Q) (L2.start [N0, N1, N2, N3, N4] vs) H := by
  obtain ⟨a, ys, rfl, hl, hH, q⟩ := h
  match ys, hl with
  | [y1, y2, y3, y4], _ => exact fl_first T (hf _ (by simp)) (go_var rfl) go_c hH fun dx h1 h2 => fl_next T (hf _ (by simp)) h2 (go_var rfl) (go_var rfl) (by simp) (fl_next T (hf _ (by simp)) h2 (go_var rfl) (go_var rfl) (by simp) (fl_next T (hf _ (by simp)) h2 (go_var rfl) (go_var rfl) (by simp) (fl_next T (hf _ (by simp)) h2 (go_var rfl) (go_var rfl) (by simp) (q dx h1 h2))))
end
/-! ### a made error: where it stands, what it holds -/
def PX (C : Addr) (fs : List (Str × V)) : Pd := fun H0 v H => ∃ a dx, v = .ref a ∧ H0 a = none ∧ H0 dx = none ∧ H a = some (exo a C (some dx)) ∧ H dx = some (exd dx fs)
theorem fs_x {C : Addr} {fs : List (Str × V)} : Fs (PX C fs) := ⟨fun k ⟨a, dx, e1, e2, e3, e4, e5⟩ => ⟨a, dx, e1, e2, e3, k a _ e2 e4, k dx _ e3 e5⟩, fun k ⟨a, dx, e1, e2, e3, e4, e5⟩ => ⟨a, dx, e1, k a e2, k dx e3, e4, e5⟩⟩
theorem PX.at {C : Addr} {fs : List (Str × V)} {H0 H : Hp} {v : V} (h : PX C fs H0 v H) : ∃ a, v = .ref a ∧ XAt H a C fs := by
  obtain ⟨a, dx, e1, _, _, e4, e5⟩ := h
  exact ⟨a, e1, dx, e4, e5⟩
section
variable {C : Addr} {code : Str} {fs : List Str} {σ : L2.St} {H : Hp} {ta : TA} {vs : List V}
theorem made {H1 : Hp} {a : Addr} {Q : VK} {H : Hp} (e : Ex H H1) (h : H1 a = none) (q : ∀ v H2, Ex H1 H2 → PX C (fldsX code fs vs) H1 v H2 → Q v H2) (hl : vs.length = fs.length) (E : XK) :
    spInit C code fs (.ref a :: vs) (upd H1 a (exo a C none)) (fun v H2 => v = .non ∧ Q (.ref a) H2) E := by
  refine ⟨a, vs, rfl, hl, upd_same, fun dx h1 h2 => ⟨rfl, ?_⟩⟩
  have hd : H1 dx = none := by
    rw [upd_ne h2] at h1
    exact h1
  refine q _ _ (fun b o hb => ?_) ⟨a, dx, rfl, h, hd, mkX_a, mkX_d h2⟩
  rw [mkX_o (ne_of_none hb h) (ne_of_none hb hd), upd_ne (ne_of_none hb h)]
  exact hb
theorem en_mkv (h : EvA ta σ H vs) (hl : vs.length = fs.length) (hz : fs.length ≤ 1000) : EN (tMkV C (spInit C code fs) ta) σ H (PX C (fldsX code fs vs)) := fun H1 e Q q =>
  h H1 e _ fun H2 e2 => ⟨by omega, fun a ha => made (e.trans e2) ha (fun v H3 e3 p => q v H3 (e2.trans e3) (fs_x.back e2 p)) hl _⟩
theorem en_mkw {gV : List V → List V → List V} {tk : TA} {zs : List V} (h : EvA tk σ H zs) (hg : ∀ a, gV [.ref a] zs = .ref a :: vs) (hl : vs.length = fs.length) : EN (tMkW C (spInit C code fs) gV tk) σ H (PX C (fldsX code fs vs)) := fun H1 e Q q =>
  h H1 e _ fun H2 e2 a ha => by
    rw [hg a]
    exact made (e.trans e2) ha (fun v H3 e3 p => q v H3 (e2.trans e3) (fs_x.back e2 p)) hl _
end
end XV

namespace XV
open PySem PySem.Spec PySem.W PySem.Calls PyProof.Rows L2 Evl C8
/-! ### the makers, packed -/
def gR {α : Type} (n : Nat) (us ws : List α) : List α := if us.length = 1 ∧ ws.length = n then us ++ ws.reverse else []
theorem vals_rev : ∀ {vs : List V} {us : List Value}, Vals vs us → Vals vs.reverse us.reverse
  | _, _, .nil => .nil
  | v :: vs, u :: us, .cons r t => by
    rw [List.reverse_cons, List.reverse_cons]
    exact vals_app (vals_rev t) (.cons r .nil)
where
  vals_app : ∀ {vs ws : List V} {us ts : List Value}, Vals vs us → Vals ws ts → Vals (vs ++ ws) (us ++ ts)
    | _, _, _, _, .nil, h => h
    | _, _, _, _, .cons r t, h => .cons r (vals_app t h)
theorem gR_rel {n : Nat} {vs zs : List V} {us ws : List Value} (r : Vals vs us) (q : Vals zs ws) : Vals (gR n vs zs) (gR n us ws) := by
  unfold gR
  rw [r.length, q.length]
  split
  · exact vals_rev.vals_app r (vals_rev q)
  · exact .nil
section
variable {K : Frag} {x qual : Str} {params : Arguments} {body : List Stmt} {scope : Scope} {f : Addr} {fd : FuncData} {ps : List Str}
theorem kb_rev (F : FunD K x qual params body scope [] [] f fd) (ks : List Str) (n : Nat) (hp : ps.length = n + 1)
    (h : ∀ (kV doc pm : Value) (an : Option Addr) (cdv ct u : Value) (ws : List Value), ws.length = n → bindArgs (fnOf x qual params body scope .none kV doc pm an cdv ct) ⟨[u], ks.zip ws⟩ = pure (ps.zip (u :: ws.reverse))) : KBinds K fd ps ks (gR n) (gR n) := by
  obtain ⟨oc, od, dV, kV, doc, pm, an, cdv, ct, osl, rfl, lk, hcd, hD, hK⟩ := F.ex
  rcases hD with ⟨_, rfl⟩ | ⟨e, _⟩
  · refine ⟨fun s us ws _ hl => ?_, fun r q => gR_rel r q⟩
    unfold gR at hl ⊢
    by_cases c : us.length = 1 ∧ ws.length = n
    · rw [if_pos c]
      match us, c.1 with
      | [u], _ => exact .of_eq (h kV doc pm an cdv ct u ws c.2)
    · rw [if_neg c, hp] at hl
      cases hl
  · exact absurd rfl e
end
/-- C(..) may be made under the name x -/
structure MkX (P : Program) (w : World) (K : Frag) (mg : Str → Option Value) (base : Heap) (k : Nat) (x : Str) (C : Addr) (code : Str) (fs : List Str) : Prop where
  xc : XC K C
  g : mg x = some (.ref C)
  ex : ∃ (fI : Addr) (fd : FuncData) (ps : List Str), findIn K (.ref C) "__init__" = some (some (.ref fI)) ∧ typeIn K (.ref fI) = some (.type "function") ∧ FnOk P w K mg base C8.CX0 k fI fd ps (spInit C code fs) ∧ Binds K fd ps [] ∧ KBinds K fd ps fs.reverse (gR fs.length) (gR fs.length)
section
variable {X : Cx} {k j : Nat} {x code : Str} {C : Addr} {fs : List Str} {e : Expr} {es : List Expr} {ta tk : TA} {kws : List Keyword} {p pos : Pos}
theorem pe_xmk (M : MkX X.prog X.w X.K X.mg X.base k x C code fs) (hr : Room j X.A) (hk : k + 1 ≤ j) (hg : Gl X x) (ha : PA X (e :: es) ta) (hdb : (x == ("__debug__" : Str)) = false := by decide)
    (he : starEach (e :: es) X.env = (false, eval e X.env) :: starEach es X.env := by rfl) (hpl : (backTo pos (starEach es X.env)).any (·.1) = false := by rfl) :
    PE X (.Call (.Name x p) (e :: es) [] pos) (tMkV C (spInit C code fs) ta) := by
  obtain ⟨fI, fd, ps, i, t, F, b, _⟩ := M.ex
  exact pe_mkv M.xc i t F (hr.mono hk) b C8.pass0 hg M.g ha hdb he hpl
theorem pe_xmk0 (M : MkX X.prog X.w X.K X.mg X.base k x C code fs) (hr : Room j X.A) (hk : k + 1 ≤ j) (hg : Gl X x) (hdb : (x == ("__debug__" : Str)) = false := by decide) :
    PE X (.Call (.Name x p) [] [] pos) (tMkV C (spInit C code fs) tNil) := by
  obtain ⟨fI, fd, ps, i, t, F, b, _⟩ := M.ex
  exact pe_mkv0 M.xc i t F (hr.mono hk) b C8.pass0 hg M.g hdb
theorem pe_xmw (M : MkX X.prog X.w X.K X.mg X.base k x C code fs) (hr : Room j X.A) (hk : k + 1 ≤ j) (hg : Gl X x) (hkw : PK X kws tk)
    (hall : (backToKw pos (keywordEach kws X.env)).all (·.1.isSome) = true := by rfl) (hks : (backToKw pos (keywordEach kws X.env)).filterMap (·.1) = fs.reverse := by rfl)
    (hdb : (x == ("__debug__" : Str)) = false := by decide)
    (hpl : ((backTo pos (starEach [] X.env)).any (·.1) || (backToKw pos (keywordEach kws X.env)).any (·.1.isNone)) = false := by rfl) :
    PE X (.Call (.Name x p) [] kws pos) (tMkW C (spInit C code fs) (gR fs.length) tk) := by
  obtain ⟨fI, fd, ps, i, t, F, _, b⟩ := M.ex
  exact pe_mkw M.xc i t F (hr.mono hk) b C8.pass0 hg M.g hkw hall hks hdb hpl
end
section
variable {C : Addr} {code : Str} {fs : List Str} {σ : L2.St} {H : Hp} {tk : TA} {vs : List V}
theorem en_mkR (h : EvA tk σ H vs.reverse) (hl : vs.length = fs.length) : EN (tMkW C (spInit C code fs) (gR fs.length) tk) σ H (PX C (fldsX code fs vs)) :=
  en_mkw h (fun a => by
    unfold gR
    rw [if_pos ⟨rfl, by rw [List.length_reverse]; exact hl⟩, List.reverse_reverse]
    rfl) hl
end
end XV

namespace XV
open PySem PySem.Spec PySem.W PySem.Calls PyProof.Rows L2 Evl
section
variable {K : Frag} {σ : L2.St} {H : Hp} {te tu : TE} {ta : TA} {P : Pd} {D : Ends} {tz : TS} {x : V} {t : Value}
/-- isinstance(e, C), C an own class -/
theorem ev_isC {C : Addr} {b : Bool} (h : Ev te σ H x) (ty : Ty0 K H x t) (e : kitOne K t (.ref C) = some b) : Ev (tCB (rIs1 K) (tCons te (tCons (tC (.ref C)) tNil))) σ H (.bl b) := fun H1 e1 Q q =>
  h H1 e1 _ fun H2 e2 => ⟨x, .ref C, t, .ref C, b, rfl, .own C, (ty.mono (e1.trans e2)).to, e, q H2 e2⟩
/-- found + [..] -/
theorem el_cat {p : Addr} {xs ys : List V} (ha : Ev te σ H (.ref p)) (hp : H p = some (.lst xs)) (hb : EvL tu σ H ys) (hz : xs.length + ys.length ≤ 100000) : EvL (tOp rCat te tu) σ H (xs ++ ys) := fun H1 e Q q =>
  ha H1 e _ fun H2 e2 => hb H2 (e.trans e2) _ fun l H3 _ e3 hl => ⟨p, l, xs, ys, rfl, rfl, (e.trans (e2.trans e3)) _ _ hp, hl, sz_of hz, fun r hr => q r _ (fresh_back (e2.trans e3) hr) ((e2.trans e3).trans (Ex.new hr)) upd_same⟩
/-- .. whose items are told by words: the old list stood at v since H0 -/
theorem en_cat {H0 : Hp} {v : V} {Ps Qs : List Pd} (fP : ∀ P, P ∈ Ps → Fs P) (fQ : ∀ P, P ∈ Qs → Fs P) (e0 : Ex H0 H) (ha : Ev te σ H v) (hv : PL Ps H0 v H) (hb : EN tu σ H (PL Qs)) (hz : Ps.length + Qs.length ≤ 100000) :
    ∀ H1, Ex H H1 → ∀ Q : VK, (∀ v H2, Ex H1 H2 → PL (Ps ++ Qs) H0 v H2 → Q v H2) → tOp rCat te tu σ H1 Q := fun H1 e Q q =>
  ha H1 e _ fun H2 e2 => hb H2 (e.trans e2) _ fun u H3 e3 pu => by
    obtain ⟨p, xs, rfl, p0, hp, hE⟩ := hv
    obtain ⟨l, ys, rfl, _, hl, hF⟩ := pu
    refine ⟨p, l, xs, ys, rfl, rfl, (e.trans (e2.trans e3)) _ _ hp, hl, sz_of (by rw [hE.len, hF.len]; exact hz), fun r hr => q _ _ ((e2.trans e3).trans (Ex.new hr)) ⟨r, xs ++ ys, rfl, fresh_back (((e0.trans e).trans e2).trans e3) hr, upd_same, ?_⟩⟩
    refine Each.app (hE.to fun P m v h => (fP P m).ex (((e.trans e2).trans e3).trans (Ex.new hr)) h) (hF.to fun P m v h => (fQ P m).ex (Ex.new hr) ((fQ P m).back ((e0.trans e).trans e2) h))
theorem ev_chain {ta tb tc : TE} {i j k : Int} {g g' : Int → Int → Bool} (ha : Ev ta σ H (.int i)) (hb : Ev tb σ H (.int j)) (hc : Ev tc σ H (.int k)) :
    Ev (tChain (rI0 fun i j => .bl (g i j)) (rI0 fun i j => .bl (g' i j)) ta tb tc) σ H (.bl (g i j && g' j k)) := fun H1 e Q q =>
  ha H1 e _ fun H2 e2 => hb H2 (e.trans e2) _ fun H3 e3 => ⟨i, j, rfl, rfl, g i j, rfl, by
    cases h : g i j with
    | true => exact hc H3 ((e.trans e2).trans e3) _ fun H4 e4 => ⟨j, k, rfl, rfl, by
        have q4 := q H4 ((e2.trans e3).trans e4)
        rw [h] at q4
        exact q4⟩
    | false =>
      have q3 := q H3 (e2.trans e3)
      rw [h] at q3
      exact q3⟩
theorem q_asgN {i : Nat} (h : EN te σ H P) (k : ∀ v H1, Ex H H1 → P H v H1 → tz D (σ.set i (some v)) H1) : tSeq (tAsg te (gName i)) tz D σ H := h H (Ex.refl H) _ fun v H1 e p => k v H1 e p
/-- made errors, one behind another -/
structure AX (Ps : List Pd) (ta : TA) (σ : L2.St) (H : Hp) : Prop where
  f : ∀ P, P ∈ Ps → Fs P
  h : AN ta σ H (fun H0 vs H' => Each H0 H' Ps vs)
theorem ax_nil : AX [] tNil σ H := ⟨fun _ m => (nomatch m), ae_nil⟩
theorem ax_cons {C : Addr} {fs : List (Str × V)} {Ps : List Pd} (h : EN te σ H (PX C fs)) (hr : AX Ps ta σ H) : AX (PX C fs :: Ps) (tCons te ta) σ H :=
  ⟨fun P m => (List.mem_cons.mp m).elim (fun m => m ▸ fs_x) (hr.f P), ae_cons fs_x hr.f h hr.h⟩
structure LX (Ps : List Pd) (H0 : Hp) (v : V) (H : Hp) : Prop where
  f : ∀ P, P ∈ Ps → Fs P
  e : Ex H0 H
  h : PL Ps H0 v H
theorem q_asgX {i : Nat} {Ps : List Pd} (h : AX Ps ta σ H) (hn : Ps.length ≤ 100000) (k : ∀ v H1, LX Ps H v H1 → tz D (σ.set i (some v)) H1) : tSeq (tAsg (tLst ta) (gName i)) tz D σ H :=
  q_asgN (en_lst h.f h.h hn) fun v H1 e p => k v H1 ⟨h.f, e, p⟩
theorem fs_app {Ps Qs : List Pd} (h : ∀ P, P ∈ Ps → Fs P) (g : ∀ P, P ∈ Qs → Fs P) : ∀ P, P ∈ Ps ++ Qs → Fs P := fun P m => (List.mem_append.mp m).elim (h P) (g P)
theorem q_catX {i : Nat} {Ps Qs : List Pd} {H0 : Hp} {v : V} (hv : Ev te σ H v) (p : LX Ps H0 v H) (h : AX Qs ta σ H) (hz : Ps.length + Qs.length ≤ 100000) (k : ∀ v H1, LX (Ps ++ Qs) H0 v H1 → tz D (σ.set i (some v)) H1) : tSeq (tAsg (tOp rCat te (tLst ta)) (gName i)) tz D σ H :=
  en_cat p.f h.f p.e hv p.h (en_lst h.f h.h (by omega)) hz H (Ex.refl H) _ fun v H1 e q => k v H1 ⟨fs_app p.f h.f, p.e.trans e, q⟩
theorem s_catX {Ps Qs : List Pd} {H0 : Hp} {v : V} (hv : Ev te σ H v) (p : LX Ps H0 v H) (h : AX Qs ta σ H) (hz : Ps.length + Qs.length ≤ 100000) (k : ∀ v H1, LX (Ps ++ Qs) H0 v H1 → D.rt v H1) : tRet (tOp rCat te (tLst ta)) D σ H :=
  en_cat p.f h.f p.e hv p.h (en_lst h.f h.h (by omega)) hz H (Ex.refl H) _ fun v H1 e q => k v H1 ⟨fs_app p.f h.f, p.e.trans e, q⟩
end
open C8 in
theorem pe_c0 {X : Cx} {k j : Nat} {x : Str} {sp : Sp} {dvs : List V} {p pos : Pos} (c : Cal X.prog X.w X.K X.mg X.base k x sp dvs) (hr : Room j X.A) (hk : k ≤ j) (hg : Gl X x) (hdb : (x == ("__debug__" : Str)) = false := by decide) :
    PE X (.Call (.Name x p) [] [] pos) (tCall sp dvs C8.E0 tNil) := by
  obtain ⟨f, fd, ps, ds, F, hm, kp, b, d⟩ := c.ex
  exact pe_call0 F (hr.mono hk) hg hm kp b d C8.pass0 hdb
end XV

namespace XV
open PySem PySem.Spec PySem.W PySem.Calls PyProof.Rows L2 Evl
/-! ### raise C(..) -/
def tRX (C : Addr) (code : Str) (fs : List Str) (ta : TA) : L2.St → Hp → XK → Prop := fun σ H Q => ta σ H fun vs H1 => vs.length = fs.length ∧ vs.length ≤ 1000 ∧ ∀ d, H1 d = none → Q (.ref C) (some d) (upd H1 d (.xd (fldsX code fs vs)))
section
variable {X : Cx} {k j : Nat} {x code : Str} {C : Addr} {fs : List Str} {e : Expr} {es : List Expr} {ta : TA} {p pos : Pos}
theorem mk_raise {pins : List (Addr × Obj)} {σ : L2.St} {H : Hp} {s : Shared} {Q : XK} {us : List Value} {vs : List V} (M : MkX X.prog X.w X.K X.mg X.base k x C code fs) (hr : Room (k + 1) X.A) (I : Inv X pins σ H s) (r : Vals vs us)
    (hl : vs.length = fs.length) (hz : vs.length ≤ 1000) (h : ∀ d, H d = none → Q (.ref C) (some d) (upd H d (.xd (fldsX code fs vs)))) : wpAny (model X.prog X.w) X.A (call (.ref C) us) (MkP X pins σ Q) X.xe s := by
  obtain ⟨fI, fd, ps, iC, tI, F1, hb, _⟩ := M.ex
  have T := M.xc
  obtain ⟨B, nI, iI, bmB, FB, SF, c1, c2⟩ := T.base
  obtain ⟨nm, N, qn, bs, bm, hdct, sn, sub, ab, col, dd, k0, k1, k2, k3, k5, hC, hT⟩ := excInit_of I.kIn c1
  obtain ⟨hp, g, dr, tk, os⟩ := s
  have big : hp.objs.size ≤ hp.objs.size + 1 := Nat.le_succ _
  have hn : H (hp.objs.size + 1) = none := I.hok.fresh big
  have kk : ∀ b o, hp.get? b = some o → ((hp.push (kdv_tup us)).push (HandSPX.excO C hp.objs.size)).get? b = some o := fun b o q => Heap.get?_push_of_some _ (Heap.get?_push_of_some _ q)
  have hget : ((hp.push (kdv_tup us)).push (HandSPX.excO C hp.objs.size)).get? (hp.objs.size + 1) = some (HandSPX.excO C hp.objs.size) := by heap_get
  have I2 : Inv X pins σ (upd H (hp.objs.size + 1) (exo (hp.objs.size + 1) C none)) ⟨(hp.push (kdv_tup us)).push (HandSPX.excO C hp.objs.size), g, dr, tk, os⟩ :=
    I.laid (t' := tk) (a := hp.objs.size + 1) (o := exo (hp.objs.size + 1) C none) kk big (exo_ok hget)
  have r2 : Vals (V.ref (hp.objs.size + 1) :: vs) (Value.ref (hp.objs.size + 1) :: us) := .cons rfl r
  have hq : spInit C code fs (V.ref (hp.objs.size + 1) :: vs) (upd H (hp.objs.size + 1) (exo (hp.objs.size + 1) C none))
      (fun v H2 => v = .non ∧ ∃ d : Addr, H2 (hp.objs.size + 1) = some (exo (hp.objs.size + 1) C (some d)) ∧ H2 d = some (exd d (fldsX code fs vs)) ∧ H d = none ∧ Q (.ref C) (some d) (upd (del H2 (hp.objs.size + 1)) d (.xd (fldsX code fs vs)))) (fun _ _ _ => False) := by
    refine ⟨_, vs, rfl, hl, upd_same, fun d h1 h2 => ⟨rfl, d, mkX_a, mkX_d h2, ?_, ?_⟩⟩
    · rw [upd_ne h2] at h1
      exact h1
    · have hd : H d = none := by
        rw [upd_ne h2] at h1
        exact h1
      have e : upd (del (mkX (upd H (hp.objs.size + 1) (exo (hp.objs.size + 1) C none)) (hp.objs.size + 1) d C (fldsX code fs vs)) (hp.objs.size + 1)) d (.xd (fldsX code fs vs)) = upd H d (.xd (fldsX code fs vs)) := by
        funext b
        by_cases b1 : b = d
        · rw [b1, upd_same, upd_same]
        · rw [upd_ne b1, upd_ne b1]
          by_cases b2 : b = hp.objs.size + 1
          · rw [b2, del_same, hn]
          · rw [del_ne b2, mkX_o b2 b1, upd_ne b2]
      rw [e]
      exact h d hd
  have hl2 : (Value.ref (hp.objs.size + 1) :: us).length = ps.length := by
    rw [← r2.length]
    exact F1.len _ _ _ _ hq
  have hus : us.length ≤ sizeLine := by
    rw [← r.length, sizeLine_eq]
    omega
  have hbd := hb ⟨(hp.push (kdv_tup us)).push (HandSPX.excO C hp.objs.size), g, dr, tk, os⟩ (Value.ref (hp.objs.size + 1) :: us) I2.kIn (by rw [List.append_nil]; exact hl2)
  rw [List.append_nil] at hbd
  refine wpAny_call (HandSPX.call_own FB hT hC (looks_findIn I.kIn iC) (fun self => bind_fn I.kIn self tI) hus ?_)
  refine codeAny_mono (F1.run _ X.stack _ _ ⟨Value.ref (hp.objs.size + 1) :: us, []⟩ (Value.ref (hp.objs.size + 1) :: us) _ _ (fun _ _ _ => False) (hr.make C us []) (I2.env0.make C us []) hbd r2 hq) fun rr s' hq' => ?_
  cases rr with
  | error er => exact absurd hq' (fun z => z)
  | ok fl =>
    cases fl with
    | ret v0 =>
      obtain ⟨v, H2, os2, bare2, un2, hok2, rv, ev, d, ea, ed, hd1, q2⟩ := hq'
      subst ev
      obtain ⟨h2, g2, d2, t2, os'⟩ := s'
      exact ⟨rv, mk_end (raises_own T.ex T.ty) I big kk un2 hok2 os2 bare2 ea ed hd1 q2⟩
    | next => exact False.elim hq'
    | brk => exact False.elim hq'
    | cont => exact False.elim hq'
theorem pmk_x (M : MkX X.prog X.w X.K X.mg X.base k x C code fs) (hr : Room j X.A) (hk : k + 1 ≤ j) (hg : Gl X x) (ha : PA X (e :: es) ta) (hdb : (x == ("__debug__" : Str)) = false := by decide)
    (he : starEach (e :: es) X.env = (false, eval e X.env) :: starEach es X.env := by rfl) (hpl : (backTo pos (starEach es X.env)).any (·.1) = false := by rfl) :
    PMk X (.Call (.Name x p) (e :: es) [] pos) (tRX C code fs ta) := by
  intro pins s σ H Q I h
  refine wpAny_Call_Name_kw (ld_glob I hg M.g ?_ hdb)
  refine callWith_K (h₀ := X.base) I.ok.mod.kin M.xc.kp (thn (ha.run pos pins s σ H _ I h) fun us s1 hu => ?_) he hpl
  obtain ⟨vs, H1, I1, r1, hl, hz, q1⟩ := hu
  exact ⟨I1.kIn, mk_raise M (hr.mono hk) I1 r1 hl hz q1⟩
theorem pmk_x0 (M : MkX X.prog X.w X.K X.mg X.base k x C code fs) (hr : Room j X.A) (hk : k + 1 ≤ j) (hg : Gl X x) (hdb : (x == ("__debug__" : Str)) = false := by decide) :
    PMk X (.Call (.Name x p) [] [] pos) (tRX C code fs tNil) := by
  intro pins s σ H Q I h
  obtain ⟨hl, hz, q1⟩ := (show ([] : List V).length = fs.length ∧ ([] : List V).length ≤ 1000 ∧ ∀ d, H d = none → Q (.ref C) (some d) (upd H d (.xd (fldsX code fs []))) from h)
  refine wpAny_Call_Name_kw (ld_glob I hg M.g ?_ hdb)
  exact callWith_K0 I.kIn M.xc.kp (mk_raise (us := []) M (hr.mono hk) I .nil hl hz q1)
end
/-! ### e.f of the error that was caught -/
def tXe (K : Frag) (a : Addr) (cls : Value) (d : Option Addr) (f : Str) (te : TE) : TE := fun σ H Q => te σ H fun x H1 => x = .ref a ∧ ∃ (C dd : Addr) (fs : List (Str × V)) (v : V), cls = .ref C ∧ XC K C ∧ findIn K (.ref C) f = some none ∧ d = some dd ∧ H1 dd = some (.xd fs) ∧ fs.lookup f = some v ∧ Q v H1
theorem pe_xe {X : Cx} {a : Addr} {oe : Obj} {cls : Value} {d : Option Addr} {pn : List (Addr × Obj)} {e : Expr} {te : TE} {pos : Pos} {f : Str} (hz : Zc cls d oe) (hf : ∃ vs, oe.data = .fields vs) (he : PE (X.suite a ((a, oe) :: pn)) e te)
    (hb : attributeBase e f X.env (eval e X.env) = eval e X.env := by rfl) : PE (X.suite a ((a, oe) :: pn)) (.Attribute e f pos) (tXe X.K a cls d f te) := by
  constructor
  intro pins s σ H Q I h
  refine attr_of hb (thn (he.run pins s σ H _ I h) fun u s1 hu => ?_)
  obtain ⟨x, H1, I1, rx, ex, C, dd, fs, v, ec, T, hno, ed, ea, l, q⟩ := hu
  subst ex ec ed
  obtain rfl : u = Value.ref a := rx
  have ha := (I1.pin (a, oe) (List.mem_append_left _ List.mem_cons_self)).1
  obtain ⟨vs, hd⟩ := hf
  obtain ⟨mA, hns, hr⟩ := (show ObjOk X.prog X.w H1 s1.heap dd (.xd fs) from I1.hok dd _ ea)
  obtain ⟨od, ho, hl⟩ := lookIn_ns hns
  obtain ⟨w, hw, rw_⟩ := RelO.some_of (v := v) (o := mA f) (by rw [← l]; exact hr f)
  have J : W.InstAt s1.heap a oe C (some od) := ⟨ha, hz.1, (by unfold W.notCls; rw [hd] <;> rfl), by rw [hz.2]; exact ho⟩
  exact HandSPX.exc_get I1.kIn J T.ga T.gg T.ex (findObj_own T.hd hno rfl (by rw [hl, hw])) (handed_of rw_) ⟨v, H1, I1.tok _, rw_, q⟩
end XV

namespace XV
open PySem PySem.Spec PySem.W PySem.Calls PyProof.Rows L2 Evl
/-! ### try with several clauses, each with the same name behind its as -/
abbrev Clause := Value × (Addr → Value → Option Addr → TS)
/-- behind a suite its name goes -/
def goneD (i : Nat) (D : Ends) : Ends := { nx := fun σ H => D.nx (σ.set i none) H, rt := D.rt, bk := fun σ H => D.bk (σ.set i none) H, ct := fun σ H => D.ct (σ.set i none) H }
def wSome (K : Frag) (i : Nat) (Wout : WX) (D : Ends) : List Clause → WX
  | [] => Wout
  | (c, ts) :: r => fun cls d σ H => ∃ b, exmOne K cls c = some b ∧ (b = true → ∀ a, H a = none → ts a cls d (goneD i D) (σ.set i (some (.ref a))) H) ∧ (b = false → wSome K i Wout D r cls d σ H)
inductive Clauses (X : Cx) (n : Str) : List ExceptHandler → List Clause → Prop
  | nil : Clauses X n [] []
  | cons {x : Str} {c : Value} {ts : Addr → Value → Option Addr → TS} {b₀ : Stmt} {suite : List Stmt} {np pos' : Pos} {hds : List ExceptHandler} {l : List Clause} (hc : Names X x c)
      (hsu : ∀ (a : Addr) (oe : Obj) (cls : Value) (d : Option Addr) (pn : List (Addr × Obj)), Zc cls d oe → (∃ vs, oe.data = .fields vs) → PSs (X.suite a ((a, oe) :: pn)) (b₀ :: suite) (ts a cls d)) (r : Clauses X n hds l) :
      Clauses X n (.ExceptHandler (some (.Name x np)) (some n) (b₀ :: suite) pos' :: hds) ((c, ts) :: l)
section
variable {X : Cx} {body : List Stmt} {h₀ : ExceptHandler} {hds : List ExceptHandler} {l : List Clause} {pos : Pos} {tb : WX → TS} {Wout : WX} {i : Nat} {n : Str}
/-- the state in which the clauses are asked -/
structure Asked (X : Cx) (pins : List (Addr × Obj)) (a : Addr) (cls : Value) (d : Option Addr) (σ : L2.St) (H : Hp) (sI s : Shared) (B : Heap) : Prop where
  ok : X.Ok
  J : Inv X pins σ H sI
  nb : ∀ b o, sI.heap.get? b = some o → b ∉ frs X.stack → B.get? b = some o
  up : sI.heap.UpToSlots s.heap
  fl : HandSPX.FlyingZ B (X.env :: X.outer) a (Zc cls d) s.heap
  na : H a = none
  os : s.os = sI.os
  ag : AllBare s.gens
theorem Asked.now {pins : List (Addr × Obj)} {a : Addr} {cls : Value} {d : Option Addr} {σ : L2.St} {H : Hp} {sI s : Shared} {B : Heap} (A : Asked X pins a cls d σ H sI s B) : Inv X pins σ H s := A.J.landed A.nb A.fl.1 A.up A.os A.ag
theorem Asked.apart {pins : List (Addr × Obj)} {a : Addr} {cls : Value} {d : Option Addr} {σ : L2.St} {H : Hp} {sI s : Shared} {B : Heap} (hf : X.env.frame = some X.env.locals) (A : Asked X pins a cls d σ H sI s B) : a ≠ X.env.locals ∧ a ∉ X.fs := by
  obtain ⟨oe, vs, he, _, hd⟩ := A.fl.there
  have far : a ∉ frs (X.env :: X.outer) := fun hm => by
    obtain ⟨_, o', e', no⟩ := A.fl.2.2.1.mem hm
    rw [he] at e'
    obtain rfl := Option.some.inj e'
    exact no _ hd
  constructor
  · intro z
    exact far (List.mem_filterMap.mpr ⟨X.env, List.mem_cons_self, by rw [hf, z]⟩)
  · intro hm
    obtain ⟨e, m, q⟩ := List.mem_filterMap.mp hm
    exact far (List.mem_filterMap.mpr ⟨e, List.mem_cons_of_mem _ m, q⟩)
theorem Asked.heap {pins : List (Addr × Obj)} {a : Addr} {cls : Value} {d : Option Addr} {σ : L2.St} {H : Hp} {sI s : Shared} {B h' : Heap} (A : Asked X pins a cls d σ H sI s B) (fl : HandSPX.FlyingZ B (X.env :: X.outer) a (Zc cls d) h') (up : s.heap.UpToSlots h') :
    Asked X pins a cls d σ H sI { s with heap := h' } B := ⟨A.ok, A.J, A.nb, A.up.trans up, fl, A.na, A.os, A.ag⟩
theorem clauses_run {pins : List (Addr × Obj)} {a : Addr} {cls : Value} {d : Option Addr} {σ : L2.St} {H : Hp} {sI s : Shared} {B : Heap} {D : Ends} (hs : X.stack = X.env :: X.outer) (hf : X.env.frame = some X.env.locals) (hN : X.N.Nodup) (hi : X.N[i]? = some n) (hln : X.env.kindOf n = some .local)
    (tk : Takes X Wout) (A : Asked X pins a cls d σ H sI s B) {hds : List ExceptHandler} {l : List Clause} (hh : Clauses X n hds l) : wSome X.K i Wout D l cls d σ H →
      wpAny (model X.prog X.w) X.A (handleBy (.ref a) X.env hds) (SP X pins D) X.xe s := by
  have J3 := A.now
  obtain ⟨nL, nF⟩ := A.apart hf
  obtain ⟨oe3, vs3, he3, hz3, hd3⟩ := A.fl.there
  have S3 := J3.suite he3 hd3 A.na nL nF
  induction hh with
  | nil =>
    intro w
    refine wpAny_handleBy_nil ?_
    obtain ⟨k1, k2, k3, oe, vs, T, oT, ts', he, hz, hd, h1, hr⟩ := id A.fl
    unfold PySem.passOn
    refine wpAny_bind (wpAny_field he hd h1 ?_)
    rw [if_neg (show ¬ ((Value.ref T == Value.none) = true) from by simp)]
    have out : wpAny (model X.prog X.w) X.A (setFlight (.ref a) X.env.frame) (fun _ t => wpAny (model X.prog X.w) X.A (throw (.ref a) : Sem Flow) (SP X pins D) X.xe t) X.xe s := by
      rw [hf]
      refine HandSPX.setFlight_upZ A.fl fun h4 hh4 up4 => wpAny_throw (tk _ _ ?_)
      exact ⟨a, B, sI, pins, σ, H, cls, d, rfl, A.J, A.nb, A.up.trans up4, .inr (.inr (by rw [hs]; exact hh4)), A.na, A.os, A.ag, w⟩
    first
      | exact wpAny_bind (wpAny_pure (wpAny_bind out))
      | exact wpAny_bind out
  | @cons x c ts b₀ suite np pos' hds2 l2 hc hsu r ih =>
    intro w
    obtain ⟨b, hb, yes, no⟩ := w
    refine wpAny_handleBy_cons (codeAny_handlers_test ?_) (by intro q; cases q)
    have LT : Looks (model X.prog X.w) s.heap (typeOf (.ref a)) cls := fun A Q E s k q => wpAny_typeOf_ref (k _ _ he3) (by rw [hz3.1]; exact q)
    have LM := exm_one (M := model X.prog X.w) J3.kIn LT hb
    have named : ∀ {Q : Value → Shared → Prop} {E : Value → Shared → Prop}, Q c s → wpAny (model X.prog X.w) (X.A.mark (some (.ref a))) (eval (.Name x np) X.env) Q E s := fun {Q E} q => by
      obtain ⟨hg, hdb, hm | ⟨hm, hv, hnn⟩⟩ := hc
      · exact ld_glob (X := X.suite a ((a, oe3) :: (X.pn ++ pins))) S3 hg hm q hdb
      · exact ld_blt (X := X.suite a ((a, oe3) :: (X.pn ++ pins))) S3 hg hm hv q hnn hdb
    refine named (LM.here ?_)
    cases b with
    | false =>
      show wpAny _ X.A (handleBy (.ref a) X.env hds2) _ _ _
      exact ih (no rfl)
    | true =>
      refine codeAny_handlers_suite_as ?_
      refine HandSPX.lands_againZ A.fl fun h4 fl4 up4 => ?_
      have A4 := A.heap fl4 up4
      obtain ⟨oe4, vs4, he4, hz4, hd4⟩ := fl4.there
      have S4 := A4.now.suite he4 hd4 A.na nL nF
      refine store_ok (X := X.suite a ((a, oe4) :: (X.pn ++ pins))) (v := .ref a) S4 hN hi (.inl hln) rfl (fun s5 S5 => ?_) (.inr hln)
      refine wpAny_mono ((hsu a oe4 cls d (X.pn ++ pins) hz4 ⟨_, hd4⟩).run [] s5 _ H _ S5 (yes rfl a A.na)) (fun f s6 q6 => ?_) (fun _ _ z => False.elim z)
      have ends : ∀ {σ6 : L2.St} {H6 : Hp} {Q : Shared → Prop}, Inv (X.suite a ((a, oe4) :: (X.pn ++ pins))) [] σ6 H6 s6 → (∀ t, Inv X pins (σ6.set i none) H6 t → Q t) →
          wpAny (model X.prog X.w) X.A (do bindName X.env n .none; unbindBehindTheSuite X.env n pos') (fun _ t => Q t) X.xe s6 := fun S6 q => gone_ok (S6.unsuite A.ok) hN hi hln q
      cases f with
      | ret u =>
        obtain ⟨v6, σ6, H6, S6, r6, q⟩ := q6
        exact ends S6 fun t Jt => ⟨_, _, _, Jt, r6, q⟩
      | next =>
        obtain ⟨σ6, H6, S6, q⟩ := q6
        exact ends S6 fun t Jt => ⟨_, _, Jt, q⟩
      | brk =>
        obtain ⟨σ6, H6, S6, q⟩ := q6
        exact ends S6 fun t Jt => ⟨_, _, Jt, q⟩
      | cont =>
        obtain ⟨σ6, H6, S6, q⟩ := q6
        exact ends S6 fun t Jt => ⟨_, _, Jt, q⟩
theorem ps_try_some (hs : X.stack = X.env :: X.outer) (hf : X.env.frame = some X.env.locals) (hN : X.N.Nodup) (hi : X.N[i]? = some n) (hln : X.env.kindOf n = some .local) (tk : Takes X Wout)
    (hb : ∀ (W : WX) (pn : List (Addr × Obj)) (xe : Value → Shared → Prop), Takes (X.tr pn xe) W → PassesOwn (model X.prog X.w) X.A X.env xe → PSs (X.tr pn xe) body (tb W))
    (hh : Clauses X n (h₀ :: hds) l) : PS X (.Try body (h₀ :: hds) [] [] pos) (fun D σ H => tb (wSome X.K i Wout D l) D σ H) := by
  constructor
  intro pins s σ H D I h
  have ok := I.ok
  have hfr : X.A.frames = some (X.env :: X.outer) := by rw [ok.frames, hs]
  refine wpAny_Try_except (wpAny_mono ((hb (wSome X.K i Wout D l) (X.pn ++ pins) (fun e s₁ => wpAny (model X.prog X.w) X.A (noteFrame e X.env) (fun _ s₂ => wpAny (model X.prog X.w) X.A (setFlight e none) (fun _ s₃ =>
    wpAny (model X.prog X.w) X.A (handleBy e X.env (h₀ :: hds)) (SP X pins D) X.xe s₃) X.xe s₂) X.xe s₁) (fun u s' xx => ?_) PassesOwn.looking).run [] s σ H D (I.toTry _) h) (fun f s1 q1 => ?_) (fun _ _ z => z))
  · obtain ⟨a, B, sI, pins', σ', H', cls, d, eu, J', nb, up, sky, na, os, ag, w⟩ := xx
    subst eu
    have sky2 : Sky B (X.env :: X.outer) a (Zc cls d) X.env.locals s'.heap := by rw [← hs]; exact sky
    show wpAny (model X.prog X.w) X.A (noteFrame (.ref a) X.env) _ _ _
    refine Sky.land Zc.steady hfr hf sky2 fun h3 fl3 up3 => ?_
    exact clauses_run (s := { s' with heap := h3 }) hs hf hN hi hln tk ⟨ok, J'.ofTry ok, nb, up.trans up3, fl3, na, os, ag⟩ hh w
  · cases f with
    | ret u =>
      obtain ⟨v, σ', H', J', r, q⟩ := q1
      exact ⟨v, σ', H', J'.ofTry ok, r, q⟩
    | next =>
      obtain ⟨σ', H', J', q⟩ := q1
      exact wpAny_execs_nil ⟨σ', H', J'.ofTry ok, q⟩
    | brk =>
      obtain ⟨σ', H', J', q⟩ := q1
      exact ⟨σ', H', J'.ofTry ok, q⟩
    | cont =>
      obtain ⟨σ', H', J', q⟩ := q1
      exact ⟨σ', H', J'.ofTry ok, q⟩
end
end XV

namespace XV
open PySem PySem.Spec PySem.W PySem.Calls PyProof.Rows L2 Evl
section
variable {K : Frag} {σ : L2.St} {H : Hp} {te tl : TE} {ta : TA} {D : Ends} {tu tz : TS}
/-- a comprehension whose i-th item keeps the i-th word -/
theorem lc_allI {P : Nat → Pd} {J : It} {n : Nat} {G : Hp → Prop} {Y : Nat → Hp → V → Hp → Prop} (f : ∀ i, Fs (P i)) (w : Walk J n G Y) (hz : n ≤ 40000) {g : TG} {vs : List Nat} {H1 : Hp} {B : Addr} {Qd : Hp → Prop} (hB : H1 B = none) (hG : ∀ H', Ex H1 H' → G H')
    (hs : ∀ i x H H', i < n → Ex H1 H → Y i H x H' → ∀ Q : L2.St → Hp → Prop, (∀ σ2 H2, wipe σ2 vs = wipe σ vs → Ex H H2 → EN te σ2 H2 (P i) → Q σ2 H2) → g x (wipe σ vs) H' Q)
    (hd : ∀ H' xs, Ex H1 H' → H' B = some (.lst xs) → Each H1 H' ((List.range n).map P) xs → Qd H') :
    ∃ W : Nat → Nat → Hp → Prop, (∃ m, W 0 m (upd H1 B (.lst []))) ∧ ∀ i m H, W i m H →
      (J.stop i H ∧ Qd H) ∨ (J.go i H ∧ ∃ Nx : Hp → Prop, (∀ H', Nx H' → ∃ m', m' < m ∧ W (i + 1) m' H') ∧ ∀ x H', J.yld i H x H' → g x (wipe σ vs) H' fun σ2 H2 => wipe σ2 vs = wipe σ vs ∧ tYes σ2 H2 fun b H3 =>
        if b = true then te σ2 H3 fun y H4 => ∃ acc, H4 B = some (.lst acc) ∧ acc.length < sizeLine ∧ Nx (upd H4 B (.lst (acc ++ [y]))) else Nx H3) := by
  refine lc_it w (fun i H' => Ex H1 H' ∧ ∃ acc, H' B = some (.lst acc) ∧ Each (upd H1 B (.lst [])) H' ((List.range i).map P) acc) ⟨Ex.new hB, [], upd_same, trivial⟩ (fun i H' _ h => hG H' h.1) (fun i x H' H'' hi h y => ?_) (fun H' h => ?_)
  · obtain ⟨e1, acc, e2, e3⟩ := h
    refine hs i x H' H'' hi e1 y _ fun σ2 H2 hw e4 hE => ⟨hw, ?_⟩
    show te σ2 H2 _
    have hl : acc.length = i := by rw [e3.len, List.length_map, List.length_range]
    refine hE H2 (Ex.refl H2) _ fun v H4 e5 p => ⟨acc, (e4.trans e5) _ _ e2, sz_lt (by omega), Ex.mut ((e1.trans e4).trans e5) hB, acc ++ [v], upd_same, ?_⟩
    have nB : ∀ a, upd H1 B (.lst []) a = none → a ≠ B := fun a h e => by
      rw [e, upd_same] at h
      cases h
    rw [List.range_succ, List.map_append]
    refine Each.app (e3.to fun P' m u x => ?_) ⟨?_, trivial⟩
    · obtain ⟨i', _, rfl⟩ := List.mem_map.mp m
      exact (f i').st (fun a o h0 h => by rw [upd_ne (nB a h0)]; exact (e4.trans e5) a o h) x
    · refine (f i).st (fun a o h0 h => by rw [upd_ne (nB a h0)]; exact h) ((f i).an (fun a h => ?_) p)
      by_cases q : a = B
      · rw [q, e4 _ _ e2] at h
        cases h
      · rw [upd_ne q]
        exact fresh_back (e1.trans e4) h
  · obtain ⟨e1, acc, e2, e3⟩ := h
    refine hd H' acc e1 e2 (e3.to fun P' m u x => ?_)
    obtain ⟨i', _, rfl⟩ := List.mem_map.mp m
    exact (f i').an (fun a h => fresh_back (Ex.new hB) h) x
theorem en_rngI {P : Nat → Pd} {n j : Nat} {vs : List Nat} (f : ∀ i, Fs (P i)) (hz : n ≤ 40000) (ha : EvA ta σ H [.int (n : Int)]) (hw : ∀ x, wipe ((wipe σ vs).set j (some x)) vs = wipe σ vs)
    (he : ∀ (k : Nat) H1, Ex H H1 → k < n → EN te ((wipe σ vs).set j (some (.int (k : Int)))) H1 (P k)) : EN (tLc (iRng1 ta) (gName j) tYes te vs) σ H (PL ((List.range n).map P)) := fun H1 e Q q => ha H1 e _ fun H2 e2 => by
  refine ⟨(n : Int), rfl, by omega, by omega, fun B hB => ?_⟩
  show ∃ W : Nat → Nat → Hp → Prop, _
  refine lc_allI f (walk_range (lo := 0) (n := n)) hz hB (fun _ _ => trivial) (fun k x H3 H4 hk e3 y Q q => ?_) fun H' zs e3 h3 h4 => ?_
  · obtain ⟨rfl, rfl⟩ := y
    show Q ((wipe σ vs).set j (some (.int ((0 : Int) + (k : Int))))) H4
    rw [Int.zero_add]
    exact q _ _ (hw _) (Ex.refl _) (he k _ ((e.trans e2).trans e3) hk)
  · exact q _ _ (e2.trans e3) ⟨B, zs, rfl, fresh_back e2 hB, h3, h4.to fun P' m v x => by
      obtain ⟨i', _, rfl⟩ := List.mem_map.mp m
      exact (f i').back e2 x⟩
/-- a for over a new list of which words are known -/
theorem q_forEN {Ps : List Pd} {j : Nat} (h : EN tl σ H (PL Ps))
    (k : ∀ p xs H1, Ex H H1 → H p = none → H1 p = some (.lst xs) → Each H H1 Ps xs → ∃ Pv : Nat → L2.St → Hp → Prop, Pv 0 σ H1 ∧ (∀ i σ' H', i ≤ xs.length → Pv i σ' H' → SqL K H' p xs) ∧
      (∀ i x σ' H', xs[i]? = some x → Pv i σ' H' → tu { D with nx := Pv (i + 1), ct := Pv (i + 1), bk := tz D } (σ'.set j (some x)) H') ∧ (∀ σ' H', Pv xs.length σ' H' → tz D σ' H')) :
    tSeq (tFor (iList K tl) (gName j) tu) tz D σ H := h H (Ex.refl H) _ fun v H1 e p => by
  obtain ⟨q, xs, rfl, q0, hq, hE⟩ := p
  obtain ⟨Pv, h0, hl, hs, hd⟩ := k q xs H1 e q0 hq hE
  exact ⟨q, rfl, ⟨xs, sq_of hq⟩, for_list Pv h0 hl hs hd⟩
/-- a new tuple of known values -/
def PT (us : List V) : Pd := fun H0 v H => ∃ p, v = .ref p ∧ H0 p = none ∧ H p = some (.tup us)
theorem fs_t {us : List V} : Fs (PT us) := ⟨fun k ⟨p, e1, e2, e3⟩ => ⟨p, e1, e2, k p _ e2 e3⟩, fun k ⟨p, e1, e2, e3⟩ => ⟨p, e1, k p e2, e3⟩⟩
theorem en_tupT {us : List V} (h : EvA ta σ H us) (hl : us.length ≤ 100000) : EN (tTup ta) σ H (PT us) := fun H1 e Q q => eu_tup h hl H1 e Q fun p H2 p0 e2 hp => q _ H2 e2 ⟨p, rfl, p0, hp⟩
theorem q_asgT {g : TG} {us : List V} (h : EvA ta σ H us) (hl : us.length ≤ 100000) (k : ∀ t H1, Ex H H1 → H1 t = some (.tup us) → g (.ref t) σ H1 (tz D)) : tSeq (tAsg (tTup ta) g) tz D σ H :=
  eu_tup h hl H (Ex.refl H) (fun v H1 => g v σ H1 (tz D)) fun t H1 _ e ht => k t H1 e ht
theorem q_catN {i : Nat} {Ps Qs : List Pd} {H0 : Hp} {v : V} (fP : ∀ P, P ∈ Ps → Fs P) (fQ : ∀ P, P ∈ Qs → Fs P) (e0 : Ex H0 H) (hv : Ev te σ H v) (p : PL Ps H0 v H) (h : EN tl σ H (PL Qs)) (hz : Ps.length + Qs.length ≤ 100000)
    (k : ∀ v H1, Ex H H1 → PL (Ps ++ Qs) H0 v H1 → tz D (σ.set i (some v)) H1) : tSeq (tAsg (tOp rCat te tl) (gName i)) tz D σ H :=
  en_cat fP fQ e0 hv p h hz H (Ex.refl H) (fun v H1 => tz D (σ.set i (some v)) H1) k
theorem fs_pts {ls : List (List V)} : ∀ P, P ∈ ls.map PT → Fs P := fun P m => by
  obtain ⟨_, _, rfl⟩ := List.mem_map.mp m
  exact fs_t
theorem call_EN {sp : Sp} {dvs : List V} {E : XK} {tr : TA} {P : Pd} {Q : VK} (h : EN te σ H P) (k : ∀ v H1, Ex H H1 → P H v H1 → tr σ H1 (fun vs H2 => sp ((v :: vs) ++ dvs) H2 Q E)) : tCall sp dvs E (tCons te tr) σ H Q := h H (Ex.refl H) _ k
theorem cut_to (xs : List V) (k : Nat) : cutV xs none (some (k : Int)) = xs.take k := by
  unfold cutV
  rw [HT.sIx_none, HT.sIx_nat, List.drop_zero, Nat.sub_zero]
  by_cases h : k ≤ xs.length
  · rw [Nat.min_eq_left h]
  · rw [Nat.min_eq_right (by omega), List.take_of_length_le (Nat.le_refl _), List.take_of_length_le (by omega)]
end
end XV

namespace K00
open PySem PySem.Spec PyProof.Rows L2 Evl XV C8 He
/-- the built-in names that the text calls are not shadowed -/
structure Bi (mg : Str → Option Value) : Prop where
  m_int : mg "int" = none
  m_len : mg "len" = none
  m_abs : mg "abs" = none
  m_list : mg "list" = none
  m_tuple : mg "tuple" = none
  m_range : mg "range" = none
  m_zip : mg "zip" = none
  m_all : mg "all" = none
  m_isinstance : mg "isinstance" = none
  m_bool : mg "bool" = none
  m_str : mg "str" = none
theorem sc__law_draw : FnScope ["_law_bag_here", "_law_top", "_law_cell", "_law_digit", "_law_seed"] ["_law_bag_here", "_law_top"] (defScope s__law_draw) := ⟨rfl, rfl, rfl, by decide +kernel, rfl, by decide +kernel, by decide +kernel⟩
def spDraw : Sp := fun vs H Q _ => ∃ (B : Addr) (top : Int), vs = [.ref B, .int top] ∧ Bag H B ∧ 1 ≤ top ∧ top ≤ 1000000000 ∧ ∀ r, 0 ≤ r → r < top → Q (.int r) H
theorem at_ints {ns : List Int} {i : Int} (h0 : 0 ≤ i) (h1 : i < (ns.length : Int)) : ∃ v, atI (ns.map V.int) i = some (.int v) := by
  have hj : i.toNat < ns.length := by omega
  refine ⟨ns[i.toNat], ?_⟩
  show (ixN (ns.map V.int).length i).bind _ = _
  rw [List.length_map, show ixN ns.length i = some i.toNat by unfold ixN; rw [if_pos h0, if_pos h1]]
  show (ns.map V.int)[i.toNat]? = _
  rw [List.getElem?_map, List.getElem?_eq_getElem hj]
  rfl
section
variable {P : Program} {w : World} {K : PySem.W.Frag} {mg : Str → Option Value} {base : Heap}
theorem ok__law_draw {f : Addr} {fd : FuncData} (F : FunD K "_law_draw" "_law_draw" (defArgs s__law_draw) (defBody s__law_draw) (defScope s__law_draw) [] [] f fd) (g : mg "_law_draw" = some (.ref f)) (T : Bi mg) :
    Cal P w K mg base 1 "_law_draw" spDraw [] := by
  refine ⟨f, fd, ["_law_bag_here", "_law_top"], [], F.ok sc__law_draw (fun vs H Q E h => ?_) (fun cdv A outer s H vs Q E hr h => ?_), g, F.kp, FunD.bindsN F fun _ _ _ _ _ _ us hl => match us, hl with | [_, _], _ => rfl, .nil⟩
  · obtain ⟨B, top, rfl, _⟩ := h
    rfl
  · obtain ⟨B, top, rfl, hb, h1, h2, q⟩ := h
    obtain ⟨c, ns, hB, hc, hns⟩ := hb
    refine ⟨_, PSs.nox (pss_view (B := B) (c := c) 
(pss_cons (ps_asg (pe_op op_add (pe_ix ix_list (pv 0) pe_int (fun _ _ => rfl)) pe_int) (pg_sub (pv 0) pe_int set_list))
  (pss_cons (ps_if (PW.pt (pw_and (pt_cmpR op_eq (pe_ix ix_list (pv 0) pe_int (fun _ _ => rfl)) pe_int (nomark _)) (pw_and1 (pt_cmpR op_lt (pe_ix ix_list (pv 0) pe_int (fun _ _ => rfl)) (pe_callB call_len_seq (by rfl) T.m_len (by decide +kernel) (pa_cons (pe_ix ix_list (pv 0) pe_int (fun _ _ => rfl)) pa_nil)) (nomark _)))))
  (pss_cons (ps_set (i := 2) sc__law_draw.nd rfl (.inl rfl) (pe_callTy call_int1 (by rfl) T.m_int (by decide +kernel) (pa_cons (pe_ix ix_list (pe_ix ix_list (pv 0) pe_int (fun _ _ => rfl)) (pe_ix ix_list (pv 0) pe_int (fun _ _ => rfl)) (fun _ _ => rfl)) pa_nil)))
  (pss_cons (ps_asg (pe_op op_add (pe_ix ix_list (pv 0) pe_int (fun _ _ => rfl)) pe_int) (pg_sub (pv 0) pe_int set_list))
  (pss_one (ps_if (pt_cmpR op_ge (pe_callB call_abs (by rfl) T.m_abs (by decide +kernel) (pa_cons (pv 2) pa_nil)) (pe_op op_pow pe_int pe_int) (nomark _))
  (pss_one (ps_asg (pe_callB call_abs (by rfl) T.m_abs (by decide +kernel) (pa_cons (pv 2) pa_nil)) (pg_sub (pv 0) pe_int set_list)))
  (pss_one (ps_asg (pe_op op_mod (pe_callTy call_int1 (by rfl) T.m_int (by decide +kernel) (pa_cons (pe_op op_add (pe_op op_add (pe_op op_mul (pe_ix ix_list (pv 0) pe_int (fun _ _ => rfl)) pe_int) (pe_op op_mul (pe_op op_mod (pe_callTy call_int1 (by rfl) T.m_int (by decide +kernel) (pa_cons (pv 2) pa_nil)) pe_int) pe_int)) pe_int) pa_nil)) pe_int) (pg_sub (pv 0) pe_int set_list)))))))
  pss_nil)
  (pss_cons (ps_if (pt_cmpR op_gt (pe_ix ix_list (pv 0) pe_int (fun _ _ => rfl)) pe_int (nomark _))
  (pss_cons (ps_set (i := 3) sc__law_draw.nd rfl (.inl rfl) (pe_op op_mod (pe_callTy call_int1 (by rfl) T.m_int (by decide +kernel) (pa_cons (pe_ix ix_list (pv 0) pe_int (fun _ _ => rfl)) pa_nil)) (pv 1)))
  (pss_cons (ps_asg (pe_op op_fdivN (pe_ix ix_list (pv 0) pe_int (fun _ _ => rfl)) (pv 1)) (pg_sub (pv 0) pe_int set_list))
  (pss_one (ps_ret (pv 3)))))
  pss_nil)
  (pss_cons (ps_set (i := 4) sc__law_draw.nd rfl (.inl rfl) (pe_callTy call_int1 (by rfl) T.m_int (by decide +kernel) (pa_cons (pe_ix ix_list (pv 0) pe_int (fun _ _ => rfl)) pa_nil)))
  (pss_cons (ps_asg (pe_op op_mod (pe_callTy call_int1 (by rfl) T.m_int (by decide +kernel) (pa_cons (pe_op op_add (pe_op op_add (pe_op op_add (pe_op op_pow (pv 4) pe_int) (pe_op op_mul (pv 4) pe_int)) (pe_op op_mul (pe_ix ix_list (pv 0) pe_int (fun _ _ => rfl)) pe_int)) pe_int) pa_nil)) pe_int) (pg_sub (pv 0) pe_int set_list))
  (pss_one (ps_ret (pe_op op_mod (pe_callTy call_int1 (by rfl) T.m_int (by decide +kernel) (pa_cons (pe_op op_add (pe_op op_fdivN (pe_ix ix_list (pv 0) pe_int (fun _ _ => rfl)) pe_int) (pe_op op_mul (pe_op op_mod (pe_callTy call_int1 (by rfl) T.m_int (by decide +kernel) (pa_cons (pe_ix ix_list (pv 0) pe_int (fun _ _ => rfl)) pa_nil)) pe_int) pe_int)) pa_nil)) (pv 1)))))))))
), ?_⟩
    refine ⟨hB, fun i l m k hn => ?_⟩
    have hcB : c ≠ B := fun e => by
      rw [e, hB] at hc
      cases hc
    have hget : ∀ (o : HO), (upd H B o) c = some (.lst (ns.map V.int)) := fun o => (upd_ne hcB).trans hc
    refine ⟨_, rfl, _, _, _, _, rfl, rfl, .inl (.inl upd_same), rfl, _, _, rfl, rfl, _, rfl, _, _, _, _, rfl, rfl, upd_same, rfl, ?_⟩
    rw [upd_upd]
    dsimp only
    refine seq_cut (fun σ H1 => ∃ x y z, σ = [some (.ref B), some (.int top), x, y, z] ∧ ∃ i l m k, Nums i l m ∧ H1 = upd H B (.lst (bagL c i l m k))) (fun nx hnx => ?_) (fun σ H1 hj => ?_)
    · refine ⟨_, rfl, _, _, _, _, rfl, rfl, .inl (.inl upd_same), rfl, rfl, _, rfl, ?_⟩
      refine ifb (fun e => ?_) (fun e => ?_)
      · refine ⟨_, rfl, _, _, _, _, rfl, rfl, .inl (.inl upd_same), rfl, ?_⟩
        refine ⟨_, rfl, _, _, _, _, rfl, rfl, .inl (.inl upd_same), rfl, _, _, rfl, .inl (.inl (.inl (hget _))), _, _, rfl, rfl, _, rfl, ?_⟩
        refine ifb (fun e => ?_) (fun e => ?_)
        · obtain ⟨v, hv⟩ := at_ints (ns := ns) hn.i0 (by rw [List.length_map] at e; exact of_decide_eq_true e)
          refine ⟨_, rfl, _, _, _, _, rfl, rfl, .inl (.inl upd_same), rfl, _, rfl, _, _, _, _, rfl, rfl, .inl (.inl upd_same), rfl, _, _, _, _, rfl, rfl, .inl (.inl (hget _)), hv, .inl ⟨_, rfl, ?_⟩⟩
          refine ⟨_, rfl, _, _, _, _, rfl, rfl, .inl (.inl upd_same), rfl, _, _, rfl, rfl, _, rfl, _, _, _, _, rfl, rfl, upd_same, rfl, ?_⟩
          rw [upd_upd]
          dsimp only
          refine ⟨_, rfl, _, rfl, _, _, rfl, rfl, ⟨show (0 : Int) ≤ 18 by decide, show (18 : Int) ≤ 1000000 by decide, show (10 : Int).natAbs < 2 ^ 64 by decide⟩, _, _, rfl, rfl, _, rfl, ?_⟩
          refine ifb (fun e => ?_) (fun e => ?_)
          · refine ⟨_, rfl, _, rfl, _, rfl, _, _, _, _, rfl, rfl, upd_same, rfl, ?_⟩
            rw [upd_upd]
            refine hnx _ _ ⟨_, _, _, rfl, _, _, _, _, ⟨?_, ?_, hn.m0, hn.m1⟩, rfl⟩
            · exact Int.add_nonneg hn.i0 (by decide)
            · by_cases h0 : v < 0
              · rw [if_pos h0]; omega
              · rw [if_neg h0]; omega
          · refine ⟨_, rfl, _, _, _, _, rfl, rfl, .inl (.inl upd_same), rfl, _, _, rfl, rfl, .inr (by decide), _, rfl, .inl ⟨_, rfl, _, _, rfl, rfl, show (0 : Int) < 999979 by decide, _, _, rfl, rfl, .inr (by decide), _, _, rfl, rfl, _, _, rfl, rfl, .inl ⟨_, rfl, _, _, rfl, rfl, show (0 : Int) < 2147483587 by decide, ?_⟩⟩⟩
            refine ⟨_, rfl, _, _, _, _, rfl, rfl, upd_same, rfl, ?_⟩
            rw [upd_upd]
            refine hnx _ _ ⟨_, _, _, rfl, _, _, _, _, ⟨?_, hn.l0, ?_, ?_⟩, rfl⟩
            · exact Int.add_nonneg hn.i0 (by decide)
            · exact Int.emod_nonneg _ (by decide)
            · exact Int.lt_trans (Int.emod_lt_of_pos _ (by decide)) (by decide)
        · exact hnx _ _ ⟨_, _, _, rfl, _, _, _, _, hn, rfl⟩
      · exact hnx _ _ ⟨_, _, _, rfl, _, _, _, _, hn, rfl⟩
    · obtain ⟨x, y, z, rfl, i, l, m, k, hn, rfl⟩ := hj
      try dsimp only
      refine seq_cut (fun σ H1 => ∃ x y z, σ = [some (.ref B), some (.int top), x, y, z] ∧ ∃ i l m k, Nums i l m ∧ H1 = upd H B (.lst (bagL c i l m k))) (fun nx hnx => ?_) (fun σ H1 hj => ?_)
      · refine ⟨_, rfl, _, _, _, _, rfl, rfl, .inl (.inl upd_same), rfl, _, _, rfl, rfl, _, rfl, ?_⟩
        refine ifb (fun e => ?_) (fun e => ?_)
        · refine ⟨_, rfl, _, _, _, _, rfl, rfl, .inl (.inl upd_same), rfl, .inl ⟨_, rfl, _, rfl, _, _, rfl, rfl, show 0 < top by omega, ?_⟩⟩
          refine ⟨_, rfl, _, _, _, _, rfl, rfl, .inl (.inl upd_same), rfl, _, rfl, _, _, rfl, rfl, ⟨show top ≠ 0 by omega, show top.natAbs < 1073741824 by omega⟩, _, rfl, _, _, _, _, rfl, rfl, upd_same, rfl, ?_⟩
          rw [upd_upd]
          refine ⟨_, rfl, ⟨_, _, _, _, ⟨hn.i0, ?_, hn.m0, hn.m1⟩, upd_same⟩, ?_⟩
          · show 0 ≤ l.fdiv top
            rw [Int.fdiv_eq_ediv_of_nonneg _ (by omega)]
            exact Int.ediv_nonneg hn.l0 (by omega)
          · rw [upd_back hB]
            exact q _ (Int.emod_nonneg _ (by omega)) (Int.emod_lt_of_pos _ (by omega))
        · exact hnx _ _ ⟨_, _, _, rfl, _, _, _, _, hn, rfl⟩
      · obtain ⟨x, y, z, rfl, i, l, m, k, hn, rfl⟩ := hj
        refine ⟨_, rfl, _, _, _, _, rfl, rfl, .inl (.inl upd_same), rfl, .inl ⟨_, rfl, ?_⟩⟩
        refine ⟨_, rfl, _, _, rfl, rfl, ⟨show (0 : Int) ≤ 3 by decide, show (3 : Int) ≤ 1000000 by decide, ?_⟩, _, rfl, _, _, rfl, rfl, .inr (by decide), _, _, rfl, rfl, _, rfl, _, _, _, _, rfl, rfl, .inl (.inl upd_same), rfl, _, _, rfl, rfl, .inr (by decide), _, _, rfl, rfl, _, _, rfl, rfl, .inl ⟨_, rfl, _, _, rfl, rfl, show (0 : Int) < 2147483549 by decide, ?_⟩⟩
        · have h1 := hn.m0
          have h2 : m < 2147483647 := hn.m1
          show m.natAbs < 2 ^ 64
          omega
        · refine ⟨_, rfl, _, _, _, _, rfl, rfl, upd_same, rfl, ?_⟩
          rw [upd_upd]
          dsimp only
          refine ⟨_, rfl, _, _, _, _, rfl, rfl, .inl (.inl upd_same), rfl, _, _, rfl, rfl, ⟨by decide, by decide⟩, _, rfl, _, _, _, _, rfl, rfl, .inl (.inl upd_same), rfl, .inl ⟨_, rfl, _, _, rfl, rfl, show (0 : Int) < 7919 by decide, _, _, rfl, rfl, .inr (by decide), _, _, rfl, rfl, .inl ⟨_, rfl, _, rfl, _, _, rfl, rfl, show 0 < top by omega, ?_⟩⟩⟩
          refine ⟨⟨_, _, _, _, ⟨hn.i0, hn.l0, ?_, ?_⟩, upd_same⟩, ?_⟩
          · exact Int.emod_nonneg _ (by decide)
          · exact Int.lt_trans (Int.emod_lt_of_pos _ (by decide)) (by decide)
          · rw [upd_back hB]
            exact q _ (Int.emod_nonneg _ (by omega)) (Int.emod_lt_of_pos _ (by omega))

/-! ### the bag -/
theorem sc__law_bag : FnScope ["_law_script", "_law_mixed", "_law_cell"] ["_law_script"] (defScope s__law_bag) := ⟨rfl, rfl, rfl, by decide +kernel, rfl, by decide +kernel, by decide +kernel⟩
def spBag (K : PySem.W.Frag) : Sp := fun vs H Q _ => ∃ (p : Addr) (ns : List Int), vs = [.ref p] ∧ SqL K H p (ns.map V.int) ∧ ∀ B H', Ex H H' → Bag H' B → Q (.ref B) H'
theorem cut_ints (ns : List Int) : ∃ ms : List Int, cutV (ns.map V.int) none (some 63) = ms.map V.int ∧ ms.length ≤ 63 := by
  refine ⟨ns.take (min 63 ns.length), ?_, ?_⟩
  · unfold cutV
    rw [HT.sIx_none, show (some (63 : Int)) = some (((63 : Nat) : Int)) from rfl, HT.sIx_nat, List.length_map, List.drop_zero, Nat.sub_zero, List.map_take]
  · rw [List.length_take]
    omega
theorem ok__law_bag {f : Addr} {fd : FuncData} (F : FunD K "_law_bag" "_law_bag" (defArgs s__law_bag) (defBody s__law_bag) (defScope s__law_bag) [] [] f fd) (g : mg "_law_bag" = some (.ref f)) (T : Bi mg) :
    Cal P w K mg base 1 "_law_bag" (spBag K) [] := by
  refine ⟨f, fd, ["_law_script"], [], F.ok sc__law_bag (fun vs H Q E h => ?_) (fun cdv A outer s H vs Q E hr h => ?_), g, F.kp, FunD.bindsN F fun _ _ _ _ _ _ us hl => match us, hl with | [_], _ => rfl, .nil⟩
  · obtain ⟨p, ns, rfl, _⟩ := h
    rfl
  · obtain ⟨p, ns, rfl, hp, q⟩ := h
    refine ⟨_, PSs.nox (pss_shut
(pss_cons (ps_set (i := 1) sc__law_bag.nd rfl (.inl rfl) pe_int)
  (pss_cons (ps_for PassesOwn.never rfl (pi_list (pe_slice sl_list (pv 0) po_none (po_some pe_int))) (pg_name (i := 2) sc__law_bag.nd rfl (.inl rfl))
  (pss_one (ps_set (i := 1) sc__law_bag.nd rfl (.inl rfl) (pe_op op_mod (pe_callTy call_int1 (by rfl) T.m_int (by decide +kernel) (pa_cons (pe_op op_add (pe_op op_add (pe_op op_mul (pv 1) pe_int) (pe_op op_mul (pe_op op_mod (pe_callTy call_int1 (by rfl) T.m_int (by decide +kernel) (pa_cons (pv 2) pa_nil)) pe_int) pe_int)) pe_int) pa_nil)) pe_int))))
  (pss_one (ps_ret (pe_lst (pa_cons (pe_callTy call_list_of (by rfl) T.m_list (by decide +kernel) (pa_cons (pe_slice sl_list (pv 0) po_none (po_some pe_int)) pa_nil)) (pa_cons pe_int (pa_cons pe_int (pa_cons (pv 1) (pa_cons pe_int pa_nil))))))))))
), ?_⟩
    obtain ⟨ms, hms, hl⟩ := cut_ints ns
    refine q_asg ev_c fun H1 e1 => ?_
    refine q_forNLn (xs := ms.map V.int) (by rw [← hms]; exact el_sl (ev_var rfl) eo_none (eo_some ev_c) (ex_l e1 hp))
      (fun a i σ' H' => ∃ m x, σ' = [some (.ref p), some (.int m), x] ∧ 0 ≤ m ∧ m < lim ∧ Ex H H' ∧ H' a = some (.lst (ms.map V.int)))
      (fun a H2 _ e2 h2 => ⟨5077, _, rfl, by decide, by decide, e1.trans e2, h2⟩) (fun a i σ' H' _ h => ?_) (fun a i x σ' H' hx h => ?_) (fun a σ' H' h => ?_)
    · obtain ⟨m, x, _, _, _, _, h⟩ := h
      exact sq_of h
    · obtain ⟨m, y, rfl, m0, m1, e2, h⟩ := h
      rw [List.getElem?_map] at hx
      obtain ⟨v, hv⟩ : ∃ v : Int, x = .int v := by
        cases e : ms[i]? with
        | none =>
          rw [e] at hx
          cases hx
        | some v =>
          rw [e] at hx
          exact ⟨v, (Option.some.inj hx).symm⟩
      subst hv
      refine ⟨_, rfl, _, _, rfl, rfl, .inr (by decide), _, rfl, .inl ⟨_, rfl, _, _, rfl, rfl, show (0 : Int) < 999979 by decide, _, _, rfl, rfl, .inr (by decide), _, _, rfl, rfl, _, _, rfl, rfl, .inl ⟨_, rfl, _, _, rfl, rfl, show (0 : Int) < 2147483629 by decide, ?_⟩⟩⟩
      exact ⟨_, _, rfl, Int.emod_nonneg _ (by decide), Int.lt_trans (Int.emod_lt_of_pos _ (by decide)) (by decide), e2, h⟩
    · obtain ⟨m, y, rfl, m0, m1, e2, h⟩ := h
      refine ⟨_, rfl, _, rfl, _, _, rfl, ex_l e2 hp, fun a1 h1 => ⟨_, _, rfl, .inl (sq_of upd_same), fun c hc => ⟨_, rfl, bag_small c 0 0 m 0, fun B hB => ⟨B, c, rfl, ⟨0, 0, m, 0, ⟨by decide, by decide, m0, m1⟩, upd_same⟩, ?_⟩⟩⟩⟩
      rw [upd_upd]
      refine q B _ (((e2.trans (Ex.new h1)).trans (Ex.new hc)).trans (Ex.new hB)) ⟨c, ms, upd_same, ?_, hl⟩
      rw [upd_ne (ne_of_none upd_same hB), hms]
      exact upd_same

/-! ### one of some -/
theorem sc__law_of : FnScope ["_law_bag_here", "_law_some"] ["_law_bag_here", "_law_some"] (defScope s__law_of) := ⟨rfl, rfl, rfl, by decide +kernel, rfl, by decide +kernel, by decide +kernel⟩
def spOf (K : PySem.W.Frag) : Sp := fun vs H Q _ => ∃ (B : Addr) (x : V), vs = [.ref B, x] ∧ Bag H B ∧
  ((∃ p xs, x = .ref p ∧ SqL K H p xs ∧ 1 ≤ xs.length ∧ xs.length ≤ 100000 ∧ ∀ v, v ∈ xs → Q v H) ∨ (∃ z, x = .str z ∧ 1 ≤ z.length ∧ z.length ≤ 100000 ∧ ∀ c, c ∈ z.cps.toList → Q (.str ⟨#[c]⟩) H))
theorem at_some {α : Type} {xs : List α} {i : Int} (h0 : 0 ≤ i) (h1 : i < (xs.length : Int)) : ∃ v, atI xs i = some v ∧ v ∈ xs := by
  have hj : i.toNat < xs.length := by omega
  refine ⟨xs[i.toNat], ?_, List.getElem_mem hj⟩
  show (ixN xs.length i).bind _ = _
  rw [show ixN xs.length i = some i.toNat by unfold ixN; rw [if_pos h0, if_pos h1]]
  exact List.getElem?_eq_getElem hj
theorem ok__law_of {f : Addr} {fd : FuncData} (F : FunD K "_law_of" "_law_of" (defArgs s__law_of) (defBody s__law_of) (defScope s__law_of) [] [] f fd) (g : mg "_law_of" = some (.ref f)) (T : Bi mg) (c_draw : Cal P w K mg base 1 "_law_draw" spDraw []) :
    Cal P w K mg base 2 "_law_of" (spOf K) [] := by
  refine ⟨f, fd, ["_law_bag_here", "_law_some"], [], F.ok sc__law_of (fun vs H Q E h => ?_) (fun cdv A outer s H vs Q E hr h => ?_), g, F.kp, FunD.bindsN F fun _ _ _ _ _ _ us hl => match us, hl with | [_, _], _ => rfl, .nil⟩
  · obtain ⟨B, x, rfl, _⟩ := h
    rfl
  · obtain ⟨B, x, rfl, hb, h⟩ := h
    refine ⟨_, PSs.nox (
(pss_one (ps_ret (pe_ix (ix_or ix_list ix_str) (pv 1) (pe_c (c_draw) hr (by omega) (by rfl) (pa_cons (pv 0) (pa_cons (pe_callB (cr_or call_len_seq call_len_str) (by rfl) T.m_len (by decide +kernel) (pa_cons (pv 1) pa_nil)) pa_nil))) (fun _ _ => rfl))))
), ?_⟩
    rcases h with ⟨p, xs, rfl, hx, h1, h2, q⟩ | ⟨z, rfl, h1, h2, q⟩
    · refine ⟨_, rfl, _, rfl, _, rfl, .inl ⟨_, _, rfl, .inl hx, B, _, rfl, hb, by omega, by omega, fun r r0 r1 => ?_⟩⟩
      obtain ⟨v, e, m⟩ := at_some r0 r1
      exact .inl ⟨_, _, _, _, rfl, rfl, hx, e, q v m⟩
    · refine ⟨_, rfl, _, rfl, _, rfl, .inr ⟨_, rfl, sz_of h2, B, _, rfl, hb, by omega, by omega, fun r r0 r1 => ?_⟩⟩
      obtain ⟨v, e, m⟩ := at_some (xs := z.cps.toList) r0 (by rw [Array.length_toList]; exact r1)
      exact .inr ⟨_, _, _, rfl, rfl, sz_of h2, e, q v m⟩
end
end K00

namespace K00
open PySem PySem.Spec PyProof.Rows L2 Evl XV C8 He RZ
/-- an error that is held as a value -/
structure XV0 (K : PySem.W.Frag) (C : Addr) : Prop where
  x : XC K C
  e : PySem.W.findIn K (.ref C) "__eq__" = some (some (.builtin "object.__eq__"))
  l : PySem.W.kitOne K (.ref C) (.type "list") = some false
  t : PySem.W.kitOne K (.ref C) (.type "tuple") = some false
  b : PySem.W.kitOne K (.ref C) (.type "bool") = some false
  i : PySem.W.kitOne K (.ref C) (.type "int") = some false
  s : PySem.W.kitOne K (.ref C) (.type "str") = some false
/-- two values that tell the same, to a depth -/
inductive SM (K : PySem.W.Frag) (H : Hp) : Nat → V → V → Prop where
  | non (n : Nat) : SM K H n .non .non
  | bl (n : Nat) (b : Bool) : SM K H n (.bl b) (.bl b)
  | int (n : Nat) (i : Int) : SM K H n (.int i) (.int i)
  | str (n : Nat) (z : Str) (h : z.length ≤ 100000) : SM K H n (.str z) (.str z)
  | err (n : Nat) {a C : Addr} {fs : List (Str × V)} (h : XAt H a C fs) (x : XV0 K C) : SM K H n (.ref a) (.ref a)
  | tup (n : Nat) {a b : Addr} {xs ys : List V} (h1 : H a = some (.tup xs)) (h2 : H b = some (.tup ys)) (hl : xs.length = ys.length) (hz : xs.length ≤ 40000) (hs : ∀ (i : Nat) (x y : V), xs[i]? = some x → ys[i]? = some y → SM K H n x y) : SM K H (n + 1) (.ref a) (.ref b)
  | lst (n : Nat) {a b : Addr} {xs ys : List V} (h1 : H a = some (.lst xs)) (h2 : H b = some (.lst ys)) (hl : xs.length = ys.length) (hz : xs.length ≤ 40000) (hs : ∀ (i : Nat) (x y : V), xs[i]? = some x → ys[i]? = some y → SM K H n x y) : SM K H (n + 1) (.ref a) (.ref b)
theorem SM.mono {K : PySem.W.Frag} {H H' : Hp} {n : Nat} {x y : V} (e : Ex H H') (h : SM K H n x y) : SM K H' n x y := by
  induction h with
  | non n => exact .non n
  | bl n b => exact .bl n b
  | int n i => exact .int n i
  | str n z h => exact .str n z h
  | err n h x => exact .err n (xat_mono e h) x
  | tup n h1 h2 hl hz hs ih => exact .tup n (e _ _ h1) (e _ _ h2) hl hz ih
  | lst n h1 h2 hl hz hs ih => exact .lst n (e _ _ h1) (e _ _ h2) hl hz ih
def spSame (K : PySem.W.Frag) (n : Nat) : Sp := fun vs H Q _ => ∃ (x y : V), vs = [x, y] ∧ SM K H n x y ∧ ∀ H', Ex H H' → Q (.bl true) H'
/-- the same, one level down -/
def spDown (K : PySem.W.Frag) : Nat → Sp
  | 0 => fun _ _ _ _ => False
  | m + 1 => spSame K m
theorem sc__law_same : FnScope ["_law_found", "_law_want", "_law_a", "_law_b"] ["_law_found", "_law_want"] (defScope s__law_same) := ⟨rfl, rfl, rfl, by decide +kernel, rfl, by decide +kernel, by decide +kernel⟩
section
variable {P : Program} {w : World} {K : PySem.W.Frag} {mg : Str → Option Value} {base : Heap}
theorem ok__same_none {f : Addr} {fd : FuncData} (F : FunD K "_law_same" "_law_same" (defArgs s__law_same) (defBody s__law_same) (defScope s__law_same) [] [] f fd) (g : mg "_law_same" = some (.ref f)) :
    Cal P w K mg base 1 "_law_same" (fun _ _ _ _ => False) [] :=
  ⟨f, fd, ["_law_found", "_law_want"], [], F.ok sc__law_same (fun vs H Q E h => h.elim) (fun cdv A outer s H vs Q E hr h => h.elim), g, F.kp, FunD.bindsN F fun _ _ _ _ _ _ us hl => match us, hl with | [_, _], _ => rfl, .nil⟩
theorem ok__law_same {f : Addr} {fd : FuncData} (F : FunD K "_law_same" "_law_same" (defArgs s__law_same) (defBody s__law_same) (defScope s__law_same) [] [] f fd) (g : mg "_law_same" = some (.ref f)) (T : Bi mg) (n k : Nat)
    (c_same : Cal P w K mg base k "_law_same" (spDown K n) []) :
    Cal P w K mg base (k + 1) "_law_same" (spSame K n) [] := by
  refine ⟨f, fd, ["_law_found", "_law_want"], [], F.ok sc__law_same (fun vs H Q E h => ?_) (fun cdv A outer s H vs Q E hr h => ?_), g, F.kp, FunD.bindsN F fun _ _ _ _ _ _ us hl => match us, hl with | [_, _], _ => rfl, .nil⟩
  · obtain ⟨x, y, rfl, _⟩ := h
    rfl
  · obtain ⟨x, y, rfl, hm, q⟩ := h
    refine ⟨_, PSs.nox (
(pss_cons (ps_if (pt_val (pe_callB call_is2 (by rfl) T.m_isinstance (by decide +kernel) (pa_cons (pv 1) (pa_cons (pe_tup (pa_cons (pe_bltn (v := .ty "list") (by rfl) T.m_list (by decide +kernel) rfl) (pa_cons (pe_bltn (v := .ty "tuple") (by rfl) T.m_tuple (by decide +kernel) rfl) pa_nil))) pa_nil))))
  (pss_cons (ps_if (PW.pt (pw_or (pt_cmpR op_ne (pe_callB call_is1 (by rfl) T.m_isinstance (by decide +kernel) (pa_cons (pv 0) (pa_cons (pe_bltn (v := .ty "list") (by rfl) T.m_list (by decide +kernel) rfl) pa_nil))) (pe_callB call_is1 (by rfl) T.m_isinstance (by decide +kernel) (pa_cons (pv 1) (pa_cons (pe_bltn (v := .ty "list") (by rfl) T.m_list (by decide +kernel) rfl) pa_nil))) (nomark _)) (pw_or1 (pt_cmpR op_ne (pe_callB call_is1 (by rfl) T.m_isinstance (by decide +kernel) (pa_cons (pv 0) (pa_cons (pe_bltn (v := .ty "tuple") (by rfl) T.m_tuple (by decide +kernel) rfl) pa_nil))) (pe_callB call_is1 (by rfl) T.m_isinstance (by decide +kernel) (pa_cons (pv 1) (pa_cons (pe_bltn (v := .ty "tuple") (by rfl) T.m_tuple (by decide +kernel) rfl) pa_nil))) (nomark _)))))
  (pss_one (ps_ret pe_bl))
  pss_nil)
  (pss_one (ps_ret (pe_and (pe_cmpR op_eq (pe_callB (cr_or call_len_seq call_len_str) (by rfl) T.m_len (by decide +kernel) (pa_cons (pv 0) pa_nil)) (pe_callB (cr_or call_len_seq call_len_str) (by rfl) T.m_len (by decide +kernel) (pa_cons (pv 1) pa_nil)) (nomark _)) (pe_one (pe_callB (cr_all rfl) (by rfl) T.m_all (by decide +kernel) (pa_cons (pe_lc (own := [("_law_a", 2), ("_law_b", 3)]) (g := gTup K 2 (gCons (gName 2) (gCons (gName 3) gNil))) (by rfl) sc__law_same.nd (pi_zipA (by rfl) T.m_zip (pa_cons (pv 0) (pa_cons (pv 1) pa_nil))) (blkOk_by (own := [("_law_a", 2), ("_law_b", 3)]) (N := ["_law_found", "_law_want", "_law_a", "_law_b"]) (sc := defScope s__law_same) (by decide +kernel)) (fun _ _ _ _ _ => (pg_tup (by rfl) (pgs_cons (pg_name (i := 2) sc__law_same.nd rfl (.inl rfl)) (pgs_cons (pg_name (i := 3) sc__law_same.nd rfl (.inl rfl)) pgs_nil)))) (fun _ _ _ _ _ => pts_nil) (fun _ _ _ _ _ => (pe_c (c_same) hr (by omega) (by rfl) (pa_cons (pv 2) (pa_cons (pv 3) pa_nil))))) pa_nil)))))))
  pss_nil)
  (pss_cons (ps_if (pt_val (pe_callB call_is2 (by rfl) T.m_isinstance (by decide +kernel) (pa_cons (pv 0) (pa_cons (pe_tup (pa_cons (pe_bltn (v := .ty "list") (by rfl) T.m_list (by decide +kernel) rfl) (pa_cons (pe_bltn (v := .ty "tuple") (by rfl) T.m_tuple (by decide +kernel) rfl) pa_nil))) pa_nil))))
  (pss_one (ps_ret pe_bl))
  pss_nil)
  (pss_cons (ps_if (PW.pt (pw_or (pt_cmp (pc_isN (pv 1))) (pw_or1 (pt_cmp (pc_isN (pv 0))))))
  (pss_one (ps_ret (pe_and (pe_cmp (pc_isN (pv 1))) (pe_one (pe_cmp (pc_isN (pv 0)))))))
  pss_nil)
  (pss_cons (ps_if (PW.pt (pw_or (pt_val (pe_callB call_is1 (by rfl) T.m_isinstance (by decide +kernel) (pa_cons (pv 1) (pa_cons (pe_bltn (v := .ty "bool") (by rfl) T.m_bool (by decide +kernel) rfl) pa_nil)))) (pw_or1 (pt_val (pe_callB call_is1 (by rfl) T.m_isinstance (by decide +kernel) (pa_cons (pv 0) (pa_cons (pe_bltn (v := .ty "bool") (by rfl) T.m_bool (by decide +kernel) rfl) pa_nil)))))))
  (pss_one (ps_ret (pe_and (pe_callB call_is1 (by rfl) T.m_isinstance (by decide +kernel) (pa_cons (pv 1) (pa_cons (pe_bltn (v := .ty "bool") (by rfl) T.m_bool (by decide +kernel) rfl) pa_nil))) (pe_and (pe_callB call_is1 (by rfl) T.m_isinstance (by decide +kernel) (pa_cons (pv 0) (pa_cons (pe_bltn (v := .ty "bool") (by rfl) T.m_bool (by decide +kernel) rfl) pa_nil))) (pe_one (pe_cmpR (op_or op_eq (op_eqX hr.units0)) (pv 0) (pv 1) (nomark _)))))))
  pss_nil)
  (pss_cons (ps_if (PW.pt (pw_or (pt_val (pe_callB call_is1 (by rfl) T.m_isinstance (by decide +kernel) (pa_cons (pv 1) (pa_cons (pe_bltn (v := .ty "int") (by rfl) T.m_int (by decide +kernel) rfl) pa_nil)))) (pw_or1 (pt_val (pe_callB call_is1 (by rfl) T.m_isinstance (by decide +kernel) (pa_cons (pv 0) (pa_cons (pe_bltn (v := .ty "int") (by rfl) T.m_int (by decide +kernel) rfl) pa_nil)))))))
  (pss_one (ps_ret (pe_and (pe_callB call_is1 (by rfl) T.m_isinstance (by decide +kernel) (pa_cons (pv 1) (pa_cons (pe_bltn (v := .ty "int") (by rfl) T.m_int (by decide +kernel) rfl) pa_nil))) (pe_and (pe_callB call_is1 (by rfl) T.m_isinstance (by decide +kernel) (pa_cons (pv 0) (pa_cons (pe_bltn (v := .ty "int") (by rfl) T.m_int (by decide +kernel) rfl) pa_nil))) (pe_one (pe_cmpR (op_or op_eq (op_eqX hr.units0)) (pv 0) (pv 1) (nomark _)))))))
  pss_nil)
  (pss_cons (ps_if (PW.pt (pw_or (pt_val (pe_callB call_is1 (by rfl) T.m_isinstance (by decide +kernel) (pa_cons (pv 1) (pa_cons (pe_bltn (v := .ty "str") (by rfl) T.m_str (by decide +kernel) rfl) pa_nil)))) (pw_or1 (pt_val (pe_callB call_is1 (by rfl) T.m_isinstance (by decide +kernel) (pa_cons (pv 0) (pa_cons (pe_bltn (v := .ty "str") (by rfl) T.m_str (by decide +kernel) rfl) pa_nil)))))))
  (pss_one (ps_ret (pe_and (pe_callB call_is1 (by rfl) T.m_isinstance (by decide +kernel) (pa_cons (pv 1) (pa_cons (pe_bltn (v := .ty "str") (by rfl) T.m_str (by decide +kernel) rfl) pa_nil))) (pe_and (pe_callB call_is1 (by rfl) T.m_isinstance (by decide +kernel) (pa_cons (pv 0) (pa_cons (pe_bltn (v := .ty "str") (by rfl) T.m_str (by decide +kernel) rfl) pa_nil))) (pe_one (pe_cmpR (op_or op_eq (op_eqX hr.units0)) (pv 0) (pv 1) (nomark _)))))))
  pss_nil)
  (pss_one (ps_ret (pe_cmpR (op_or op_eq (op_eqX hr.units0)) (pv 0) (pv 1) (nomark _))))))))))
), ?_⟩
    have kind : (∃ (v : V) (t : Value) (b1 b2 b3 : Bool), v = x ∧ v = y ∧ (v = .non ∨ ∀ H', Ex H H' → ∀ Q : VK, Q (.bl true) H' → rEq v v H' Q ∨ rEqX K v v H' Q) ∧ (∀ H', Ex H H' → Ty0 K H' v t) ∧ PySem.W.kitAny K t [.type "list", .type "tuple"] = some false ∧
        PySem.W.kitOne K t (.type "bool") = some b1 ∧ PySem.W.kitOne K t (.type "int") = some b2 ∧ PySem.W.kitOne K t (.type "str") = some b3) ∨
        (∃ (m : Nat) (a b : Addr) (xs ys : List V), n = m + 1 ∧ x = .ref a ∧ y = .ref b ∧ ((H a = some (.lst xs) ∧ H b = some (.lst ys)) ∨ (H a = some (.tup xs) ∧ H b = some (.tup ys))) ∧ xs.length = ys.length ∧ xs.length ≤ 40000 ∧ ∀ (i : Nat) (x y : V), xs[i]? = some x → ys[i]? = some y → SM K H m x y) := by
      cases hm with
      | non n => exact .inl ⟨.non, .type "NoneType", false, false, false, rfl, rfl, .inl rfl, fun _ _ => .non, rfl, rfl, rfl, rfl⟩
      | bl n b => exact .inl ⟨.bl b, .type "bool", true, true, false, rfl, rfl, .inr fun H' _ Q q => .inl ⟨rfl, by rw [decide_eq_true rfl]; exact q⟩, fun _ _ => .bl b, rfl, rfl, rfl, rfl⟩
      | int n i => exact .inl ⟨.int i, .type "int", false, true, false, rfl, rfl, .inr fun H' _ Q q => .inl ⟨rfl, by rw [decide_eq_true rfl]; exact q⟩, fun _ _ => .int i, rfl, rfl, rfl, rfl⟩
      | str n z h => exact .inl ⟨.str z, .type "str", false, false, true, rfl, rfl, .inr fun H' _ Q q => .inl ⟨rfl, by rw [decide_eq_true rfl]; exact q⟩, fun _ _ => .str z, rfl, rfl, rfl, rfl⟩
      | @err n a C fs h x => exact .inl ⟨.ref a, .ref C, false, false, false, rfl, rfl, .inr fun H' e Q q => .inr ⟨a, C, fs, rfl, rfl, xat_mono e h, x.x, x.e, q⟩, fun H' e => .err (xat_mono e h) x.x, by unfold PySem.W.kitAny; rw [x.l]; unfold PySem.W.kitAny; rw [x.t]; rfl, x.b, x.i, x.s⟩
      | @tup n a b xs ys h1 h2 hl hz hs => exact .inr ⟨n, a, b, xs, ys, rfl, rfl, rfl, .inr ⟨h1, h2⟩, hl, hz, hs⟩
      | @lst n a b xs ys h1 h2 hl hz hs => exact .inr ⟨n, a, b, xs, ys, rfl, rfl, rfl, .inl ⟨h1, h2⟩, hl, hz, hs⟩
    rcases kind with ⟨v, t, b1, b2, b3, rfl, rfl, he, ty, k0, k1, k2, k3⟩ | ⟨m, a, b, xs, ys, rfl, rfl, rfl, hx, hl, hz, hs⟩
    · skip
      refine q_when (et_B (ev_is2 (ev_var rfl) (ty _ (Ex.refl _)) k0)) (fun h => nomatch h) fun _ H1 e1 => ?_
      refine q_when (et_B (ev_is2 (ev_var rfl) (ty _ e1) k0)) (fun h => nomatch h) fun _ H2 e2 => ?_
      have e2 := e1.trans e2
      refine q_when (et_or (et_B (ev_isN (ev_var rfl))) fun _ => et_B (ev_isN (ev_var rfl))) (fun hn H3 e3 => ?_) (fun hn H3 e3 => ?_)
      · have hd : decide (v = V.non) = true := by
          cases h : decide (v = V.non)
          · rw [h] at hn
            cases hn
          · rfl
        refine s_ret (ev_andV (ev_isN (ev_var rfl)) fun _ => ev_isN (ev_var rfl)) fun H4 e4 => ?_
        rw [hd]
        exact q _ ((e2.trans e3).trans e4)
      · have he : ∀ H', Ex H H' → RV (fun x y H Q => rEq x y H Q ∨ rEqX K x y H Q) v v H' (.bl true) := fun H' e H5 e5 Q q => by
          rcases he with he | he
          · rw [he] at hn
            cases hn
          · exact he H5 (e.trans e5) Q (q H5 (Ex.refl H5))
        have e3 := e2.trans e3
        have step : ∀ (T : String) (b : Bool) (H' : Hp), Ex H H' → PySem.W.kitOne K t (.type T) = some b → b = true → ∀ D : Ends, D.rt = Q → tRet (tAndV (tCB (rIs1 K) (tCons (tVar 1) (tCons (tC (V.ty T)) tNil))) (tAndV (tCB (rIs1 K) (tCons (tVar 0) (tCons (tC (V.ty T)) tNil))) (tOp (fun x y H Q => rEq x y H Q ∨ rEqX K x y H Q) (tVar 0) (tVar 1)))) D (L2.start ["_law_found", "_law_want", "_law_a", "_law_b"] [v, v]) H' := by
          intro T b H' e k hb D hD
          subst hb
          refine s_ret (ev_andV (ev_is1 (ev_var rfl) (ty _ e) k) fun _ => ev_andV (ev_is1 (ev_var rfl) (ty _ e) k) fun _ => ev_op (ev_var rfl) (ev_var rfl) (he _ e)) fun H4 e4 => ?_
          rw [hD]
          exact q _ (e.trans e4)
        refine q_when (et_or (et_B (ev_is1 (ev_var rfl) (ty _ e3) k1)) fun _ => et_B (ev_is1 (ev_var rfl) (ty _ e3) k1)) (fun hb H4 e4 => step _ b1 _ (e3.trans e4) k1 (by cases b1 <;> first | rfl | exact hb) _ (by rfl)) (fun hb H4 e4 => ?_)
        have e4 := e3.trans e4
        refine q_when (et_or (et_B (ev_is1 (ev_var rfl) (ty _ e4) k2)) fun _ => et_B (ev_is1 (ev_var rfl) (ty _ e4) k2)) (fun hb H5 e5 => step _ b2 _ (e4.trans e5) k2 (by cases b2 <;> first | rfl | exact hb) _ (by rfl)) (fun hb H5 e5 => ?_)
        have e5 := e4.trans e5
        refine q_when (et_or (et_B (ev_is1 (ev_var rfl) (ty _ e5) k3)) fun _ => et_B (ev_is1 (ev_var rfl) (ty _ e5) k3)) (fun hb H6 e6 => step _ b3 _ (e5.trans e6) k3 (by cases b3 <;> first | rfl | exact hb) _ (by rfl)) (fun hb H6 e6 => ?_)
        have e6 := e5.trans e6
        exact s_ret (ev_op (ev_var rfl) (ev_var rfl) (he _ e6)) fun H7 e7 => q _ (e6.trans e7)
    · rcases hx with ⟨ha, hb⟩ | ⟨ha, hb⟩
      · refine q_when (et_B (ev_is2 (ev_var rfl) (.lst hb) rfl)) (fun _ H1 e1 => ?_) (fun h => nomatch h)
        refine q_when (et_or (et_test (ev_op (ev_is1 (ev_var rfl) (.lst (e1 _ _ ha)) rfl) (ev_is1 (ev_var rfl) (.lst (e1 _ _ hb)) rfl) (rv_ne rfl))) fun _ => et_test (ev_op (ev_is1 (ev_var rfl) (.lst (e1 _ _ ha)) rfl) (ev_is1 (ev_var rfl) (.lst (e1 _ _ hb)) rfl) (rv_ne rfl))) (fun h => absurd h (by decide)) (fun _ H2 e2 => ?_)
        have e2 := e1.trans e2
        refine s_ret (ev_andV (ev_op (ev_lenA (ev_var rfl) (.inl (sq_of (e2 _ _ ha)))) (ev_lenA (ev_var rfl) (.inl (sq_of (e2 _ _ hb)))) (rv_eq rfl)) fun _ => ev_all (en_zip (fs_v _) hl hz (ea_cons (ev_var rfl) (ea_cons (ev_var rfl) ea_nil)) (.inl ⟨sq_of (e2 _ _ ha), sq_of (e2 _ _ hb)⟩) (fun _ _ => rfl) fun k x y H3 e3 hx hy => ?_)) fun H3 e3 => ?_
        · exact en_ev (ev_call (ea_cons (ev_var rfl) (ea_cons (ev_var rfl) ea_nil)) fun H4 e4 Q q E => ⟨x, y, rfl, (hs k x y hx hy).mono ((e2.trans e3).trans e4), fun H5 e5 => q H5 e5⟩)
        · rw [hl, decide_eq_true rfl]
          exact q _ (e2.trans e3)
      · refine q_when (et_B (ev_is2 (ev_var rfl) (.tup hb) rfl)) (fun _ H1 e1 => ?_) (fun h => nomatch h)
        refine q_when (et_or (et_test (ev_op (ev_is1 (ev_var rfl) (.tup (e1 _ _ ha)) rfl) (ev_is1 (ev_var rfl) (.tup (e1 _ _ hb)) rfl) (rv_ne rfl))) fun _ => et_test (ev_op (ev_is1 (ev_var rfl) (.tup (e1 _ _ ha)) rfl) (ev_is1 (ev_var rfl) (.tup (e1 _ _ hb)) rfl) (rv_ne rfl))) (fun h => absurd h (by decide)) (fun _ H2 e2 => ?_)
        have e2 := e1.trans e2
        refine s_ret (ev_andV (ev_op (ev_lenA (ev_var rfl) (.inr (st_of (e2 _ _ ha)))) (ev_lenA (ev_var rfl) (.inr (st_of (e2 _ _ hb)))) (rv_eq rfl)) fun _ => ev_all (en_zip (fs_v _) hl hz (ea_cons (ev_var rfl) (ea_cons (ev_var rfl) ea_nil)) (.inr ⟨st_of (e2 _ _ ha), st_of (e2 _ _ hb)⟩) (fun _ _ => rfl) fun k x y H3 e3 hx hy => ?_)) fun H3 e3 => ?_
        · exact en_ev (ev_call (ea_cons (ev_var rfl) (ea_cons (ev_var rfl) ea_nil)) fun H4 e4 Q q E => ⟨x, y, rfl, (hs k x y hx hy).mono ((e2.trans e3).trans e4), fun H5 e5 => q H5 e5⟩)
        · rw [hl, decide_eq_true rfl]
          exact q _ (e2.trans e3)
/-- to any depth -/
theorem cal_same {f : Addr} {fd : FuncData} (F : FunD K "_law_same" "_law_same" (defArgs s__law_same) (defBody s__law_same) (defScope s__law_same) [] [] f fd) (g : mg "_law_same" = some (.ref f)) (T : Bi mg) :
    ∀ n : Nat, Cal P w K mg base (n + 2) "_law_same" (spSame K n) []
  | 0 => ok__law_same F g T 0 1 (ok__same_none F g)
  | n + 1 => ok__law_same F g T (n + 1) (n + 2) (cal_same F g T n)
end
end K00

namespace K00
open PySem PySem.Spec PyProof.Rows L2 Evl XV C8 He
/-- a class of the text whose __init__ is its own -/
structure CF (K : PySem.W.Frag) (mg : Str → Option Value) (x : Str) (C fI : Addr) (fs : List Str) : Prop where
  xc : XC K C
  g : mg x = some (.ref C)
  i : PySem.W.findIn K (.ref C) "__init__" = some (some (.ref fI))
  t : PySem.W.typeIn K (.ref fI) = some (.type "function")
  nf : Free K C ("code" :: fs)
theorem init_len {C : Addr} {code : Str} {fs : List Str} {vs : List V} {H : Hp} {Q : VK} {E : XK} (h : spInit C code fs vs H Q E) : vs.length = fs.length + 1 := by
  obtain ⟨a, ys, rfl, hl, _⟩ := h
  rw [List.length_cons, hl]
section
variable {P : Program} {w : World} {K : PySem.W.Frag} {mg : Str → Option Value} {base : Heap} {C fI : Addr} {fd : FuncData}
theorem sci_InvalidName : FnScope ["self", "value"] ["self", "value"] (defScope si_InvalidName) := ⟨rfl, rfl, rfl, by decide +kernel, rfl, by decide +kernel, by decide +kernel⟩
theorem mk_InvalidName (F : FunD K "__init__" "InvalidName.__init__" (defArgs si_InvalidName) (defBody si_InvalidName) (defScope si_InvalidName) [] [] fI fd) (c : CF K mg "InvalidName" C fI ["value"]) : MkX P w K mg base 1 "InvalidName" C "InvalidName" ["value"] :=
  ⟨c.xc, c.g, fI, fd, ["self", "value"], c.i, c.t, F.ok sci_InvalidName (fun _ _ _ _ h => init_len h) (fun _ _ _ _ _ _ _ _ _ h => ⟨_, PSs.nox (pss_cons (ps_fl (pv 0) pe_str) (pss_one (ps_fl (pv 0) (pv 1)))), rd1 c.xc c.nf h⟩), FunD.bindsN F fun _ _ _ _ _ _ us hl => match us, hl with | [_, _], _ => rfl,
    kb_rev F _ 1 rfl fun _ _ _ _ _ _ _ ws hl => match ws, hl with | [_], _ => rfl⟩
theorem sci_InvalidPart : FnScope ["self", "at"] ["self", "at"] (defScope si_InvalidPart) := ⟨rfl, rfl, rfl, by decide +kernel, rfl, by decide +kernel, by decide +kernel⟩
theorem mk_InvalidPart (F : FunD K "__init__" "InvalidPart.__init__" (defArgs si_InvalidPart) (defBody si_InvalidPart) (defScope si_InvalidPart) [] [] fI fd) (c : CF K mg "InvalidPart" C fI ["at"]) : MkX P w K mg base 1 "InvalidPart" C "InvalidPart" ["at"] :=
  ⟨c.xc, c.g, fI, fd, ["self", "at"], c.i, c.t, F.ok sci_InvalidPart (fun _ _ _ _ h => init_len h) (fun _ _ _ _ _ _ _ _ _ h => ⟨_, PSs.nox (pss_cons (ps_fl (pv 0) pe_str) (pss_one (ps_fl (pv 0) (pv 1)))), rd1 c.xc c.nf h⟩), FunD.bindsN F fun _ _ _ _ _ _ us hl => match us, hl with | [_, _], _ => rfl,
    kb_rev F _ 1 rfl fun _ _ _ _ _ _ _ ws hl => match ws, hl with | [_], _ => rfl⟩
theorem sci_InvalidSide : FnScope ["self", "word"] ["self", "word"] (defScope si_InvalidSide) := ⟨rfl, rfl, rfl, by decide +kernel, rfl, by decide +kernel, by decide +kernel⟩
theorem mk_InvalidSide (F : FunD K "__init__" "InvalidSide.__init__" (defArgs si_InvalidSide) (defBody si_InvalidSide) (defScope si_InvalidSide) [] [] fI fd) (c : CF K mg "InvalidSide" C fI ["word"]) : MkX P w K mg base 1 "InvalidSide" C "InvalidSide" ["word"] :=
  ⟨c.xc, c.g, fI, fd, ["self", "word"], c.i, c.t, F.ok sci_InvalidSide (fun _ _ _ _ h => init_len h) (fun _ _ _ _ _ _ _ _ _ h => ⟨_, PSs.nox (pss_cons (ps_fl (pv 0) pe_str) (pss_one (ps_fl (pv 0) (pv 1)))), rd1 c.xc c.nf h⟩), FunD.bindsN F fun _ _ _ _ _ _ us hl => match us, hl with | [_, _], _ => rfl,
    kb_rev F _ 1 rfl fun _ _ _ _ _ _ _ ws hl => match ws, hl with | [_], _ => rfl⟩
theorem sci_InvalidDue : FnScope ["self", "value"] ["self", "value"] (defScope si_InvalidDue) := ⟨rfl, rfl, rfl, by decide +kernel, rfl, by decide +kernel, by decide +kernel⟩
theorem mk_InvalidDue (F : FunD K "__init__" "InvalidDue.__init__" (defArgs si_InvalidDue) (defBody si_InvalidDue) (defScope si_InvalidDue) [] [] fI fd) (c : CF K mg "InvalidDue" C fI ["value"]) : MkX P w K mg base 1 "InvalidDue" C "InvalidDue" ["value"] :=
  ⟨c.xc, c.g, fI, fd, ["self", "value"], c.i, c.t, F.ok sci_InvalidDue (fun _ _ _ _ h => init_len h) (fun _ _ _ _ _ _ _ _ _ h => ⟨_, PSs.nox (pss_cons (ps_fl (pv 0) pe_str) (pss_one (ps_fl (pv 0) (pv 1)))), rd1 c.xc c.nf h⟩), FunD.bindsN F fun _ _ _ _ _ _ us hl => match us, hl with | [_, _], _ => rfl,
    kb_rev F _ 1 rfl fun _ _ _ _ _ _ _ ws hl => match ws, hl with | [_], _ => rfl⟩
theorem sci_InvalidRule : FnScope ["self", "at"] ["self", "at"] (defScope si_InvalidRule) := ⟨rfl, rfl, rfl, by decide +kernel, rfl, by decide +kernel, by decide +kernel⟩
theorem mk_InvalidRule (F : FunD K "__init__" "InvalidRule.__init__" (defArgs si_InvalidRule) (defBody si_InvalidRule) (defScope si_InvalidRule) [] [] fI fd) (c : CF K mg "InvalidRule" C fI ["at"]) : MkX P w K mg base 1 "InvalidRule" C "InvalidRule" ["at"] :=
  ⟨c.xc, c.g, fI, fd, ["self", "at"], c.i, c.t, F.ok sci_InvalidRule (fun _ _ _ _ h => init_len h) (fun _ _ _ _ _ _ _ _ _ h => ⟨_, PSs.nox (pss_cons (ps_fl (pv 0) pe_str) (pss_one (ps_fl (pv 0) (pv 1)))), rd1 c.xc c.nf h⟩), FunD.bindsN F fun _ _ _ _ _ _ us hl => match us, hl with | [_, _], _ => rfl,
    kb_rev F _ 1 rfl fun _ _ _ _ _ _ _ ws hl => match ws, hl with | [_], _ => rfl⟩
theorem sci_InvalidRow : FnScope ["self", "at"] ["self", "at"] (defScope si_InvalidRow) := ⟨rfl, rfl, rfl, by decide +kernel, rfl, by decide +kernel, by decide +kernel⟩
theorem mk_InvalidRow (F : FunD K "__init__" "InvalidRow.__init__" (defArgs si_InvalidRow) (defBody si_InvalidRow) (defScope si_InvalidRow) [] [] fI fd) (c : CF K mg "InvalidRow" C fI ["at"]) : MkX P w K mg base 1 "InvalidRow" C "InvalidRow" ["at"] :=
  ⟨c.xc, c.g, fI, fd, ["self", "at"], c.i, c.t, F.ok sci_InvalidRow (fun _ _ _ _ h => init_len h) (fun _ _ _ _ _ _ _ _ _ h => ⟨_, PSs.nox (pss_cons (ps_fl (pv 0) pe_str) (pss_one (ps_fl (pv 0) (pv 1)))), rd1 c.xc c.nf h⟩), FunD.bindsN F fun _ _ _ _ _ _ us hl => match us, hl with | [_, _], _ => rfl,
    kb_rev F _ 1 rfl fun _ _ _ _ _ _ _ ws hl => match ws, hl with | [_], _ => rfl⟩
theorem sci_InvalidText : FnScope ["self", "line", "at"] ["self", "line", "at"] (defScope si_InvalidText) := ⟨rfl, rfl, rfl, by decide +kernel, rfl, by decide +kernel, by decide +kernel⟩
theorem mk_InvalidText (F : FunD K "__init__" "InvalidText.__init__" (defArgs si_InvalidText) (defBody si_InvalidText) (defScope si_InvalidText) [] [] fI fd) (c : CF K mg "InvalidText" C fI ["line", "at"]) : MkX P w K mg base 1 "InvalidText" C "InvalidText" ["line", "at"] :=
  ⟨c.xc, c.g, fI, fd, ["self", "line", "at"], c.i, c.t, F.ok sci_InvalidText (fun _ _ _ _ h => init_len h) (fun _ _ _ _ _ _ _ _ _ h => ⟨_, PSs.nox (pss_cons (ps_fl (pv 0) pe_str) (pss_cons (ps_fl (pv 0) (pv 1)) (pss_one (ps_fl (pv 0) (pv 2))))), rd2 c.xc c.nf h⟩), FunD.bindsN F fun _ _ _ _ _ _ us hl => match us, hl with | [_, _, _], _ => rfl,
    kb_rev F _ 2 rfl fun _ _ _ _ _ _ _ ws hl => match ws, hl with | [_, _], _ => rfl⟩
theorem sci_InvalidTerm : FnScope ["self"] ["self"] (defScope si_InvalidTerm) := ⟨rfl, rfl, rfl, by decide +kernel, rfl, by decide +kernel, by decide +kernel⟩
theorem mk_InvalidTerm (F : FunD K "__init__" "InvalidTerm.__init__" (defArgs si_InvalidTerm) (defBody si_InvalidTerm) (defScope si_InvalidTerm) [] [] fI fd) (c : CF K mg "InvalidTerm" C fI []) : MkX P w K mg base 1 "InvalidTerm" C "InvalidTerm" [] :=
  ⟨c.xc, c.g, fI, fd, ["self"], c.i, c.t, F.ok sci_InvalidTerm (fun _ _ _ _ h => init_len h) (fun _ _ _ _ _ _ _ _ _ h => ⟨_, PSs.nox (pss_one (ps_fl (pv 0) pe_str)), rd0 c.xc c.nf h⟩), FunD.bindsN F fun _ _ _ _ _ _ us hl => match us, hl with | [_], _ => rfl,
    kb_rev F _ 0 rfl fun _ _ _ _ _ _ _ ws hl => match ws, hl with | [], _ => rfl⟩
theorem sci_InvalidLot : FnScope ["self", "at"] ["self", "at"] (defScope si_InvalidLot) := ⟨rfl, rfl, rfl, by decide +kernel, rfl, by decide +kernel, by decide +kernel⟩
theorem mk_InvalidLot (F : FunD K "__init__" "InvalidLot.__init__" (defArgs si_InvalidLot) (defBody si_InvalidLot) (defScope si_InvalidLot) [] [] fI fd) (c : CF K mg "InvalidLot" C fI ["at"]) : MkX P w K mg base 1 "InvalidLot" C "InvalidLot" ["at"] :=
  ⟨c.xc, c.g, fI, fd, ["self", "at"], c.i, c.t, F.ok sci_InvalidLot (fun _ _ _ _ h => init_len h) (fun _ _ _ _ _ _ _ _ _ h => ⟨_, PSs.nox (pss_cons (ps_fl (pv 0) pe_str) (pss_one (ps_fl (pv 0) (pv 1)))), rd1 c.xc c.nf h⟩), FunD.bindsN F fun _ _ _ _ _ _ us hl => match us, hl with | [_, _], _ => rfl,
    kb_rev F _ 1 rfl fun _ _ _ _ _ _ _ ws hl => match ws, hl with | [_], _ => rfl⟩
theorem sci_NoStep : FnScope ["self", "at", "place"] ["self", "at", "place"] (defScope si_NoStep) := ⟨rfl, rfl, rfl, by decide +kernel, rfl, by decide +kernel, by decide +kernel⟩
theorem mk_NoStep (F : FunD K "__init__" "NoStep.__init__" (defArgs si_NoStep) (defBody si_NoStep) (defScope si_NoStep) [] [] fI fd) (c : CF K mg "NoStep" C fI ["at", "place"]) : MkX P w K mg base 1 "NoStep" C "NoStep" ["at", "place"] :=
  ⟨c.xc, c.g, fI, fd, ["self", "at", "place"], c.i, c.t, F.ok sci_NoStep (fun _ _ _ _ h => init_len h) (fun _ _ _ _ _ _ _ _ _ h => ⟨_, PSs.nox (pss_cons (ps_fl (pv 0) pe_str) (pss_cons (ps_fl (pv 0) (pv 1)) (pss_one (ps_fl (pv 0) (pv 2))))), rd2 c.xc c.nf h⟩), FunD.bindsN F fun _ _ _ _ _ _ us hl => match us, hl with | [_, _, _], _ => rfl,
    kb_rev F _ 2 rfl fun _ _ _ _ _ _ _ ws hl => match ws, hl with | [_, _], _ => rfl⟩
theorem sci_InvalidNumber : FnScope ["self", "value"] ["self", "value"] (defScope si_InvalidNumber) := ⟨rfl, rfl, rfl, by decide +kernel, rfl, by decide +kernel, by decide +kernel⟩
theorem mk_InvalidNumber (F : FunD K "__init__" "InvalidNumber.__init__" (defArgs si_InvalidNumber) (defBody si_InvalidNumber) (defScope si_InvalidNumber) [] [] fI fd) (c : CF K mg "InvalidNumber" C fI ["value"]) : MkX P w K mg base 1 "InvalidNumber" C "InvalidNumber" ["value"] :=
  ⟨c.xc, c.g, fI, fd, ["self", "value"], c.i, c.t, F.ok sci_InvalidNumber (fun _ _ _ _ h => init_len h) (fun _ _ _ _ _ _ _ _ _ h => ⟨_, PSs.nox (pss_cons (ps_fl (pv 0) pe_str) (pss_one (ps_fl (pv 0) (pv 1)))), rd1 c.xc c.nf h⟩), FunD.bindsN F fun _ _ _ _ _ _ us hl => match us, hl with | [_, _], _ => rfl,
    kb_rev F _ 1 rfl fun _ _ _ _ _ _ _ ws hl => match ws, hl with | [_], _ => rfl⟩
theorem sci_TooMany : FnScope ["self", "most"] ["self", "most"] (defScope si_TooMany) := ⟨rfl, rfl, rfl, by decide +kernel, rfl, by decide +kernel, by decide +kernel⟩
theorem mk_TooMany (F : FunD K "__init__" "TooMany.__init__" (defArgs si_TooMany) (defBody si_TooMany) (defScope si_TooMany) [] [] fI fd) (c : CF K mg "TooMany" C fI ["most"]) : MkX P w K mg base 1 "TooMany" C "TooMany" ["most"] :=
  ⟨c.xc, c.g, fI, fd, ["self", "most"], c.i, c.t, F.ok sci_TooMany (fun _ _ _ _ h => init_len h) (fun _ _ _ _ _ _ _ _ _ h => ⟨_, PSs.nox (pss_cons (ps_fl (pv 0) pe_str) (pss_one (ps_fl (pv 0) (pv 1)))), rd1 c.xc c.nf h⟩), FunD.bindsN F fun _ _ _ _ _ _ us hl => match us, hl with | [_, _], _ => rfl,
    kb_rev F _ 1 rfl fun _ _ _ _ _ _ _ ws hl => match ws, hl with | [_], _ => rfl⟩
theorem sci_TooGreat : FnScope ["self"] ["self"] (defScope si_TooGreat) := ⟨rfl, rfl, rfl, by decide +kernel, rfl, by decide +kernel, by decide +kernel⟩
theorem mk_TooGreat (F : FunD K "__init__" "TooGreat.__init__" (defArgs si_TooGreat) (defBody si_TooGreat) (defScope si_TooGreat) [] [] fI fd) (c : CF K mg "TooGreat" C fI []) : MkX P w K mg base 1 "TooGreat" C "TooGreat" [] :=
  ⟨c.xc, c.g, fI, fd, ["self"], c.i, c.t, F.ok sci_TooGreat (fun _ _ _ _ h => init_len h) (fun _ _ _ _ _ _ _ _ _ h => ⟨_, PSs.nox (pss_one (ps_fl (pv 0) pe_str)), rd0 c.xc c.nf h⟩), FunD.bindsN F fun _ _ _ _ _ _ us hl => match us, hl with | [_], _ => rfl,
    kb_rev F _ 0 rfl fun _ _ _ _ _ _ _ ws hl => match ws, hl with | [], _ => rfl⟩
theorem sci_TwiceHole : FnScope ["self", "hole"] ["self", "hole"] (defScope si_TwiceHole) := ⟨rfl, rfl, rfl, by decide +kernel, rfl, by decide +kernel, by decide +kernel⟩
theorem mk_TwiceHole (F : FunD K "__init__" "TwiceHole.__init__" (defArgs si_TwiceHole) (defBody si_TwiceHole) (defScope si_TwiceHole) [] [] fI fd) (c : CF K mg "TwiceHole" C fI ["hole"]) : MkX P w K mg base 1 "TwiceHole" C "TwiceHole" ["hole"] :=
  ⟨c.xc, c.g, fI, fd, ["self", "hole"], c.i, c.t, F.ok sci_TwiceHole (fun _ _ _ _ h => init_len h) (fun _ _ _ _ _ _ _ _ _ h => ⟨_, PSs.nox (pss_cons (ps_fl (pv 0) pe_str) (pss_one (ps_fl (pv 0) (pv 1)))), rd1 c.xc c.nf h⟩), FunD.bindsN F fun _ _ _ _ _ _ us hl => match us, hl with | [_, _], _ => rfl,
    kb_rev F _ 1 rfl fun _ _ _ _ _ _ _ ws hl => match ws, hl with | [_], _ => rfl⟩
theorem sci_LooseHole : FnScope ["self", "hole"] ["self", "hole"] (defScope si_LooseHole) := ⟨rfl, rfl, rfl, by decide +kernel, rfl, by decide +kernel, by decide +kernel⟩
theorem mk_LooseHole (F : FunD K "__init__" "LooseHole.__init__" (defArgs si_LooseHole) (defBody si_LooseHole) (defScope si_LooseHole) [] [] fI fd) (c : CF K mg "LooseHole" C fI ["hole"]) : MkX P w K mg base 1 "LooseHole" C "LooseHole" ["hole"] :=
  ⟨c.xc, c.g, fI, fd, ["self", "hole"], c.i, c.t, F.ok sci_LooseHole (fun _ _ _ _ h => init_len h) (fun _ _ _ _ _ _ _ _ _ h => ⟨_, PSs.nox (pss_cons (ps_fl (pv 0) pe_str) (pss_one (ps_fl (pv 0) (pv 1)))), rd1 c.xc c.nf h⟩), FunD.bindsN F fun _ _ _ _ _ _ us hl => match us, hl with | [_, _], _ => rfl,
    kb_rev F _ 1 rfl fun _ _ _ _ _ _ _ ws hl => match ws, hl with | [_], _ => rfl⟩
theorem sci_Overlaps : FnScope ["self", "one", "other", "place", "piece"] ["self", "one", "other", "place", "piece"] (defScope si_Overlaps) := ⟨rfl, rfl, rfl, by decide +kernel, rfl, by decide +kernel, by decide +kernel⟩
theorem mk_Overlaps (F : FunD K "__init__" "Overlaps.__init__" (defArgs si_Overlaps) (defBody si_Overlaps) (defScope si_Overlaps) [] [] fI fd) (c : CF K mg "Overlaps" C fI ["one", "other", "place", "piece"]) : MkX P w K mg base 1 "Overlaps" C "Overlaps" ["one", "other", "place", "piece"] :=
  ⟨c.xc, c.g, fI, fd, ["self", "one", "other", "place", "piece"], c.i, c.t, F.ok sci_Overlaps (fun _ _ _ _ h => init_len h) (fun _ _ _ _ _ _ _ _ _ h => ⟨_, PSs.nox (pss_cons (ps_fl (pv 0) pe_str) (pss_cons (ps_fl (pv 0) (pv 1)) (pss_cons (ps_fl (pv 0) (pv 2)) (pss_cons (ps_fl (pv 0) (pv 3)) (pss_one (ps_fl (pv 0) (pv 4))))))), rd4 c.xc c.nf h⟩), FunD.bindsN F fun _ _ _ _ _ _ us hl => match us, hl with | [_, _, _, _, _], _ => rfl,
    kb_rev F _ 4 rfl fun _ _ _ _ _ _ _ ws hl => match ws, hl with | [_, _, _, _], _ => rfl⟩
theorem sci_NotTurned : FnScope ["self", "at"] ["self", "at"] (defScope si_NotTurned) := ⟨rfl, rfl, rfl, by decide +kernel, rfl, by decide +kernel, by decide +kernel⟩
theorem mk_NotTurned (F : FunD K "__init__" "NotTurned.__init__" (defArgs si_NotTurned) (defBody si_NotTurned) (defScope si_NotTurned) [] [] fI fd) (c : CF K mg "NotTurned" C fI ["at"]) : MkX P w K mg base 1 "NotTurned" C "NotTurned" ["at"] :=
  ⟨c.xc, c.g, fI, fd, ["self", "at"], c.i, c.t, F.ok sci_NotTurned (fun _ _ _ _ h => init_len h) (fun _ _ _ _ _ _ _ _ _ h => ⟨_, PSs.nox (pss_cons (ps_fl (pv 0) pe_str) (pss_one (ps_fl (pv 0) (pv 1)))), rd1 c.xc c.nf h⟩), FunD.bindsN F fun _ _ _ _ _ _ us hl => match us, hl with | [_, _], _ => rfl,
    kb_rev F _ 1 rfl fun _ _ _ _ _ _ _ ws hl => match ws, hl with | [_], _ => rfl⟩
theorem sci_OtherStart : FnScope ["self"] ["self"] (defScope si_OtherStart) := ⟨rfl, rfl, rfl, by decide +kernel, rfl, by decide +kernel, by decide +kernel⟩
theorem mk_OtherStart (F : FunD K "__init__" "OtherStart.__init__" (defArgs si_OtherStart) (defBody si_OtherStart) (defScope si_OtherStart) [] [] fI fd) (c : CF K mg "OtherStart" C fI []) : MkX P w K mg base 1 "OtherStart" C "OtherStart" [] :=
  ⟨c.xc, c.g, fI, fd, ["self"], c.i, c.t, F.ok sci_OtherStart (fun _ _ _ _ h => init_len h) (fun _ _ _ _ _ _ _ _ _ h => ⟨_, PSs.nox (pss_one (ps_fl (pv 0) pe_str)), rd0 c.xc c.nf h⟩), FunD.bindsN F fun _ _ _ _ _ _ us hl => match us, hl with | [_], _ => rfl,
    kb_rev F _ 0 rfl fun _ _ _ _ _ _ _ ws hl => match ws, hl with | [], _ => rfl⟩
theorem sci_OtherBook : FnScope ["self"] ["self"] (defScope si_OtherBook) := ⟨rfl, rfl, rfl, by decide +kernel, rfl, by decide +kernel, by decide +kernel⟩
theorem mk_OtherBook (F : FunD K "__init__" "OtherBook.__init__" (defArgs si_OtherBook) (defBody si_OtherBook) (defScope si_OtherBook) [] [] fI fd) (c : CF K mg "OtherBook" C fI []) : MkX P w K mg base 1 "OtherBook" C "OtherBook" [] :=
  ⟨c.xc, c.g, fI, fd, ["self"], c.i, c.t, F.ok sci_OtherBook (fun _ _ _ _ h => init_len h) (fun _ _ _ _ _ _ _ _ _ h => ⟨_, PSs.nox (pss_one (ps_fl (pv 0) pe_str)), rd0 c.xc c.nf h⟩), FunD.bindsN F fun _ _ _ _ _ _ us hl => match us, hl with | [_], _ => rfl,
    kb_rev F _ 0 rfl fun _ _ _ _ _ _ _ ws hl => match ws, hl with | [], _ => rfl⟩
theorem sci_Alike : FnScope ["self"] ["self"] (defScope si_Alike) := ⟨rfl, rfl, rfl, by decide +kernel, rfl, by decide +kernel, by decide +kernel⟩
theorem mk_Alike (F : FunD K "__init__" "Alike.__init__" (defArgs si_Alike) (defBody si_Alike) (defScope si_Alike) [] [] fI fd) (c : CF K mg "Alike" C fI []) : MkX P w K mg base 1 "Alike" C "Alike" [] :=
  ⟨c.xc, c.g, fI, fd, ["self"], c.i, c.t, F.ok sci_Alike (fun _ _ _ _ h => init_len h) (fun _ _ _ _ _ _ _ _ _ h => ⟨_, PSs.nox (pss_one (ps_fl (pv 0) pe_str)), rd0 c.xc c.nf h⟩), FunD.bindsN F fun _ _ _ _ _ _ us hl => match us, hl with | [_], _ => rfl,
    kb_rev F _ 0 rfl fun _ _ _ _ _ _ _ ws hl => match ws, hl with | [], _ => rfl⟩
theorem sci_Strikes : FnScope ["self", "rule"] ["self", "rule"] (defScope si_Strikes) := ⟨rfl, rfl, rfl, by decide +kernel, rfl, by decide +kernel, by decide +kernel⟩
theorem mk_Strikes (F : FunD K "__init__" "Strikes.__init__" (defArgs si_Strikes) (defBody si_Strikes) (defScope si_Strikes) [] [] fI fd) (c : CF K mg "Strikes" C fI ["rule"]) : MkX P w K mg base 1 "Strikes" C "Strikes" ["rule"] :=
  ⟨c.xc, c.g, fI, fd, ["self", "rule"], c.i, c.t, F.ok sci_Strikes (fun _ _ _ _ h => init_len h) (fun _ _ _ _ _ _ _ _ _ h => ⟨_, PSs.nox (pss_cons (ps_fl (pv 0) pe_str) (pss_one (ps_fl (pv 0) (pv 1)))), rd1 c.xc c.nf h⟩), FunD.bindsN F fun _ _ _ _ _ _ us hl => match us, hl with | [_, _], _ => rfl,
    kb_rev F _ 1 rfl fun _ _ _ _ _ _ _ ws hl => match ws, hl with | [_], _ => rfl⟩
theorem sci_Copies : FnScope ["self", "rule"] ["self", "rule"] (defScope si_Copies) := ⟨rfl, rfl, rfl, by decide +kernel, rfl, by decide +kernel, by decide +kernel⟩
theorem mk_Copies (F : FunD K "__init__" "Copies.__init__" (defArgs si_Copies) (defBody si_Copies) (defScope si_Copies) [] [] fI fd) (c : CF K mg "Copies" C fI ["rule"]) : MkX P w K mg base 1 "Copies" C "Copies" ["rule"] :=
  ⟨c.xc, c.g, fI, fd, ["self", "rule"], c.i, c.t, F.ok sci_Copies (fun _ _ _ _ h => init_len h) (fun _ _ _ _ _ _ _ _ _ h => ⟨_, PSs.nox (pss_cons (ps_fl (pv 0) pe_str) (pss_one (ps_fl (pv 0) (pv 1)))), rd1 c.xc c.nf h⟩), FunD.bindsN F fun _ _ _ _ _ _ us hl => match us, hl with | [_, _], _ => rfl,
    kb_rev F _ 1 rfl fun _ _ _ _ _ _ _ ws hl => match ws, hl with | [_], _ => rfl⟩
theorem sci_NotPiece : FnScope ["self"] ["self"] (defScope si_NotPiece) := ⟨rfl, rfl, rfl, by decide +kernel, rfl, by decide +kernel, by decide +kernel⟩
theorem mk_NotPiece (F : FunD K "__init__" "NotPiece.__init__" (defArgs si_NotPiece) (defBody si_NotPiece) (defScope si_NotPiece) [] [] fI fd) (c : CF K mg "NotPiece" C fI []) : MkX P w K mg base 1 "NotPiece" C "NotPiece" [] :=
  ⟨c.xc, c.g, fI, fd, ["self"], c.i, c.t, F.ok sci_NotPiece (fun _ _ _ _ h => init_len h) (fun _ _ _ _ _ _ _ _ _ h => ⟨_, PSs.nox (pss_one (ps_fl (pv 0) pe_str)), rd0 c.xc c.nf h⟩), FunD.bindsN F fun _ _ _ _ _ _ us hl => match us, hl with | [_], _ => rfl,
    kb_rev F _ 0 rfl fun _ _ _ _ _ _ _ ws hl => match ws, hl with | [], _ => rfl⟩
theorem sci_Clash : FnScope ["self", "place"] ["self", "place"] (defScope si_Clash) := ⟨rfl, rfl, rfl, by decide +kernel, rfl, by decide +kernel, by decide +kernel⟩
theorem mk_Clash (F : FunD K "__init__" "Clash.__init__" (defArgs si_Clash) (defBody si_Clash) (defScope si_Clash) [] [] fI fd) (c : CF K mg "Clash" C fI ["place"]) : MkX P w K mg base 1 "Clash" C "Clash" ["place"] :=
  ⟨c.xc, c.g, fI, fd, ["self", "place"], c.i, c.t, F.ok sci_Clash (fun _ _ _ _ h => init_len h) (fun _ _ _ _ _ _ _ _ _ h => ⟨_, PSs.nox (pss_cons (ps_fl (pv 0) pe_str) (pss_one (ps_fl (pv 0) (pv 1)))), rd1 c.xc c.nf h⟩), FunD.bindsN F fun _ _ _ _ _ _ us hl => match us, hl with | [_, _], _ => rfl,
    kb_rev F _ 1 rfl fun _ _ _ _ _ _ _ ws hl => match ws, hl with | [_], _ => rfl⟩
theorem sci_NoRest : FnScope ["self", "word"] ["self", "word"] (defScope si_NoRest) := ⟨rfl, rfl, rfl, by decide +kernel, rfl, by decide +kernel, by decide +kernel⟩
theorem mk_NoRest (F : FunD K "__init__" "NoRest.__init__" (defArgs si_NoRest) (defBody si_NoRest) (defScope si_NoRest) [] [] fI fd) (c : CF K mg "NoRest" C fI ["word"]) : MkX P w K mg base 1 "NoRest" C "NoRest" ["word"] :=
  ⟨c.xc, c.g, fI, fd, ["self", "word"], c.i, c.t, F.ok sci_NoRest (fun _ _ _ _ h => init_len h) (fun _ _ _ _ _ _ _ _ _ h => ⟨_, PSs.nox (pss_cons (ps_fl (pv 0) pe_str) (pss_one (ps_fl (pv 0) (pv 1)))), rd1 c.xc c.nf h⟩), FunD.bindsN F fun _ _ _ _ _ _ us hl => match us, hl with | [_, _], _ => rfl,
    kb_rev F _ 1 rfl fun _ _ _ _ _ _ _ ws hl => match ws, hl with | [_], _ => rfl⟩
theorem sci_Needed : FnScope ["self", "place"] ["self", "place"] (defScope si_Needed) := ⟨rfl, rfl, rfl, by decide +kernel, rfl, by decide +kernel, by decide +kernel⟩
theorem mk_Needed (F : FunD K "__init__" "Needed.__init__" (defArgs si_Needed) (defBody si_Needed) (defScope si_Needed) [] [] fI fd) (c : CF K mg "Needed" C fI ["place"]) : MkX P w K mg base 1 "Needed" C "Needed" ["place"] :=
  ⟨c.xc, c.g, fI, fd, ["self", "place"], c.i, c.t, F.ok sci_Needed (fun _ _ _ _ h => init_len h) (fun _ _ _ _ _ _ _ _ _ h => ⟨_, PSs.nox (pss_cons (ps_fl (pv 0) pe_str) (pss_one (ps_fl (pv 0) (pv 1)))), rd1 c.xc c.nf h⟩), FunD.bindsN F fun _ _ _ _ _ _ us hl => match us, hl with | [_, _], _ => rfl,
    kb_rev F _ 1 rfl fun _ _ _ _ _ _ _ ws hl => match ws, hl with | [_], _ => rfl⟩
theorem sci_InvalidKnot : FnScope ["self", "at"] ["self", "at"] (defScope si_InvalidKnot) := ⟨rfl, rfl, rfl, by decide +kernel, rfl, by decide +kernel, by decide +kernel⟩
theorem mk_InvalidKnot (F : FunD K "__init__" "InvalidKnot.__init__" (defArgs si_InvalidKnot) (defBody si_InvalidKnot) (defScope si_InvalidKnot) [] [] fI fd) (c : CF K mg "InvalidKnot" C fI ["at"]) : MkX P w K mg base 1 "InvalidKnot" C "InvalidKnot" ["at"] :=
  ⟨c.xc, c.g, fI, fd, ["self", "at"], c.i, c.t, F.ok sci_InvalidKnot (fun _ _ _ _ h => init_len h) (fun _ _ _ _ _ _ _ _ _ h => ⟨_, PSs.nox (pss_cons (ps_fl (pv 0) pe_str) (pss_one (ps_fl (pv 0) (pv 1)))), rd1 c.xc c.nf h⟩), FunD.bindsN F fun _ _ _ _ _ _ us hl => match us, hl with | [_, _], _ => rfl,
    kb_rev F _ 1 rfl fun _ _ _ _ _ _ _ ws hl => match ws, hl with | [_], _ => rfl⟩
theorem sci_InvalidMaker : FnScope ["self", "at"] ["self", "at"] (defScope si_InvalidMaker) := ⟨rfl, rfl, rfl, by decide +kernel, rfl, by decide +kernel, by decide +kernel⟩
theorem mk_InvalidMaker (F : FunD K "__init__" "InvalidMaker.__init__" (defArgs si_InvalidMaker) (defBody si_InvalidMaker) (defScope si_InvalidMaker) [] [] fI fd) (c : CF K mg "InvalidMaker" C fI ["at"]) : MkX P w K mg base 1 "InvalidMaker" C "InvalidMaker" ["at"] :=
  ⟨c.xc, c.g, fI, fd, ["self", "at"], c.i, c.t, F.ok sci_InvalidMaker (fun _ _ _ _ h => init_len h) (fun _ _ _ _ _ _ _ _ _ h => ⟨_, PSs.nox (pss_cons (ps_fl (pv 0) pe_str) (pss_one (ps_fl (pv 0) (pv 1)))), rd1 c.xc c.nf h⟩), FunD.bindsN F fun _ _ _ _ _ _ us hl => match us, hl with | [_, _], _ => rfl,
    kb_rev F _ 1 rfl fun _ _ _ _ _ _ _ ws hl => match ws, hl with | [_], _ => rfl⟩
theorem sci_NotSplit : FnScope ["self", "rule", "place"] ["self", "rule", "place"] (defScope si_NotSplit) := ⟨rfl, rfl, rfl, by decide +kernel, rfl, by decide +kernel, by decide +kernel⟩
theorem mk_NotSplit (F : FunD K "__init__" "NotSplit.__init__" (defArgs si_NotSplit) (defBody si_NotSplit) (defScope si_NotSplit) [] [] fI fd) (c : CF K mg "NotSplit" C fI ["rule", "place"]) : MkX P w K mg base 1 "NotSplit" C "NotSplit" ["rule", "place"] :=
  ⟨c.xc, c.g, fI, fd, ["self", "rule", "place"], c.i, c.t, F.ok sci_NotSplit (fun _ _ _ _ h => init_len h) (fun _ _ _ _ _ _ _ _ _ h => ⟨_, PSs.nox (pss_cons (ps_fl (pv 0) pe_str) (pss_cons (ps_fl (pv 0) (pv 1)) (pss_one (ps_fl (pv 0) (pv 2))))), rd2 c.xc c.nf h⟩), FunD.bindsN F fun _ _ _ _ _ _ us hl => match us, hl with | [_, _, _], _ => rfl,
    kb_rev F _ 2 rfl fun _ _ _ _ _ _ _ ws hl => match ws, hl with | [_, _], _ => rfl⟩
theorem sci_NoTree : FnScope ["self", "doer", "sides", "piece"] ["self", "doer", "sides", "piece"] (defScope si_NoTree) := ⟨rfl, rfl, rfl, by decide +kernel, rfl, by decide +kernel, by decide +kernel⟩
theorem mk_NoTree (F : FunD K "__init__" "NoTree.__init__" (defArgs si_NoTree) (defBody si_NoTree) (defScope si_NoTree) [] [] fI fd) (c : CF K mg "NoTree" C fI ["doer", "sides", "piece"]) : MkX P w K mg base 1 "NoTree" C "NoTree" ["doer", "sides", "piece"] :=
  ⟨c.xc, c.g, fI, fd, ["self", "doer", "sides", "piece"], c.i, c.t, F.ok sci_NoTree (fun _ _ _ _ h => init_len h) (fun _ _ _ _ _ _ _ _ _ h => ⟨_, PSs.nox (pss_cons (ps_fl (pv 0) pe_str) (pss_cons (ps_fl (pv 0) (pv 1)) (pss_cons (ps_fl (pv 0) (pv 2)) (pss_one (ps_fl (pv 0) (pv 3)))))), rd3 c.xc c.nf h⟩), FunD.bindsN F fun _ _ _ _ _ _ us hl => match us, hl with | [_, _, _, _], _ => rfl,
    kb_rev F _ 3 rfl fun _ _ _ _ _ _ _ ws hl => match ws, hl with | [_, _, _], _ => rfl⟩
theorem sci_NotWithin : FnScope ["self"] ["self"] (defScope si_NotWithin) := ⟨rfl, rfl, rfl, by decide +kernel, rfl, by decide +kernel, by decide +kernel⟩
theorem mk_NotWithin (F : FunD K "__init__" "NotWithin.__init__" (defArgs si_NotWithin) (defBody si_NotWithin) (defScope si_NotWithin) [] [] fI fd) (c : CF K mg "NotWithin" C fI []) : MkX P w K mg base 1 "NotWithin" C "NotWithin" [] :=
  ⟨c.xc, c.g, fI, fd, ["self"], c.i, c.t, F.ok sci_NotWithin (fun _ _ _ _ h => init_len h) (fun _ _ _ _ _ _ _ _ _ h => ⟨_, PSs.nox (pss_one (ps_fl (pv 0) pe_str)), rd0 c.xc c.nf h⟩), FunD.bindsN F fun _ _ _ _ _ _ us hl => match us, hl with | [_], _ => rfl,
    kb_rev F _ 0 rfl fun _ _ _ _ _ _ _ ws hl => match ws, hl with | [], _ => rfl⟩
theorem sci_NotClosed : FnScope ["self", "event", "cause"] ["self", "event", "cause"] (defScope si_NotClosed) := ⟨rfl, rfl, rfl, by decide +kernel, rfl, by decide +kernel, by decide +kernel⟩
theorem mk_NotClosed (F : FunD K "__init__" "NotClosed.__init__" (defArgs si_NotClosed) (defBody si_NotClosed) (defScope si_NotClosed) [] [] fI fd) (c : CF K mg "NotClosed" C fI ["event", "cause"]) : MkX P w K mg base 1 "NotClosed" C "NotClosed" ["event", "cause"] :=
  ⟨c.xc, c.g, fI, fd, ["self", "event", "cause"], c.i, c.t, F.ok sci_NotClosed (fun _ _ _ _ h => init_len h) (fun _ _ _ _ _ _ _ _ _ h => ⟨_, PSs.nox (pss_cons (ps_fl (pv 0) pe_str) (pss_cons (ps_fl (pv 0) (pv 1)) (pss_one (ps_fl (pv 0) (pv 2))))), rd2 c.xc c.nf h⟩), FunD.bindsN F fun _ _ _ _ _ _ us hl => match us, hl with | [_, _, _], _ => rfl,
    kb_rev F _ 2 rfl fun _ _ _ _ _ _ _ ws hl => match ws, hl with | [_, _], _ => rfl⟩
theorem sci_NotRow : FnScope ["self", "at"] ["self", "at"] (defScope si_NotRow) := ⟨rfl, rfl, rfl, by decide +kernel, rfl, by decide +kernel, by decide +kernel⟩
theorem mk_NotRow (F : FunD K "__init__" "NotRow.__init__" (defArgs si_NotRow) (defBody si_NotRow) (defScope si_NotRow) [] [] fI fd) (c : CF K mg "NotRow" C fI ["at"]) : MkX P w K mg base 1 "NotRow" C "NotRow" ["at"] :=
  ⟨c.xc, c.g, fI, fd, ["self", "at"], c.i, c.t, F.ok sci_NotRow (fun _ _ _ _ h => init_len h) (fun _ _ _ _ _ _ _ _ _ h => ⟨_, PSs.nox (pss_cons (ps_fl (pv 0) pe_str) (pss_one (ps_fl (pv 0) (pv 1)))), rd1 c.xc c.nf h⟩), FunD.bindsN F fun _ _ _ _ _ _ us hl => match us, hl with | [_, _], _ => rfl,
    kb_rev F _ 1 rfl fun _ _ _ _ _ _ _ ws hl => match ws, hl with | [_], _ => rfl⟩
theorem sci_NotKey : FnScope ["self"] ["self"] (defScope si_NotKey) := ⟨rfl, rfl, rfl, by decide +kernel, rfl, by decide +kernel, by decide +kernel⟩
theorem mk_NotKey (F : FunD K "__init__" "NotKey.__init__" (defArgs si_NotKey) (defBody si_NotKey) (defScope si_NotKey) [] [] fI fd) (c : CF K mg "NotKey" C fI []) : MkX P w K mg base 1 "NotKey" C "NotKey" [] :=
  ⟨c.xc, c.g, fI, fd, ["self"], c.i, c.t, F.ok sci_NotKey (fun _ _ _ _ h => init_len h) (fun _ _ _ _ _ _ _ _ _ h => ⟨_, PSs.nox (pss_one (ps_fl (pv 0) pe_str)), rd0 c.xc c.nf h⟩), FunD.bindsN F fun _ _ _ _ _ _ us hl => match us, hl with | [_], _ => rfl,
    kb_rev F _ 0 rfl fun _ _ _ _ _ _ _ ws hl => match ws, hl with | [], _ => rfl⟩
theorem sci_DuplicateName : FnScope ["self", "name"] ["self", "name"] (defScope si_DuplicateName) := ⟨rfl, rfl, rfl, by decide +kernel, rfl, by decide +kernel, by decide +kernel⟩
theorem mk_DuplicateName (F : FunD K "__init__" "DuplicateName.__init__" (defArgs si_DuplicateName) (defBody si_DuplicateName) (defScope si_DuplicateName) [] [] fI fd) (c : CF K mg "DuplicateName" C fI ["name"]) : MkX P w K mg base 1 "DuplicateName" C "DuplicateName" ["name"] :=
  ⟨c.xc, c.g, fI, fd, ["self", "name"], c.i, c.t, F.ok sci_DuplicateName (fun _ _ _ _ h => init_len h) (fun _ _ _ _ _ _ _ _ _ h => ⟨_, PSs.nox (pss_cons (ps_fl (pv 0) pe_str) (pss_one (ps_fl (pv 0) (pv 1)))), rd1 c.xc c.nf h⟩), FunD.bindsN F fun _ _ _ _ _ _ us hl => match us, hl with | [_, _], _ => rfl,
    kb_rev F _ 1 rfl fun _ _ _ _ _ _ _ ws hl => match ws, hl with | [_], _ => rfl⟩
theorem sci_LastHand : FnScope ["self"] ["self"] (defScope si_LastHand) := ⟨rfl, rfl, rfl, by decide +kernel, rfl, by decide +kernel, by decide +kernel⟩
theorem mk_LastHand (F : FunD K "__init__" "LastHand.__init__" (defArgs si_LastHand) (defBody si_LastHand) (defScope si_LastHand) [] [] fI fd) (c : CF K mg "LastHand" C fI []) : MkX P w K mg base 1 "LastHand" C "LastHand" [] :=
  ⟨c.xc, c.g, fI, fd, ["self"], c.i, c.t, F.ok sci_LastHand (fun _ _ _ _ h => init_len h) (fun _ _ _ _ _ _ _ _ _ h => ⟨_, PSs.nox (pss_one (ps_fl (pv 0) pe_str)), rd0 c.xc c.nf h⟩), FunD.bindsN F fun _ _ _ _ _ _ us hl => match us, hl with | [_], _ => rfl,
    kb_rev F _ 0 rfl fun _ _ _ _ _ _ _ ws hl => match ws, hl with | [], _ => rfl⟩
theorem sci_InvalidDeed : FnScope ["self", "at"] ["self", "at"] (defScope si_InvalidDeed) := ⟨rfl, rfl, rfl, by decide +kernel, rfl, by decide +kernel, by decide +kernel⟩
theorem mk_InvalidDeed (F : FunD K "__init__" "InvalidDeed.__init__" (defArgs si_InvalidDeed) (defBody si_InvalidDeed) (defScope si_InvalidDeed) [] [] fI fd) (c : CF K mg "InvalidDeed" C fI ["at"]) : MkX P w K mg base 1 "InvalidDeed" C "InvalidDeed" ["at"] :=
  ⟨c.xc, c.g, fI, fd, ["self", "at"], c.i, c.t, F.ok sci_InvalidDeed (fun _ _ _ _ h => init_len h) (fun _ _ _ _ _ _ _ _ _ h => ⟨_, PSs.nox (pss_cons (ps_fl (pv 0) pe_str) (pss_one (ps_fl (pv 0) (pv 1)))), rd1 c.xc c.nf h⟩), FunD.bindsN F fun _ _ _ _ _ _ us hl => match us, hl with | [_, _], _ => rfl,
    kb_rev F _ 1 rfl fun _ _ _ _ _ _ _ ws hl => match ws, hl with | [_], _ => rfl⟩
theorem sci_UnknownName : FnScope ["self", "name"] ["self", "name"] (defScope si_UnknownName) := ⟨rfl, rfl, rfl, by decide +kernel, rfl, by decide +kernel, by decide +kernel⟩
theorem mk_UnknownName (F : FunD K "__init__" "UnknownName.__init__" (defArgs si_UnknownName) (defBody si_UnknownName) (defScope si_UnknownName) [] [] fI fd) (c : CF K mg "UnknownName" C fI ["name"]) : MkX P w K mg base 1 "UnknownName" C "UnknownName" ["name"] :=
  ⟨c.xc, c.g, fI, fd, ["self", "name"], c.i, c.t, F.ok sci_UnknownName (fun _ _ _ _ h => init_len h) (fun _ _ _ _ _ _ _ _ _ h => ⟨_, PSs.nox (pss_cons (ps_fl (pv 0) pe_str) (pss_one (ps_fl (pv 0) (pv 1)))), rd1 c.xc c.nf h⟩), FunD.bindsN F fun _ _ _ _ _ _ us hl => match us, hl with | [_, _], _ => rfl,
    kb_rev F _ 1 rfl fun _ _ _ _ _ _ _ ws hl => match ws, hl with | [_], _ => rfl⟩
theorem sci_UnknownDoer : FnScope ["self", "doer"] ["self", "doer"] (defScope si_UnknownDoer) := ⟨rfl, rfl, rfl, by decide +kernel, rfl, by decide +kernel, by decide +kernel⟩
theorem mk_UnknownDoer (F : FunD K "__init__" "UnknownDoer.__init__" (defArgs si_UnknownDoer) (defBody si_UnknownDoer) (defScope si_UnknownDoer) [] [] fI fd) (c : CF K mg "UnknownDoer" C fI ["doer"]) : MkX P w K mg base 1 "UnknownDoer" C "UnknownDoer" ["doer"] :=
  ⟨c.xc, c.g, fI, fd, ["self", "doer"], c.i, c.t, F.ok sci_UnknownDoer (fun _ _ _ _ h => init_len h) (fun _ _ _ _ _ _ _ _ _ h => ⟨_, PSs.nox (pss_cons (ps_fl (pv 0) pe_str) (pss_one (ps_fl (pv 0) (pv 1)))), rd1 c.xc c.nf h⟩), FunD.bindsN F fun _ _ _ _ _ _ us hl => match us, hl with | [_, _], _ => rfl,
    kb_rev F _ 1 rfl fun _ _ _ _ _ _ _ ws hl => match ws, hl with | [_], _ => rfl⟩
theorem sci_UnknownEvent : FnScope ["self", "event"] ["self", "event"] (defScope si_UnknownEvent) := ⟨rfl, rfl, rfl, by decide +kernel, rfl, by decide +kernel, by decide +kernel⟩
theorem mk_UnknownEvent (F : FunD K "__init__" "UnknownEvent.__init__" (defArgs si_UnknownEvent) (defBody si_UnknownEvent) (defScope si_UnknownEvent) [] [] fI fd) (c : CF K mg "UnknownEvent" C fI ["event"]) : MkX P w K mg base 1 "UnknownEvent" C "UnknownEvent" ["event"] :=
  ⟨c.xc, c.g, fI, fd, ["self", "event"], c.i, c.t, F.ok sci_UnknownEvent (fun _ _ _ _ h => init_len h) (fun _ _ _ _ _ _ _ _ _ h => ⟨_, PSs.nox (pss_cons (ps_fl (pv 0) pe_str) (pss_one (ps_fl (pv 0) (pv 1)))), rd1 c.xc c.nf h⟩), FunD.bindsN F fun _ _ _ _ _ _ us hl => match us, hl with | [_, _], _ => rfl,
    kb_rev F _ 1 rfl fun _ _ _ _ _ _ _ ws hl => match ws, hl with | [_], _ => rfl⟩
theorem sci_UnknownLetter : FnScope ["self", "number"] ["self", "number"] (defScope si_UnknownLetter) := ⟨rfl, rfl, rfl, by decide +kernel, rfl, by decide +kernel, by decide +kernel⟩
theorem mk_UnknownLetter (F : FunD K "__init__" "UnknownLetter.__init__" (defArgs si_UnknownLetter) (defBody si_UnknownLetter) (defScope si_UnknownLetter) [] [] fI fd) (c : CF K mg "UnknownLetter" C fI ["number"]) : MkX P w K mg base 1 "UnknownLetter" C "UnknownLetter" ["number"] :=
  ⟨c.xc, c.g, fI, fd, ["self", "number"], c.i, c.t, F.ok sci_UnknownLetter (fun _ _ _ _ h => init_len h) (fun _ _ _ _ _ _ _ _ _ h => ⟨_, PSs.nox (pss_cons (ps_fl (pv 0) pe_str) (pss_one (ps_fl (pv 0) (pv 1)))), rd1 c.xc c.nf h⟩), FunD.bindsN F fun _ _ _ _ _ _ us hl => match us, hl with | [_, _], _ => rfl,
    kb_rev F _ 1 rfl fun _ _ _ _ _ _ _ ws hl => match ws, hl with | [_], _ => rfl⟩
theorem sci_NoPlace : FnScope ["self", "place"] ["self", "place"] (defScope si_NoPlace) := ⟨rfl, rfl, rfl, by decide +kernel, rfl, by decide +kernel, by decide +kernel⟩
theorem mk_NoPlace (F : FunD K "__init__" "NoPlace.__init__" (defArgs si_NoPlace) (defBody si_NoPlace) (defScope si_NoPlace) [] [] fI fd) (c : CF K mg "NoPlace" C fI ["place"]) : MkX P w K mg base 1 "NoPlace" C "NoPlace" ["place"] :=
  ⟨c.xc, c.g, fI, fd, ["self", "place"], c.i, c.t, F.ok sci_NoPlace (fun _ _ _ _ h => init_len h) (fun _ _ _ _ _ _ _ _ _ h => ⟨_, PSs.nox (pss_cons (ps_fl (pv 0) pe_str) (pss_one (ps_fl (pv 0) (pv 1)))), rd1 c.xc c.nf h⟩), FunD.bindsN F fun _ _ _ _ _ _ us hl => match us, hl with | [_, _], _ => rfl,
    kb_rev F _ 1 rfl fun _ _ _ _ _ _ _ ws hl => match ws, hl with | [_], _ => rfl⟩
theorem sci_NoOrder : FnScope ["self", "number"] ["self", "number"] (defScope si_NoOrder) := ⟨rfl, rfl, rfl, by decide +kernel, rfl, by decide +kernel, by decide +kernel⟩
theorem mk_NoOrder (F : FunD K "__init__" "NoOrder.__init__" (defArgs si_NoOrder) (defBody si_NoOrder) (defScope si_NoOrder) [] [] fI fd) (c : CF K mg "NoOrder" C fI ["number"]) : MkX P w K mg base 1 "NoOrder" C "NoOrder" ["number"] :=
  ⟨c.xc, c.g, fI, fd, ["self", "number"], c.i, c.t, F.ok sci_NoOrder (fun _ _ _ _ h => init_len h) (fun _ _ _ _ _ _ _ _ _ h => ⟨_, PSs.nox (pss_cons (ps_fl (pv 0) pe_str) (pss_one (ps_fl (pv 0) (pv 1)))), rd1 c.xc c.nf h⟩), FunD.bindsN F fun _ _ _ _ _ _ us hl => match us, hl with | [_, _], _ => rfl,
    kb_rev F _ 1 rfl fun _ _ _ _ _ _ _ ws hl => match ws, hl with | [_], _ => rfl⟩
theorem sci_NoHistory : FnScope ["self"] ["self"] (defScope si_NoHistory) := ⟨rfl, rfl, rfl, by decide +kernel, rfl, by decide +kernel, by decide +kernel⟩
theorem mk_NoHistory (F : FunD K "__init__" "NoHistory.__init__" (defArgs si_NoHistory) (defBody si_NoHistory) (defScope si_NoHistory) [] [] fI fd) (c : CF K mg "NoHistory" C fI []) : MkX P w K mg base 1 "NoHistory" C "NoHistory" [] :=
  ⟨c.xc, c.g, fI, fd, ["self"], c.i, c.t, F.ok sci_NoHistory (fun _ _ _ _ h => init_len h) (fun _ _ _ _ _ _ _ _ _ h => ⟨_, PSs.nox (pss_one (ps_fl (pv 0) pe_str)), rd0 c.xc c.nf h⟩), FunD.bindsN F fun _ _ _ _ _ _ us hl => match us, hl with | [_], _ => rfl,
    kb_rev F _ 0 rfl fun _ _ _ _ _ _ _ ws hl => match ws, hl with | [], _ => rfl⟩
end
end K00

namespace K00
open PySem PySem.Spec PyProof.Rows L2 Evl XV C8 He RZ
/-! ### any value that is drawn: new since H0, of a depth -/
inductive GV (K : PySem.W.Frag) (H0 H : Hp) : Nat → V → Prop where
  | non (n : Nat) : GV K H0 H n .non
  | bl (n : Nat) (b : Bool) : GV K H0 H n (.bl b)
  | int (n : Nat) (i : Int) : GV K H0 H n (.int i)
  | str (n : Nat) (z : Str) (h : z.length ≤ 100000) : GV K H0 H n (.str z)
  | err (n : Nat) {a dx C : Addr} {fs : List (Str × V)} (h0 : H0 a = none) (h1 : H0 dx = none) (h : H a = some (exo a C (some dx))) (hd : H dx = some (exd dx fs)) (x : XV0 K C) : GV K H0 H n (.ref a)
  | tup (n : Nat) {a : Addr} {xs : List V} (h0 : H0 a = none) (h : H a = some (.tup xs)) (hz : xs.length ≤ 40000) (hs : ∀ v, v ∈ xs → GV K H0 H n v) : GV K H0 H (n + 1) (.ref a)
  | lst (n : Nat) {a : Addr} {xs : List V} (h0 : H0 a = none) (h : H a = some (.lst xs)) (hz : xs.length ≤ 40000) (hs : ∀ v, v ∈ xs → GV K H0 H n v) : GV K H0 H (n + 1) (.ref a)
def PG (K : PySem.W.Frag) (n : Nat) : Pd := fun H0 v H => GV K H0 H n v
theorem fs_g {K : PySem.W.Frag} {n : Nat} : Fs (PG K n) := by
  refine ⟨fun {H0 H H' v} k h => ?_, fun {H0 H0' H v} k h => ?_⟩
  · show GV K H0 H' n v
    have h' : GV K H0 H n v := h
    clear h
    induction h' with
    | non n => exact .non n
    | bl n b => exact .bl n b
    | int n i => exact .int n i
    | str n z h => exact .str n z h
    | err n h0 h1 h hd x => exact .err n h0 h1 (k _ _ h0 h) (k _ _ h1 hd) x
    | tup n h0 h hz hs ih => exact .tup n h0 (k _ _ h0 h) hz fun v m => ih v m
    | lst n h0 h hz hs ih => exact .lst n h0 (k _ _ h0 h) hz fun v m => ih v m
  · show GV K H0 H n v
    have h' : GV K H0' H n v := h
    clear h
    induction h' with
    | non n => exact .non n
    | bl n b => exact .bl n b
    | int n i => exact .int n i
    | str n z h => exact .str n z h
    | err n h0 h1 h hd x => exact .err n (k _ h0) (k _ h1) h hd x
    | tup n h0 h hz hs ih => exact .tup n (k _ h0) h hz fun v m => ih v m
    | lst n h0 h hz hs ih => exact .lst n (k _ h0) h hz fun v m => ih v m
theorem GV.up {K : PySem.W.Frag} {H0 H : Hp} {n m : Nat} {v : V} (h : GV K H0 H n v) : n ≤ m → GV K H0 H m v := by
  induction h generalizing m with
  | non n => exact fun _ => .non m
  | bl n b => exact fun _ => .bl m b
  | int n i => exact fun _ => .int m i
  | str n z h => exact fun _ => .str m z h
  | err n h0 h1 h hd x => exact fun _ => .err m h0 h1 h hd x
  | tup n h0 h hz hs ih => exact fun l => match m, l with | m + 1, l => .tup m h0 h hz fun v q => ih v q (Nat.le_of_succ_le_succ l)
  | lst n h0 h hz hs ih => exact fun l => match m, l with | m + 1, l => .lst m h0 h hz fun v q => ih v q (Nat.le_of_succ_le_succ l)
theorem GV.same {K : PySem.W.Frag} {H0 H : Hp} {n : Nat} {v : V} (h : GV K H0 H n v) : SM K H n v v := by
  induction h with
  | non n => exact .non n
  | bl n b => exact .bl n b
  | int n i => exact .int n i
  | str n z h => exact .str n z h
  | err n h0 h1 h hd x => exact .err n ⟨_, h, hd⟩ x
  | tup n h0 h hz hs ih => exact .tup n h h rfl hz fun i x y hx hy => (Option.some.inj (hx.symm.trans hy)) ▸ ih x (List.mem_of_getElem? hx)
  | lst n h0 h hz hs ih => exact .lst n h h rfl hz fun i x y hx hy => (Option.some.inj (hx.symm.trans hy)) ▸ ih x (List.mem_of_getElem? hx)
section
variable {K : PySem.W.Frag} {σ : L2.St} {H : Hp} {te tu : TE} {ta : TA} {n m : Nat} {P : Pd} {D : Ends} {tb tz : TS} {tt : TT}
theorem s_retN (h : EN te σ H P) (k : ∀ v H1, Ex H H1 → P H v H1 → D.rt v H1) : tRet te D σ H := h H (Ex.refl H) _ k
/-- a test that may go either way -/
def EB (tt : TT) (σ : L2.St) (H : Hp) : Prop := ∀ H1, Ex H H1 → ∀ Q : Bool → Hp → Prop, (∀ b H2, Ex H1 H2 → Q b H2) → tt σ H1 Q
theorem q_any (h : EB tt σ H) (h1 : ∀ H1, Ex H H1 → tb { D with nx := tz D } σ H1) (h2 : ∀ H1, Ex H H1 → tz D σ H1) : tSeq (tIfS tt tb tNext) tz D σ H := h H (Ex.refl H) _ fun b H1 e => by
  cases b with
  | true => exact h1 H1 e
  | false => exact h2 H1 e
theorem eb_gt {g : Int → Int → Bool} {i : Int} (h : EN te σ H (fun _ v _ => ∃ r : Int, v = .int r)) (h2 : Ev tu σ H (.int i)) : EB (tTest (tOp (rI0 fun i j => .bl (g i j)) te tu)) σ H := fun H1 e Q q =>
  h H1 e _ fun v H2 e2 p => by
    obtain ⟨r, rfl⟩ := p
    exact h2 H2 (e.trans e2) _ fun H3 e3 => ⟨r, i, rfl, rfl, g r i, rfl, q _ H3 (e2.trans e3)⟩
/-- a draw -/
theorem en_draw {E : XK} {B : Addr} {top : Int} (hb : Bag H B) (h : Ev te σ H (.ref B)) (h2 : Ev tu σ H (.int top)) (t1 : 1 ≤ top) (t2 : top ≤ 1000000000) : EN (tCall spDraw [] E (tCons te (tCons tu tNil))) σ H (fun _ v _ => ∃ r : Int, v = .int r ∧ 0 ≤ r ∧ r < top) := fun H1 e Q q =>
  h H1 e _ fun H2 e2 => h2 H2 (e.trans e2) _ fun H3 e3 => ⟨B, top, rfl, hb.mono ((e.trans e2).trans e3), t1, t2, fun r r0 r1 => q _ H3 (e2.trans e3) ⟨r, rfl, r0, r1⟩⟩
/-- one of a new list -/
theorem en_of {E : XK} {B : Addr} (f : Fs P) (hb : Bag H B) (h : Ev te σ H (.ref B)) (h2 : EN tu σ H (PL (List.replicate n P))) (n1 : 1 ≤ n) (n2 : n ≤ 100000) : EN (tCall (spOf K) [] E (tCons te (tCons tu tNil))) σ H P := fun H1 e Q q =>
  h H1 e _ fun H2 e2 => h2 H2 (e.trans e2) _ fun v H3 e3 p => by
    obtain ⟨l, xs, rfl, h0, hl, hE⟩ := p
    have hn : xs.length = n := by rw [hE.len, List.length_replicate]
    exact ⟨B, _, rfl, hb.mono ((e.trans e2).trans e3), .inl ⟨l, xs, rfl, sq_of hl, by omega, by omega, fun v m => q v H3 (e2.trans e3) (f.back e2 (hE.all v m))⟩⟩
theorem en_ofS {E : XK} {B : Addr} {z : Str} (hb : Bag H B) (h : Ev te σ H (.ref B)) (h2 : Ev tu σ H (.str z)) (n1 : 1 ≤ z.length) (n2 : z.length ≤ 100000) : EN (tCall (spOf K) [] E (tCons te (tCons tu tNil))) σ H (fun _ v _ => ∃ c : Nat, v = .str ⟨#[c]⟩) := fun H1 e Q q =>
  h H1 e _ fun H2 e2 => h2 H2 (e.trans e2) _ fun H3 e3 => ⟨B, _, rfl, hb.mono ((e.trans e2).trans e3), .inr ⟨z, rfl, n1, n2, fun c _ => q _ H3 (e2.trans e3) ⟨c, rfl⟩⟩⟩
end
end K00

namespace K00
open PySem PySem.Spec PyProof.Rows L2 Evl XV C8 He RZ
theorem sc__law_name : FnScope ["_law_bag_here", "_law_k"] ["_law_bag_here"] (defScope s__law_name) := ⟨rfl, rfl, rfl, by decide +kernel, rfl, by decide +kernel, by decide +kernel⟩
theorem sc__law_value : FnScope ["_law_bag_here"] ["_law_bag_here"] (defScope s__law_value) := ⟨rfl, rfl, rfl, by decide +kernel, rfl, by decide +kernel, by decide +kernel⟩
def spName : Sp := fun vs H Q _ => ∃ B, vs = [.ref B] ∧ Bag H B ∧ ∀ (z : Str) H', z.length ≤ 100 → Ex H H' → Q (.str z) H'
def spVal (K : PySem.W.Frag) : Sp := fun vs H Q _ => ∃ B, vs = [.ref B] ∧ Bag H B ∧ ∀ v H', Ex H H' → GV K H H' 3 v → Q v H'
section
variable {K : PySem.W.Frag} {σ : L2.St} {H : Hp} {te tu : TE} {ta : TA} {n m : Nat} {P : Pd}
/-- short texts -/
def PZ (n : Nat) : Pd := fun _ v _ => ∃ z : Str, v = .str z ∧ z.length ≤ n
theorem fs_z {n : Nat} : Fs (PZ n) := ⟨fun _ h => h, fun _ h => h⟩
theorem each_z {n m : Nat} {H0 H : Hp} : ∀ {k : Nat} {xs : List V}, Each H0 H (List.replicate k (fun _ v _ => ∃ c : Nat, v = .str ⟨#[c]⟩)) xs → ∃ ys : List Str, xs = ys.map V.str ∧ ys.length = k ∧ ∀ y, y ∈ ys → y.length = 1
  | 0, [], _ => ⟨[], rfl, rfl, fun _ m => nomatch m⟩
  | k + 1, x :: xs, h => by
    obtain ⟨⟨c, hc⟩, h2⟩ := (show (∃ c : Nat, x = .str ⟨#[c]⟩) ∧ Each H0 H (List.replicate k (fun _ v _ => ∃ c : Nat, v = .str ⟨#[c]⟩)) xs from h)
    obtain ⟨ys, e, hl, h1⟩ := each_z (n := n) (m := m) h2
    exact ⟨⟨#[c]⟩ :: ys, by rw [hc, e]; rfl, by rw [List.length_cons, hl], fun y my => by
      rcases List.mem_cons.mp my with q | q
      · rw [q]; rfl
      · exact h1 y q⟩
/-- values that are drawn, one behind another -/
def AG (K : PySem.W.Frag) (n k : Nat) (ta : TA) (σ : L2.St) (H : Hp) : Prop := AN ta σ H (fun H0 vs H' => vs.length = k ∧ ∀ v, v ∈ vs → GV K H0 H' n v)
theorem ag_nil : AG K n 0 tNil σ H := fun H1 e Q q => q [] H1 (Ex.refl H1) ⟨rfl, fun _ m => nomatch m⟩
theorem ag_cons {k : Nat} (h : EN te σ H (PG K n)) (hr : AG K n k ta σ H) : AG K n (k + 1) (tCons te ta) σ H := fun H1 e Q q =>
  h H1 e _ fun v H2 e2 p => hr H2 (e.trans e2) _ fun vs H3 e3 r => q (v :: vs) H3 (e2.trans e3) ⟨by rw [List.length_cons, r.1], fun u m => by
    rcases List.mem_cons.mp m with m | m
    · exact m ▸ fs_g.ex e3 p
    · exact fs_g.back e2 (r.2 u m)⟩
theorem en_gt {k : Nat} (h : AG K n k ta σ H) (hn : k ≤ 40000) : EN (tTup ta) σ H (PG K (n + 1)) := fun H1 e Q q =>
  h H1 e _ fun vs H2 e2 r => ⟨sz_of (by omega), fun p hp => q _ _ (e2.trans (Ex.new hp)) (.tup n (fresh_back e2 hp) upd_same (by omega) fun v m => fs_g.ex (Ex.new hp) (r.2 v m))⟩
theorem en_gl {k : Nat} (h : AG K n k ta σ H) (hn : k ≤ 40000) : EN (tLst ta) σ H (PG K (n + 1)) := fun H1 e Q q =>
  h H1 e _ fun vs H2 e2 r => ⟨sz_of (by omega), fun p hp => q _ _ (e2.trans (Ex.new hp)) (.lst n (fresh_back e2 hp) upd_same (by omega) fun v m => fs_g.ex (Ex.new hp) (r.2 v m))⟩
theorem en_gx {C : Addr} (xv : XV0 K C) {code : Str} : EN (tMkV C (spInit C code []) tNil) σ H (PG K n) := (en_mkv (vs := []) ea_nil rfl (by decide)).to fun H0 v H' _ _ p => by
  obtain ⟨a, dx, rfl, h0, h1, h2, h3⟩ := p
  exact .err n h0 h1 h2 h3 xv
theorem en_gof {E : XK} {B : Addr} {k : Nat} (hb : Bag H B) (h : Ev te σ H (.ref B)) (h2 : AG K n k ta σ H) (n1 : 1 ≤ k) (n2 : k ≤ 100000) : EN (tCall (spOf K) [] E (tCons te (tCons (tLst ta) tNil))) σ H (PG K n) := fun H1 e Q q =>
  h H1 e _ fun H2 e2 => h2 H2 (e.trans e2) _ fun vs H3 e3 r => ⟨sz_of (by omega), fun p hp => ⟨B, _, rfl, hb.mono (((e.trans e2).trans e3).trans (Ex.new hp)), .inl ⟨p, vs, rfl, sq_of upd_same, by omega, by omega, fun v m =>
    q v _ ((e2.trans e3).trans (Ex.new hp)) (fs_g.ex (Ex.new hp) (fs_g.back e2 (r.2 v m)))⟩⟩⟩
theorem sum_ones : ∀ {ys : List Str}, (∀ y, y ∈ ys → y.length = 1) → (ys.map (·.length)).sum = ys.length
  | [], _ => rfl
  | y :: ys, h => by
    rw [List.map_cons, List.sum_cons, List.length_cons, sum_ones fun z m => h z (List.mem_cons_of_mem _ m), h y (List.mem_cons_self ..)]
    omega
end
section
variable {P : Program} {w : World} {K : PySem.W.Frag} {mg : Str → Option Value} {base : Heap}
theorem ok__law_name {f : Addr} {fd : FuncData} (F : FunD K "_law_name" "_law_name" (defArgs s__law_name) (defBody s__law_name) (defScope s__law_name) [] [] f fd) (g : mg "_law_name" = some (.ref f)) (T : Bi mg)
    (c_draw : Cal P w K mg base 1 "_law_draw" spDraw []) (c_of : Cal P w K mg base 2 "_law_of" (spOf K) []) :
    Cal P w K mg base 3 "_law_name" spName [] := by
  refine ⟨f, fd, ["_law_bag_here"], [], F.ok sc__law_name (fun vs H Q E h => ?_) (fun cdv A outer s H vs Q E hr h => ?_), g, F.kp, FunD.bindsN F fun _ _ _ _ _ _ us hl => match us, hl with | [_], _ => rfl, .nil⟩
  · obtain ⟨B, rfl, _⟩ := h
    rfl
  · obtain ⟨B, rfl, hb, q⟩ := h
    refine ⟨_, PSs.nox (
(pss_cons (ps_if (pt_cmpR op_gt (pe_c (c_draw) hr (by omega) (by rfl) (pa_cons (pv 0) (pa_cons pe_int pa_nil))) pe_int (nomark _))
  (pss_one (ps_ret (pe_c (c_of) hr (by omega) (by rfl) (pa_cons (pv 0) (pa_cons (pe_lst (pa_cons pe_str (pa_cons pe_str (pa_cons pe_str (pa_cons pe_str (pa_cons pe_str (pa_cons pe_str (pa_cons pe_str (pa_cons pe_str (pa_cons pe_str (pa_cons pe_str (pa_cons pe_str (pa_cons pe_str (pa_cons pe_str (pa_cons pe_str pa_nil))))))))))))))) pa_nil)))))
  pss_nil)
  (pss_one (ps_ret (pe_join pe_str (pe_lc (own := [("_law_k", 1)]) (g := gName 1) (by rfl) sc__law_name.nd (pi_range1 (by rfl) T.m_range (pa_cons (pe_op op_add pe_int (pe_c (c_draw) hr (by omega) (by rfl) (pa_cons (pv 0) (pa_cons pe_int pa_nil)))) pa_nil)) (blkOk_by (own := [("_law_k", 1)]) (N := ["_law_bag_here", "_law_k"]) (sc := defScope s__law_name) (by decide +kernel)) (fun _ _ _ _ _ => (pg_name (i := 1) sc__law_name.nd rfl (Or.inl rfl))) (fun _ _ _ _ _ => pts_nil) (fun _ _ _ _ _ => (pe_c (c_of) hr (by omega) (by rfl) (pa_cons (pv 0) (pa_cons pe_str pa_nil)))))))))
), ?_⟩
    refine q_any (eb_gt ((en_draw hb (ev_var rfl) ev_c (by decide) (by decide)).to fun _ _ _ _ _ ⟨r, e, _, _⟩ => ⟨r, e⟩) ev_c) (fun H1 e1 => ?_) (fun H1 e1 => ?_)
    · refine s_retN (P := PZ 100) (en_of (n := 14) fs_z (hb.mono e1) (ev_var rfl) (en_lst (Ps := List.replicate 14 (PZ 100)) (fun P' m => List.eq_of_mem_replicate m ▸ fs_z) ?_ (by decide)) (by decide) (by decide)) (fun v H2 e2 p => ?_)
      · repeat (first | exact ae_nil | refine ae_cons fs_z (fun P' m => List.eq_of_mem_replicate (n := _) m ▸ fs_z) (en_is ev_c fun _ _ _ _ => ⟨_, rfl, by decide⟩) ?_)
      · obtain ⟨z, rfl, hz⟩ := p
        exact q z _ hz (e1.trans e2)
    · refine s_retN (P := PZ 100) (fun H2 e2 Q2 q2 => ⟨⟨_, rfl⟩, ?_⟩) (fun v H2 e2 p => ?_)
      · refine en_rngN (m := 8) (P := fun _ v _ => ∃ c : Nat, v = .str ⟨#[c]⟩) ⟨fun _ h => h, fun _ h => h⟩ (by decide) ?ha (fun _ => rfl) (fun k H3 e3 hk => ?he) H2 (Ex.refl H2) _ fun v H3 e3 p => ?_
        case ha =>
          refine fun H3 e3 Q3 q3 => en_draw (hb.mono (e1.trans e2)) (ev_var rfl) ev_c (by decide) (by decide) H3 e3 _ fun v H4 e4 p => ?_
          obtain ⟨r, rfl, r0, r1⟩ := p
          exact ⟨1, r, rfl, rfl, q3 _ H4 e4 ⟨(1 + r).toNat, by omega, by omega, by rw [Int.toNat_of_nonneg (by omega)]⟩⟩
        case he => exact en_ofS (hb.mono ((e1.trans e2).trans e3)) (ev_var rfl) ev_c (by decide) (by decide)
        obtain ⟨n, n1, n2, l, xs, rfl, _, hl, hE⟩ := p
        obtain ⟨ys, rfl, hy, h1⟩ := each_z (n := 0) (m := 0) hE
        refine ⟨_, l, ys, rfl, rfl, .inl (sq_of hl), ?_, q2 _ H3 e3 ⟨_, rfl, ?_⟩⟩
        · rw [sum_ones h1, show (Str.ofString "").length = 0 by decide]
          omega
        · rw [PySem.W.KT.join_ones ys h1]
          omega
      · obtain ⟨z, rfl, hz⟩ := p
        exact q z _ hz (e1.trans e2)
theorem ok__law_value {f : Addr} {fd : FuncData} {CT : Addr} (F : FunD K "_law_value" "_law_value" (defArgs s__law_value) (defBody s__law_value) (defScope s__law_value) [] [] f fd) (g : mg "_law_value" = some (.ref f)) (T : Bi mg)
    (c_draw : Cal P w K mg base 1 "_law_draw" spDraw []) (c_of : Cal P w K mg base 2 "_law_of" (spOf K) []) (c_name : Cal P w K mg base 3 "_law_name" spName []) (x_TooGreat : MkX P w K mg base 1 "TooGreat" CT "TooGreat" []) (xv : XV0 K CT) :
    Cal P w K mg base 4 "_law_value" (spVal K) [] := by
  refine ⟨f, fd, ["_law_bag_here"], [], F.ok sc__law_value (fun vs H Q E h => ?_) (fun cdv A outer s H vs Q E hr h => ?_), g, F.kp, FunD.bindsN F fun _ _ _ _ _ _ us hl => match us, hl with | [_], _ => rfl, .nil⟩
  · obtain ⟨B, rfl, _⟩ := h
    rfl
  · obtain ⟨B, rfl, hb, q⟩ := h
    refine ⟨_, PSs.nox (
(pss_one (ps_ret (pe_c (c_of) hr (by omega) (by rfl) (pa_cons (pv 0) (pa_cons (pe_lst (pa_cons pe_non (pa_cons pe_bl (pa_cons pe_bl (pa_cons pe_int (pa_cons pe_int (pa_cons (pe_un un_neg pe_int) (pa_cons (pe_c (c_draw) hr (by omega) (by rfl) (pa_cons (pv 0) (pa_cons (pe_op op_pow pe_int pe_int) pa_nil))) (pa_cons pe_str (pa_cons pe_str (pa_cons pe_str (pa_cons (pe_c (c_name) hr (by omega) (by rfl) (pa_cons (pv 0) pa_nil)) (pa_cons (pe_tup pa_nil) (pa_cons (pe_tup (pa_cons pe_int pa_nil)) (pa_cons (pe_tup (pa_cons pe_int (pa_cons pe_int pa_nil))) (pa_cons (pe_lst pa_nil) (pa_cons (pe_lst (pa_cons pe_str (pa_cons pe_int pa_nil))) (pa_cons (pe_tup (pa_cons pe_str (pa_cons pe_int pa_nil))) (pa_cons (pe_tup (pa_cons (pe_tup (pa_cons pe_int pa_nil)) (pa_cons (pe_tup (pa_cons pe_int pa_nil)) pa_nil))) (pa_cons (pe_tup (pa_cons (pe_tup (pa_cons pe_str (pa_cons pe_int pa_nil))) (pa_cons pe_str pa_nil))) (pa_cons (pe_lst (pa_cons (pe_tup (pa_cons pe_int (pa_cons pe_int pa_nil))) pa_nil)) (pa_cons (pe_tup (pa_cons pe_bl pa_nil)) (pa_cons (pe_xmk0 x_TooGreat hr (by omega) (by rfl)) (pa_cons (pe_tup (pa_cons (pe_xmk0 x_TooGreat hr (by omega) (by rfl)) (pa_cons pe_non pa_nil))) (pa_cons (pe_lst (pa_cons pe_str (pa_cons (pe_lst (pa_cons (pe_tup pa_nil) pa_nil)) pa_nil))) pa_nil))))))))))))))))))))))))) pa_nil)))))
), ?_⟩
    have hd : EN _ _ H (PG K 3) := (en_draw (te := tVar 0) (tu := tOp (rI CPow fun i j => .int (i ^ j.toNat)) (tC (.int 10)) (tC (.int 9))) (E := C8.E0) (σ := L2.start ["_law_bag_here"] [V.ref B]) hb (ev_var rfl) (ev_op ev_c ev_c (rv_I ⟨by decide, by decide, by decide⟩)) (by decide) (by decide)).to fun _ _ _ _ _ ⟨r, e, _, _⟩ => by
      subst e
      exact .int 3 r
    have hn : EN (tCall spName [] C8.E0 (tCons (tVar 0) tNil)) (L2.start ["_law_bag_here"] [V.ref B]) H (PG K 3) := fun H1 e1 Q q => ⟨_, rfl, B, rfl, hb.mono e1, fun z H2 hz e2 => q _ H2 e2 (.str 3 z (by omega))⟩
    refine s_retN (P := PG K 3) (en_gof (k := 24) hb (ev_var rfl) ?_ (by decide) (by decide)) (fun v H2 e2 p => q v H2 e2 p)
    repeat (first
      | exact ag_nil
      | apply ag_cons
      | exact en_is ev_c fun _ _ _ _ => .int _ _
      | exact en_is ev_c fun _ _ _ _ => .bl _ _
      | exact en_is ev_c fun _ _ _ _ => .non _
      | exact en_is ev_c fun _ _ _ _ => .str _ _ (by decide)
      | exact en_is (ev_un ev_c ru_neg) fun _ _ _ _ => .int _ _
      | exact hd
      | exact hn
      | exact en_gx xv
      | apply en_gt
      | apply en_gl
      | decide)
end
end K00

namespace K00
open PySem PySem.Spec PyProof.Rows L2 Evl XV C8 He RZ
theorem sc__law_codes : FnScope ["_law_found"] [] (defScope s__law_codes) := ⟨rfl, rfl, rfl, by decide +kernel, rfl, by decide +kernel, by decide +kernel⟩
theorem sc__law_many : FnScope ["_law_k"] ["_law_k"] (defScope s__law_many) := ⟨rfl, rfl, rfl, by decide +kernel, rfl, by decide +kernel, by decide +kernel⟩
theorem sc__law_stands : FnScope ["_law_k"] ["_law_k"] (defScope s__law_stands) := ⟨rfl, rfl, rfl, by decide +kernel, rfl, by decide +kernel, by decide +kernel⟩
/-- the classes and their fields, in the order of the text -/
def manyN (n : Nat) : Nat := (exL.map fun p => p.2.length).getD n 0
def stN (n : Nat) : List Bool := [decide (n < 37), decide (n < 37), decide (36 < n) && decide (n < 42), decide (36 < n), decide (41 < n), decide (41 < n), false, false]
def spCodes : Sp := fun vs H Q _ => vs = [] ∧ RetL (exL.map fun p => V.str p.1) H Q
def spMany : Sp := fun vs H Q _ => ∃ n : Nat, vs = [.int (n : Int)] ∧ n < 44 ∧ RetV (.int (manyN n : Nat)) H Q
def spStands : Sp := fun vs H Q _ => ∃ n : Nat, vs = [.int (n : Int)] ∧ n < 44 ∧ RetL ((stN n).map V.bl) H Q
theorem many_a : ∀ n : Nat, n < 44 → inV (V.int (n : Int)) [V.int 7, V.int 12, V.int 17, V.int 18, V.int 19, V.int 22, V.int 30, V.int 33, V.int 35, V.int 43] = true → manyN n = 0 := by decide +kernel
theorem many_b : ∀ n : Nat, n < 44 → inV (V.int (n : Int)) [V.int 6, V.int 9, V.int 28, V.int 31] = true → manyN n = 2 := by decide +kernel
theorem many_c : ∀ n : Nat, n < 44 → inV (V.int (n : Int)) [V.int 7, V.int 12, V.int 17, V.int 18, V.int 19, V.int 22, V.int 30, V.int 33, V.int 35, V.int 43] = false → inV (V.int (n : Int)) [V.int 6, V.int 9, V.int 28, V.int 31] = false → manyN n = if decide (V.int (n : Int) = V.int 29) = true then 3 else if decide (V.int (n : Int) = V.int 15) = true then 4 else 1 := by decide +kernel
theorem st_eq : ∀ n : Nat, n < 44 → [V.bl (decide ((n : Int) < 37)), V.bl (decide ((n : Int) < 37)), V.bl (decide ((36 : Int) < n) && decide ((n : Int) < 42)), V.bl (decide ((36 : Int) < n)), V.bl (decide ((41 : Int) < n)), V.bl (decide ((41 : Int) < n)), V.bl false, V.bl false] = (stN n).map V.bl := by decide +kernel
section
variable {P : Program} {w : World} {K : PySem.W.Frag} {mg : Str → Option Value} {base : Heap}
theorem ok__law_codes {f : Addr} {fd : FuncData} (F : FunD K "_law_codes" "_law_codes" (defArgs s__law_codes) (defBody s__law_codes) (defScope s__law_codes) [] [] f fd) (g : mg "_law_codes" = some (.ref f)) :
    Cal P w K mg base 1 "_law_codes" spCodes [] := by
  refine ⟨f, fd, [], [], F.ok sc__law_codes (fun vs H Q E h => by rw [h.1]; rfl) (fun cdv A outer s H vs Q E hr h => ?_), g, F.kp, FunD.bindsN F fun _ _ _ _ _ _ us hl => match us, hl with | [], _ => rfl, .nil⟩
  obtain ⟨rfl, q⟩ := h
  refine ⟨_, PSs.nox (
(pss_cons (ps_set (i := 0) sc__law_codes.nd rfl (.inl rfl) (pe_lst (pa_cons pe_str (pa_cons pe_str (pa_cons pe_str (pa_cons pe_str (pa_cons pe_str (pa_cons pe_str pa_nil))))))))
  (pss_cons (ps_set (i := 0) sc__law_codes.nd rfl (.inl rfl) (pe_op op_cat (pv 0) (pe_lst (pa_cons pe_str (pa_cons pe_str (pa_cons pe_str (pa_cons pe_str (pa_cons pe_str (pa_cons pe_str (pa_cons pe_str pa_nil))))))))))
  (pss_cons (ps_set (i := 0) sc__law_codes.nd rfl (.inl rfl) (pe_op op_cat (pv 0) (pe_lst (pa_cons pe_str (pa_cons pe_str (pa_cons pe_str (pa_cons pe_str (pa_cons pe_str (pa_cons pe_str (pa_cons pe_str (pa_cons pe_str pa_nil)))))))))))
  (pss_cons (ps_set (i := 0) sc__law_codes.nd rfl (.inl rfl) (pe_op op_cat (pv 0) (pe_lst (pa_cons pe_str (pa_cons pe_str (pa_cons pe_str (pa_cons pe_str (pa_cons pe_str (pa_cons pe_str (pa_cons pe_str (pa_cons pe_str pa_nil)))))))))))
  (pss_cons (ps_set (i := 0) sc__law_codes.nd rfl (.inl rfl) (pe_op op_cat (pv 0) (pe_lst (pa_cons pe_str (pa_cons pe_str (pa_cons pe_str (pa_cons pe_str (pa_cons pe_str (pa_cons pe_str (pa_cons pe_str (pa_cons pe_str pa_nil)))))))))))
  (pss_one (ps_ret (pe_op op_cat (pv 0) (pe_lst (pa_cons pe_str (pa_cons pe_str (pa_cons pe_str (pa_cons pe_str (pa_cons pe_str (pa_cons pe_str (pa_cons pe_str pa_nil))))))))))))))))
), ?_⟩
  refine q_asgL (el_lst (ea_cons ev_c (ea_cons ev_c (ea_cons ev_c (ea_cons ev_c (ea_cons ev_c (ea_cons ev_c ea_nil)))))) (by decide)) fun p1 H1 n1 e1 h1 => ?_
  refine q_asgL (el_cat (ev_var rfl) h1 (el_lst (ea_cons ev_c (ea_cons ev_c (ea_cons ev_c (ea_cons ev_c (ea_cons ev_c (ea_cons ev_c (ea_cons ev_c ea_nil))))))) (by decide)) (by decide)) fun p2 H2 n2 e2 h2 => ?_
  refine q_asgL (el_cat (ev_var rfl) h2 (el_lst (ea_cons ev_c (ea_cons ev_c (ea_cons ev_c (ea_cons ev_c (ea_cons ev_c (ea_cons ev_c (ea_cons ev_c (ea_cons ev_c ea_nil)))))))) (by decide)) (by decide)) fun p3 H3 n3 e3 h3 => ?_
  refine q_asgL (el_cat (ev_var rfl) h3 (el_lst (ea_cons ev_c (ea_cons ev_c (ea_cons ev_c (ea_cons ev_c (ea_cons ev_c (ea_cons ev_c (ea_cons ev_c (ea_cons ev_c ea_nil)))))))) (by decide)) (by decide)) fun p4 H4 n4 e4 h4 => ?_
  refine q_asgL (el_cat (ev_var rfl) h4 (el_lst (ea_cons ev_c (ea_cons ev_c (ea_cons ev_c (ea_cons ev_c (ea_cons ev_c (ea_cons ev_c (ea_cons ev_c (ea_cons ev_c ea_nil)))))))) (by decide)) (by decide)) fun p5 H5 n5 e5 h5 => ?_
  refine s_retL (el_cat (ev_var rfl) h5 (el_lst (ea_cons ev_c (ea_cons ev_c (ea_cons ev_c (ea_cons ev_c (ea_cons ev_c (ea_cons ev_c (ea_cons ev_c ea_nil))))))) (by decide)) (by decide)) fun p6 H6 n6 e6 h6 => ?_
  exact q.go ((((e1.trans e2).trans e3).trans e4).trans e5) n6 e6 h6
theorem ok__law_many {f : Addr} {fd : FuncData} (F : FunD K "_law_many" "_law_many" (defArgs s__law_many) (defBody s__law_many) (defScope s__law_many) [] [] f fd) (g : mg "_law_many" = some (.ref f)) :
    Cal P w K mg base 1 "_law_many" spMany [] := by
  refine ⟨f, fd, ["_law_k"], [], F.ok sc__law_many (fun vs H Q E h => ?_) (fun cdv A outer s H vs Q E hr h => ?_), g, F.kp, FunD.bindsN F fun _ _ _ _ _ _ us hl => match us, hl with | [_], _ => rfl, .nil⟩
  · obtain ⟨n, rfl, _⟩ := h
    rfl
  · obtain ⟨n, rfl, hn, q⟩ := h
    refine ⟨_, PSs.nox (
(pss_cons (ps_if (pt_cmpR op_in_seq (pv 0) (pe_lst (pa_cons pe_int (pa_cons pe_int (pa_cons pe_int (pa_cons pe_int (pa_cons pe_int (pa_cons pe_int (pa_cons pe_int (pa_cons pe_int (pa_cons pe_int (pa_cons pe_int pa_nil))))))))))) (by rfl))
  (pss_one (ps_ret pe_int))
  pss_nil)
  (pss_cons (ps_if (pt_cmpR op_in_seq (pv 0) (pe_lst (pa_cons pe_int (pa_cons pe_int (pa_cons pe_int (pa_cons pe_int pa_nil))))) (by rfl))
  (pss_one (ps_ret pe_int))
  pss_nil)
  (pss_one (ps_ret (pe_ifExp (pt_cmpR op_eq (pv 0) pe_int (nomark _)) pe_int (pe_ifExp (pt_cmpR op_eq (pv 0) pe_int (nomark _)) pe_int pe_int))))))
), ?_⟩
    refine q_when (et_test (ev_opL (ev_var rfl) (el_lst (ea_cons ev_c (ea_cons ev_c (ea_cons ev_c (ea_cons ev_c (ea_cons ev_c (ea_cons ev_c (ea_cons ev_c (ea_cons ev_c (ea_cons ev_c (ea_cons ev_c ea_nil)))))))))) (by decide)) fun p H1 h _ => rv_isL (sq_of h) rfl rfl)) (fun hb H1 e1 => s_ret ev_c fun H2 e2 => ?_) (fun b1 H1 e1 => ?_)
    · have h := many_a n hn hb
      rw [h] at q
      exact q H2 (e1.trans e2)
    refine q_when (et_test (ev_opL (ev_var rfl) (el_lst (ea_cons ev_c (ea_cons ev_c (ea_cons ev_c (ea_cons ev_c ea_nil)))) (by decide)) fun p H1 h _ => rv_isL (sq_of h) rfl rfl)) (fun hb H2 e2 => s_ret ev_c fun H3 e3 => ?_) (fun b2 H2 e2 => ?_)
    · have h := many_b n hn hb
      rw [h] at q
      exact q H3 ((e1.trans e2).trans e3)
    have h := many_c n hn b1 b2
    refine s_ret (ev_if (et_test (ev_op (ev_var rfl) ev_c (rv_eq rfl))) (fun c => ev_is ev_c ?_) fun c => ev_if (et_test (ev_op (ev_var rfl) ev_c (rv_eq rfl))) (fun c2 => ev_is ev_c ?_) fun c2 => ev_is ev_c ?_) fun H3 e3 => q H3 ((e1.trans e2).trans e3)
    · rw [h, if_pos c] <;> rfl
    · rw [h, if_neg (by rw [c]; exact Bool.false_ne_true), if_pos c2] <;> rfl
    · rw [h, if_neg (by rw [c]; exact Bool.false_ne_true), if_neg (by rw [c2]; exact Bool.false_ne_true)] <;> rfl
theorem ok__law_stands {f : Addr} {fd : FuncData} (F : FunD K "_law_stands" "_law_stands" (defArgs s__law_stands) (defBody s__law_stands) (defScope s__law_stands) [] [] f fd) (g : mg "_law_stands" = some (.ref f)) :
    Cal P w K mg base 1 "_law_stands" spStands [] := by
  refine ⟨f, fd, ["_law_k"], [], F.ok sc__law_stands (fun vs H Q E h => ?_) (fun cdv A outer s H vs Q E hr h => ?_), g, F.kp, FunD.bindsN F fun _ _ _ _ _ _ us hl => match us, hl with | [_], _ => rfl, .nil⟩
  · obtain ⟨n, rfl, _⟩ := h
    rfl
  · obtain ⟨n, rfl, hn, q⟩ := h
    refine ⟨_, PSs.nox (
(pss_one (ps_ret (pe_lst (pa_cons (pe_cmpR op_lt (pv 0) pe_int (nomark _)) (pa_cons (pe_cmpR op_lt (pv 0) pe_int (nomark _)) (pa_cons (pe_chain op_lt op_lt pe_int (pv 0) pe_int) (pa_cons (pe_cmpR op_lt pe_int (pv 0) (nomark _)) (pa_cons (pe_cmpR op_lt pe_int (pv 0) (nomark _)) (pa_cons (pe_cmpR op_lt pe_int (pv 0) (nomark _)) (pa_cons pe_bl (pa_cons pe_bl pa_nil)))))))))))
), ?_⟩
    have lt : ∀ {ta tb : TE} {i j : Int} {σ : L2.St}, Ev ta σ H (.int i) → Ev tb σ H (.int j) → Ev (tOp (rI0 fun i j => V.bl (decide (i < j))) ta tb) σ H (.bl (decide (i < j))) := fun h1 h2 => ev_op h1 h2 rv_I0
    refine s_retL (el_lst (ea_cons (lt (ev_var rfl) ev_c) (ea_cons (lt (ev_var rfl) ev_c) (ea_cons (ev_chain ev_c (ev_var rfl) ev_c) (ea_cons (lt ev_c (ev_var rfl)) (ea_cons (lt ev_c (ev_var rfl)) (ea_cons (lt ev_c (ev_var rfl)) (ea_cons ev_c (ea_cons ev_c ea_nil)))))))) (show 8 ≤ 100000 by decide)) fun p H1 h0 e1 h1 => ?_
    rw [st_eq n hn] at h1
    exact q p H1 h0 e1 h1
end
end K00

namespace K00
open PySem PySem.Spec PyProof.Rows L2 Evl XV C8 He RZ
structure Bx (mg : Str → Option Value) : Prop extends Bi mg where
  m_ValueError : mg "ValueError" = none
  m_LookupError : mg "LookupError" = none
  m_IndexError : mg "IndexError" = none
  m_KeyError : mg "KeyError" = none
  m_ArithmeticError : mg "ArithmeticError" = none
def clsN : List Str := exN ++ (["WorkError", "Missing", "NothingLeft"] : List Str)
/-- the class at C is the n-th of the text -/
structure SoF (K : PySem.W.Frag) (n : Nat) (C : Addr) : Prop where
  so : ∀ (i : Nat) (x : Str), exN[i]? = some x → PySem.W.kitOne K (.ref C) (.ref (ga K x)) = some (decide (i = n))
  b0 : PySem.W.kitOne K (.ref C) (.ref (ga K "WorkError")) = some (decide (n < 37))
  b1 : PySem.W.kitOne K (.ref C) (.type "ValueError") = some (decide (n < 37))
  b2 : PySem.W.kitOne K (.ref C) (.ref (ga K "Missing")) = some (decide (36 < n) && decide (n < 42))
  b3 : PySem.W.kitOne K (.ref C) (.type "LookupError") = some (decide (36 < n))
  b4 : PySem.W.kitOne K (.ref C) (.ref (ga K "NothingLeft")) = some (decide (41 < n))
  b5 : PySem.W.kitOne K (.ref C) (.type "IndexError") = some (decide (41 < n))
  b6 : PySem.W.kitOne K (.ref C) (.type "KeyError") = some false
  b7 : PySem.W.kitOne K (.ref C) (.type "ArithmeticError") = some false
theorem sc__law_sorts : FnScope ["_law_e", "_law_found"] ["_law_e"] (defScope s__law_sorts) := ⟨rfl, rfl, rfl, by decide +kernel, rfl, by decide +kernel, by decide +kernel⟩
theorem sc__law_bases : FnScope ["_law_e", "_law_found"] ["_law_e"] (defScope s__law_bases) := ⟨rfl, rfl, rfl, by decide +kernel, rfl, by decide +kernel, by decide +kernel⟩
theorem sc__law_fields : FnScope ["_law_k", "_law_e"] ["_law_k", "_law_e"] (defScope s__law_fields) := ⟨rfl, rfl, rfl, by decide +kernel, rfl, by decide +kernel, by decide +kernel⟩
def soV (n : Nat) : List V := (List.range 44).map fun i => V.bl (decide (i = n))
def spSorts (K : PySem.W.Frag) : Sp := fun vs H Q _ => ∃ (a C : Addr) (fs : List (Str × V)) (n : Nat), vs = [.ref a] ∧ XAt H a C fs ∧ XC K C ∧ SoF K n C ∧ RetL (soV n) H Q
def spBases (K : PySem.W.Frag) : Sp := fun vs H Q _ => ∃ (a C : Addr) (fs : List (Str × V)) (n : Nat), vs = [.ref a] ∧ XAt H a C fs ∧ XC K C ∧ SoF K n C ∧ RetL ((stN n).map V.bl) H Q
section
variable {P : Program} {w : World} {K : PySem.W.Frag} {mg : Str → Option Value} {base : Heap}
theorem ok__law_sorts {f : Addr} {fd : FuncData} (F : FunD K "_law_sorts" "_law_sorts" (defArgs s__law_sorts) (defBody s__law_sorts) (defScope s__law_sorts) [] [] f fd) (g : mg "_law_sorts" = some (.ref f)) (T : Bx mg) (gC : ∀ x, x ∈ clsN → mg x = some (.ref (ga K x))) :
    Cal P w K mg base 1 "_law_sorts" (spSorts K) [] := by
  refine ⟨f, fd, ["_law_e"], [], F.ok sc__law_sorts (fun vs H Q E h => ?_) (fun cdv A outer s H vs Q E hr h => ?_), g, F.kp, FunD.bindsN F fun _ _ _ _ _ _ us hl => match us, hl with | [_], _ => rfl, .nil⟩
  · obtain ⟨a, C, fs, n, rfl, _⟩ := h
    rfl
  · obtain ⟨a, C, fs, n, rfl, hX, xc, S, q⟩ := h
    refine ⟨_, PSs.nox (
(pss_cons (ps_set (i := 1) sc__law_sorts.nd rfl (.inl rfl) (pe_lst (pa_cons (pe_callB call_is1 (by rfl) T.m_isinstance (by decide +kernel) (pa_cons (pv 0) (pa_cons (pe_glob (v := .ref (ga K "InvalidName")) (by rfl) (gC "InvalidName" (by decide +kernel)) rfl) pa_nil))) (pa_cons (pe_callB call_is1 (by rfl) T.m_isinstance (by decide +kernel) (pa_cons (pv 0) (pa_cons (pe_glob (v := .ref (ga K "InvalidPart")) (by rfl) (gC "InvalidPart" (by decide +kernel)) rfl) pa_nil))) (pa_cons (pe_callB call_is1 (by rfl) T.m_isinstance (by decide +kernel) (pa_cons (pv 0) (pa_cons (pe_glob (v := .ref (ga K "InvalidSide")) (by rfl) (gC "InvalidSide" (by decide +kernel)) rfl) pa_nil))) pa_nil)))))
  (pss_cons (ps_set (i := 1) sc__law_sorts.nd rfl (.inl rfl) (pe_op op_cat (pv 1) (pe_lst (pa_cons (pe_callB call_is1 (by rfl) T.m_isinstance (by decide +kernel) (pa_cons (pv 0) (pa_cons (pe_glob (v := .ref (ga K "InvalidDue")) (by rfl) (gC "InvalidDue" (by decide +kernel)) rfl) pa_nil))) (pa_cons (pe_callB call_is1 (by rfl) T.m_isinstance (by decide +kernel) (pa_cons (pv 0) (pa_cons (pe_glob (v := .ref (ga K "InvalidRule")) (by rfl) (gC "InvalidRule" (by decide +kernel)) rfl) pa_nil))) (pa_cons (pe_callB call_is1 (by rfl) T.m_isinstance (by decide +kernel) (pa_cons (pv 0) (pa_cons (pe_glob (v := .ref (ga K "InvalidRow")) (by rfl) (gC "InvalidRow" (by decide +kernel)) rfl) pa_nil))) pa_nil))))))
  (pss_cons (ps_set (i := 1) sc__law_sorts.nd rfl (.inl rfl) (pe_op op_cat (pv 1) (pe_lst (pa_cons (pe_callB call_is1 (by rfl) T.m_isinstance (by decide +kernel) (pa_cons (pv 0) (pa_cons (pe_glob (v := .ref (ga K "InvalidText")) (by rfl) (gC "InvalidText" (by decide +kernel)) rfl) pa_nil))) (pa_cons (pe_callB call_is1 (by rfl) T.m_isinstance (by decide +kernel) (pa_cons (pv 0) (pa_cons (pe_glob (v := .ref (ga K "InvalidTerm")) (by rfl) (gC "InvalidTerm" (by decide +kernel)) rfl) pa_nil))) (pa_cons (pe_callB call_is1 (by rfl) T.m_isinstance (by decide +kernel) (pa_cons (pv 0) (pa_cons (pe_glob (v := .ref (ga K "InvalidLot")) (by rfl) (gC "InvalidLot" (by decide +kernel)) rfl) pa_nil))) pa_nil))))))
  (pss_cons (ps_set (i := 1) sc__law_sorts.nd rfl (.inl rfl) (pe_op op_cat (pv 1) (pe_lst (pa_cons (pe_callB call_is1 (by rfl) T.m_isinstance (by decide +kernel) (pa_cons (pv 0) (pa_cons (pe_glob (v := .ref (ga K "NoStep")) (by rfl) (gC "NoStep" (by decide +kernel)) rfl) pa_nil))) (pa_cons (pe_callB call_is1 (by rfl) T.m_isinstance (by decide +kernel) (pa_cons (pv 0) (pa_cons (pe_glob (v := .ref (ga K "InvalidNumber")) (by rfl) (gC "InvalidNumber" (by decide +kernel)) rfl) pa_nil))) (pa_cons (pe_callB call_is1 (by rfl) T.m_isinstance (by decide +kernel) (pa_cons (pv 0) (pa_cons (pe_glob (v := .ref (ga K "TooMany")) (by rfl) (gC "TooMany" (by decide +kernel)) rfl) pa_nil))) (pa_cons (pe_callB call_is1 (by rfl) T.m_isinstance (by decide +kernel) (pa_cons (pv 0) (pa_cons (pe_glob (v := .ref (ga K "TooGreat")) (by rfl) (gC "TooGreat" (by decide +kernel)) rfl) pa_nil))) pa_nil)))))))
  (pss_cons (ps_set (i := 1) sc__law_sorts.nd rfl (.inl rfl) (pe_op op_cat (pv 1) (pe_lst (pa_cons (pe_callB call_is1 (by rfl) T.m_isinstance (by decide +kernel) (pa_cons (pv 0) (pa_cons (pe_glob (v := .ref (ga K "TwiceHole")) (by rfl) (gC "TwiceHole" (by decide +kernel)) rfl) pa_nil))) (pa_cons (pe_callB call_is1 (by rfl) T.m_isinstance (by decide +kernel) (pa_cons (pv 0) (pa_cons (pe_glob (v := .ref (ga K "LooseHole")) (by rfl) (gC "LooseHole" (by decide +kernel)) rfl) pa_nil))) (pa_cons (pe_callB call_is1 (by rfl) T.m_isinstance (by decide +kernel) (pa_cons (pv 0) (pa_cons (pe_glob (v := .ref (ga K "Overlaps")) (by rfl) (gC "Overlaps" (by decide +kernel)) rfl) pa_nil))) pa_nil))))))
  (pss_cons (ps_set (i := 1) sc__law_sorts.nd rfl (.inl rfl) (pe_op op_cat (pv 1) (pe_lst (pa_cons (pe_callB call_is1 (by rfl) T.m_isinstance (by decide +kernel) (pa_cons (pv 0) (pa_cons (pe_glob (v := .ref (ga K "NotTurned")) (by rfl) (gC "NotTurned" (by decide +kernel)) rfl) pa_nil))) (pa_cons (pe_callB call_is1 (by rfl) T.m_isinstance (by decide +kernel) (pa_cons (pv 0) (pa_cons (pe_glob (v := .ref (ga K "OtherStart")) (by rfl) (gC "OtherStart" (by decide +kernel)) rfl) pa_nil))) (pa_cons (pe_callB call_is1 (by rfl) T.m_isinstance (by decide +kernel) (pa_cons (pv 0) (pa_cons (pe_glob (v := .ref (ga K "OtherBook")) (by rfl) (gC "OtherBook" (by decide +kernel)) rfl) pa_nil))) (pa_cons (pe_callB call_is1 (by rfl) T.m_isinstance (by decide +kernel) (pa_cons (pv 0) (pa_cons (pe_glob (v := .ref (ga K "Alike")) (by rfl) (gC "Alike" (by decide +kernel)) rfl) pa_nil))) pa_nil)))))))
  (pss_cons (ps_set (i := 1) sc__law_sorts.nd rfl (.inl rfl) (pe_op op_cat (pv 1) (pe_lst (pa_cons (pe_callB call_is1 (by rfl) T.m_isinstance (by decide +kernel) (pa_cons (pv 0) (pa_cons (pe_glob (v := .ref (ga K "Strikes")) (by rfl) (gC "Strikes" (by decide +kernel)) rfl) pa_nil))) (pa_cons (pe_callB call_is1 (by rfl) T.m_isinstance (by decide +kernel) (pa_cons (pv 0) (pa_cons (pe_glob (v := .ref (ga K "Copies")) (by rfl) (gC "Copies" (by decide +kernel)) rfl) pa_nil))) (pa_cons (pe_callB call_is1 (by rfl) T.m_isinstance (by decide +kernel) (pa_cons (pv 0) (pa_cons (pe_glob (v := .ref (ga K "NotPiece")) (by rfl) (gC "NotPiece" (by decide +kernel)) rfl) pa_nil))) (pa_cons (pe_callB call_is1 (by rfl) T.m_isinstance (by decide +kernel) (pa_cons (pv 0) (pa_cons (pe_glob (v := .ref (ga K "Clash")) (by rfl) (gC "Clash" (by decide +kernel)) rfl) pa_nil))) pa_nil)))))))
  (pss_cons (ps_set (i := 1) sc__law_sorts.nd rfl (.inl rfl) (pe_op op_cat (pv 1) (pe_lst (pa_cons (pe_callB call_is1 (by rfl) T.m_isinstance (by decide +kernel) (pa_cons (pv 0) (pa_cons (pe_glob (v := .ref (ga K "NoRest")) (by rfl) (gC "NoRest" (by decide +kernel)) rfl) pa_nil))) (pa_cons (pe_callB call_is1 (by rfl) T.m_isinstance (by decide +kernel) (pa_cons (pv 0) (pa_cons (pe_glob (v := .ref (ga K "Needed")) (by rfl) (gC "Needed" (by decide +kernel)) rfl) pa_nil))) (pa_cons (pe_callB call_is1 (by rfl) T.m_isinstance (by decide +kernel) (pa_cons (pv 0) (pa_cons (pe_glob (v := .ref (ga K "InvalidKnot")) (by rfl) (gC "InvalidKnot" (by decide +kernel)) rfl) pa_nil))) pa_nil))))))
  (pss_cons (ps_set (i := 1) sc__law_sorts.nd rfl (.inl rfl) (pe_op op_cat (pv 1) (pe_lst (pa_cons (pe_callB call_is1 (by rfl) T.m_isinstance (by decide +kernel) (pa_cons (pv 0) (pa_cons (pe_glob (v := .ref (ga K "InvalidMaker")) (by rfl) (gC "InvalidMaker" (by decide +kernel)) rfl) pa_nil))) (pa_cons (pe_callB call_is1 (by rfl) T.m_isinstance (by decide +kernel) (pa_cons (pv 0) (pa_cons (pe_glob (v := .ref (ga K "NotSplit")) (by rfl) (gC "NotSplit" (by decide +kernel)) rfl) pa_nil))) (pa_cons (pe_callB call_is1 (by rfl) T.m_isinstance (by decide +kernel) (pa_cons (pv 0) (pa_cons (pe_glob (v := .ref (ga K "NoTree")) (by rfl) (gC "NoTree" (by decide +kernel)) rfl) pa_nil))) pa_nil))))))
  (pss_cons (ps_set (i := 1) sc__law_sorts.nd rfl (.inl rfl) (pe_op op_cat (pv 1) (pe_lst (pa_cons (pe_callB call_is1 (by rfl) T.m_isinstance (by decide +kernel) (pa_cons (pv 0) (pa_cons (pe_glob (v := .ref (ga K "NotWithin")) (by rfl) (gC "NotWithin" (by decide +kernel)) rfl) pa_nil))) (pa_cons (pe_callB call_is1 (by rfl) T.m_isinstance (by decide +kernel) (pa_cons (pv 0) (pa_cons (pe_glob (v := .ref (ga K "NotClosed")) (by rfl) (gC "NotClosed" (by decide +kernel)) rfl) pa_nil))) (pa_cons (pe_callB call_is1 (by rfl) T.m_isinstance (by decide +kernel) (pa_cons (pv 0) (pa_cons (pe_glob (v := .ref (ga K "NotRow")) (by rfl) (gC "NotRow" (by decide +kernel)) rfl) pa_nil))) (pa_cons (pe_callB call_is1 (by rfl) T.m_isinstance (by decide +kernel) (pa_cons (pv 0) (pa_cons (pe_glob (v := .ref (ga K "NotKey")) (by rfl) (gC "NotKey" (by decide +kernel)) rfl) pa_nil))) pa_nil)))))))
  (pss_cons (ps_set (i := 1) sc__law_sorts.nd rfl (.inl rfl) (pe_op op_cat (pv 1) (pe_lst (pa_cons (pe_callB call_is1 (by rfl) T.m_isinstance (by decide +kernel) (pa_cons (pv 0) (pa_cons (pe_glob (v := .ref (ga K "DuplicateName")) (by rfl) (gC "DuplicateName" (by decide +kernel)) rfl) pa_nil))) (pa_cons (pe_callB call_is1 (by rfl) T.m_isinstance (by decide +kernel) (pa_cons (pv 0) (pa_cons (pe_glob (v := .ref (ga K "LastHand")) (by rfl) (gC "LastHand" (by decide +kernel)) rfl) pa_nil))) (pa_cons (pe_callB call_is1 (by rfl) T.m_isinstance (by decide +kernel) (pa_cons (pv 0) (pa_cons (pe_glob (v := .ref (ga K "InvalidDeed")) (by rfl) (gC "InvalidDeed" (by decide +kernel)) rfl) pa_nil))) pa_nil))))))
  (pss_cons (ps_set (i := 1) sc__law_sorts.nd rfl (.inl rfl) (pe_op op_cat (pv 1) (pe_lst (pa_cons (pe_callB call_is1 (by rfl) T.m_isinstance (by decide +kernel) (pa_cons (pv 0) (pa_cons (pe_glob (v := .ref (ga K "UnknownName")) (by rfl) (gC "UnknownName" (by decide +kernel)) rfl) pa_nil))) (pa_cons (pe_callB call_is1 (by rfl) T.m_isinstance (by decide +kernel) (pa_cons (pv 0) (pa_cons (pe_glob (v := .ref (ga K "UnknownDoer")) (by rfl) (gC "UnknownDoer" (by decide +kernel)) rfl) pa_nil))) (pa_cons (pe_callB call_is1 (by rfl) T.m_isinstance (by decide +kernel) (pa_cons (pv 0) (pa_cons (pe_glob (v := .ref (ga K "UnknownEvent")) (by rfl) (gC "UnknownEvent" (by decide +kernel)) rfl) pa_nil))) pa_nil))))))
  (pss_cons (ps_set (i := 1) sc__law_sorts.nd rfl (.inl rfl) (pe_op op_cat (pv 1) (pe_lst (pa_cons (pe_callB call_is1 (by rfl) T.m_isinstance (by decide +kernel) (pa_cons (pv 0) (pa_cons (pe_glob (v := .ref (ga K "UnknownLetter")) (by rfl) (gC "UnknownLetter" (by decide +kernel)) rfl) pa_nil))) (pa_cons (pe_callB call_is1 (by rfl) T.m_isinstance (by decide +kernel) (pa_cons (pv 0) (pa_cons (pe_glob (v := .ref (ga K "NoPlace")) (by rfl) (gC "NoPlace" (by decide +kernel)) rfl) pa_nil))) (pa_cons (pe_callB call_is1 (by rfl) T.m_isinstance (by decide +kernel) (pa_cons (pv 0) (pa_cons (pe_glob (v := .ref (ga K "NoOrder")) (by rfl) (gC "NoOrder" (by decide +kernel)) rfl) pa_nil))) pa_nil))))))
  (pss_one (ps_ret (pe_op op_cat (pv 1) (pe_lst (pa_cons (pe_callB call_is1 (by rfl) T.m_isinstance (by decide +kernel) (pa_cons (pv 0) (pa_cons (pe_glob (v := .ref (ga K "NoHistory")) (by rfl) (gC "NoHistory" (by decide +kernel)) rfl) pa_nil))) pa_nil))))))))))))))))))
), ?_⟩
    have e0 := Ex.refl H
    refine q_asgL (el_lst (ea_cons (ev_isC (ev_var rfl) (.err (xat_mono e0 hX) xc) (S.so 0 "InvalidName" rfl)) (ea_cons (ev_isC (ev_var rfl) (.err (xat_mono e0 hX) xc) (S.so 1 "InvalidPart" rfl)) (ea_cons (ev_isC (ev_var rfl) (.err (xat_mono e0 hX) xc) (S.so 2 "InvalidSide" rfl)) ea_nil))) (show 3 ≤ 100000 by decide)) fun p1 H1 n1 f1 h1 => ?_
    have e1 := e0.trans f1
    refine q_asgL (el_cat (ev_var rfl) h1 (el_lst (ea_cons (ev_isC (ev_var rfl) (.err (xat_mono e1 hX) xc) (S.so 3 "InvalidDue" rfl)) (ea_cons (ev_isC (ev_var rfl) (.err (xat_mono e1 hX) xc) (S.so 4 "InvalidRule" rfl)) (ea_cons (ev_isC (ev_var rfl) (.err (xat_mono e1 hX) xc) (S.so 5 "InvalidRow" rfl)) ea_nil))) (show 3 ≤ 100000 by decide)) (show 3 + 3 ≤ 100000 by decide)) fun p2 H2 n2 f2 h2 => ?_
    have e2 := e1.trans f2
    refine q_asgL (el_cat (ev_var rfl) h2 (el_lst (ea_cons (ev_isC (ev_var rfl) (.err (xat_mono e2 hX) xc) (S.so 6 "InvalidText" rfl)) (ea_cons (ev_isC (ev_var rfl) (.err (xat_mono e2 hX) xc) (S.so 7 "InvalidTerm" rfl)) (ea_cons (ev_isC (ev_var rfl) (.err (xat_mono e2 hX) xc) (S.so 8 "InvalidLot" rfl)) ea_nil))) (show 3 ≤ 100000 by decide)) (show 6 + 3 ≤ 100000 by decide)) fun p3 H3 n3 f3 h3 => ?_
    have e3 := e2.trans f3
    refine q_asgL (el_cat (ev_var rfl) h3 (el_lst (ea_cons (ev_isC (ev_var rfl) (.err (xat_mono e3 hX) xc) (S.so 9 "NoStep" rfl)) (ea_cons (ev_isC (ev_var rfl) (.err (xat_mono e3 hX) xc) (S.so 10 "InvalidNumber" rfl)) (ea_cons (ev_isC (ev_var rfl) (.err (xat_mono e3 hX) xc) (S.so 11 "TooMany" rfl)) (ea_cons (ev_isC (ev_var rfl) (.err (xat_mono e3 hX) xc) (S.so 12 "TooGreat" rfl)) ea_nil)))) (show 4 ≤ 100000 by decide)) (show 9 + 4 ≤ 100000 by decide)) fun p4 H4 n4 f4 h4 => ?_
    have e4 := e3.trans f4
    refine q_asgL (el_cat (ev_var rfl) h4 (el_lst (ea_cons (ev_isC (ev_var rfl) (.err (xat_mono e4 hX) xc) (S.so 13 "TwiceHole" rfl)) (ea_cons (ev_isC (ev_var rfl) (.err (xat_mono e4 hX) xc) (S.so 14 "LooseHole" rfl)) (ea_cons (ev_isC (ev_var rfl) (.err (xat_mono e4 hX) xc) (S.so 15 "Overlaps" rfl)) ea_nil))) (show 3 ≤ 100000 by decide)) (show 13 + 3 ≤ 100000 by decide)) fun p5 H5 n5 f5 h5 => ?_
    have e5 := e4.trans f5
    refine q_asgL (el_cat (ev_var rfl) h5 (el_lst (ea_cons (ev_isC (ev_var rfl) (.err (xat_mono e5 hX) xc) (S.so 16 "NotTurned" rfl)) (ea_cons (ev_isC (ev_var rfl) (.err (xat_mono e5 hX) xc) (S.so 17 "OtherStart" rfl)) (ea_cons (ev_isC (ev_var rfl) (.err (xat_mono e5 hX) xc) (S.so 18 "OtherBook" rfl)) (ea_cons (ev_isC (ev_var rfl) (.err (xat_mono e5 hX) xc) (S.so 19 "Alike" rfl)) ea_nil)))) (show 4 ≤ 100000 by decide)) (show 16 + 4 ≤ 100000 by decide)) fun p6 H6 n6 f6 h6 => ?_
    have e6 := e5.trans f6
    refine q_asgL (el_cat (ev_var rfl) h6 (el_lst (ea_cons (ev_isC (ev_var rfl) (.err (xat_mono e6 hX) xc) (S.so 20 "Strikes" rfl)) (ea_cons (ev_isC (ev_var rfl) (.err (xat_mono e6 hX) xc) (S.so 21 "Copies" rfl)) (ea_cons (ev_isC (ev_var rfl) (.err (xat_mono e6 hX) xc) (S.so 22 "NotPiece" rfl)) (ea_cons (ev_isC (ev_var rfl) (.err (xat_mono e6 hX) xc) (S.so 23 "Clash" rfl)) ea_nil)))) (show 4 ≤ 100000 by decide)) (show 20 + 4 ≤ 100000 by decide)) fun p7 H7 n7 f7 h7 => ?_
    have e7 := e6.trans f7
    refine q_asgL (el_cat (ev_var rfl) h7 (el_lst (ea_cons (ev_isC (ev_var rfl) (.err (xat_mono e7 hX) xc) (S.so 24 "NoRest" rfl)) (ea_cons (ev_isC (ev_var rfl) (.err (xat_mono e7 hX) xc) (S.so 25 "Needed" rfl)) (ea_cons (ev_isC (ev_var rfl) (.err (xat_mono e7 hX) xc) (S.so 26 "InvalidKnot" rfl)) ea_nil))) (show 3 ≤ 100000 by decide)) (show 24 + 3 ≤ 100000 by decide)) fun p8 H8 n8 f8 h8 => ?_
    have e8 := e7.trans f8
    refine q_asgL (el_cat (ev_var rfl) h8 (el_lst (ea_cons (ev_isC (ev_var rfl) (.err (xat_mono e8 hX) xc) (S.so 27 "InvalidMaker" rfl)) (ea_cons (ev_isC (ev_var rfl) (.err (xat_mono e8 hX) xc) (S.so 28 "NotSplit" rfl)) (ea_cons (ev_isC (ev_var rfl) (.err (xat_mono e8 hX) xc) (S.so 29 "NoTree" rfl)) ea_nil))) (show 3 ≤ 100000 by decide)) (show 27 + 3 ≤ 100000 by decide)) fun p9 H9 n9 f9 h9 => ?_
    have e9 := e8.trans f9
    refine q_asgL (el_cat (ev_var rfl) h9 (el_lst (ea_cons (ev_isC (ev_var rfl) (.err (xat_mono e9 hX) xc) (S.so 30 "NotWithin" rfl)) (ea_cons (ev_isC (ev_var rfl) (.err (xat_mono e9 hX) xc) (S.so 31 "NotClosed" rfl)) (ea_cons (ev_isC (ev_var rfl) (.err (xat_mono e9 hX) xc) (S.so 32 "NotRow" rfl)) (ea_cons (ev_isC (ev_var rfl) (.err (xat_mono e9 hX) xc) (S.so 33 "NotKey" rfl)) ea_nil)))) (show 4 ≤ 100000 by decide)) (show 30 + 4 ≤ 100000 by decide)) fun p10 H10 n10 f10 h10 => ?_
    have e10 := e9.trans f10
    refine q_asgL (el_cat (ev_var rfl) h10 (el_lst (ea_cons (ev_isC (ev_var rfl) (.err (xat_mono e10 hX) xc) (S.so 34 "DuplicateName" rfl)) (ea_cons (ev_isC (ev_var rfl) (.err (xat_mono e10 hX) xc) (S.so 35 "LastHand" rfl)) (ea_cons (ev_isC (ev_var rfl) (.err (xat_mono e10 hX) xc) (S.so 36 "InvalidDeed" rfl)) ea_nil))) (show 3 ≤ 100000 by decide)) (show 34 + 3 ≤ 100000 by decide)) fun p11 H11 n11 f11 h11 => ?_
    have e11 := e10.trans f11
    refine q_asgL (el_cat (ev_var rfl) h11 (el_lst (ea_cons (ev_isC (ev_var rfl) (.err (xat_mono e11 hX) xc) (S.so 37 "UnknownName" rfl)) (ea_cons (ev_isC (ev_var rfl) (.err (xat_mono e11 hX) xc) (S.so 38 "UnknownDoer" rfl)) (ea_cons (ev_isC (ev_var rfl) (.err (xat_mono e11 hX) xc) (S.so 39 "UnknownEvent" rfl)) ea_nil))) (show 3 ≤ 100000 by decide)) (show 37 + 3 ≤ 100000 by decide)) fun p12 H12 n12 f12 h12 => ?_
    have e12 := e11.trans f12
    refine q_asgL (el_cat (ev_var rfl) h12 (el_lst (ea_cons (ev_isC (ev_var rfl) (.err (xat_mono e12 hX) xc) (S.so 40 "UnknownLetter" rfl)) (ea_cons (ev_isC (ev_var rfl) (.err (xat_mono e12 hX) xc) (S.so 41 "NoPlace" rfl)) (ea_cons (ev_isC (ev_var rfl) (.err (xat_mono e12 hX) xc) (S.so 42 "NoOrder" rfl)) ea_nil))) (show 3 ≤ 100000 by decide)) (show 40 + 3 ≤ 100000 by decide)) fun p13 H13 n13 f13 h13 => ?_
    have e13 := e12.trans f13
    refine s_retL (el_cat (ev_var rfl) h13 (el_lst (ea_cons (ev_isC (ev_var rfl) (.err (xat_mono e13 hX) xc) (S.so 43 "NoHistory" rfl)) ea_nil) (show 1 ≤ 100000 by decide)) (show 43 + 1 ≤ 100000 by decide)) fun p14 H14 n14 f14 h14 => ?_
    exact q.go e13 n14 f14 h14
theorem ok__law_bases {f : Addr} {fd : FuncData} (F : FunD K "_law_bases" "_law_bases" (defArgs s__law_bases) (defBody s__law_bases) (defScope s__law_bases) [] [] f fd) (g : mg "_law_bases" = some (.ref f)) (T : Bx mg) (gC : ∀ x, x ∈ clsN → mg x = some (.ref (ga K x))) :
    Cal P w K mg base 1 "_law_bases" (spBases K) [] := by
  refine ⟨f, fd, ["_law_e"], [], F.ok sc__law_bases (fun vs H Q E h => ?_) (fun cdv A outer s H vs Q E hr h => ?_), g, F.kp, FunD.bindsN F fun _ _ _ _ _ _ us hl => match us, hl with | [_], _ => rfl, .nil⟩
  · obtain ⟨a, C, fs, n, rfl, _⟩ := h
    rfl
  · obtain ⟨a, C, fs, n, rfl, hX, xc, S, q⟩ := h
    refine ⟨_, PSs.nox (
(pss_cons (ps_set (i := 1) sc__law_bases.nd rfl (.inl rfl) (pe_lst (pa_cons (pe_callB call_is1 (by rfl) T.m_isinstance (by decide +kernel) (pa_cons (pv 0) (pa_cons (pe_glob (v := .ref (ga K "WorkError")) (by rfl) (gC "WorkError" (by decide +kernel)) rfl) pa_nil))) (pa_cons (pe_callB call_is1 (by rfl) T.m_isinstance (by decide +kernel) (pa_cons (pv 0) (pa_cons (pe_bltn (v := .ty "ValueError") (by rfl) T.m_ValueError (by decide +kernel) rfl) pa_nil))) (pa_cons (pe_callB call_is1 (by rfl) T.m_isinstance (by decide +kernel) (pa_cons (pv 0) (pa_cons (pe_glob (v := .ref (ga K "Missing")) (by rfl) (gC "Missing" (by decide +kernel)) rfl) pa_nil))) (pa_cons (pe_callB call_is1 (by rfl) T.m_isinstance (by decide +kernel) (pa_cons (pv 0) (pa_cons (pe_bltn (v := .ty "LookupError") (by rfl) T.m_LookupError (by decide +kernel) rfl) pa_nil))) pa_nil))))))
  (pss_one (ps_ret (pe_op op_cat (pv 1) (pe_lst (pa_cons (pe_callB call_is1 (by rfl) T.m_isinstance (by decide +kernel) (pa_cons (pv 0) (pa_cons (pe_glob (v := .ref (ga K "NothingLeft")) (by rfl) (gC "NothingLeft" (by decide +kernel)) rfl) pa_nil))) (pa_cons (pe_callB call_is1 (by rfl) T.m_isinstance (by decide +kernel) (pa_cons (pv 0) (pa_cons (pe_bltn (v := .ty "IndexError") (by rfl) T.m_IndexError (by decide +kernel) rfl) pa_nil))) (pa_cons (pe_callB call_is1 (by rfl) T.m_isinstance (by decide +kernel) (pa_cons (pv 0) (pa_cons (pe_bltn (v := .ty "KeyError") (by rfl) T.m_KeyError (by decide +kernel) rfl) pa_nil))) (pa_cons (pe_callB call_is1 (by rfl) T.m_isinstance (by decide +kernel) (pa_cons (pv 0) (pa_cons (pe_bltn (v := .ty "ArithmeticError") (by rfl) T.m_ArithmeticError (by decide +kernel) rfl) pa_nil))) pa_nil)))))))))
), ?_⟩
    refine q_asgL (el_lst (ea_cons (ev_isC (ev_var rfl) (.err (xat_mono (Ex.refl H) hX) xc) S.b0) (ea_cons (ev_is1 (ev_var rfl) (.err (xat_mono (Ex.refl H) hX) xc) S.b1) (ea_cons (ev_isC (ev_var rfl) (.err (xat_mono (Ex.refl H) hX) xc) S.b2) (ea_cons (ev_is1 (ev_var rfl) (.err (xat_mono (Ex.refl H) hX) xc) S.b3) ea_nil)))) (show 4 ≤ 100000 by decide)) fun p1 H1 n1 f1 h1 => ?_
    refine s_retL (el_cat (ev_var rfl) h1 (el_lst (ea_cons (ev_isC (ev_var rfl) (.err (xat_mono f1 hX) xc) S.b4) (ea_cons (ev_is1 (ev_var rfl) (.err (xat_mono f1 hX) xc) S.b5) (ea_cons (ev_is1 (ev_var rfl) (.err (xat_mono f1 hX) xc) S.b6) (ea_cons (ev_is1 (ev_var rfl) (.err (xat_mono f1 hX) xc) S.b7) ea_nil)))) (show 4 ≤ 100000 by decide)) (show 4 + 4 ≤ 100000 by decide)) fun p2 H2 n2 f2 h2 => ?_
    exact q.go f1 n2 f2 h2
end
end K00

namespace K00
open PySem PySem.Spec PyProof.Rows L2 Evl XV C8 He RZ
def flN (n : Nat) : List Str := (exL.map fun p => p.2).getD n []
theorem sc__law_by_place : FnScope ["_law_v", "_law_k", "_law_x", "_law_w", "_law_found"] ["_law_v", "_law_k", "_law_x", "_law_w"] (defScope s__law_by_place) := ⟨rfl, rfl, rfl, by decide +kernel, rfl, by decide +kernel, by decide +kernel⟩
theorem sc__law_by_name : FnScope ["_law_v", "_law_k", "_law_x", "_law_w", "_law_found"] ["_law_v", "_law_k", "_law_x", "_law_w"] (defScope s__law_by_name) := ⟨rfl, rfl, rfl, by decide +kernel, rfl, by decide +kernel, by decide +kernel⟩
theorem fl_0 : ∀ n : Nat, n < 44 → inV (V.int (n : Int)) [V.int 0, V.int 3, V.int 10] = true → flN n = (["value"] : List Str) := by decide +kernel
theorem fl_1 : ∀ n : Nat, n < 44 → inV (V.int (n : Int)) [V.int 1, V.int 4, V.int 5, V.int 8, V.int 16, V.int 26, V.int 27, V.int 32, V.int 36] = true → flN n = (["at"] : List Str) := by decide +kernel
theorem fl_2 : ∀ n : Nat, n < 44 → inV (V.int (n : Int)) [V.int 2, V.int 24] = true → flN n = (["word"] : List Str) := by decide +kernel
theorem fl_3 : ∀ n : Nat, n < 44 → inV (V.int (n : Int)) [V.int 6] = true → flN n = (["line", "at"] : List Str) := by decide +kernel
theorem fl_4 : ∀ n : Nat, n < 44 → inV (V.int (n : Int)) [V.int 9] = true → flN n = (["at", "place"] : List Str) := by decide +kernel
theorem fl_5 : ∀ n : Nat, n < 44 → inV (V.int (n : Int)) [V.int 11] = true → flN n = (["most"] : List Str) := by decide +kernel
theorem fl_6 : ∀ n : Nat, n < 44 → inV (V.int (n : Int)) [V.int 13, V.int 14] = true → flN n = (["hole"] : List Str) := by decide +kernel
theorem fl_7 : ∀ n : Nat, n < 44 → inV (V.int (n : Int)) [V.int 15] = true → flN n = (["one", "other", "place", "piece"] : List Str) := by decide +kernel
theorem fl_8 : ∀ n : Nat, n < 44 → inV (V.int (n : Int)) [V.int 20, V.int 21] = true → flN n = (["rule"] : List Str) := by decide +kernel
theorem fl_9 : ∀ n : Nat, n < 44 → inV (V.int (n : Int)) [V.int 23, V.int 25, V.int 41] = true → flN n = (["place"] : List Str) := by decide +kernel
theorem fl_10 : ∀ n : Nat, n < 44 → inV (V.int (n : Int)) [V.int 28] = true → flN n = (["rule", "place"] : List Str) := by decide +kernel
theorem fl_11 : ∀ n : Nat, n < 44 → inV (V.int (n : Int)) [V.int 29] = true → flN n = (["doer", "sides", "piece"] : List Str) := by decide +kernel
theorem fl_12 : ∀ n : Nat, n < 44 → inV (V.int (n : Int)) [V.int 31] = true → flN n = (["event", "cause"] : List Str) := by decide +kernel
theorem fl_13 : ∀ n : Nat, n < 44 → inV (V.int (n : Int)) [V.int 34, V.int 37] = true → flN n = (["name"] : List Str) := by decide +kernel
theorem fl_14 : ∀ n : Nat, n < 44 → inV (V.int (n : Int)) [V.int 38] = true → flN n = (["doer"] : List Str) := by decide +kernel
theorem fl_15 : ∀ n : Nat, n < 44 → inV (V.int (n : Int)) [V.int 39] = true → flN n = (["event"] : List Str) := by decide +kernel
theorem fl_16 : ∀ n : Nat, n < 44 → inV (V.int (n : Int)) [V.int 40, V.int 42] = true → flN n = (["number"] : List Str) := by decide +kernel
theorem fl_z : ∀ n : Nat, n < 44 → (inV (V.int (n : Int)) [V.int 0, V.int 3, V.int 10] || (inV (V.int (n : Int)) [V.int 1, V.int 4, V.int 5, V.int 8, V.int 16, V.int 26, V.int 27, V.int 32, V.int 36] || (inV (V.int (n : Int)) [V.int 2, V.int 24] || (inV (V.int (n : Int)) [V.int 6] || (inV (V.int (n : Int)) [V.int 9] || (inV (V.int (n : Int)) [V.int 11] || (inV (V.int (n : Int)) [V.int 13, V.int 14] || (inV (V.int (n : Int)) [V.int 15] || (inV (V.int (n : Int)) [V.int 20, V.int 21] || (inV (V.int (n : Int)) [V.int 23, V.int 25, V.int 41] || (inV (V.int (n : Int)) [V.int 28] || (inV (V.int (n : Int)) [V.int 29] || (inV (V.int (n : Int)) [V.int 31] || (inV (V.int (n : Int)) [V.int 34, V.int 37] || (inV (V.int (n : Int)) [V.int 38] || (inV (V.int (n : Int)) [V.int 39] || (inV (V.int (n : Int)) [V.int 40, V.int 42]))))))))))))))))) = false → flN n = ([] : List Str) := by decide +kernel
def spFields (K : PySem.W.Frag) : Sp := fun vs H Q _ => ∃ (n : Nat) (a C : Addr) (code : Str) (ys : List V), vs = [.int (n : Int), .ref a] ∧ n < 44 ∧ XAt H a C (fldsX code (flN n) ys) ∧ ys.length = (flN n).length ∧ XC K C ∧ Free K C ("code" :: flN n) ∧
  ∀ p H', H p = none → Ex H H' → H' p = some (.tup ys) → Q (.ref p) H'
theorem ev_xg {K : PySem.W.Frag} {σ : L2.St} {H : Hp} {te : TE} {a C : Addr} {fs : List (Str × V)} {f : Str} {v : V} (h : Ev te σ H (.ref a)) (hX : XAt H a C fs) (xc : XC K C) (hf : PySem.W.findIn K (.ref C) f = some none) (l : fs.lookup f = some v) : Ev (tXg K f te) σ H v := fun H1 e Q q =>
  h H1 e _ fun H2 e2 => ⟨a, C, fs, v, rfl, xat_mono (e.trans e2) hX, xc, hf, l, q H2 e2⟩
section
variable {P : Program} {w : World} {K : PySem.W.Frag} {mg : Str → Option Value} {base : Heap}
theorem ok__law_fields {f : Addr} {fd : FuncData} (F : FunD K "_law_fields" "_law_fields" (defArgs s__law_fields) (defBody s__law_fields) (defScope s__law_fields) [] [] f fd) (g : mg "_law_fields" = some (.ref f)) :
    Cal P w K mg base 1 "_law_fields" (spFields K) [] := by
  refine ⟨f, fd, ["_law_k", "_law_e"], [], F.ok sc__law_fields (fun vs H Q E h => ?_) (fun cdv A outer s H vs Q E hr h => ?_), g, F.kp, FunD.bindsN F fun _ _ _ _ _ _ us hl => match us, hl with | [_, _], _ => rfl, .nil⟩
  · obtain ⟨n, a, C, code, ys, rfl, _⟩ := h
    rfl
  · obtain ⟨n, a, C, code, ys, rfl, hn, hX, hy, xc, nf, q⟩ := h
    refine ⟨_, PSs.nox (
(pss_cons (ps_if (pt_cmpR op_in_seq (pv 0) (pe_lst (pa_cons pe_int (pa_cons pe_int (pa_cons pe_int pa_nil)))) (by rfl))
  (pss_one (ps_ret (pe_tup (pa_cons (pe_xg (pv 1)) pa_nil))))
  pss_nil)
  (pss_cons (ps_if (pt_cmpR op_in_seq (pv 0) (pe_lst (pa_cons pe_int (pa_cons pe_int (pa_cons pe_int (pa_cons pe_int (pa_cons pe_int (pa_cons pe_int (pa_cons pe_int (pa_cons pe_int (pa_cons pe_int pa_nil)))))))))) (by rfl))
  (pss_one (ps_ret (pe_tup (pa_cons (pe_xg (pv 1)) pa_nil))))
  pss_nil)
  (pss_cons (ps_if (pt_cmpR op_in_seq (pv 0) (pe_lst (pa_cons pe_int (pa_cons pe_int pa_nil))) (by rfl))
  (pss_one (ps_ret (pe_tup (pa_cons (pe_xg (pv 1)) pa_nil))))
  pss_nil)
  (pss_cons (ps_if (pt_cmpR op_in_seq (pv 0) (pe_lst (pa_cons pe_int pa_nil)) (by rfl))
  (pss_one (ps_ret (pe_tup (pa_cons (pe_xg (pv 1)) (pa_cons (pe_xg (pv 1)) pa_nil)))))
  pss_nil)
  (pss_cons (ps_if (pt_cmpR op_in_seq (pv 0) (pe_lst (pa_cons pe_int pa_nil)) (by rfl))
  (pss_one (ps_ret (pe_tup (pa_cons (pe_xg (pv 1)) (pa_cons (pe_xg (pv 1)) pa_nil)))))
  pss_nil)
  (pss_cons (ps_if (pt_cmpR op_in_seq (pv 0) (pe_lst (pa_cons pe_int pa_nil)) (by rfl))
  (pss_one (ps_ret (pe_tup (pa_cons (pe_xg (pv 1)) pa_nil))))
  pss_nil)
  (pss_cons (ps_if (pt_cmpR op_in_seq (pv 0) (pe_lst (pa_cons pe_int (pa_cons pe_int pa_nil))) (by rfl))
  (pss_one (ps_ret (pe_tup (pa_cons (pe_xg (pv 1)) pa_nil))))
  pss_nil)
  (pss_cons (ps_if (pt_cmpR op_in_seq (pv 0) (pe_lst (pa_cons pe_int pa_nil)) (by rfl))
  (pss_one (ps_ret (pe_tup (pa_cons (pe_xg (pv 1)) (pa_cons (pe_xg (pv 1)) (pa_cons (pe_xg (pv 1)) (pa_cons (pe_xg (pv 1)) pa_nil)))))))
  pss_nil)
  (pss_cons (ps_if (pt_cmpR op_in_seq (pv 0) (pe_lst (pa_cons pe_int (pa_cons pe_int pa_nil))) (by rfl))
  (pss_one (ps_ret (pe_tup (pa_cons (pe_xg (pv 1)) pa_nil))))
  pss_nil)
  (pss_cons (ps_if (pt_cmpR op_in_seq (pv 0) (pe_lst (pa_cons pe_int (pa_cons pe_int (pa_cons pe_int pa_nil)))) (by rfl))
  (pss_one (ps_ret (pe_tup (pa_cons (pe_xg (pv 1)) pa_nil))))
  pss_nil)
  (pss_cons (ps_if (pt_cmpR op_in_seq (pv 0) (pe_lst (pa_cons pe_int pa_nil)) (by rfl))
  (pss_one (ps_ret (pe_tup (pa_cons (pe_xg (pv 1)) (pa_cons (pe_xg (pv 1)) pa_nil)))))
  pss_nil)
  (pss_cons (ps_if (pt_cmpR op_in_seq (pv 0) (pe_lst (pa_cons pe_int pa_nil)) (by rfl))
  (pss_one (ps_ret (pe_tup (pa_cons (pe_xg (pv 1)) (pa_cons (pe_xg (pv 1)) (pa_cons (pe_xg (pv 1)) pa_nil))))))
  pss_nil)
  (pss_cons (ps_if (pt_cmpR op_in_seq (pv 0) (pe_lst (pa_cons pe_int pa_nil)) (by rfl))
  (pss_one (ps_ret (pe_tup (pa_cons (pe_xg (pv 1)) (pa_cons (pe_xg (pv 1)) pa_nil)))))
  pss_nil)
  (pss_cons (ps_if (pt_cmpR op_in_seq (pv 0) (pe_lst (pa_cons pe_int (pa_cons pe_int pa_nil))) (by rfl))
  (pss_one (ps_ret (pe_tup (pa_cons (pe_xg (pv 1)) pa_nil))))
  pss_nil)
  (pss_cons (ps_if (pt_cmpR op_in_seq (pv 0) (pe_lst (pa_cons pe_int pa_nil)) (by rfl))
  (pss_one (ps_ret (pe_tup (pa_cons (pe_xg (pv 1)) pa_nil))))
  pss_nil)
  (pss_cons (ps_if (pt_cmpR op_in_seq (pv 0) (pe_lst (pa_cons pe_int pa_nil)) (by rfl))
  (pss_one (ps_ret (pe_tup (pa_cons (pe_xg (pv 1)) pa_nil))))
  pss_nil)
  (pss_cons (ps_if (pt_cmpR op_in_seq (pv 0) (pe_lst (pa_cons pe_int (pa_cons pe_int pa_nil))) (by rfl))
  (pss_one (ps_ret (pe_tup (pa_cons (pe_xg (pv 1)) pa_nil))))
  pss_nil)
  (pss_one (ps_ret (pe_tup pa_nil))))))))))))))))))))
), ?_⟩
    have e0 := Ex.refl H
    refine q_when (et_test (ev_opL (ev_var rfl) (el_lst (ea_cons ev_c (ea_cons ev_c (ea_cons ev_c ea_nil))) (by decide)) fun p H1 h _ => rv_isL (sq_of h) rfl rfl)) (fun hb H1 e => ?_) (fun b1 H1 f1 => ?_)
    · have hf := fl_0 n hn hb
      rw [hf] at hX hy nf
      match ys, hy with
      | [y0], _ => exact s_retU (eu_tup (ea_cons (ev_xg (ev_var rfl) (xat_mono (e0.trans e) hX) xc (nf _ (by simp)) rfl) ea_nil) (show 1 ≤ 100000 by decide)) fun p Hz h0 ez hz => q p Hz (fresh_back (e0.trans e) h0) ((e0.trans e).trans ez) hz
    have e1 := e0.trans f1
    refine q_when (et_test (ev_opL (ev_var rfl) (el_lst (ea_cons ev_c (ea_cons ev_c (ea_cons ev_c (ea_cons ev_c (ea_cons ev_c (ea_cons ev_c (ea_cons ev_c (ea_cons ev_c (ea_cons ev_c ea_nil))))))))) (by decide)) fun p H1 h _ => rv_isL (sq_of h) rfl rfl)) (fun hb H1 e => ?_) (fun b2 H2 f2 => ?_)
    · have hf := fl_1 n hn hb
      rw [hf] at hX hy nf
      match ys, hy with
      | [y0], _ => exact s_retU (eu_tup (ea_cons (ev_xg (ev_var rfl) (xat_mono (e1.trans e) hX) xc (nf _ (by simp)) rfl) ea_nil) (show 1 ≤ 100000 by decide)) fun p Hz h0 ez hz => q p Hz (fresh_back (e1.trans e) h0) ((e1.trans e).trans ez) hz
    have e2 := e1.trans f2
    refine q_when (et_test (ev_opL (ev_var rfl) (el_lst (ea_cons ev_c (ea_cons ev_c ea_nil)) (by decide)) fun p H1 h _ => rv_isL (sq_of h) rfl rfl)) (fun hb H1 e => ?_) (fun b3 H3 f3 => ?_)
    · have hf := fl_2 n hn hb
      rw [hf] at hX hy nf
      match ys, hy with
      | [y0], _ => exact s_retU (eu_tup (ea_cons (ev_xg (ev_var rfl) (xat_mono (e2.trans e) hX) xc (nf _ (by simp)) rfl) ea_nil) (show 1 ≤ 100000 by decide)) fun p Hz h0 ez hz => q p Hz (fresh_back (e2.trans e) h0) ((e2.trans e).trans ez) hz
    have e3 := e2.trans f3
    refine q_when (et_test (ev_opL (ev_var rfl) (el_lst (ea_cons ev_c ea_nil) (by decide)) fun p H1 h _ => rv_isL (sq_of h) rfl rfl)) (fun hb H1 e => ?_) (fun b4 H4 f4 => ?_)
    · have hf := fl_3 n hn hb
      rw [hf] at hX hy nf
      match ys, hy with
      | [y0, y1], _ => exact s_retU (eu_tup (ea_cons (ev_xg (ev_var rfl) (xat_mono (e3.trans e) hX) xc (nf _ (by simp)) rfl) (ea_cons (ev_xg (ev_var rfl) (xat_mono (e3.trans e) hX) xc (nf _ (by simp)) rfl) ea_nil)) (show 2 ≤ 100000 by decide)) fun p Hz h0 ez hz => q p Hz (fresh_back (e3.trans e) h0) ((e3.trans e).trans ez) hz
    have e4 := e3.trans f4
    refine q_when (et_test (ev_opL (ev_var rfl) (el_lst (ea_cons ev_c ea_nil) (by decide)) fun p H1 h _ => rv_isL (sq_of h) rfl rfl)) (fun hb H1 e => ?_) (fun b5 H5 f5 => ?_)
    · have hf := fl_4 n hn hb
      rw [hf] at hX hy nf
      match ys, hy with
      | [y0, y1], _ => exact s_retU (eu_tup (ea_cons (ev_xg (ev_var rfl) (xat_mono (e4.trans e) hX) xc (nf _ (by simp)) rfl) (ea_cons (ev_xg (ev_var rfl) (xat_mono (e4.trans e) hX) xc (nf _ (by simp)) rfl) ea_nil)) (show 2 ≤ 100000 by decide)) fun p Hz h0 ez hz => q p Hz (fresh_back (e4.trans e) h0) ((e4.trans e).trans ez) hz
    have e5 := e4.trans f5
    refine q_when (et_test (ev_opL (ev_var rfl) (el_lst (ea_cons ev_c ea_nil) (by decide)) fun p H1 h _ => rv_isL (sq_of h) rfl rfl)) (fun hb H1 e => ?_) (fun b6 H6 f6 => ?_)
    · have hf := fl_5 n hn hb
      rw [hf] at hX hy nf
      match ys, hy with
      | [y0], _ => exact s_retU (eu_tup (ea_cons (ev_xg (ev_var rfl) (xat_mono (e5.trans e) hX) xc (nf _ (by simp)) rfl) ea_nil) (show 1 ≤ 100000 by decide)) fun p Hz h0 ez hz => q p Hz (fresh_back (e5.trans e) h0) ((e5.trans e).trans ez) hz
    have e6 := e5.trans f6
    refine q_when (et_test (ev_opL (ev_var rfl) (el_lst (ea_cons ev_c (ea_cons ev_c ea_nil)) (by decide)) fun p H1 h _ => rv_isL (sq_of h) rfl rfl)) (fun hb H1 e => ?_) (fun b7 H7 f7 => ?_)
    · have hf := fl_6 n hn hb
      rw [hf] at hX hy nf
      match ys, hy with
      | [y0], _ => exact s_retU (eu_tup (ea_cons (ev_xg (ev_var rfl) (xat_mono (e6.trans e) hX) xc (nf _ (by simp)) rfl) ea_nil) (show 1 ≤ 100000 by decide)) fun p Hz h0 ez hz => q p Hz (fresh_back (e6.trans e) h0) ((e6.trans e).trans ez) hz
    have e7 := e6.trans f7
    refine q_when (et_test (ev_opL (ev_var rfl) (el_lst (ea_cons ev_c ea_nil) (by decide)) fun p H1 h _ => rv_isL (sq_of h) rfl rfl)) (fun hb H1 e => ?_) (fun b8 H8 f8 => ?_)
    · have hf := fl_7 n hn hb
      rw [hf] at hX hy nf
      match ys, hy with
      | [y0, y1, y2, y3], _ => exact s_retU (eu_tup (ea_cons (ev_xg (ev_var rfl) (xat_mono (e7.trans e) hX) xc (nf _ (by simp)) rfl) (ea_cons (ev_xg (ev_var rfl) (xat_mono (e7.trans e) hX) xc (nf _ (by simp)) rfl) (ea_cons (ev_xg (ev_var rfl) (xat_mono (e7.trans e) hX) xc (nf _ (by simp)) rfl) (ea_cons (ev_xg (ev_var rfl) (xat_mono (e7.trans e) hX) xc (nf _ (by simp)) rfl) ea_nil)))) (show 4 ≤ 100000 by decide)) fun p Hz h0 ez hz => q p Hz (fresh_back (e7.trans e) h0) ((e7.trans e).trans ez) hz
    have e8 := e7.trans f8
    refine q_when (et_test (ev_opL (ev_var rfl) (el_lst (ea_cons ev_c (ea_cons ev_c ea_nil)) (by decide)) fun p H1 h _ => rv_isL (sq_of h) rfl rfl)) (fun hb H1 e => ?_) (fun b9 H9 f9 => ?_)
    · have hf := fl_8 n hn hb
      rw [hf] at hX hy nf
      match ys, hy with
      | [y0], _ => exact s_retU (eu_tup (ea_cons (ev_xg (ev_var rfl) (xat_mono (e8.trans e) hX) xc (nf _ (by simp)) rfl) ea_nil) (show 1 ≤ 100000 by decide)) fun p Hz h0 ez hz => q p Hz (fresh_back (e8.trans e) h0) ((e8.trans e).trans ez) hz
    have e9 := e8.trans f9
    refine q_when (et_test (ev_opL (ev_var rfl) (el_lst (ea_cons ev_c (ea_cons ev_c (ea_cons ev_c ea_nil))) (by decide)) fun p H1 h _ => rv_isL (sq_of h) rfl rfl)) (fun hb H1 e => ?_) (fun b10 H10 f10 => ?_)
    · have hf := fl_9 n hn hb
      rw [hf] at hX hy nf
      match ys, hy with
      | [y0], _ => exact s_retU (eu_tup (ea_cons (ev_xg (ev_var rfl) (xat_mono (e9.trans e) hX) xc (nf _ (by simp)) rfl) ea_nil) (show 1 ≤ 100000 by decide)) fun p Hz h0 ez hz => q p Hz (fresh_back (e9.trans e) h0) ((e9.trans e).trans ez) hz
    have e10 := e9.trans f10
    refine q_when (et_test (ev_opL (ev_var rfl) (el_lst (ea_cons ev_c ea_nil) (by decide)) fun p H1 h _ => rv_isL (sq_of h) rfl rfl)) (fun hb H1 e => ?_) (fun b11 H11 f11 => ?_)
    · have hf := fl_10 n hn hb
      rw [hf] at hX hy nf
      match ys, hy with
      | [y0, y1], _ => exact s_retU (eu_tup (ea_cons (ev_xg (ev_var rfl) (xat_mono (e10.trans e) hX) xc (nf _ (by simp)) rfl) (ea_cons (ev_xg (ev_var rfl) (xat_mono (e10.trans e) hX) xc (nf _ (by simp)) rfl) ea_nil)) (show 2 ≤ 100000 by decide)) fun p Hz h0 ez hz => q p Hz (fresh_back (e10.trans e) h0) ((e10.trans e).trans ez) hz
    have e11 := e10.trans f11
    refine q_when (et_test (ev_opL (ev_var rfl) (el_lst (ea_cons ev_c ea_nil) (by decide)) fun p H1 h _ => rv_isL (sq_of h) rfl rfl)) (fun hb H1 e => ?_) (fun b12 H12 f12 => ?_)
    · have hf := fl_11 n hn hb
      rw [hf] at hX hy nf
      match ys, hy with
      | [y0, y1, y2], _ => exact s_retU (eu_tup (ea_cons (ev_xg (ev_var rfl) (xat_mono (e11.trans e) hX) xc (nf _ (by simp)) rfl) (ea_cons (ev_xg (ev_var rfl) (xat_mono (e11.trans e) hX) xc (nf _ (by simp)) rfl) (ea_cons (ev_xg (ev_var rfl) (xat_mono (e11.trans e) hX) xc (nf _ (by simp)) rfl) ea_nil))) (show 3 ≤ 100000 by decide)) fun p Hz h0 ez hz => q p Hz (fresh_back (e11.trans e) h0) ((e11.trans e).trans ez) hz
    have e12 := e11.trans f12
    refine q_when (et_test (ev_opL (ev_var rfl) (el_lst (ea_cons ev_c ea_nil) (by decide)) fun p H1 h _ => rv_isL (sq_of h) rfl rfl)) (fun hb H1 e => ?_) (fun b13 H13 f13 => ?_)
    · have hf := fl_12 n hn hb
      rw [hf] at hX hy nf
      match ys, hy with
      | [y0, y1], _ => exact s_retU (eu_tup (ea_cons (ev_xg (ev_var rfl) (xat_mono (e12.trans e) hX) xc (nf _ (by simp)) rfl) (ea_cons (ev_xg (ev_var rfl) (xat_mono (e12.trans e) hX) xc (nf _ (by simp)) rfl) ea_nil)) (show 2 ≤ 100000 by decide)) fun p Hz h0 ez hz => q p Hz (fresh_back (e12.trans e) h0) ((e12.trans e).trans ez) hz
    have e13 := e12.trans f13
    refine q_when (et_test (ev_opL (ev_var rfl) (el_lst (ea_cons ev_c (ea_cons ev_c ea_nil)) (by decide)) fun p H1 h _ => rv_isL (sq_of h) rfl rfl)) (fun hb H1 e => ?_) (fun b14 H14 f14 => ?_)
    · have hf := fl_13 n hn hb
      rw [hf] at hX hy nf
      match ys, hy with
      | [y0], _ => exact s_retU (eu_tup (ea_cons (ev_xg (ev_var rfl) (xat_mono (e13.trans e) hX) xc (nf _ (by simp)) rfl) ea_nil) (show 1 ≤ 100000 by decide)) fun p Hz h0 ez hz => q p Hz (fresh_back (e13.trans e) h0) ((e13.trans e).trans ez) hz
    have e14 := e13.trans f14
    refine q_when (et_test (ev_opL (ev_var rfl) (el_lst (ea_cons ev_c ea_nil) (by decide)) fun p H1 h _ => rv_isL (sq_of h) rfl rfl)) (fun hb H1 e => ?_) (fun b15 H15 f15 => ?_)
    · have hf := fl_14 n hn hb
      rw [hf] at hX hy nf
      match ys, hy with
      | [y0], _ => exact s_retU (eu_tup (ea_cons (ev_xg (ev_var rfl) (xat_mono (e14.trans e) hX) xc (nf _ (by simp)) rfl) ea_nil) (show 1 ≤ 100000 by decide)) fun p Hz h0 ez hz => q p Hz (fresh_back (e14.trans e) h0) ((e14.trans e).trans ez) hz
    have e15 := e14.trans f15
    refine q_when (et_test (ev_opL (ev_var rfl) (el_lst (ea_cons ev_c ea_nil) (by decide)) fun p H1 h _ => rv_isL (sq_of h) rfl rfl)) (fun hb H1 e => ?_) (fun b16 H16 f16 => ?_)
    · have hf := fl_15 n hn hb
      rw [hf] at hX hy nf
      match ys, hy with
      | [y0], _ => exact s_retU (eu_tup (ea_cons (ev_xg (ev_var rfl) (xat_mono (e15.trans e) hX) xc (nf _ (by simp)) rfl) ea_nil) (show 1 ≤ 100000 by decide)) fun p Hz h0 ez hz => q p Hz (fresh_back (e15.trans e) h0) ((e15.trans e).trans ez) hz
    have e16 := e15.trans f16
    refine q_when (et_test (ev_opL (ev_var rfl) (el_lst (ea_cons ev_c (ea_cons ev_c ea_nil)) (by decide)) fun p H1 h _ => rv_isL (sq_of h) rfl rfl)) (fun hb H1 e => ?_) (fun b17 H17 f17 => ?_)
    · have hf := fl_16 n hn hb
      rw [hf] at hX hy nf
      match ys, hy with
      | [y0], _ => exact s_retU (eu_tup (ea_cons (ev_xg (ev_var rfl) (xat_mono (e16.trans e) hX) xc (nf _ (by simp)) rfl) ea_nil) (show 1 ≤ 100000 by decide)) fun p Hz h0 ez hz => q p Hz (fresh_back (e16.trans e) h0) ((e16.trans e).trans ez) hz
    have e17 := e16.trans f17
    have hf := fl_z n hn (by rw [b1, b2, b3, b4, b5, b6, b7, b8, b9, b10, b11, b12, b13, b14, b15, b16, b17]; rfl)
    rw [hf] at hy
    match ys, hy with
    | [], _ => exact s_retU (eu_tup ea_nil (show 0 ≤ 100000 by decide)) fun p Hz h0 ez hz => q p Hz (fresh_back e17 h0) (e17.trans ez) hz
/-- the 44 errors with these arguments -/
def PsX (K : PySem.W.Frag) (us : List V) : List Pd := exL.map fun p => PX (ga K p.1) (fldsX p.1 p.2 (us.take p.2.length))
theorem psx_fs {K : PySem.W.Frag} {us : List V} : ∀ P, P ∈ PsX K us → Fs P := fun P m => by
  obtain ⟨p, _, rfl⟩ := List.mem_map.mp m
  exact fs_x
def spMade (K : PySem.W.Frag) : Sp := fun vs H Q _ => ∃ v k x y : V, vs = [v, k, x, y] ∧ ∀ r H', Ex H H' → PL (PsX K [v, k, x, y]) H r H' → Q r H'
theorem ok__law_by_place {f : Addr} {fd : FuncData} (F : FunD K "_law_by_place" "_law_by_place" (defArgs s__law_by_place) (defBody s__law_by_place) (defScope s__law_by_place) [] [] f fd) (g : mg "_law_by_place" = some (.ref f)) (M : ∀ (i : Nat) (p : Str × List Str), exL[i]? = some p → MkX P w K mg base 1 p.1 (ga K p.1) p.1 p.2) :
    Cal P w K mg base 3 "_law_by_place" (spMade K) [] := by
  refine ⟨f, fd, ["_law_v", "_law_k", "_law_x", "_law_w"], [], F.ok sc__law_by_place (fun vs H Q E h => ?_) (fun cdv A outer s H vs Q E hr h => ?_), g, F.kp, FunD.bindsN F fun _ _ _ _ _ _ us hl => match us, hl with | [_, _, _, _], _ => rfl, .nil⟩
  · obtain ⟨v, k, x, y, rfl, _⟩ := h
    rfl
  · obtain ⟨v, k, x, y, rfl, q⟩ := h
    have x_InvalidName := M 0 ("InvalidName", (["value"] : List Str)) rfl
    have x_InvalidPart := M 1 ("InvalidPart", (["at"] : List Str)) rfl
    have x_InvalidSide := M 2 ("InvalidSide", (["word"] : List Str)) rfl
    have x_InvalidDue := M 3 ("InvalidDue", (["value"] : List Str)) rfl
    have x_InvalidRule := M 4 ("InvalidRule", (["at"] : List Str)) rfl
    have x_InvalidRow := M 5 ("InvalidRow", (["at"] : List Str)) rfl
    have x_InvalidText := M 6 ("InvalidText", (["line", "at"] : List Str)) rfl
    have x_InvalidTerm := M 7 ("InvalidTerm", ([] : List Str)) rfl
    have x_InvalidLot := M 8 ("InvalidLot", (["at"] : List Str)) rfl
    have x_NoStep := M 9 ("NoStep", (["at", "place"] : List Str)) rfl
    have x_InvalidNumber := M 10 ("InvalidNumber", (["value"] : List Str)) rfl
    have x_TooMany := M 11 ("TooMany", (["most"] : List Str)) rfl
    have x_TooGreat := M 12 ("TooGreat", ([] : List Str)) rfl
    have x_TwiceHole := M 13 ("TwiceHole", (["hole"] : List Str)) rfl
    have x_LooseHole := M 14 ("LooseHole", (["hole"] : List Str)) rfl
    have x_Overlaps := M 15 ("Overlaps", (["one", "other", "place", "piece"] : List Str)) rfl
    have x_NotTurned := M 16 ("NotTurned", (["at"] : List Str)) rfl
    have x_OtherStart := M 17 ("OtherStart", ([] : List Str)) rfl
    have x_OtherBook := M 18 ("OtherBook", ([] : List Str)) rfl
    have x_Alike := M 19 ("Alike", ([] : List Str)) rfl
    have x_Strikes := M 20 ("Strikes", (["rule"] : List Str)) rfl
    have x_Copies := M 21 ("Copies", (["rule"] : List Str)) rfl
    have x_NotPiece := M 22 ("NotPiece", ([] : List Str)) rfl
    have x_Clash := M 23 ("Clash", (["place"] : List Str)) rfl
    have x_NoRest := M 24 ("NoRest", (["word"] : List Str)) rfl
    have x_Needed := M 25 ("Needed", (["place"] : List Str)) rfl
    have x_InvalidKnot := M 26 ("InvalidKnot", (["at"] : List Str)) rfl
    have x_InvalidMaker := M 27 ("InvalidMaker", (["at"] : List Str)) rfl
    have x_NotSplit := M 28 ("NotSplit", (["rule", "place"] : List Str)) rfl
    have x_NoTree := M 29 ("NoTree", (["doer", "sides", "piece"] : List Str)) rfl
    have x_NotWithin := M 30 ("NotWithin", ([] : List Str)) rfl
    have x_NotClosed := M 31 ("NotClosed", (["event", "cause"] : List Str)) rfl
    have x_NotRow := M 32 ("NotRow", (["at"] : List Str)) rfl
    have x_NotKey := M 33 ("NotKey", ([] : List Str)) rfl
    have x_DuplicateName := M 34 ("DuplicateName", (["name"] : List Str)) rfl
    have x_LastHand := M 35 ("LastHand", ([] : List Str)) rfl
    have x_InvalidDeed := M 36 ("InvalidDeed", (["at"] : List Str)) rfl
    have x_UnknownName := M 37 ("UnknownName", (["name"] : List Str)) rfl
    have x_UnknownDoer := M 38 ("UnknownDoer", (["doer"] : List Str)) rfl
    have x_UnknownEvent := M 39 ("UnknownEvent", (["event"] : List Str)) rfl
    have x_UnknownLetter := M 40 ("UnknownLetter", (["number"] : List Str)) rfl
    have x_NoPlace := M 41 ("NoPlace", (["place"] : List Str)) rfl
    have x_NoOrder := M 42 ("NoOrder", (["number"] : List Str)) rfl
    have x_NoHistory := M 43 ("NoHistory", ([] : List Str)) rfl
    refine ⟨_, PSs.nox (
(pss_cons (ps_set (i := 4) sc__law_by_place.nd rfl (.inl rfl) (pe_lst (pa_cons (pe_xmk x_InvalidName hr (by omega) (by rfl) (pa_cons (pv 0) pa_nil)) (pa_cons (pe_xmk x_InvalidPart hr (by omega) (by rfl) (pa_cons (pv 0) pa_nil)) (pa_cons (pe_xmk x_InvalidSide hr (by omega) (by rfl) (pa_cons (pv 0) pa_nil)) (pa_cons (pe_xmk x_InvalidDue hr (by omega) (by rfl) (pa_cons (pv 0) pa_nil)) (pa_cons (pe_xmk x_InvalidRule hr (by omega) (by rfl) (pa_cons (pv 0) pa_nil)) (pa_cons (pe_xmk x_InvalidRow hr (by omega) (by rfl) (pa_cons (pv 0) pa_nil)) pa_nil))))))))
  (pss_cons (ps_set (i := 4) sc__law_by_place.nd rfl (.inl rfl) (pe_op op_cat (pv 4) (pe_lst (pa_cons (pe_xmk x_InvalidText hr (by omega) (by rfl) (pa_cons (pv 0) (pa_cons (pv 1) pa_nil))) (pa_cons (pe_xmk0 x_InvalidTerm hr (by omega) (by rfl)) (pa_cons (pe_xmk x_InvalidLot hr (by omega) (by rfl) (pa_cons (pv 0) pa_nil)) (pa_cons (pe_xmk x_NoStep hr (by omega) (by rfl) (pa_cons (pv 0) (pa_cons (pv 1) pa_nil))) (pa_cons (pe_xmk x_InvalidNumber hr (by omega) (by rfl) (pa_cons (pv 0) pa_nil)) (pa_cons (pe_xmk x_TooMany hr (by omega) (by rfl) (pa_cons (pv 0) pa_nil)) pa_nil)))))))))
  (pss_cons (ps_set (i := 4) sc__law_by_place.nd rfl (.inl rfl) (pe_op op_cat (pv 4) (pe_lst (pa_cons (pe_xmk0 x_TooGreat hr (by omega) (by rfl)) (pa_cons (pe_xmk x_TwiceHole hr (by omega) (by rfl) (pa_cons (pv 0) pa_nil)) (pa_cons (pe_xmk x_LooseHole hr (by omega) (by rfl) (pa_cons (pv 0) pa_nil)) (pa_cons (pe_xmk x_Overlaps hr (by omega) (by rfl) (pa_cons (pv 0) (pa_cons (pv 1) (pa_cons (pv 2) (pa_cons (pv 3) pa_nil))))) (pa_cons (pe_xmk x_NotTurned hr (by omega) (by rfl) (pa_cons (pv 0) pa_nil)) (pa_cons (pe_xmk0 x_OtherStart hr (by omega) (by rfl)) pa_nil)))))))))
  (pss_cons (ps_set (i := 4) sc__law_by_place.nd rfl (.inl rfl) (pe_op op_cat (pv 4) (pe_lst (pa_cons (pe_xmk0 x_OtherBook hr (by omega) (by rfl)) (pa_cons (pe_xmk0 x_Alike hr (by omega) (by rfl)) (pa_cons (pe_xmk x_Strikes hr (by omega) (by rfl) (pa_cons (pv 0) pa_nil)) (pa_cons (pe_xmk x_Copies hr (by omega) (by rfl) (pa_cons (pv 0) pa_nil)) (pa_cons (pe_xmk0 x_NotPiece hr (by omega) (by rfl)) (pa_cons (pe_xmk x_Clash hr (by omega) (by rfl) (pa_cons (pv 0) pa_nil)) (pa_cons (pe_xmk x_NoRest hr (by omega) (by rfl) (pa_cons (pv 0) pa_nil)) (pa_cons (pe_xmk x_Needed hr (by omega) (by rfl) (pa_cons (pv 0) pa_nil)) pa_nil)))))))))))
  (pss_cons (ps_set (i := 4) sc__law_by_place.nd rfl (.inl rfl) (pe_op op_cat (pv 4) (pe_lst (pa_cons (pe_xmk x_InvalidKnot hr (by omega) (by rfl) (pa_cons (pv 0) pa_nil)) (pa_cons (pe_xmk x_InvalidMaker hr (by omega) (by rfl) (pa_cons (pv 0) pa_nil)) (pa_cons (pe_xmk x_NotSplit hr (by omega) (by rfl) (pa_cons (pv 0) (pa_cons (pv 1) pa_nil))) (pa_cons (pe_xmk x_NoTree hr (by omega) (by rfl) (pa_cons (pv 0) (pa_cons (pv 1) (pa_cons (pv 2) pa_nil)))) (pa_cons (pe_xmk0 x_NotWithin hr (by omega) (by rfl)) (pa_cons (pe_xmk x_NotClosed hr (by omega) (by rfl) (pa_cons (pv 0) (pa_cons (pv 1) pa_nil))) pa_nil)))))))))
  (pss_cons (ps_set (i := 4) sc__law_by_place.nd rfl (.inl rfl) (pe_op op_cat (pv 4) (pe_lst (pa_cons (pe_xmk x_NotRow hr (by omega) (by rfl) (pa_cons (pv 0) pa_nil)) (pa_cons (pe_xmk0 x_NotKey hr (by omega) (by rfl)) (pa_cons (pe_xmk x_DuplicateName hr (by omega) (by rfl) (pa_cons (pv 0) pa_nil)) (pa_cons (pe_xmk0 x_LastHand hr (by omega) (by rfl)) (pa_cons (pe_xmk x_InvalidDeed hr (by omega) (by rfl) (pa_cons (pv 0) pa_nil)) (pa_cons (pe_xmk x_UnknownName hr (by omega) (by rfl) (pa_cons (pv 0) pa_nil)) (pa_cons (pe_xmk x_UnknownDoer hr (by omega) (by rfl) (pa_cons (pv 0) pa_nil)) pa_nil))))))))))
  (pss_one (ps_ret (pe_op op_cat (pv 4) (pe_lst (pa_cons (pe_xmk x_UnknownEvent hr (by omega) (by rfl) (pa_cons (pv 0) pa_nil)) (pa_cons (pe_xmk x_UnknownLetter hr (by omega) (by rfl) (pa_cons (pv 0) pa_nil)) (pa_cons (pe_xmk x_NoPlace hr (by omega) (by rfl) (pa_cons (pv 0) pa_nil)) (pa_cons (pe_xmk x_NoOrder hr (by omega) (by rfl) (pa_cons (pv 0) pa_nil)) (pa_cons (pe_xmk0 x_NoHistory hr (by omega) (by rfl)) pa_nil)))))))))))))))
), ?_⟩
    refine q_asgX (ax_cons (en_mkv (vs := [v]) (ea_cons (ev_var rfl) ea_nil) rfl (by decide)) (ax_cons (en_mkv (vs := [v]) (ea_cons (ev_var rfl) ea_nil) rfl (by decide)) (ax_cons (en_mkv (vs := [v]) (ea_cons (ev_var rfl) ea_nil) rfl (by decide)) (ax_cons (en_mkv (vs := [v]) (ea_cons (ev_var rfl) ea_nil) rfl (by decide)) (ax_cons (en_mkv (vs := [v]) (ea_cons (ev_var rfl) ea_nil) rfl (by decide)) (ax_cons (en_mkv (vs := [v]) (ea_cons (ev_var rfl) ea_nil) rfl (by decide)) ax_nil)))))) (show 6 ≤ 100000 by decide) fun r1 H1 p1 => ?_
    refine q_catX (ev_var rfl) p1 (ax_cons (en_mkv (vs := [v, k]) (ea_cons (ev_var rfl) (ea_cons (ev_var rfl) ea_nil)) rfl (by decide)) (ax_cons (en_mkv (vs := []) ea_nil rfl (by decide)) (ax_cons (en_mkv (vs := [v]) (ea_cons (ev_var rfl) ea_nil) rfl (by decide)) (ax_cons (en_mkv (vs := [v, k]) (ea_cons (ev_var rfl) (ea_cons (ev_var rfl) ea_nil)) rfl (by decide)) (ax_cons (en_mkv (vs := [v]) (ea_cons (ev_var rfl) ea_nil) rfl (by decide)) (ax_cons (en_mkv (vs := [v]) (ea_cons (ev_var rfl) ea_nil) rfl (by decide)) ax_nil)))))) (show 6 + 6 ≤ 100000 by decide) fun r2 H2 p2 => ?_
    refine q_catX (ev_var rfl) p2 (ax_cons (en_mkv (vs := []) ea_nil rfl (by decide)) (ax_cons (en_mkv (vs := [v]) (ea_cons (ev_var rfl) ea_nil) rfl (by decide)) (ax_cons (en_mkv (vs := [v]) (ea_cons (ev_var rfl) ea_nil) rfl (by decide)) (ax_cons (en_mkv (vs := [v, k, x, y]) (ea_cons (ev_var rfl) (ea_cons (ev_var rfl) (ea_cons (ev_var rfl) (ea_cons (ev_var rfl) ea_nil)))) rfl (by decide)) (ax_cons (en_mkv (vs := [v]) (ea_cons (ev_var rfl) ea_nil) rfl (by decide)) (ax_cons (en_mkv (vs := []) ea_nil rfl (by decide)) ax_nil)))))) (show 12 + 6 ≤ 100000 by decide) fun r3 H3 p3 => ?_
    refine q_catX (ev_var rfl) p3 (ax_cons (en_mkv (vs := []) ea_nil rfl (by decide)) (ax_cons (en_mkv (vs := []) ea_nil rfl (by decide)) (ax_cons (en_mkv (vs := [v]) (ea_cons (ev_var rfl) ea_nil) rfl (by decide)) (ax_cons (en_mkv (vs := [v]) (ea_cons (ev_var rfl) ea_nil) rfl (by decide)) (ax_cons (en_mkv (vs := []) ea_nil rfl (by decide)) (ax_cons (en_mkv (vs := [v]) (ea_cons (ev_var rfl) ea_nil) rfl (by decide)) (ax_cons (en_mkv (vs := [v]) (ea_cons (ev_var rfl) ea_nil) rfl (by decide)) (ax_cons (en_mkv (vs := [v]) (ea_cons (ev_var rfl) ea_nil) rfl (by decide)) ax_nil)))))))) (show 18 + 8 ≤ 100000 by decide) fun r4 H4 p4 => ?_
    refine q_catX (ev_var rfl) p4 (ax_cons (en_mkv (vs := [v]) (ea_cons (ev_var rfl) ea_nil) rfl (by decide)) (ax_cons (en_mkv (vs := [v]) (ea_cons (ev_var rfl) ea_nil) rfl (by decide)) (ax_cons (en_mkv (vs := [v, k]) (ea_cons (ev_var rfl) (ea_cons (ev_var rfl) ea_nil)) rfl (by decide)) (ax_cons (en_mkv (vs := [v, k, x]) (ea_cons (ev_var rfl) (ea_cons (ev_var rfl) (ea_cons (ev_var rfl) ea_nil))) rfl (by decide)) (ax_cons (en_mkv (vs := []) ea_nil rfl (by decide)) (ax_cons (en_mkv (vs := [v, k]) (ea_cons (ev_var rfl) (ea_cons (ev_var rfl) ea_nil)) rfl (by decide)) ax_nil)))))) (show 26 + 6 ≤ 100000 by decide) fun r5 H5 p5 => ?_
    refine q_catX (ev_var rfl) p5 (ax_cons (en_mkv (vs := [v]) (ea_cons (ev_var rfl) ea_nil) rfl (by decide)) (ax_cons (en_mkv (vs := []) ea_nil rfl (by decide)) (ax_cons (en_mkv (vs := [v]) (ea_cons (ev_var rfl) ea_nil) rfl (by decide)) (ax_cons (en_mkv (vs := []) ea_nil rfl (by decide)) (ax_cons (en_mkv (vs := [v]) (ea_cons (ev_var rfl) ea_nil) rfl (by decide)) (ax_cons (en_mkv (vs := [v]) (ea_cons (ev_var rfl) ea_nil) rfl (by decide)) (ax_cons (en_mkv (vs := [v]) (ea_cons (ev_var rfl) ea_nil) rfl (by decide)) ax_nil))))))) (show 32 + 7 ≤ 100000 by decide) fun r6 H6 p6 => ?_
    exact s_catX (ev_var rfl) p6 (ax_cons (en_mkv (vs := [v]) (ea_cons (ev_var rfl) ea_nil) rfl (by decide)) (ax_cons (en_mkv (vs := [v]) (ea_cons (ev_var rfl) ea_nil) rfl (by decide)) (ax_cons (en_mkv (vs := [v]) (ea_cons (ev_var rfl) ea_nil) rfl (by decide)) (ax_cons (en_mkv (vs := [v]) (ea_cons (ev_var rfl) ea_nil) rfl (by decide)) (ax_cons (en_mkv (vs := []) ea_nil rfl (by decide)) ax_nil))))) (show 39 + 5 ≤ 100000 by decide) fun r7 H7 p7 => q r7 H7 p7.e p7.h
theorem ok__law_by_name {f : Addr} {fd : FuncData} (F : FunD K "_law_by_name" "_law_by_name" (defArgs s__law_by_name) (defBody s__law_by_name) (defScope s__law_by_name) [] [] f fd) (g : mg "_law_by_name" = some (.ref f)) (M : ∀ (i : Nat) (p : Str × List Str), exL[i]? = some p → MkX P w K mg base 1 p.1 (ga K p.1) p.1 p.2) :
    Cal P w K mg base 3 "_law_by_name" (spMade K) [] := by
  refine ⟨f, fd, ["_law_v", "_law_k", "_law_x", "_law_w"], [], F.ok sc__law_by_name (fun vs H Q E h => ?_) (fun cdv A outer s H vs Q E hr h => ?_), g, F.kp, FunD.bindsN F fun _ _ _ _ _ _ us hl => match us, hl with | [_, _, _, _], _ => rfl, .nil⟩
  · obtain ⟨v, k, x, y, rfl, _⟩ := h
    rfl
  · obtain ⟨v, k, x, y, rfl, q⟩ := h
    have x_InvalidName := M 0 ("InvalidName", (["value"] : List Str)) rfl
    have x_InvalidPart := M 1 ("InvalidPart", (["at"] : List Str)) rfl
    have x_InvalidSide := M 2 ("InvalidSide", (["word"] : List Str)) rfl
    have x_InvalidDue := M 3 ("InvalidDue", (["value"] : List Str)) rfl
    have x_InvalidRule := M 4 ("InvalidRule", (["at"] : List Str)) rfl
    have x_InvalidRow := M 5 ("InvalidRow", (["at"] : List Str)) rfl
    have x_InvalidText := M 6 ("InvalidText", (["line", "at"] : List Str)) rfl
    have x_InvalidTerm := M 7 ("InvalidTerm", ([] : List Str)) rfl
    have x_InvalidLot := M 8 ("InvalidLot", (["at"] : List Str)) rfl
    have x_NoStep := M 9 ("NoStep", (["at", "place"] : List Str)) rfl
    have x_InvalidNumber := M 10 ("InvalidNumber", (["value"] : List Str)) rfl
    have x_TooMany := M 11 ("TooMany", (["most"] : List Str)) rfl
    have x_TooGreat := M 12 ("TooGreat", ([] : List Str)) rfl
    have x_TwiceHole := M 13 ("TwiceHole", (["hole"] : List Str)) rfl
    have x_LooseHole := M 14 ("LooseHole", (["hole"] : List Str)) rfl
    have x_Overlaps := M 15 ("Overlaps", (["one", "other", "place", "piece"] : List Str)) rfl
    have x_NotTurned := M 16 ("NotTurned", (["at"] : List Str)) rfl
    have x_OtherStart := M 17 ("OtherStart", ([] : List Str)) rfl
    have x_OtherBook := M 18 ("OtherBook", ([] : List Str)) rfl
    have x_Alike := M 19 ("Alike", ([] : List Str)) rfl
    have x_Strikes := M 20 ("Strikes", (["rule"] : List Str)) rfl
    have x_Copies := M 21 ("Copies", (["rule"] : List Str)) rfl
    have x_NotPiece := M 22 ("NotPiece", ([] : List Str)) rfl
    have x_Clash := M 23 ("Clash", (["place"] : List Str)) rfl
    have x_NoRest := M 24 ("NoRest", (["word"] : List Str)) rfl
    have x_Needed := M 25 ("Needed", (["place"] : List Str)) rfl
    have x_InvalidKnot := M 26 ("InvalidKnot", (["at"] : List Str)) rfl
    have x_InvalidMaker := M 27 ("InvalidMaker", (["at"] : List Str)) rfl
    have x_NotSplit := M 28 ("NotSplit", (["rule", "place"] : List Str)) rfl
    have x_NoTree := M 29 ("NoTree", (["doer", "sides", "piece"] : List Str)) rfl
    have x_NotWithin := M 30 ("NotWithin", ([] : List Str)) rfl
    have x_NotClosed := M 31 ("NotClosed", (["event", "cause"] : List Str)) rfl
    have x_NotRow := M 32 ("NotRow", (["at"] : List Str)) rfl
    have x_NotKey := M 33 ("NotKey", ([] : List Str)) rfl
    have x_DuplicateName := M 34 ("DuplicateName", (["name"] : List Str)) rfl
    have x_LastHand := M 35 ("LastHand", ([] : List Str)) rfl
    have x_InvalidDeed := M 36 ("InvalidDeed", (["at"] : List Str)) rfl
    have x_UnknownName := M 37 ("UnknownName", (["name"] : List Str)) rfl
    have x_UnknownDoer := M 38 ("UnknownDoer", (["doer"] : List Str)) rfl
    have x_UnknownEvent := M 39 ("UnknownEvent", (["event"] : List Str)) rfl
    have x_UnknownLetter := M 40 ("UnknownLetter", (["number"] : List Str)) rfl
    have x_NoPlace := M 41 ("NoPlace", (["place"] : List Str)) rfl
    have x_NoOrder := M 42 ("NoOrder", (["number"] : List Str)) rfl
    have x_NoHistory := M 43 ("NoHistory", ([] : List Str)) rfl
    refine ⟨_, PSs.nox (
(pss_cons (ps_set (i := 4) sc__law_by_name.nd rfl (.inl rfl) (pe_lst (pa_cons (pe_xmw x_InvalidName hr (by omega) (by rfl) (pk_cons (pv 0) pk_nil)) (pa_cons (pe_xmw x_InvalidPart hr (by omega) (by rfl) (pk_cons (pv 0) pk_nil)) (pa_cons (pe_xmw x_InvalidSide hr (by omega) (by rfl) (pk_cons (pv 0) pk_nil)) (pa_cons (pe_xmw x_InvalidDue hr (by omega) (by rfl) (pk_cons (pv 0) pk_nil)) (pa_cons (pe_xmw x_InvalidRule hr (by omega) (by rfl) (pk_cons (pv 0) pk_nil)) pa_nil)))))))
  (pss_cons (ps_set (i := 4) sc__law_by_name.nd rfl (.inl rfl) (pe_op op_cat (pv 4) (pe_lst (pa_cons (pe_xmw x_InvalidRow hr (by omega) (by rfl) (pk_cons (pv 0) pk_nil)) (pa_cons (pe_xmw x_InvalidText hr (by omega) (by rfl) (pk_cons (pv 1) (pk_cons (pv 0) pk_nil))) (pa_cons (pe_xmk0 x_InvalidTerm hr (by omega) (by rfl)) (pa_cons (pe_xmw x_InvalidLot hr (by omega) (by rfl) (pk_cons (pv 0) pk_nil)) (pa_cons (pe_xmw x_NoStep hr (by omega) (by rfl) (pk_cons (pv 1) (pk_cons (pv 0) pk_nil))) pa_nil))))))))
  (pss_cons (ps_set (i := 4) sc__law_by_name.nd rfl (.inl rfl) (pe_op op_cat (pv 4) (pe_lst (pa_cons (pe_xmw x_InvalidNumber hr (by omega) (by rfl) (pk_cons (pv 0) pk_nil)) (pa_cons (pe_xmw x_TooMany hr (by omega) (by rfl) (pk_cons (pv 0) pk_nil)) (pa_cons (pe_xmk0 x_TooGreat hr (by omega) (by rfl)) (pa_cons (pe_xmw x_TwiceHole hr (by omega) (by rfl) (pk_cons (pv 0) pk_nil)) (pa_cons (pe_xmw x_LooseHole hr (by omega) (by rfl) (pk_cons (pv 0) pk_nil)) pa_nil))))))))
  (pss_cons (ps_set (i := 4) sc__law_by_name.nd rfl (.inl rfl) (pe_op op_cat (pv 4) (pe_lst (pa_cons (pe_xmw x_Overlaps hr (by omega) (by rfl) (pk_cons (pv 3) (pk_cons (pv 2) (pk_cons (pv 1) (pk_cons (pv 0) pk_nil))))) (pa_cons (pe_xmw x_NotTurned hr (by omega) (by rfl) (pk_cons (pv 0) pk_nil)) (pa_cons (pe_xmk0 x_OtherStart hr (by omega) (by rfl)) (pa_cons (pe_xmk0 x_OtherBook hr (by omega) (by rfl)) (pa_cons (pe_xmk0 x_Alike hr (by omega) (by rfl)) pa_nil))))))))
  (pss_cons (ps_set (i := 4) sc__law_by_name.nd rfl (.inl rfl) (pe_op op_cat (pv 4) (pe_lst (pa_cons (pe_xmw x_Strikes hr (by omega) (by rfl) (pk_cons (pv 0) pk_nil)) (pa_cons (pe_xmw x_Copies hr (by omega) (by rfl) (pk_cons (pv 0) pk_nil)) (pa_cons (pe_xmk0 x_NotPiece hr (by omega) (by rfl)) (pa_cons (pe_xmw x_Clash hr (by omega) (by rfl) (pk_cons (pv 0) pk_nil)) (pa_cons (pe_xmw x_NoRest hr (by omega) (by rfl) (pk_cons (pv 0) pk_nil)) (pa_cons (pe_xmw x_Needed hr (by omega) (by rfl) (pk_cons (pv 0) pk_nil)) pa_nil)))))))))
  (pss_cons (ps_set (i := 4) sc__law_by_name.nd rfl (.inl rfl) (pe_op op_cat (pv 4) (pe_lst (pa_cons (pe_xmw x_InvalidKnot hr (by omega) (by rfl) (pk_cons (pv 0) pk_nil)) (pa_cons (pe_xmw x_InvalidMaker hr (by omega) (by rfl) (pk_cons (pv 0) pk_nil)) (pa_cons (pe_xmw x_NotSplit hr (by omega) (by rfl) (pk_cons (pv 1) (pk_cons (pv 0) pk_nil))) (pa_cons (pe_xmw x_NoTree hr (by omega) (by rfl) (pk_cons (pv 2) (pk_cons (pv 1) (pk_cons (pv 0) pk_nil)))) pa_nil)))))))
  (pss_cons (ps_set (i := 4) sc__law_by_name.nd rfl (.inl rfl) (pe_op op_cat (pv 4) (pe_lst (pa_cons (pe_xmk0 x_NotWithin hr (by omega) (by rfl)) (pa_cons (pe_xmw x_NotClosed hr (by omega) (by rfl) (pk_cons (pv 1) (pk_cons (pv 0) pk_nil))) (pa_cons (pe_xmw x_NotRow hr (by omega) (by rfl) (pk_cons (pv 0) pk_nil)) (pa_cons (pe_xmk0 x_NotKey hr (by omega) (by rfl)) (pa_cons (pe_xmw x_DuplicateName hr (by omega) (by rfl) (pk_cons (pv 0) pk_nil)) (pa_cons (pe_xmk0 x_LastHand hr (by omega) (by rfl)) pa_nil)))))))))
  (pss_cons (ps_set (i := 4) sc__law_by_name.nd rfl (.inl rfl) (pe_op op_cat (pv 4) (pe_lst (pa_cons (pe_xmw x_InvalidDeed hr (by omega) (by rfl) (pk_cons (pv 0) pk_nil)) (pa_cons (pe_xmw x_UnknownName hr (by omega) (by rfl) (pk_cons (pv 0) pk_nil)) (pa_cons (pe_xmw x_UnknownDoer hr (by omega) (by rfl) (pk_cons (pv 0) pk_nil)) (pa_cons (pe_xmw x_UnknownEvent hr (by omega) (by rfl) (pk_cons (pv 0) pk_nil)) pa_nil)))))))
  (pss_one (ps_ret (pe_op op_cat (pv 4) (pe_lst (pa_cons (pe_xmw x_UnknownLetter hr (by omega) (by rfl) (pk_cons (pv 0) pk_nil)) (pa_cons (pe_xmw x_NoPlace hr (by omega) (by rfl) (pk_cons (pv 0) pk_nil)) (pa_cons (pe_xmw x_NoOrder hr (by omega) (by rfl) (pk_cons (pv 0) pk_nil)) (pa_cons (pe_xmk0 x_NoHistory hr (by omega) (by rfl)) pa_nil))))))))))))))))
), ?_⟩
    refine q_asgX (ax_cons (en_mkR (vs := [v]) (ea_cons (ev_var rfl) ea_nil) rfl) (ax_cons (en_mkR (vs := [v]) (ea_cons (ev_var rfl) ea_nil) rfl) (ax_cons (en_mkR (vs := [v]) (ea_cons (ev_var rfl) ea_nil) rfl) (ax_cons (en_mkR (vs := [v]) (ea_cons (ev_var rfl) ea_nil) rfl) (ax_cons (en_mkR (vs := [v]) (ea_cons (ev_var rfl) ea_nil) rfl) ax_nil))))) (show 5 ≤ 100000 by decide) fun r1 H1 p1 => ?_
    refine q_catX (ev_var rfl) p1 (ax_cons (en_mkR (vs := [v]) (ea_cons (ev_var rfl) ea_nil) rfl) (ax_cons (en_mkR (vs := [v, k]) (ea_cons (ev_var rfl) (ea_cons (ev_var rfl) ea_nil)) rfl) (ax_cons (en_mkv (vs := []) ea_nil rfl (by decide)) (ax_cons (en_mkR (vs := [v]) (ea_cons (ev_var rfl) ea_nil) rfl) (ax_cons (en_mkR (vs := [v, k]) (ea_cons (ev_var rfl) (ea_cons (ev_var rfl) ea_nil)) rfl) ax_nil))))) (show 5 + 5 ≤ 100000 by decide) fun r2 H2 p2 => ?_
    refine q_catX (ev_var rfl) p2 (ax_cons (en_mkR (vs := [v]) (ea_cons (ev_var rfl) ea_nil) rfl) (ax_cons (en_mkR (vs := [v]) (ea_cons (ev_var rfl) ea_nil) rfl) (ax_cons (en_mkv (vs := []) ea_nil rfl (by decide)) (ax_cons (en_mkR (vs := [v]) (ea_cons (ev_var rfl) ea_nil) rfl) (ax_cons (en_mkR (vs := [v]) (ea_cons (ev_var rfl) ea_nil) rfl) ax_nil))))) (show 10 + 5 ≤ 100000 by decide) fun r3 H3 p3 => ?_
    refine q_catX (ev_var rfl) p3 (ax_cons (en_mkR (vs := [v, k, x, y]) (ea_cons (ev_var rfl) (ea_cons (ev_var rfl) (ea_cons (ev_var rfl) (ea_cons (ev_var rfl) ea_nil)))) rfl) (ax_cons (en_mkR (vs := [v]) (ea_cons (ev_var rfl) ea_nil) rfl) (ax_cons (en_mkv (vs := []) ea_nil rfl (by decide)) (ax_cons (en_mkv (vs := []) ea_nil rfl (by decide)) (ax_cons (en_mkv (vs := []) ea_nil rfl (by decide)) ax_nil))))) (show 15 + 5 ≤ 100000 by decide) fun r4 H4 p4 => ?_
    refine q_catX (ev_var rfl) p4 (ax_cons (en_mkR (vs := [v]) (ea_cons (ev_var rfl) ea_nil) rfl) (ax_cons (en_mkR (vs := [v]) (ea_cons (ev_var rfl) ea_nil) rfl) (ax_cons (en_mkv (vs := []) ea_nil rfl (by decide)) (ax_cons (en_mkR (vs := [v]) (ea_cons (ev_var rfl) ea_nil) rfl) (ax_cons (en_mkR (vs := [v]) (ea_cons (ev_var rfl) ea_nil) rfl) (ax_cons (en_mkR (vs := [v]) (ea_cons (ev_var rfl) ea_nil) rfl) ax_nil)))))) (show 20 + 6 ≤ 100000 by decide) fun r5 H5 p5 => ?_
    refine q_catX (ev_var rfl) p5 (ax_cons (en_mkR (vs := [v]) (ea_cons (ev_var rfl) ea_nil) rfl) (ax_cons (en_mkR (vs := [v]) (ea_cons (ev_var rfl) ea_nil) rfl) (ax_cons (en_mkR (vs := [v, k]) (ea_cons (ev_var rfl) (ea_cons (ev_var rfl) ea_nil)) rfl) (ax_cons (en_mkR (vs := [v, k, x]) (ea_cons (ev_var rfl) (ea_cons (ev_var rfl) (ea_cons (ev_var rfl) ea_nil))) rfl) ax_nil)))) (show 26 + 4 ≤ 100000 by decide) fun r6 H6 p6 => ?_
    refine q_catX (ev_var rfl) p6 (ax_cons (en_mkv (vs := []) ea_nil rfl (by decide)) (ax_cons (en_mkR (vs := [v, k]) (ea_cons (ev_var rfl) (ea_cons (ev_var rfl) ea_nil)) rfl) (ax_cons (en_mkR (vs := [v]) (ea_cons (ev_var rfl) ea_nil) rfl) (ax_cons (en_mkv (vs := []) ea_nil rfl (by decide)) (ax_cons (en_mkR (vs := [v]) (ea_cons (ev_var rfl) ea_nil) rfl) (ax_cons (en_mkv (vs := []) ea_nil rfl (by decide)) ax_nil)))))) (show 30 + 6 ≤ 100000 by decide) fun r7 H7 p7 => ?_
    refine q_catX (ev_var rfl) p7 (ax_cons (en_mkR (vs := [v]) (ea_cons (ev_var rfl) ea_nil) rfl) (ax_cons (en_mkR (vs := [v]) (ea_cons (ev_var rfl) ea_nil) rfl) (ax_cons (en_mkR (vs := [v]) (ea_cons (ev_var rfl) ea_nil) rfl) (ax_cons (en_mkR (vs := [v]) (ea_cons (ev_var rfl) ea_nil) rfl) ax_nil)))) (show 36 + 4 ≤ 100000 by decide) fun r8 H8 p8 => ?_
    exact s_catX (ev_var rfl) p8 (ax_cons (en_mkR (vs := [v]) (ea_cons (ev_var rfl) ea_nil) rfl) (ax_cons (en_mkR (vs := [v]) (ea_cons (ev_var rfl) ea_nil) rfl) (ax_cons (en_mkR (vs := [v]) (ea_cons (ev_var rfl) ea_nil) rfl) (ax_cons (en_mkv (vs := []) ea_nil rfl (by decide)) ax_nil)))) (show 40 + 4 ≤ 100000 by decide) fun r9 H9 p9 => q r9 H9 p9.e p9.h
end
end K00

namespace K00
open PySem PySem.Spec PyProof.Rows L2 Evl XV C8 He RZ
theorem sc__law_raised : FnScope ["_law_way", "_law_v", "_law_k"] ["_law_way", "_law_v", "_law_k"] (defScope s__law_raised) := ⟨rfl, rfl, rfl, by decide +kernel, rfl, by decide +kernel, by decide +kernel⟩
theorem sc__law_caught : FnScope ["_law_way", "_law_v", "_law_k", "_law_e"] ["_law_way", "_law_v", "_law_k"] (defScope s__law_caught) := ⟨rfl, rfl, rfl, by decide +kernel, rfl, by decide +kernel, by decide +kernel⟩
def cxV (m : Nat) (v k : V) : List V := match m with
  | 0 => [V.str "text", v, k, V.str "InvalidText"]
  | 1 => [V.str "work", V.str "NoStep"]
  | 2 => [V.str "missing", V.str "UnknownName"]
  | 3 => [V.str "place", v, V.str "NoPlace"]
  | 4 => [V.str "order", v, V.str "NoOrder"]
  | 5 => [V.str "nothing", V.str "NoHistory"]
  | _ => [V.str "work", V.str "TooGreat"]
def spRaised (K : PySem.W.Frag) : Sp := fun vs H Q E => ∃ (m : Nat) (v k : V) (x : Str) (fs : List Str), vs = [.int (m : Int), v, k] ∧ rsL[m]? = some (x, fs) ∧ ∀ H1 d, Ex H H1 → H1 d = none → E (.ref (ga K x)) (some d) (upd H1 d (.xd (fldsX x fs ([v, k].take fs.length))))
def spCaught : Sp := fun vs H Q _ => ∃ (m : Nat) (v k : V), vs = [.int (m : Int), v, k] ∧ m < 7 ∧ ∀ p H', H p = none → Ex H H' → H' p = some (.tup (cxV m v k)) → Q (.ref p) H'
/-- a def that raises, by its name -/
structure CalX (P : Program) (w : World) (K : PySem.W.Frag) (mg : Str → Option Value) (base : Heap) (k : Nat) (x : Str) (sp : Sp) : Prop where
  ex : ∃ (f : Addr) (fd : FuncData) (ps : List Str), FnOk P w K mg base (L2.CX P w) k f fd ps sp ∧ mg x = some (.ref f) ∧ PySem.W.keepIn K (.ref f) = true ∧ Binds K fd ps []
/-- which clause takes which error -/
def CatchT (K : PySem.W.Frag) : Prop := ∀ (m j : Nat) (x y : Str) (fs : List Str) (r : List Bool) (b : Bool), rsL[m]? = some (x, fs) → clL[j]? = some y → tabX[m]? = some r → r[j]? = some b → PySem.W.exmOne K (.ref (ga K x)) (.ref (ga K y)) = some b
section
variable {P : Program} {w : World} {K : PySem.W.Frag} {mg : Str → Option Value} {base : Heap}
theorem ok__law_raised {f : Addr} {fd : FuncData} (F : FunD K "_law_raised" "_law_raised" (defArgs s__law_raised) (defBody s__law_raised) (defScope s__law_raised) [] [] f fd) (g : mg "_law_raised" = some (.ref f)) (M : ∀ (i : Nat) (p : Str × List Str), exL[i]? = some p → MkX P w K mg base 1 p.1 (ga K p.1) p.1 p.2) :
    CalX P w K mg base 3 "_law_raised" (spRaised K) := by
  refine ⟨f, fd, ["_law_way", "_law_v", "_law_k"], F.ok sc__law_raised (fun vs H Q E h => ?_) (fun cdv A outer s H vs Q E hr h => ?_), g, F.kp, FunD.bindsN F fun _ _ _ _ _ _ us hl => match us, hl with | [_, _, _], _ => rfl⟩
  · obtain ⟨m, v, k, x, fs, rfl, _⟩ := h
    rfl
  · obtain ⟨m, v, k, x, fs, rfl, hm, q⟩ := h
    have x_InvalidText := M 6 ("InvalidText", (["line", "at"] : List Str)) rfl
    have x_NoStep := M 9 ("NoStep", (["at", "place"] : List Str)) rfl
    have x_UnknownName := M 37 ("UnknownName", (["name"] : List Str)) rfl
    have x_NoPlace := M 41 ("NoPlace", (["place"] : List Str)) rfl
    have x_NoOrder := M 42 ("NoOrder", (["number"] : List Str)) rfl
    have x_NoHistory := M 43 ("NoHistory", ([] : List Str)) rfl
    have x_TooGreat := M 12 ("TooGreat", ([] : List Str)) rfl
    refine ⟨_, (pss_cons (ps_if (pt_cmpR op_eq (pv 0) pe_int (nomark _)) (pss_one (ps_raise rfl (L2.takes_of rfl rfl rfl rfl) (pmk_x x_InvalidText hr (by omega) (by rfl) (pa_cons (pv 1) (pa_cons (pv 2) pa_nil))))) pss_nil)
(pss_cons (ps_if (pt_cmpR op_eq (pv 0) pe_int (nomark _)) (pss_one (ps_raise rfl (L2.takes_of rfl rfl rfl rfl) (pmk_x x_NoStep hr (by omega) (by rfl) (pa_cons (pv 1) (pa_cons (pv 2) pa_nil))))) pss_nil)
(pss_cons (ps_if (pt_cmpR op_eq (pv 0) pe_int (nomark _)) (pss_one (ps_raise rfl (L2.takes_of rfl rfl rfl rfl) (pmk_x x_UnknownName hr (by omega) (by rfl) (pa_cons (pv 1) pa_nil)))) pss_nil)
(pss_cons (ps_if (pt_cmpR op_eq (pv 0) pe_int (nomark _)) (pss_one (ps_raise rfl (L2.takes_of rfl rfl rfl rfl) (pmk_x x_NoPlace hr (by omega) (by rfl) (pa_cons (pv 1) pa_nil)))) pss_nil)
(pss_cons (ps_if (pt_cmpR op_eq (pv 0) pe_int (nomark _)) (pss_one (ps_raise rfl (L2.takes_of rfl rfl rfl rfl) (pmk_x x_NoOrder hr (by omega) (by rfl) (pa_cons (pv 1) pa_nil)))) pss_nil)
(pss_cons (ps_if (pt_cmpR op_eq (pv 0) pe_int (nomark _)) (pss_one (ps_raise rfl (L2.takes_of rfl rfl rfl rfl) (pmk_x0 x_NoHistory hr (by omega) (by rfl)))) pss_nil)
(pss_one (ps_raise rfl (L2.takes_of rfl rfl rfl rfl) (pmk_x0 x_TooGreat hr (by omega) (by rfl)))))))))), ?_⟩
    match m, hm with
    | 0, hm =>
      obtain ⟨rfl, rfl⟩ := (show ("InvalidText" : Str) = x ∧ (["line", "at"] : List Str) = fs from Prod.mk.inj (Option.some.inj hm))
      exact q_when (et_test (ev_op (ev_var rfl) ev_c (rv_eq rfl))) (fun _ Hz e => ⟨_, rfl, _, rfl, rfl, (by decide : 2 ≤ 1000), fun d hd => q _ d ((Ex.refl H).trans e) hd⟩) (fun h => absurd h (by decide))
    | 1, hm =>
      obtain ⟨rfl, rfl⟩ := (show ("NoStep" : Str) = x ∧ (["at", "place"] : List Str) = fs from Prod.mk.inj (Option.some.inj hm))
      refine q_when (et_test (ev_op (ev_var rfl) ev_c (rv_eq rfl))) (fun h => absurd h (by decide)) fun _ H1 f1 => ?_
      have e1 := f1
      exact q_when (et_test (ev_op (ev_var rfl) ev_c (rv_eq rfl))) (fun _ Hz e => ⟨_, rfl, _, rfl, rfl, (by decide : 2 ≤ 1000), fun d hd => q _ d (e1.trans e) hd⟩) (fun h => absurd h (by decide))
    | 2, hm =>
      obtain ⟨rfl, rfl⟩ := (show ("UnknownName" : Str) = x ∧ (["name"] : List Str) = fs from Prod.mk.inj (Option.some.inj hm))
      refine q_when (et_test (ev_op (ev_var rfl) ev_c (rv_eq rfl))) (fun h => absurd h (by decide)) fun _ H1 f1 => ?_
      have e1 := f1
      refine q_when (et_test (ev_op (ev_var rfl) ev_c (rv_eq rfl))) (fun h => absurd h (by decide)) fun _ H2 f2 => ?_
      have e2 := e1.trans f2
      exact q_when (et_test (ev_op (ev_var rfl) ev_c (rv_eq rfl))) (fun _ Hz e => ⟨_, rfl, rfl, (by decide : 1 ≤ 1000), fun d hd => q _ d (e2.trans e) hd⟩) (fun h => absurd h (by decide))
    | 3, hm =>
      obtain ⟨rfl, rfl⟩ := (show ("NoPlace" : Str) = x ∧ (["place"] : List Str) = fs from Prod.mk.inj (Option.some.inj hm))
      refine q_when (et_test (ev_op (ev_var rfl) ev_c (rv_eq rfl))) (fun h => absurd h (by decide)) fun _ H1 f1 => ?_
      have e1 := f1
      refine q_when (et_test (ev_op (ev_var rfl) ev_c (rv_eq rfl))) (fun h => absurd h (by decide)) fun _ H2 f2 => ?_
      have e2 := e1.trans f2
      refine q_when (et_test (ev_op (ev_var rfl) ev_c (rv_eq rfl))) (fun h => absurd h (by decide)) fun _ H3 f3 => ?_
      have e3 := e2.trans f3
      exact q_when (et_test (ev_op (ev_var rfl) ev_c (rv_eq rfl))) (fun _ Hz e => ⟨_, rfl, rfl, (by decide : 1 ≤ 1000), fun d hd => q _ d (e3.trans e) hd⟩) (fun h => absurd h (by decide))
    | 4, hm =>
      obtain ⟨rfl, rfl⟩ := (show ("NoOrder" : Str) = x ∧ (["number"] : List Str) = fs from Prod.mk.inj (Option.some.inj hm))
      refine q_when (et_test (ev_op (ev_var rfl) ev_c (rv_eq rfl))) (fun h => absurd h (by decide)) fun _ H1 f1 => ?_
      have e1 := f1
      refine q_when (et_test (ev_op (ev_var rfl) ev_c (rv_eq rfl))) (fun h => absurd h (by decide)) fun _ H2 f2 => ?_
      have e2 := e1.trans f2
      refine q_when (et_test (ev_op (ev_var rfl) ev_c (rv_eq rfl))) (fun h => absurd h (by decide)) fun _ H3 f3 => ?_
      have e3 := e2.trans f3
      refine q_when (et_test (ev_op (ev_var rfl) ev_c (rv_eq rfl))) (fun h => absurd h (by decide)) fun _ H4 f4 => ?_
      have e4 := e3.trans f4
      exact q_when (et_test (ev_op (ev_var rfl) ev_c (rv_eq rfl))) (fun _ Hz e => ⟨_, rfl, rfl, (by decide : 1 ≤ 1000), fun d hd => q _ d (e4.trans e) hd⟩) (fun h => absurd h (by decide))
    | 5, hm =>
      obtain ⟨rfl, rfl⟩ := (show ("NoHistory" : Str) = x ∧ ([] : List Str) = fs from Prod.mk.inj (Option.some.inj hm))
      refine q_when (et_test (ev_op (ev_var rfl) ev_c (rv_eq rfl))) (fun h => absurd h (by decide)) fun _ H1 f1 => ?_
      have e1 := f1
      refine q_when (et_test (ev_op (ev_var rfl) ev_c (rv_eq rfl))) (fun h => absurd h (by decide)) fun _ H2 f2 => ?_
      have e2 := e1.trans f2
      refine q_when (et_test (ev_op (ev_var rfl) ev_c (rv_eq rfl))) (fun h => absurd h (by decide)) fun _ H3 f3 => ?_
      have e3 := e2.trans f3
      refine q_when (et_test (ev_op (ev_var rfl) ev_c (rv_eq rfl))) (fun h => absurd h (by decide)) fun _ H4 f4 => ?_
      have e4 := e3.trans f4
      refine q_when (et_test (ev_op (ev_var rfl) ev_c (rv_eq rfl))) (fun h => absurd h (by decide)) fun _ H5 f5 => ?_
      have e5 := e4.trans f5
      exact q_when (et_test (ev_op (ev_var rfl) ev_c (rv_eq rfl))) (fun _ Hz e => ⟨rfl, (by decide : 0 ≤ 1000), fun d hd => q _ d (e5.trans e) hd⟩) (fun h => absurd h (by decide))
    | 6, hm =>
      obtain ⟨rfl, rfl⟩ := (show ("TooGreat" : Str) = x ∧ ([] : List Str) = fs from Prod.mk.inj (Option.some.inj hm))
      refine q_when (et_test (ev_op (ev_var rfl) ev_c (rv_eq rfl))) (fun h => absurd h (by decide)) fun _ H1 f1 => ?_
      have e1 := f1
      refine q_when (et_test (ev_op (ev_var rfl) ev_c (rv_eq rfl))) (fun h => absurd h (by decide)) fun _ H2 f2 => ?_
      have e2 := e1.trans f2
      refine q_when (et_test (ev_op (ev_var rfl) ev_c (rv_eq rfl))) (fun h => absurd h (by decide)) fun _ H3 f3 => ?_
      have e3 := e2.trans f3
      refine q_when (et_test (ev_op (ev_var rfl) ev_c (rv_eq rfl))) (fun h => absurd h (by decide)) fun _ H4 f4 => ?_
      have e4 := e3.trans f4
      refine q_when (et_test (ev_op (ev_var rfl) ev_c (rv_eq rfl))) (fun h => absurd h (by decide)) fun _ H5 f5 => ?_
      have e5 := e4.trans f5
      refine q_when (et_test (ev_op (ev_var rfl) ev_c (rv_eq rfl))) (fun h => absurd h (by decide)) fun _ H6 f6 => ?_
      have e6 := e5.trans f6
      exact ⟨rfl, (by decide : 0 ≤ 1000), fun d hd => q _ d e6 hd⟩
    | m + 7, hm => cases hm
theorem ev_xe {K : PySem.W.Frag} {σ : L2.St} {H : Hp} {te : TE} {a C dd : Addr} {fs : List (Str × V)} {f : Str} {v : V} (h : Ev te σ H (.ref a)) (xc : XC K C) (hf : PySem.W.findIn K (.ref C) f = some none) (hd : H dd = some (.xd fs)) (l : fs.lookup f = some v) : Ev (tXe K a (.ref C) (some dd) f te) σ H v := fun H1 e Q q =>
  h H1 e _ fun H2 e2 => ⟨rfl, C, dd, fs, v, rfl, xc, hf, rfl, (e.trans e2) _ _ hd, l, q H2 e2⟩
theorem ok__law_caught {f : Addr} {fd : FuncData} (F : FunD K "_law_caught" "_law_caught" (defArgs s__law_caught) (defBody s__law_caught) (defScope s__law_caught) [] [] f fd) (g : mg "_law_caught" = some (.ref f)) (gC : ∀ x, x ∈ clsN → mg x = some (.ref (ga K x))) (R : CalX P w K mg base 3 "_law_raised" (spRaised K))
    (ct : CatchT K) (xcs : ∀ x, x ∈ exN → XC K (ga K x)) (nfs : ∀ (i : Nat) (p : Str × List Str), exL[i]? = some p → Free K (ga K p.1) ("code" :: p.2)) :
    Cal P w K mg base 4 "_law_caught" spCaught [] := by
  refine ⟨f, fd, ["_law_way", "_law_v", "_law_k"], [], F.ok sc__law_caught (fun vs H Q E h => ?_) (fun cdv A outer s H vs Q E hr h => ?_), g, F.kp, FunD.bindsN F fun _ _ _ _ _ _ us hl => match us, hl with | [_, _, _], _ => rfl, .nil⟩
  · obtain ⟨m, v, k, rfl, _⟩ := h
    rfl
  · obtain ⟨m, v, k, rfl, hm, q⟩ := h
    obtain ⟨fR, fdR, psR, FR, gR, kR, bR⟩ := R.ex
    refine ⟨_, PSs.nox (pss_cons (ps_try_some (Wout := fun _ _ _ _ => False) (tb := fun W => tDrop (tCallS (spRaised K) (WE W) (tCons (tVar 0) (tCons (tVar 1) (tCons (tVar 2) tNil))))) (i := 3) (n := "_law_e") rfl rfl sc__law_caught.nd rfl rfl takes_none5 (fun W pn xe tk _ => pss_one (ps_expr (pe_callS FR hr (by rfl) gR kR bR (passAt tk) (pa_cons (pv 0) (pa_cons (pv 1) (pa_cons (pv 2) pa_nil)))))) (.cons ⟨by rfl, by decide, .inl (gC "InvalidText" (by decide +kernel))⟩ (fun a oe cls d pn hz hf => (pss_one (ps_ret (pe_tup (pa_cons pe_str (pa_cons (pe_xe hz hf (pv 3)) (pa_cons (pe_xe hz hf (pv 3)) (pa_cons (pe_xe hz hf (pv 3)) pa_nil)))))))) (.cons ⟨by rfl, by decide, .inl (gC "NoPlace" (by decide +kernel))⟩ (fun a oe cls d pn hz hf => (pss_one (ps_ret (pe_tup (pa_cons pe_str (pa_cons (pe_xe hz hf (pv 3)) (pa_cons (pe_xe hz hf (pv 3)) pa_nil))))))) (.cons ⟨by rfl, by decide, .inl (gC "NoOrder" (by decide +kernel))⟩ (fun a oe cls d pn hz hf => (pss_one (ps_ret (pe_tup (pa_cons pe_str (pa_cons (pe_xe hz hf (pv 3)) (pa_cons (pe_xe hz hf (pv 3)) pa_nil))))))) (.cons ⟨by rfl, by decide, .inl (gC "Missing" (by decide +kernel))⟩ (fun a oe cls d pn hz hf => (pss_one (ps_ret (pe_tup (pa_cons pe_str (pa_cons (pe_xe hz hf (pv 3)) pa_nil)))))) (.cons ⟨by rfl, by decide, .inl (gC "NothingLeft" (by decide +kernel))⟩ (fun a oe cls d pn hz hf => (pss_one (ps_ret (pe_tup (pa_cons pe_str (pa_cons (pe_xe hz hf (pv 3)) pa_nil)))))) (.cons ⟨by rfl, by decide, .inl (gC "WorkError" (by decide +kernel))⟩ (fun a oe cls d pn hz hf => (pss_one (ps_ret (pe_tup (pa_cons pe_str (pa_cons (pe_xe hz hf (pv 3)) pa_nil)))))) .nil))))))) (pss_one (ps_ret pe_non))), ?_⟩
    match m, hm with
    | 0, _ =>
      have xc := xcs "InvalidText" (by decide +kernel)
      have hf := nfs 6 ("InvalidText", (["line", "at"] : List Str)) rfl
      exact ⟨_, rfl, _, rfl, _, rfl, 0, v, k, _, _, rfl, rfl, fun H1 d e hd => ⟨true, ct 0 0 _ _ _ _ _ rfl rfl rfl rfl, fun _ a ha => s_retU (eu_tup (ea_cons ev_c (ea_cons (ev_xe (ev_var rfl) xc (hf _ (by simp)) upd_same rfl) (ea_cons (ev_xe (ev_var rfl) xc (hf _ (by simp)) upd_same rfl) (ea_cons (ev_xe (ev_var rfl) xc (hf _ (by simp)) upd_same rfl) ea_nil)))) (show 4 ≤ 100000 by decide)) fun p H2 h0 e2 h2 => q p H2 (fresh_back (e.trans (Ex.new hd)) h0) ((e.trans (Ex.new hd)).trans e2) h2, fun h => nomatch h⟩⟩
    | 1, _ =>
      have xc := xcs "NoStep" (by decide +kernel)
      have hf := nfs 9 ("NoStep", (["at", "place"] : List Str)) rfl
      exact ⟨_, rfl, _, rfl, _, rfl, 1, v, k, _, _, rfl, rfl, fun H1 d e hd => ⟨false, ct 1 0 _ _ _ _ _ rfl rfl rfl rfl, fun h => (nomatch h), fun _ => ⟨false, ct 1 1 _ _ _ _ _ rfl rfl rfl rfl, fun h => (nomatch h), fun _ => ⟨false, ct 1 2 _ _ _ _ _ rfl rfl rfl rfl, fun h => (nomatch h), fun _ => ⟨false, ct 1 3 _ _ _ _ _ rfl rfl rfl rfl, fun h => (nomatch h), fun _ => ⟨false, ct 1 4 _ _ _ _ _ rfl rfl rfl rfl, fun h => (nomatch h), fun _ => ⟨true, ct 1 5 _ _ _ _ _ rfl rfl rfl rfl, fun _ a ha => s_retU (eu_tup (ea_cons ev_c (ea_cons (ev_xe (ev_var rfl) xc (hf _ (by simp)) upd_same rfl) ea_nil)) (show 2 ≤ 100000 by decide)) fun p H2 h0 e2 h2 => q p H2 (fresh_back (e.trans (Ex.new hd)) h0) ((e.trans (Ex.new hd)).trans e2) h2, fun h => nomatch h⟩⟩⟩⟩⟩⟩⟩
    | 2, _ =>
      have xc := xcs "UnknownName" (by decide +kernel)
      have hf := nfs 37 ("UnknownName", (["name"] : List Str)) rfl
      exact ⟨_, rfl, _, rfl, _, rfl, 2, v, k, _, _, rfl, rfl, fun H1 d e hd => ⟨false, ct 2 0 _ _ _ _ _ rfl rfl rfl rfl, fun h => (nomatch h), fun _ => ⟨false, ct 2 1 _ _ _ _ _ rfl rfl rfl rfl, fun h => (nomatch h), fun _ => ⟨false, ct 2 2 _ _ _ _ _ rfl rfl rfl rfl, fun h => (nomatch h), fun _ => ⟨true, ct 2 3 _ _ _ _ _ rfl rfl rfl rfl, fun _ a ha => s_retU (eu_tup (ea_cons ev_c (ea_cons (ev_xe (ev_var rfl) xc (hf _ (by simp)) upd_same rfl) ea_nil)) (show 2 ≤ 100000 by decide)) fun p H2 h0 e2 h2 => q p H2 (fresh_back (e.trans (Ex.new hd)) h0) ((e.trans (Ex.new hd)).trans e2) h2, fun h => nomatch h⟩⟩⟩⟩⟩
    | 3, _ =>
      have xc := xcs "NoPlace" (by decide +kernel)
      have hf := nfs 41 ("NoPlace", (["place"] : List Str)) rfl
      exact ⟨_, rfl, _, rfl, _, rfl, 3, v, k, _, _, rfl, rfl, fun H1 d e hd => ⟨false, ct 3 0 _ _ _ _ _ rfl rfl rfl rfl, fun h => (nomatch h), fun _ => ⟨true, ct 3 1 _ _ _ _ _ rfl rfl rfl rfl, fun _ a ha => s_retU (eu_tup (ea_cons ev_c (ea_cons (ev_xe (ev_var rfl) xc (hf _ (by simp)) upd_same rfl) (ea_cons (ev_xe (ev_var rfl) xc (hf _ (by simp)) upd_same rfl) ea_nil))) (show 3 ≤ 100000 by decide)) fun p H2 h0 e2 h2 => q p H2 (fresh_back (e.trans (Ex.new hd)) h0) ((e.trans (Ex.new hd)).trans e2) h2, fun h => nomatch h⟩⟩⟩
    | 4, _ =>
      have xc := xcs "NoOrder" (by decide +kernel)
      have hf := nfs 42 ("NoOrder", (["number"] : List Str)) rfl
      exact ⟨_, rfl, _, rfl, _, rfl, 4, v, k, _, _, rfl, rfl, fun H1 d e hd => ⟨false, ct 4 0 _ _ _ _ _ rfl rfl rfl rfl, fun h => (nomatch h), fun _ => ⟨false, ct 4 1 _ _ _ _ _ rfl rfl rfl rfl, fun h => (nomatch h), fun _ => ⟨true, ct 4 2 _ _ _ _ _ rfl rfl rfl rfl, fun _ a ha => s_retU (eu_tup (ea_cons ev_c (ea_cons (ev_xe (ev_var rfl) xc (hf _ (by simp)) upd_same rfl) (ea_cons (ev_xe (ev_var rfl) xc (hf _ (by simp)) upd_same rfl) ea_nil))) (show 3 ≤ 100000 by decide)) fun p H2 h0 e2 h2 => q p H2 (fresh_back (e.trans (Ex.new hd)) h0) ((e.trans (Ex.new hd)).trans e2) h2, fun h => nomatch h⟩⟩⟩⟩
    | 5, _ =>
      have xc := xcs "NoHistory" (by decide +kernel)
      have hf := nfs 43 ("NoHistory", ([] : List Str)) rfl
      exact ⟨_, rfl, _, rfl, _, rfl, 5, v, k, _, _, rfl, rfl, fun H1 d e hd => ⟨false, ct 5 0 _ _ _ _ _ rfl rfl rfl rfl, fun h => (nomatch h), fun _ => ⟨false, ct 5 1 _ _ _ _ _ rfl rfl rfl rfl, fun h => (nomatch h), fun _ => ⟨false, ct 5 2 _ _ _ _ _ rfl rfl rfl rfl, fun h => (nomatch h), fun _ => ⟨false, ct 5 3 _ _ _ _ _ rfl rfl rfl rfl, fun h => (nomatch h), fun _ => ⟨true, ct 5 4 _ _ _ _ _ rfl rfl rfl rfl, fun _ a ha => s_retU (eu_tup (ea_cons ev_c (ea_cons (ev_xe (ev_var rfl) xc (hf _ (by simp)) upd_same rfl) ea_nil)) (show 2 ≤ 100000 by decide)) fun p H2 h0 e2 h2 => q p H2 (fresh_back (e.trans (Ex.new hd)) h0) ((e.trans (Ex.new hd)).trans e2) h2, fun h => nomatch h⟩⟩⟩⟩⟩⟩
    | 6, _ =>
      have xc := xcs "TooGreat" (by decide +kernel)
      have hf := nfs 12 ("TooGreat", ([] : List Str)) rfl
      exact ⟨_, rfl, _, rfl, _, rfl, 6, v, k, _, _, rfl, rfl, fun H1 d e hd => ⟨false, ct 6 0 _ _ _ _ _ rfl rfl rfl rfl, fun h => (nomatch h), fun _ => ⟨false, ct 6 1 _ _ _ _ _ rfl rfl rfl rfl, fun h => (nomatch h), fun _ => ⟨false, ct 6 2 _ _ _ _ _ rfl rfl rfl rfl, fun h => (nomatch h), fun _ => ⟨false, ct 6 3 _ _ _ _ _ rfl rfl rfl rfl, fun h => (nomatch h), fun _ => ⟨false, ct 6 4 _ _ _ _ _ rfl rfl rfl rfl, fun h => (nomatch h), fun _ => ⟨true, ct 6 5 _ _ _ _ _ rfl rfl rfl rfl, fun _ a ha => s_retU (eu_tup (ea_cons ev_c (ea_cons (ev_xe (ev_var rfl) xc (hf _ (by simp)) upd_same rfl) ea_nil)) (show 2 ≤ 100000 by decide)) fun p H2 h0 e2 h2 => q p H2 (fresh_back (e.trans (Ex.new hd)) h0) ((e.trans (Ex.new hd)).trans e2) h2, fun h => nomatch h⟩⟩⟩⟩⟩⟩⟩
    | m + 7, h => exact absurd h (by omega)
end
end K00

namespace K00
open PySem PySem.Spec PyProof.Rows L2 Evl XV C8 He RZ
theorem sc_law : FnScope ["_law_script", "_law_bag_here", "_law_codes_here", "_law_turn", "_law_some", "_law_v", "_law_k", "_law_x", "_law_w", "_law_made", "_law_n", "_law_e", "_law_want", "_law_i", "_law_way"] ["_law_script"] (defScope s_law) := ⟨rfl, rfl, rfl, by decide +kernel, rfl, by decide +kernel, by decide +kernel⟩
theorem SM.up {K : PySem.W.Frag} {H : Hp} {n m : Nat} {x y : V} (h : SM K H n x y) : n ≤ m → SM K H m x y := by
  induction h generalizing m with
  | non n => exact fun _ => .non m
  | bl n b => exact fun _ => .bl m b
  | int n i => exact fun _ => .int m i
  | str n z h => exact fun _ => .str m z h
  | err n h x => exact fun _ => .err m h x
  | tup n h1 h2 hl hz hs ih => exact fun l => match m, l with | m + 1, l => .tup m h1 h2 hl hz fun i x y hx hy => ih i x y hx hy (Nat.le_of_succ_le_succ l)
  | lst n h1 h2 hl hz hs ih => exact fun l => match m, l with | m + 1, l => .lst m h1 h2 hl hz fun i x y hx hy => ih i x y hx hy (Nat.le_of_succ_le_succ l)
theorem look_last {l : List (Str × V)} {f : Str} {c : V} (h : ∀ q, q ∈ l → q.1 ≠ f) : (l ++ [(f, c)]).lookup f = some c := by
  induction l with
  | nil =>
    show (match f == f with | true => some c | false => none) = some c
    rw [beq_self_eq_true]
  | cons q l ih =>
    obtain ⟨a, b⟩ := q
    have hne : (f == a) = false := beq_eq_false_iff_ne.mpr fun e => h (a, b) (List.mem_cons_self ..) e.symm
    rw [List.cons_append, List.lookup_cons, hne]
    exact ih fun q m => h q (List.mem_cons_of_mem _ m)
theorem ex_code : ∀ p, p ∈ exL → ("code" : Str) ∉ p.2 ∧ p.1.length ≤ 100 ∧ p.2.length ≤ 4 := by decide +kernel
theorem code_at {p : Str × List Str} (m : p ∈ exL) (ys : List V) : (fldsX p.1 p.2 ys).lookup ("code" : Str) = some (V.str p.1) := by
  refine look_last fun q hq e => ?_
  have h1 := List.mem_reverse.mp hq
  obtain ⟨a, b⟩ := q
  have h2 := (List.of_mem_zip h1).1
  rw [show a = "code" from e] at h2
  exact (ex_code p m).1 h2
theorem exL_at {n : Nat} (h : n < 44) : ∃ p, exL[n]? = some p ∧ flN n = p.2 ∧ manyN n = p.2.length ∧ exN[n]? = some p.1 := by
  have hl : exL.length = 44 := by decide +kernel
  have e : exL[n]? = some (exL[n]'(by omega)) := List.getElem?_eq_getElem (by omega)
  refine ⟨_, e, ?_, ?_, ?_⟩
  · unfold flN
    rw [List.getD_eq_getElem?_getD, List.getElem?_map, e]
    rfl
  · unfold manyN
    rw [List.getD_eq_getElem?_getD, List.getElem?_map, e]
    rfl
  · unfold exN
    rw [List.getElem?_map, e]
    rfl
theorem dp_bls {K : PySem.W.Frag} {H : Hp} : ∀ bs : List Bool, DpAll K H (bs.map V.bl) (bs.map PyData.bool)
  | [] => .nil
  | b :: bs => .cons (.bl b) (dp_bls bs)
def shB (bs : List Bool) : Bool := SeqAt.shaped (.list (bs.map PyData.bool)) && PyData.eqv (.list (bs.map PyData.bool)) (.list (bs.map PyData.bool))
theorem ne_bls {K : PySem.W.Frag} {σ : L2.St} {H : Hp} {ta tb : TE} {bs : List Bool} (h : shB bs = true) (h1 : EvL ta σ H (bs.map V.bl)) (h2 : EvL tb σ H (bs.map V.bl)) : EvT (tTest (tOp (rNeD K) ta tb)) σ H false := by
  obtain ⟨s1, s2⟩ := Bool.and_eq_true_iff.mp h
  refine et_test (ev_opLL h1 h2 fun p q H1 hp hq _ => fun H2 e Q k => ⟨_, _, .lst (sq_of (e _ _ hp)) (dp_bls bs), .lst (sq_of (e _ _ hq)) (dp_bls bs), s1, s1, ?_⟩)
  rw [s2]
  exact k H2 (Ex.refl H2)
def soB (n : Nat) : List Bool := (List.range 44).map fun i => decide (i = n)
theorem so_sh : ∀ n : Nat, n < 44 → shB (soB n) = true ∧ shB (stN n) = true := by decide +kernel
theorem so_given : ∀ n : Nat, n < 44 → given 44 (fun _ => true) (fun i => V.bl (decide (V.int (i : Int) = V.int (n : Int)))) = (soB n).map V.bl := by decide +kernel
theorem so_eq (n : Nat) : soV n = (soB n).map V.bl := by
  unfold soV soB
  rw [List.map_map]
  rfl
theorem et_yes {σ : L2.St} {H : Hp} : EvT tYes σ H true := fun H1 _ _ q => q H1 (Ex.refl H1)
theorem cx_sm {K : PySem.W.Frag} {H : Hp} {v k : V} (h1 : SM K H 3 v v) (h2 : SM K H 3 k k) (m : Nat) : (cxV m v k).length ≤ 40000 ∧ ∀ u, u ∈ cxV m v k → SM K H 3 u u := by
  have st : ∀ z : Str, z.length ≤ 100000 → SM K H 3 (.str z) (.str z) := fun z h => .str 3 z h
  match m with
  | 0 => exact ⟨(by decide : 4 ≤ 40000), by
      intro u hu
      simp only [cxV, List.mem_cons, List.not_mem_nil, or_false] at hu
      rcases hu with rfl | rfl | rfl | rfl <;> first | assumption | exact st _ (by decide)⟩
  | 1 => exact ⟨(by decide : 2 ≤ 40000), by
      intro u hu
      simp only [cxV, List.mem_cons, List.not_mem_nil, or_false] at hu
      rcases hu with rfl | rfl <;> first | assumption | exact st _ (by decide)⟩
  | 2 => exact ⟨(by decide : 2 ≤ 40000), by
      intro u hu
      simp only [cxV, List.mem_cons, List.not_mem_nil, or_false] at hu
      rcases hu with rfl | rfl <;> first | assumption | exact st _ (by decide)⟩
  | 3 => exact ⟨(by decide : 3 ≤ 40000), by
      intro u hu
      simp only [cxV, List.mem_cons, List.not_mem_nil, or_false] at hu
      rcases hu with rfl | rfl | rfl <;> first | assumption | exact st _ (by decide)⟩
  | 4 => exact ⟨(by decide : 3 ≤ 40000), by
      intro u hu
      simp only [cxV, List.mem_cons, List.not_mem_nil, or_false] at hu
      rcases hu with rfl | rfl | rfl <;> first | assumption | exact st _ (by decide)⟩
  | 5 => exact ⟨(by decide : 2 ≤ 40000), by
      intro u hu
      simp only [cxV, List.mem_cons, List.not_mem_nil, or_false] at hu
      rcases hu with rfl | rfl <;> first | assumption | exact st _ (by decide)⟩
  | n + 6 => exact ⟨(by decide : 2 ≤ 40000), by
      intro u hu
      simp only [cxV, List.mem_cons, List.not_mem_nil, or_false] at hu
      rcases hu with rfl | rfl <;> first | assumption | exact st _ (by decide)⟩
theorem each_pt {H0 H : Hp} {c : Nat → List V} {n : Nat} {xs : List V} (h : Each H0 H ((List.range n).map fun m => PT (c m)) xs) {i : Nat} {x : V} (e : xs[i]? = some x) : ∃ p, x = .ref p ∧ H p = some (.tup (c i)) := by
  have hi : i < xs.length := (List.getElem?_eq_some_iff.mp e).1
  rw [h.len, List.length_map, List.length_range] at hi
  obtain ⟨u, e1, p, e2, _, e3⟩ := h.at (i := i) (P := PT (c i)) (by rw [List.getElem?_map, List.getElem?_range hi]; rfl)
  rw [e] at e1
  obtain rfl := Option.some.inj e1
  exact ⟨p, e2, e3⟩
def spLaw (K : PySem.W.Frag) : Sp := fun vs H Q _ => ∃ (a : Addr) (ns : List Int), vs = [.ref a] ∧ SqL K H a (ns.map V.int) ∧ ∀ H', Q (.bl true) H'
section
variable {P : Program} {w : World} {K : PySem.W.Frag} {mg : Str → Option Value} {base : Heap}
theorem ok_law {f : Addr} {fd : FuncData} (F : FunD K "law" "law" (defArgs s_law) (defBody s_law) (defScope s_law) [] [] f fd) (T : Bx mg)
    (c_bag : Cal P w K mg base 1 "_law_bag" (spBag K) []) (c_codes : Cal P w K mg base 1 "_law_codes" spCodes []) (c_value : Cal P w K mg base 4 "_law_value" (spVal K) [])
    (c_by_place : Cal P w K mg base 3 "_law_by_place" (spMade K) []) (c_by_name : Cal P w K mg base 3 "_law_by_name" (spMade K) []) (c_same : Cal P w K mg base 7 "_law_same" (spSame K 5) [])
    (c_fields : Cal P w K mg base 1 "_law_fields" (spFields K) []) (c_many : Cal P w K mg base 1 "_law_many" spMany []) (c_sorts : Cal P w K mg base 1 "_law_sorts" (spSorts K) []) (c_bases : Cal P w K mg base 1 "_law_bases" (spBases K) [])
    (c_stands : Cal P w K mg base 1 "_law_stands" spStands []) (c_caught : Cal P w K mg base 4 "_law_caught" spCaught [])
    (xcs : ∀ x, x ∈ exN → XC K (ga K x)) (nfs : ∀ (i : Nat) (p : Str × List Str), exL[i]? = some p → Free K (ga K p.1) ("code" :: p.2)) (sof : ∀ (i : Nat) (x : Str), exN[i]? = some x → SoF K i (ga K x)) :
    FnOk P w K mg base C8.CX0 9 f fd ["_law_script"] (spLaw K) := by
  refine F.ok sc_law (fun vs H Q E h => ?_) (fun cdv A outer s H vs Q E hr h => ?_)
  · obtain ⟨a, ns, rfl, _⟩ := h
    rfl
  · obtain ⟨a, ns, rfl, hS, q⟩ := h
    refine ⟨_, PSs.nox (
(pss_cons (ps_asg (pe_tup (pa_cons (pe_c (c_bag) hr (by omega) (by rfl) (pa_cons (pv 0) pa_nil)) (pa_cons (pe_c0 (c_codes) hr (by omega) (by rfl)) pa_nil))) (pg_tup (by rfl) (pgs_cons (pg_name (i := 1) sc_law.nd rfl (.inr rfl)) (pgs_cons (pg_name (i := 2) sc_law.nd rfl (.inl rfl)) pgs_nil))))
  (pss_cons (ps_for PassesOwn.never rfl (pi_range1 (by rfl) T.m_range (pa_cons pe_int pa_nil)) (pg_name (i := 3) sc_law.nd rfl (.inl rfl))
  (pss_cons (ps_setLc (i := 4) (own := [("_law_k", 6)]) (g := gName 6) (by rfl) sc_law.nd rfl rfl (sw_true rfl rfl rfl (by decide +kernel)) (pi_range1 (by rfl) T.m_range (pa_cons pe_int pa_nil)) (blkOk_by (own := [("_law_k", 6)]) (N := ["_law_script", "_law_bag_here", "_law_codes_here", "_law_turn", "_law_some", "_law_v", "_law_k", "_law_x", "_law_w", "_law_made", "_law_n", "_law_e", "_law_want", "_law_i", "_law_way"]) (sc := defScope s_law) (by decide +kernel)) (fun _ _ _ _ _ => (pg_name (i := 6) sc_law.nd rfl (Or.inl rfl))) (fun _ _ _ _ _ => pts_nil) (fun _ _ _ _ _ => (pe_c (c_value) hr (by omega) (by rfl) (pa_cons (pv 1) pa_nil))))
  (pss_cons (ps_asg (pe_tup (pa_cons (pe_ix ix_list (pv 4) pe_int (fun _ _ => rfl)) (pa_cons (pe_ix ix_list (pv 4) pe_int (fun _ _ => rfl)) (pa_cons (pe_ix ix_list (pv 4) pe_int (fun _ _ => rfl)) (pa_cons (pe_ix ix_list (pv 4) pe_int (fun _ _ => rfl)) pa_nil))))) (pg_tup (by rfl) (pgs_cons (pg_name (i := 5) sc_law.nd rfl (.inr rfl)) (pgs_cons (pg_name (i := 6) sc_law.nd rfl (.inr rfl)) (pgs_cons (pg_name (i := 7) sc_law.nd rfl (.inl rfl)) (pgs_cons (pg_name (i := 8) sc_law.nd rfl (.inl rfl)) pgs_nil))))))
  (pss_cons (ps_for PassesOwn.never rfl (pi_list (pe_lst (pa_cons (pe_c (c_by_place) hr (by omega) (by rfl) (pa_cons (pv 5) (pa_cons (pv 6) (pa_cons (pv 7) (pa_cons (pv 8) pa_nil))))) (pa_cons (pe_c (c_by_name) hr (by omega) (by rfl) (pa_cons (pv 5) (pa_cons (pv 6) (pa_cons (pv 7) (pa_cons (pv 8) pa_nil))))) pa_nil)))) (pg_name (i := 9) sc_law.nd rfl (.inl rfl))
  (pss_one (ps_for PassesOwn.never rfl (pi_range1 (by rfl) T.m_range (pa_cons pe_int pa_nil)) (pg_name (i := 10) sc_law.nd rfl (.inr rfl))
  (pss_cons (ps_set (i := 11) sc_law.nd rfl (.inl rfl) (pe_ix ix_list (pv 9) (pv 10) (fun _ _ => rfl)))
  (pss_cons (ps_if (PW.pt (pw_or (pt_not (pt_val (pe_c (c_same) hr (by omega) (by rfl) (pa_cons (pe_callTy call_list_of (by rfl) T.m_list (by decide +kernel) (pa_cons (pe_c (c_fields) hr (by omega) (by rfl) (pa_cons (pv 10) (pa_cons (pv 11) pa_nil))) pa_nil)) (pa_cons (pe_slice sl_list (pv 4) po_none (po_some (pe_c (c_many) hr (by omega) (by rfl) (pa_cons (pv 10) pa_nil)))) pa_nil))))) (pw_or1 (pt_not (pt_val (pe_c (c_same) hr (by omega) (by rfl) (pa_cons (pe_xg (pv 11)) (pa_cons (pe_ix ix_list (pv 2) (pv 10) (fun _ _ => rfl)) pa_nil))))))))
  (pss_one (ps_ret pe_bl))
  pss_nil)
  (pss_one (ps_if (PW.pt (pw_or (pt_cmpR (op_neD hr.units) (pe_c (c_sorts) hr (by omega) (by rfl) (pa_cons (pv 11) pa_nil)) (pe_lc (own := [("_law_i", 13)]) (g := gName 13) (by rfl) sc_law.nd (pi_range1 (by rfl) T.m_range (pa_cons pe_int pa_nil)) (blkOk_by (own := [("_law_i", 13)]) (N := ["_law_script", "_law_bag_here", "_law_codes_here", "_law_turn", "_law_some", "_law_v", "_law_k", "_law_x", "_law_w", "_law_made", "_law_n", "_law_e", "_law_want", "_law_i", "_law_way"]) (sc := defScope s_law) (by decide +kernel)) (fun _ _ _ _ _ => (pg_name (i := 13) sc_law.nd rfl (Or.inl rfl))) (fun _ _ _ _ _ => pts_nil) (fun _ _ _ _ _ => (pe_cmpR op_eq (pv 13) (pv 10) (nomark _)))) (nomark _)) (pw_or1 (pt_cmpR (op_neD hr.units) (pe_c (c_bases) hr (by omega) (by rfl) (pa_cons (pv 11) pa_nil)) (pe_c (c_stands) hr (by omega) (by rfl) (pa_cons (pv 10) pa_nil)) (nomark _)))))
  (pss_one (ps_ret pe_bl))
  pss_nil)))))))
  (pss_cons (ps_set (i := 12) sc_law.nd rfl (.inl rfl) (pe_lst (pa_cons (pe_tup (pa_cons pe_str (pa_cons (pv 5) (pa_cons (pv 6) (pa_cons pe_str pa_nil))))) (pa_cons (pe_tup (pa_cons pe_str (pa_cons pe_str pa_nil))) (pa_cons (pe_tup (pa_cons pe_str (pa_cons pe_str pa_nil))) (pa_cons (pe_tup (pa_cons pe_str (pa_cons (pv 5) (pa_cons pe_str pa_nil)))) pa_nil))))))
  (pss_cons (ps_set (i := 12) sc_law.nd rfl (.inl rfl) (pe_op op_cat (pv 12) (pe_lst (pa_cons (pe_tup (pa_cons pe_str (pa_cons (pv 5) (pa_cons pe_str pa_nil)))) (pa_cons (pe_tup (pa_cons pe_str (pa_cons pe_str pa_nil))) (pa_cons (pe_tup (pa_cons pe_str (pa_cons pe_str pa_nil))) pa_nil))))))
  (pss_one (ps_if (pt_not (pt_val (pe_c (c_same) hr (by omega) (by rfl) (pa_cons (pe_lc (own := [("_law_way", 14)]) (g := gName 14) (by rfl) sc_law.nd (pi_range1 (by rfl) T.m_range (pa_cons pe_int pa_nil)) (blkOk_by (own := [("_law_way", 14)]) (N := ["_law_script", "_law_bag_here", "_law_codes_here", "_law_turn", "_law_some", "_law_v", "_law_k", "_law_x", "_law_w", "_law_made", "_law_n", "_law_e", "_law_want", "_law_i", "_law_way"]) (sc := defScope s_law) (by decide +kernel)) (fun _ _ _ _ _ => (pg_name (i := 14) sc_law.nd rfl (Or.inl rfl))) (fun _ _ _ _ _ => pts_nil) (fun _ _ _ _ _ => (pe_c (c_caught) hr (by omega) (by rfl) (pa_cons (pv 14) (pa_cons (pv 5) (pa_cons (pv 6) pa_nil)))))) (pa_cons (pv 12) pa_nil)))))
  (pss_one (ps_ret pe_bl))
  pss_nil))))))))
  (pss_one (ps_ret pe_bl))))
), ?_⟩
    refine ⟨_, rfl, a, ns, rfl, hS, fun B H1 e1 hb => ⟨rfl, fun cd H2 n2 e2 h2 => ⟨(by decide : 2 ≤ sizeLine), fun t ht => ⟨t, [.ref B, .ref cd], rfl, st_of upd_same, rfl, _, _, rfl, _, _, rfl, rfl, ?_⟩⟩⟩⟩
    have hb3 := hb.mono (e2.trans (Ex.new (o := .tup [.ref B, .ref cd]) ht))
    have hc3 := (Ex.new (o := .tup [.ref B, .ref cd]) ht) _ _ h2
    dsimp only
    refine q_forR1 (n := 2) (ea_cons ev_c ea_nil) (by decide) (fun _ σ' H' => (∃ x3 x4 x5 x6 x7 x8 x9 x10 x11 x12 x13 x14 : Option V, σ' = [some (.ref a), some (.ref B), some (.ref cd), x3, x4, x5, x6, x7, x8, x9, x10, x11, x12, x13, x14]) ∧ Bag H' B ∧ H' cd = some (.lst (exL.map fun p => V.str p.1))) (fun H4 e4 => ⟨⟨_, _, _, _, _, _, _, _, _, _, _, _, rfl⟩, hb3.mono e4, e4 _ _ hc3⟩) (fun i σ' H' hi h => ?_) (fun σ' H' h => q _)
    obtain ⟨⟨x3, x4, x5, x6, x7, x8, x9, x10, x11, x12, x13, x14, rfl⟩, hb, hc⟩ := h
    refine q_asgN (P := PL (List.replicate 4 (PG K 3))) (en_rng (n := 4) fs_g (by decide) (ea_cons ev_c ea_nil) (fun _ => rfl) fun k H5 e5 hk => fun H6 e6 Q q => ⟨_, rfl, B, rfl, hb.mono (e5.trans e6), fun v H7 e7 g => q v H7 e7 g⟩) (fun sv H5 e5 p5 => ?_)
    obtain ⟨l, xs, rfl, l0, hl, hE⟩ := p5
    obtain ⟨v, k, x, y, rfl⟩ : ∃ v k x y, xs = [v, k, x, y] := by
      match xs, hE.len with
      | [v, k, x, y], _ => exact ⟨_, _, _, _, rfl⟩
    have gs5 : ∀ u, u ∈ [v, k, x, y] → SM K H5 3 u u := fun u m => (show GV K H' H5 3 u from hE.all u m).same
    refine q_asgT (us := [v, k, x, y]) (ea_cons (ev_op (ev_var rfl) ev_c (rv_ixL (sq_of hl) rfl)) (ea_cons (ev_op (ev_var rfl) ev_c (rv_ixL (sq_of hl) rfl)) (ea_cons (ev_op (ev_var rfl) ev_c (rv_ixL (sq_of hl) rfl)) (ea_cons (ev_op (ev_var rfl) ev_c (rv_ixL (sq_of hl) rfl)) ea_nil)))) (show 4 ≤ 100000 by decide) fun t H6 e6 ht => ⟨t, [v, k, x, y], rfl, st_of ht, rfl, _, _, rfl, _, _, rfl, _, _, rfl, _, _, rfl, rfl, ?_⟩
    dsimp only
    have made : ∀ {E : XK} {σ : L2.St}, σ[5]? = some (some v) → σ[6]? = some (some k) → σ[7]? = some (some x) → σ[8]? = some (some y) → EN (tCall (spMade K) [] E (tCons (tVar 5) (tCons (tVar 6) (tCons (tVar 7) (tCons (tVar 8) tNil))))) σ H6 (PL (PsX K [v, k, x, y])) :=
      fun h1 h2 h3 h4 H8 e8 Q q => ⟨_, h1, _, h2, _, h3, _, h4, v, k, x, y, rfl, fun r H9 e9 p => q r H9 e9 p⟩
    have fsM : ∀ {n : Nat} P', P' ∈ List.replicate n (PL (PsX K [v, k, x, y])) → Fs P' := fun P' m => List.eq_of_mem_replicate m ▸ fs_l psx_fs
    refine q_forEN (Ps := List.replicate 2 (PL (PsX K [v, k, x, y]))) (en_lst fsM (ae_cons (fs_l psx_fs) (fsM (n := 1)) (made rfl rfl rfl rfl) (ae_cons (fs_l psx_fs) (fsM (n := 0)) (made rfl rfl rfl rfl) ae_nil)) (show 2 ≤ 100000 by decide)) fun pl ms H7 e7 pl0 hpl hM => ?_
    have e57 := e6.trans e7
    have e07 := e5.trans e57
    have gs : ∀ u, u ∈ [v, k, x, y] → SM K H7 3 u u := fun u m => (gs5 u m).mono e57
    refine ⟨fun _ σ' H' => (∃ y9 y10 y11 y12 y13 y14 : Option V, σ' = [some (.ref a), some (.ref B), some (.ref cd), some (.int (i : Int)), some (.ref l), some v, some k, some x, some y, y9, y10, y11, y12, y13, y14]) ∧ Ex H7 H', ⟨⟨_, _, _, _, _, _, rfl⟩, Ex.refl _⟩, fun _ _ _ _ h => sq_of (h.2 _ _ hpl), fun j mv σ' H8 hj h => ?_, fun σ' H8 h => ?_⟩
    · obtain ⟨⟨y9, y10, y11, y12, y13, y14, rfl⟩, e8⟩ := h
      obtain ⟨pm, es, rfl, _, hpm, hEs⟩ := (hM.all mv (List.mem_of_getElem? hj) : PL (PsX K [v, k, x, y]) H6 mv H7)
      refine s_forR1 (n := 44) (ea_cons ev_c ea_nil) (by decide) (fun _ σ' H' => (∃ z10 z11 z12 z13 z14 : Option V, σ' = [some (.ref a), some (.ref B), some (.ref cd), some (.int (i : Int)), some (.ref l), some v, some k, some x, some y, some (.ref pm), z10, z11, z12, z13, z14]) ∧ Ex H7 H') (fun H9 e9 => ⟨⟨_, _, _, _, _, rfl⟩, e8.trans e9⟩) (fun n σ' H9 hn h => ?_) (fun σ' H9 h => ?_)
      · obtain ⟨⟨z10, z11, z12, z13, z14, rfl⟩, e9⟩ := h
        have hn' : n < 44 := by omega
        obtain ⟨⟨nm, fs⟩, hp, hfl, hmany, hex⟩ := exL_at hn'
        have hmem := List.mem_of_getElem? hp
        obtain ⟨_, hnm, hfs⟩ := ex_code _ hmem
        have xc := xcs nm (List.mem_of_getElem? hex)
        have nf := nfs n _ hp
        have S := sof n nm hex
        have hPn : (PsX K [v, k, x, y])[n]? = some (PX (ga K nm) (fldsX nm fs ([v, k, x, y].take fs.length))) := by
          unfold PsX
          rw [List.getElem?_map, hp]
          rfl
        obtain ⟨e, he, hPe⟩ := hEs.at hPn
        obtain ⟨ea, rfl, hX⟩ := hPe.at
        obtain ⟨ys, hys⟩ : ∃ ys, ys = [v, k, x, y].take fs.length := ⟨_, rfl⟩
        rw [← hys] at hX
        have hlen : ys.length = fs.length := by
          rw [hys, List.length_take]
          show min fs.length 4 = fs.length
          have : fs.length ≤ 4 := hfs
          omega
        have hcut : cutV [v, k, x, y] none (some ((manyN n : Nat) : Int)) = ys := by rw [cut_to, hmany, hys]
        have gys : ∀ u, u ∈ ys → SM K H7 3 u u := fun u m => gs u (List.mem_of_mem_take (hys ▸ m))
        refine q_asg (ev_op (ev_var rfl) (ev_var rfl) (rv_ixL (sq_of (e9 _ _ hpm)) (atI_nat he))) fun H10 e10 => ?_
        have e10 := e9.trans e10
        refine q_when (et_or (a := !true) (b := !true) (et_not (a := true) (et_B (b := true) ?s1)) (fun _ => et_not (a := true) (et_B (b := true) ?s2))) (fun h => absurd h (by decide)) fun _ H11 e11 => ?_
        case s1 =>
          intro H12 e12 Q q
          have e12 := e10.trans e12
          refine ⟨_, rfl, _, rfl, n, ea, ga K nm, nm, ys, rfl, hn', ?_, ?_, xc, ?_, fun p1 H13 _ e13 hp1 => ⟨p1, ys, rfl, .inr (st_of hp1), fun l1 hl1 => ⟨_, rfl, _, rfl, n, rfl, hn', fun H14 e14 => ⟨_, rfl, l, [v, k, x, y], rfl, ?_, fun r hr => ⟨.ref l1, .ref r, rfl, ?_, fun H15 e15 => q H15 ?_⟩⟩⟩⟩⟩
          · rw [hfl]
            exact xat_mono e12 hX
          · rw [hfl]
            exact hlen
          · rw [hfl]
            exact nf
          · exact sq_of (((e57.trans (e12.trans e13)).trans (Ex.new hl1)).trans e14 _ _ hl)
          · rw [hcut]
            refine SM.lst 4 ((e14.trans (Ex.new hr)) _ _ upd_same) upd_same rfl (by rw [hlen]; have : fs.length ≤ 4 := hfs; omega) fun j u z hu hz => ?_
            obtain rfl := Option.some.inj (hu.symm.trans hz)
            exact (((gys u (List.mem_of_getElem? hu)).up (by decide)).mono ((((e12.trans e13).trans (Ex.new hl1)).trans e14).trans (Ex.new hr)))
          · exact (((e13.trans (Ex.new hl1)).trans e14).trans (Ex.new hr)).trans e15
        case s2 =>
          refine ev_call (ea_cons (ev_xg (ev_var rfl) (xat_mono e10 hX) xc (nf _ (by simp)) (code_at hmem _)) (ea_cons (ev_op (ev_var rfl) (ev_var rfl) (rv_ixL (sq_of ((e07.trans e10) _ _ hc)) (atI_nat (v := V.str nm) (by rw [List.getElem?_map, hp]; rfl)))) ea_nil)) fun H12 e12 Q q E => ⟨_, _, rfl, .str 5 nm (by have : nm.length ≤ 100 := hnm; omega), fun H13 e13 => q H13 e13⟩
        have e11 := e10.trans e11
        obtain ⟨sh1, sh2⟩ := so_sh n hn'
        refine s_when (et_or (a := false) (b := false) (ne_bls (bs := soB n) sh1 (el_call (ea_cons (ev_var rfl) ea_nil) ?so) ?cmp) fun _ => ne_bls (bs := stN n) sh2 (el_call (ea_cons (ev_var rfl) ea_nil) ?ba) (el_call (ea_cons (ev_var rfl) ea_nil) ?st)) (fun h => nomatch h) fun _ H12 e12 => ?_
        case so =>
          refine fun H12 e12 Q q E => ⟨ea, ga K nm, _, n, rfl, xat_mono (e11.trans e12) hX, xc, S, fun p H13 h0 e13 h => q p H13 h0 e13 ?_⟩
          rw [← so_eq]
          exact h
        case cmp =>
          rw [← so_given n hn']
          exact el_lcR1 (n := 44) (fun _ => true) _ (ea_cons ev_c ea_nil) ⟨by decide, by decide⟩ (fun _ => rfl) (fun _ _ _ _ => et_yes) (fun _ _ _ _ _ => ev_op (ev_var rfl) (ev_var rfl) (rv_eq rfl))
        case ba => exact fun H12 e12 Q q E => ⟨ea, ga K nm, _, n, rfl, xat_mono (e11.trans e12) hX, xc, S, fun p H13 h0 e13 h => q p H13 h0 e13 h⟩
        case st => exact fun H12 e12 Q q E => ⟨n, rfl, hn', fun p H13 h0 e13 h => q p H13 h0 e13 h⟩
        exact ⟨⟨_, _, _, _, _, rfl⟩, e11.trans e12⟩
      · obtain ⟨⟨z10, z11, z12, z13, z14, rfl⟩, e9⟩ := h
        exact ⟨⟨_, _, _, _, _, _, rfl⟩, e9⟩
    · obtain ⟨⟨y9, y10, y11, y12, y13, y14, rfl⟩, e8⟩ := h
      have sv := gs v (by simp)
      have sk := gs k (by simp)
      refine q_asgN (P := PL ([cxV 0 v k, cxV 1 v k, cxV 2 v k, cxV 3 v k].map PT)) (en_lst fs_pts (ae_cons fs_t (fs_pts (ls := [cxV 1 v k, cxV 2 v k, cxV 3 v k])) (en_tupT (us := cxV 0 v k) (ea_cons ev_c (ea_cons (ev_var rfl) (ea_cons (ev_var rfl) (ea_cons ev_c ea_nil)))) (Nat.le_trans (cx_sm sv sk 0).1 (by decide))) (ae_cons fs_t (fs_pts (ls := [cxV 2 v k, cxV 3 v k])) (en_tupT (us := cxV 1 v k) (ea_cons ev_c (ea_cons ev_c ea_nil)) (Nat.le_trans (cx_sm sv sk 1).1 (by decide))) (ae_cons fs_t (fs_pts (ls := [cxV 3 v k])) (en_tupT (us := cxV 2 v k) (ea_cons ev_c (ea_cons ev_c ea_nil)) (Nat.le_trans (cx_sm sv sk 2).1 (by decide))) (ae_cons fs_t (fs_pts (ls := [])) (en_tupT (us := cxV 3 v k) (ea_cons ev_c (ea_cons (ev_var rfl) (ea_cons ev_c ea_nil))) (Nat.le_trans (cx_sm sv sk 3).1 (by decide))) ae_nil)))) (show 4 ≤ 100000 by decide)) fun wv H9 e9 p9 => ?_
      refine q_catN (Qs := [cxV 4 v k, cxV 5 v k, cxV 6 v k].map PT) fs_pts fs_pts e9 (ev_var rfl) p9 (en_lst fs_pts (ae_cons fs_t (fs_pts (ls := [cxV 5 v k, cxV 6 v k])) (en_tupT (us := cxV 4 v k) (ea_cons ev_c (ea_cons (ev_var rfl) (ea_cons ev_c ea_nil))) (Nat.le_trans (cx_sm sv sk 4).1 (by decide))) (ae_cons fs_t (fs_pts (ls := [cxV 6 v k])) (en_tupT (us := cxV 5 v k) (ea_cons ev_c (ea_cons ev_c ea_nil)) (Nat.le_trans (cx_sm sv sk 5).1 (by decide))) (ae_cons fs_t (fs_pts (ls := [])) (en_tupT (us := cxV 6 v k) (ea_cons ev_c (ea_cons ev_c ea_nil)) (Nat.le_trans (cx_sm sv sk 6).1 (by decide))) ae_nil))) (show 3 ≤ 100000 by decide)) (show 4 + 3 ≤ 100000 by decide) fun wv2 H10 e10 p10 => ?_
      have e10 := (e8.trans e9).trans e10
      refine s_when (b := !true) (et_not (a := true) (et_B (b := true) ?s)) (fun h => nomatch h) fun _ H11 e11 => ?_
      case s =>
        intro H12 e12 Q q
        refine call_EN (en_rngI (n := 7) (P := fun m => PT (cxV m v k)) (fun _ => fs_t) (by decide) (ea_cons ev_c ea_nil) (fun _ => rfl) (fun m H e hm => ?c)) fun cv H13 e13 p13 => ⟨_, rfl, _, _, rfl, ?sm, fun H14 e14 => q H14 (e13.trans e14)⟩
        case c => exact fun H e Q q => ⟨_, rfl, _, rfl, _, rfl, m, v, k, rfl, hm, fun p H' h0 e h => q _ H' e ⟨p, rfl, h0, h⟩⟩
        case sm =>
          obtain ⟨c1, cs, rfl, _, hc1, hC⟩ := p13
          obtain ⟨w1, ws, rfl, _, hw1, hW⟩ := p10
          have e13 := e12.trans e13
          have hW2 : Each H8 H10 ((List.range 7).map fun m => PT (cxV m v k)) ws := hW
          refine SM.lst 4 hc1 (e13 _ _ hw1) (by rw [hC.len, hW2.len]) (by rw [hC.len]; show 7 ≤ 40000; decide) fun j u z hu hz => ?_
          obtain ⟨pa, rfl, hpa⟩ := each_pt hC hu
          obtain ⟨pb, rfl, hpb⟩ := each_pt hW2 hz
          obtain ⟨z1, z2⟩ := cx_sm sv sk j
          refine SM.tup 3 hpa (e13 _ _ hpb) rfl z1 fun j2 u z hu hz => ?_
          obtain rfl := Option.some.inj (hu.symm.trans hz)
          exact (z2 u (List.mem_of_getElem? hu)).mono (e10.trans e13)
      exact ⟨⟨_, _, _, _, _, _, _, _, _, _, _, _, rfl⟩, (hb.mono e07).mono (e10.trans e11), (e07.trans (e10.trans e11)) _ _ hc⟩
end
end K00

namespace K00
open PySem PySem.Spec PyProof.Rows L2 XV He
/-! ### the facts, from what the Hook tells -/
def AllL {α : Type} (P : α → Prop) : List α → Prop
  | [] => True
  | x :: xs => P x ∧ AllL P xs
theorem AllL.at {α : Type} {P : α → Prop} : ∀ {l : List α}, AllL P l → ∀ {i : Nat} {x : α}, l[i]? = some x → P x
  | y :: l, h, 0, x, e => Option.some.inj e ▸ h.1
  | y :: l, h, i + 1, x, e => AllL.at h.2 (i := i) e
theorem AllL.mem {α : Type} {P : α → Prop} {l : List α} (h : AllL P l) {x : α} (m : x ∈ l) : P x := by
  obtain ⟨i, hi, e⟩ := List.mem_iff_getElem.mp m
  exact h.at (i := i) (by rw [List.getElem?_eq_getElem hi, e])
structure CfK (K : PySem.W.Frag) (p : Str × List Str) : Prop where
  xc : XC K (ga K p.1)
  i : PySem.W.findIn K (.ref (ga K p.1)) "__init__" = some (some (.ref (ma K (ga K p.1) "__init__")))
  t : PySem.W.typeIn K (.ref (ma K (ga K p.1) "__init__")) = some (.type "function")
  nf : Free K (ga K p.1) ("code" :: p.2)
section
variable {K : PySem.W.Frag}
theorem cfB_ok {p : Str × List Str} (h : cfB K p = true) : CfK K p := by
  obtain ⟨h1, h⟩ := He.ba h
  obtain ⟨h2, h⟩ := He.ba h
  obtain ⟨h3, h4⟩ := He.ba h
  exact ⟨xcB_ok h1, of_decide_eq_true h2, of_decide_eq_true h3, fun f m => of_decide_eq_true (List.all_eq_true.mp h4 f m)⟩
theorem xvB_ok {C : Addr} (xc : XC K C) (h : xvB K C = true) : XV0 K C := by
  obtain ⟨h1, h⟩ := He.ba h
  obtain ⟨h2, h⟩ := He.ba h
  obtain ⟨h3, h⟩ := He.ba h
  obtain ⟨h4, h⟩ := He.ba h
  obtain ⟨h5, h6⟩ := He.ba h
  exact ⟨xc, of_decide_eq_true h1, of_decide_eq_true h2, of_decide_eq_true h3, of_decide_eq_true h4, of_decide_eq_true h5, of_decide_eq_true h6⟩
theorem soAll_ok {C : Addr} {n : Nat} : ∀ {ys : List Str} {j : Nat}, soAll K C n j ys = true → ∀ (i : Nat) (x : Str), ys[i]? = some x → PySem.W.kitOne K (.ref C) (.ref (ga K x)) = some (decide (i + j = n))
  | y :: ys, j, h, 0, x, e => by
    obtain rfl := Option.some.inj e
    have h1 := of_decide_eq_true (He.ba h).1
    rw [h1, Nat.zero_add]
  | y :: ys, j, h, i + 1, x, e => by
    have h1 := soAll_ok (He.ba h).2 i x e
    rw [h1, show i + (j + 1) = i + 1 + j by omega]
theorem baB_ok {C : Addr} {n : Nat} (hs : ∀ (i : Nat) (x : Str), exN[i]? = some x → PySem.W.kitOne K (.ref C) (.ref (ga K x)) = some (decide (i = n))) (h : baB K C n = true) : SoF K n C := by
  obtain ⟨h0, h⟩ := He.ba h
  obtain ⟨h1, h⟩ := He.ba h
  obtain ⟨h2, h⟩ := He.ba h
  obtain ⟨h3, h⟩ := He.ba h
  obtain ⟨h4, h⟩ := He.ba h
  obtain ⟨h5, h⟩ := He.ba h
  obtain ⟨h6, h7⟩ := He.ba h
  exact ⟨hs, of_decide_eq_true h0, of_decide_eq_true h1, of_decide_eq_true h2, of_decide_eq_true h3, of_decide_eq_true h4, of_decide_eq_true h5, of_decide_eq_true h6, of_decide_eq_true h7⟩
theorem allSo_ok : ∀ {xs : List Str} {j : Nat}, allSo K j xs = true → ∀ (i : Nat) (x : Str), xs[i]? = some x → SoF K (i + j) (ga K x)
  | y :: ys, j, h, 0, x, e => by
    obtain rfl := Option.some.inj e
    obtain ⟨h1, h2⟩ := He.ba (He.ba h).1
    rw [Nat.zero_add]
    exact baB_ok (fun i x e => soAll_ok h1 i x e) h2
  | y :: ys, j, h, i + 1, x, e => by
    have h1 := allSo_ok (He.ba h).2 i x e
    rw [show i + 1 + j = i + (j + 1) by omega]
    exact h1
theorem exmAll_ok {C : Addr} : ∀ {ys : List Str} {bs : List Bool}, exmAll K C ys bs = true → ∀ (j : Nat) (y : Str) (b : Bool), ys[j]? = some y → bs[j]? = some b → PySem.W.exmOne K (.ref C) (.ref (ga K y)) = some b
  | y :: ys, b :: bs, h, 0, y', b', e1, e2 => by
    obtain rfl := Option.some.inj e1
    obtain rfl := Option.some.inj e2
    exact of_decide_eq_true (He.ba h).1
  | y :: ys, b :: bs, h, j + 1, y', b', e1, e2 => exmAll_ok (He.ba h).2 j y' b' e1 e2
theorem catchB_ok : ∀ {ps : List (Str × List Str)} {rs : List (List Bool)}, catchB K ps rs = true → ∀ (m : Nat) (p : Str × List Str) (r : List Bool), ps[m]? = some p → rs[m]? = some r → exmAll K (ga K p.1) clL r = true
  | p :: ps, r :: rs, h, 0, p', r', e1, e2 => by
    obtain rfl := Option.some.inj e1
    obtain rfl := Option.some.inj e2
    exact (He.ba h).1
  | p :: ps, r :: rs, h, m + 1, p', r', e1, e2 => catchB_ok (He.ba h).2 m p' r' e1 e2
end
section
variable {P : Program} {w : World} {K : PySem.W.Frag} {h : Heap} {mg : Str → Option Value} {base : Heap}
theorem bx (X : K.In h) (G : h.Ns mainGlobals mg) (c : SaysD faL fnL K) : Bx mg :=
  ⟨⟨(free_ok X G (c.fact 64 (f := .free "int") rfl)), (free_ok X G (c.fact 65 (f := .free "len") rfl)), (free_ok X G (c.fact 66 (f := .free "abs") rfl)), (free_ok X G (c.fact 67 (f := .free "list") rfl)), (free_ok X G (c.fact 68 (f := .free "tuple") rfl)), (free_ok X G (c.fact 69 (f := .free "range") rfl)), (free_ok X G (c.fact 70 (f := .free "zip") rfl)), (free_ok X G (c.fact 71 (f := .free "all") rfl)), (free_ok X G (c.fact 72 (f := .free "isinstance") rfl)), (free_ok X G (c.fact 73 (f := .free "bool") rfl)), (free_ok X G (c.fact 74 (f := .free "str") rfl))⟩, (free_ok X G (c.fact 75 (f := .free "ValueError") rfl)), (free_ok X G (c.fact 76 (f := .free "LookupError") rfl)), (free_ok X G (c.fact 77 (f := .free "IndexError") rfl)), (free_ok X G (c.fact 78 (f := .free "KeyError") rfl)), (free_ok X G (c.fact 79 (f := .free "ArithmeticError") rfl))⟩
theorem gcs (X : K.In h) (G : h.Ns mainGlobals mg) (c : SaysD faL fnL K) : ∀ x, x ∈ clsN → mg x = some (.ref (ga K x)) := fun x m =>
  AllL.mem (P := fun x => mg x = some (.ref (ga K x))) (l := clsN) ⟨(glo_ok X G (c.fact 0 (f := .glo "InvalidName") rfl)), (glo_ok X G (c.fact 1 (f := .glo "InvalidPart") rfl)), (glo_ok X G (c.fact 2 (f := .glo "InvalidSide") rfl)), (glo_ok X G (c.fact 3 (f := .glo "InvalidDue") rfl)), (glo_ok X G (c.fact 4 (f := .glo "InvalidRule") rfl)), (glo_ok X G (c.fact 5 (f := .glo "InvalidRow") rfl)), (glo_ok X G (c.fact 6 (f := .glo "InvalidText") rfl)), (glo_ok X G (c.fact 7 (f := .glo "InvalidTerm") rfl)), (glo_ok X G (c.fact 8 (f := .glo "InvalidLot") rfl)), (glo_ok X G (c.fact 9 (f := .glo "NoStep") rfl)), (glo_ok X G (c.fact 10 (f := .glo "InvalidNumber") rfl)), (glo_ok X G (c.fact 11 (f := .glo "TooMany") rfl)), (glo_ok X G (c.fact 12 (f := .glo "TooGreat") rfl)), (glo_ok X G (c.fact 13 (f := .glo "TwiceHole") rfl)), (glo_ok X G (c.fact 14 (f := .glo "LooseHole") rfl)), (glo_ok X G (c.fact 15 (f := .glo "Overlaps") rfl)), (glo_ok X G (c.fact 16 (f := .glo "NotTurned") rfl)), (glo_ok X G (c.fact 17 (f := .glo "OtherStart") rfl)), (glo_ok X G (c.fact 18 (f := .glo "OtherBook") rfl)), (glo_ok X G (c.fact 19 (f := .glo "Alike") rfl)), (glo_ok X G (c.fact 20 (f := .glo "Strikes") rfl)), (glo_ok X G (c.fact 21 (f := .glo "Copies") rfl)), (glo_ok X G (c.fact 22 (f := .glo "NotPiece") rfl)), (glo_ok X G (c.fact 23 (f := .glo "Clash") rfl)), (glo_ok X G (c.fact 24 (f := .glo "NoRest") rfl)), (glo_ok X G (c.fact 25 (f := .glo "Needed") rfl)), (glo_ok X G (c.fact 26 (f := .glo "InvalidKnot") rfl)), (glo_ok X G (c.fact 27 (f := .glo "InvalidMaker") rfl)), (glo_ok X G (c.fact 28 (f := .glo "NotSplit") rfl)), (glo_ok X G (c.fact 29 (f := .glo "NoTree") rfl)), (glo_ok X G (c.fact 30 (f := .glo "NotWithin") rfl)), (glo_ok X G (c.fact 31 (f := .glo "NotClosed") rfl)), (glo_ok X G (c.fact 32 (f := .glo "NotRow") rfl)), (glo_ok X G (c.fact 33 (f := .glo "NotKey") rfl)), (glo_ok X G (c.fact 34 (f := .glo "DuplicateName") rfl)), (glo_ok X G (c.fact 35 (f := .glo "LastHand") rfl)), (glo_ok X G (c.fact 36 (f := .glo "InvalidDeed") rfl)), (glo_ok X G (c.fact 37 (f := .glo "UnknownName") rfl)), (glo_ok X G (c.fact 38 (f := .glo "UnknownDoer") rfl)), (glo_ok X G (c.fact 39 (f := .glo "UnknownEvent") rfl)), (glo_ok X G (c.fact 40 (f := .glo "UnknownLetter") rfl)), (glo_ok X G (c.fact 41 (f := .glo "NoPlace") rfl)), (glo_ok X G (c.fact 42 (f := .glo "NoOrder") rfl)), (glo_ok X G (c.fact 43 (f := .glo "NoHistory") rfl)), (glo_ok X G (c.fact 44 (f := .glo "WorkError") rfl)), (glo_ok X G (c.fact 45 (f := .glo "Missing") rfl)), (glo_ok X G (c.fact 46 (f := .glo "NothingLeft") rfl)), trivial⟩ m
theorem mks (X : K.In h) (G : h.Ns mainGlobals mg) (c : SaysD faL fnL K) (cf : ∀ p, p ∈ exL → CfK K p) : ∀ (i : Nat) (p : Str × List Str), exL[i]? = some p → MkX P w K mg base 1 p.1 (ga K p.1) p.1 p.2 := fun i p e => by
  have gc := gcs X G c
  have mk : ∀ (p : Str × List Str), p ∈ exL → CF K mg p.1 (ga K p.1) (ma K (ga K p.1) "__init__") p.2 := fun p m => by
    have q := cf p m
    exact ⟨q.xc, gc _ (List.mem_append_left _ (List.mem_map_of_mem m)), q.i, q.t, q.nf⟩
  obtain ⟨fd_InvalidName, F_InvalidName⟩ := c.def_ 17 (d := di_InvalidName) rfl
  obtain ⟨fd_InvalidPart, F_InvalidPart⟩ := c.def_ 18 (d := di_InvalidPart) rfl
  obtain ⟨fd_InvalidSide, F_InvalidSide⟩ := c.def_ 19 (d := di_InvalidSide) rfl
  obtain ⟨fd_InvalidDue, F_InvalidDue⟩ := c.def_ 20 (d := di_InvalidDue) rfl
  obtain ⟨fd_InvalidRule, F_InvalidRule⟩ := c.def_ 21 (d := di_InvalidRule) rfl
  obtain ⟨fd_InvalidRow, F_InvalidRow⟩ := c.def_ 22 (d := di_InvalidRow) rfl
  obtain ⟨fd_InvalidText, F_InvalidText⟩ := c.def_ 23 (d := di_InvalidText) rfl
  obtain ⟨fd_InvalidTerm, F_InvalidTerm⟩ := c.def_ 24 (d := di_InvalidTerm) rfl
  obtain ⟨fd_InvalidLot, F_InvalidLot⟩ := c.def_ 25 (d := di_InvalidLot) rfl
  obtain ⟨fd_NoStep, F_NoStep⟩ := c.def_ 26 (d := di_NoStep) rfl
  obtain ⟨fd_InvalidNumber, F_InvalidNumber⟩ := c.def_ 27 (d := di_InvalidNumber) rfl
  obtain ⟨fd_TooMany, F_TooMany⟩ := c.def_ 28 (d := di_TooMany) rfl
  obtain ⟨fd_TooGreat, F_TooGreat⟩ := c.def_ 29 (d := di_TooGreat) rfl
  obtain ⟨fd_TwiceHole, F_TwiceHole⟩ := c.def_ 30 (d := di_TwiceHole) rfl
  obtain ⟨fd_LooseHole, F_LooseHole⟩ := c.def_ 31 (d := di_LooseHole) rfl
  obtain ⟨fd_Overlaps, F_Overlaps⟩ := c.def_ 32 (d := di_Overlaps) rfl
  obtain ⟨fd_NotTurned, F_NotTurned⟩ := c.def_ 33 (d := di_NotTurned) rfl
  obtain ⟨fd_OtherStart, F_OtherStart⟩ := c.def_ 34 (d := di_OtherStart) rfl
  obtain ⟨fd_OtherBook, F_OtherBook⟩ := c.def_ 35 (d := di_OtherBook) rfl
  obtain ⟨fd_Alike, F_Alike⟩ := c.def_ 36 (d := di_Alike) rfl
  obtain ⟨fd_Strikes, F_Strikes⟩ := c.def_ 37 (d := di_Strikes) rfl
  obtain ⟨fd_Copies, F_Copies⟩ := c.def_ 38 (d := di_Copies) rfl
  obtain ⟨fd_NotPiece, F_NotPiece⟩ := c.def_ 39 (d := di_NotPiece) rfl
  obtain ⟨fd_Clash, F_Clash⟩ := c.def_ 40 (d := di_Clash) rfl
  obtain ⟨fd_NoRest, F_NoRest⟩ := c.def_ 41 (d := di_NoRest) rfl
  obtain ⟨fd_Needed, F_Needed⟩ := c.def_ 42 (d := di_Needed) rfl
  obtain ⟨fd_InvalidKnot, F_InvalidKnot⟩ := c.def_ 43 (d := di_InvalidKnot) rfl
  obtain ⟨fd_InvalidMaker, F_InvalidMaker⟩ := c.def_ 44 (d := di_InvalidMaker) rfl
  obtain ⟨fd_NotSplit, F_NotSplit⟩ := c.def_ 45 (d := di_NotSplit) rfl
  obtain ⟨fd_NoTree, F_NoTree⟩ := c.def_ 46 (d := di_NoTree) rfl
  obtain ⟨fd_NotWithin, F_NotWithin⟩ := c.def_ 47 (d := di_NotWithin) rfl
  obtain ⟨fd_NotClosed, F_NotClosed⟩ := c.def_ 48 (d := di_NotClosed) rfl
  obtain ⟨fd_NotRow, F_NotRow⟩ := c.def_ 49 (d := di_NotRow) rfl
  obtain ⟨fd_NotKey, F_NotKey⟩ := c.def_ 50 (d := di_NotKey) rfl
  obtain ⟨fd_DuplicateName, F_DuplicateName⟩ := c.def_ 51 (d := di_DuplicateName) rfl
  obtain ⟨fd_LastHand, F_LastHand⟩ := c.def_ 52 (d := di_LastHand) rfl
  obtain ⟨fd_InvalidDeed, F_InvalidDeed⟩ := c.def_ 53 (d := di_InvalidDeed) rfl
  obtain ⟨fd_UnknownName, F_UnknownName⟩ := c.def_ 54 (d := di_UnknownName) rfl
  obtain ⟨fd_UnknownDoer, F_UnknownDoer⟩ := c.def_ 55 (d := di_UnknownDoer) rfl
  obtain ⟨fd_UnknownEvent, F_UnknownEvent⟩ := c.def_ 56 (d := di_UnknownEvent) rfl
  obtain ⟨fd_UnknownLetter, F_UnknownLetter⟩ := c.def_ 57 (d := di_UnknownLetter) rfl
  obtain ⟨fd_NoPlace, F_NoPlace⟩ := c.def_ 58 (d := di_NoPlace) rfl
  obtain ⟨fd_NoOrder, F_NoOrder⟩ := c.def_ 59 (d := di_NoOrder) rfl
  obtain ⟨fd_NoHistory, F_NoHistory⟩ := c.def_ 60 (d := di_NoHistory) rfl
  exact AllL.at (P := fun p => MkX P w K mg base 1 p.1 (ga K p.1) p.1 p.2) (l := exL) ⟨mk_InvalidName F_InvalidName (mk ("InvalidName", (["value"] : List Str)) (by decide +kernel)), mk_InvalidPart F_InvalidPart (mk ("InvalidPart", (["at"] : List Str)) (by decide +kernel)), mk_InvalidSide F_InvalidSide (mk ("InvalidSide", (["word"] : List Str)) (by decide +kernel)), mk_InvalidDue F_InvalidDue (mk ("InvalidDue", (["value"] : List Str)) (by decide +kernel)), mk_InvalidRule F_InvalidRule (mk ("InvalidRule", (["at"] : List Str)) (by decide +kernel)), mk_InvalidRow F_InvalidRow (mk ("InvalidRow", (["at"] : List Str)) (by decide +kernel)), mk_InvalidText F_InvalidText (mk ("InvalidText", (["line", "at"] : List Str)) (by decide +kernel)), mk_InvalidTerm F_InvalidTerm (mk ("InvalidTerm", ([] : List Str)) (by decide +kernel)), mk_InvalidLot F_InvalidLot (mk ("InvalidLot", (["at"] : List Str)) (by decide +kernel)), mk_NoStep F_NoStep (mk ("NoStep", (["at", "place"] : List Str)) (by decide +kernel)), mk_InvalidNumber F_InvalidNumber (mk ("InvalidNumber", (["value"] : List Str)) (by decide +kernel)), mk_TooMany F_TooMany (mk ("TooMany", (["most"] : List Str)) (by decide +kernel)), mk_TooGreat F_TooGreat (mk ("TooGreat", ([] : List Str)) (by decide +kernel)), mk_TwiceHole F_TwiceHole (mk ("TwiceHole", (["hole"] : List Str)) (by decide +kernel)), mk_LooseHole F_LooseHole (mk ("LooseHole", (["hole"] : List Str)) (by decide +kernel)), mk_Overlaps F_Overlaps (mk ("Overlaps", (["one", "other", "place", "piece"] : List Str)) (by decide +kernel)), mk_NotTurned F_NotTurned (mk ("NotTurned", (["at"] : List Str)) (by decide +kernel)), mk_OtherStart F_OtherStart (mk ("OtherStart", ([] : List Str)) (by decide +kernel)), mk_OtherBook F_OtherBook (mk ("OtherBook", ([] : List Str)) (by decide +kernel)), mk_Alike F_Alike (mk ("Alike", ([] : List Str)) (by decide +kernel)), mk_Strikes F_Strikes (mk ("Strikes", (["rule"] : List Str)) (by decide +kernel)), mk_Copies F_Copies (mk ("Copies", (["rule"] : List Str)) (by decide +kernel)), mk_NotPiece F_NotPiece (mk ("NotPiece", ([] : List Str)) (by decide +kernel)), mk_Clash F_Clash (mk ("Clash", (["place"] : List Str)) (by decide +kernel)), mk_NoRest F_NoRest (mk ("NoRest", (["word"] : List Str)) (by decide +kernel)), mk_Needed F_Needed (mk ("Needed", (["place"] : List Str)) (by decide +kernel)), mk_InvalidKnot F_InvalidKnot (mk ("InvalidKnot", (["at"] : List Str)) (by decide +kernel)), mk_InvalidMaker F_InvalidMaker (mk ("InvalidMaker", (["at"] : List Str)) (by decide +kernel)), mk_NotSplit F_NotSplit (mk ("NotSplit", (["rule", "place"] : List Str)) (by decide +kernel)), mk_NoTree F_NoTree (mk ("NoTree", (["doer", "sides", "piece"] : List Str)) (by decide +kernel)), mk_NotWithin F_NotWithin (mk ("NotWithin", ([] : List Str)) (by decide +kernel)), mk_NotClosed F_NotClosed (mk ("NotClosed", (["event", "cause"] : List Str)) (by decide +kernel)), mk_NotRow F_NotRow (mk ("NotRow", (["at"] : List Str)) (by decide +kernel)), mk_NotKey F_NotKey (mk ("NotKey", ([] : List Str)) (by decide +kernel)), mk_DuplicateName F_DuplicateName (mk ("DuplicateName", (["name"] : List Str)) (by decide +kernel)), mk_LastHand F_LastHand (mk ("LastHand", ([] : List Str)) (by decide +kernel)), mk_InvalidDeed F_InvalidDeed (mk ("InvalidDeed", (["at"] : List Str)) (by decide +kernel)), mk_UnknownName F_UnknownName (mk ("UnknownName", (["name"] : List Str)) (by decide +kernel)), mk_UnknownDoer F_UnknownDoer (mk ("UnknownDoer", (["doer"] : List Str)) (by decide +kernel)), mk_UnknownEvent F_UnknownEvent (mk ("UnknownEvent", (["event"] : List Str)) (by decide +kernel)), mk_UnknownLetter F_UnknownLetter (mk ("UnknownLetter", (["number"] : List Str)) (by decide +kernel)), mk_NoPlace F_NoPlace (mk ("NoPlace", (["place"] : List Str)) (by decide +kernel)), mk_NoOrder F_NoOrder (mk ("NoOrder", (["number"] : List Str)) (by decide +kernel)), mk_NoHistory F_NoHistory (mk ("NoHistory", ([] : List Str)) (by decide +kernel)), trivial⟩ e
theorem facts {f : Addr} (X : K.In h) (G : h.Ns mainGlobals mg) (hfa : mg ("law" : Str) = some (.ref f)) (c : SaysD faL fnL K) (ex : exB K = true) :
    ∃ fd : FuncData, (∀ (s : Shared) (v : Value), BindsTo s fd ⟨[v], []⟩ [("_law_script", v)]) ∧ ∀ base : Heap, K.In base → base.Ns mainGlobals mg → FnOk P w K mg base C8.CX0 9 f fd ["_law_script"] (spLaw K) := by
  obtain ⟨x1, ex⟩ := He.ba ex
  obtain ⟨x2, x3⟩ := He.ba ex
  obtain ⟨x4, x5⟩ := He.ba x2
  have cf : ∀ p, p ∈ exL → CfK K p := fun p m => cfB_ok (List.all_eq_true.mp x1 p m)
  have xcs : ∀ x, x ∈ exN → XC K (ga K x) := fun x m => by
    obtain ⟨p, hp, rfl⟩ := List.mem_map.mp m
    exact (cf p hp).xc
  have nfs : ∀ (i : Nat) (p : Str × List Str), exL[i]? = some p → Free K (ga K p.1) ("code" :: p.2) := fun i p e => (cf p (List.mem_of_getElem? e)).nf
  have sof : ∀ (i : Nat) (x : Str), exN[i]? = some x → SoF K i (ga K x) := fun i x e => allSo_ok x3 i x e
  have ct : CatchT K := fun m j x y fs r b e1 e2 e3 e4 => exmAll_ok (catchB_ok x5 m (x, fs) r e1 e3) j y b e2 e4
  have xv : XV0 K (ga K "TooGreat") := xvB_ok (xcs "TooGreat" (by decide +kernel)) x4
  have T := bx X G c
  have gC := gcs X G c
  obtain ⟨fd__law_bag, F__law_bag⟩ := c.def_ 0 (d := dd__law_bag) rfl
  have g__law_bag := (glo_ok X G (c.fact 47 (f := .glo "_law_bag") rfl))
  obtain ⟨fd__law_draw, F__law_draw⟩ := c.def_ 1 (d := dd__law_draw) rfl
  have g__law_draw := (glo_ok X G (c.fact 48 (f := .glo "_law_draw") rfl))
  obtain ⟨fd__law_of, F__law_of⟩ := c.def_ 2 (d := dd__law_of) rfl
  have g__law_of := (glo_ok X G (c.fact 49 (f := .glo "_law_of") rfl))
  obtain ⟨fd__law_same, F__law_same⟩ := c.def_ 3 (d := dd__law_same) rfl
  have g__law_same := (glo_ok X G (c.fact 50 (f := .glo "_law_same") rfl))
  obtain ⟨fd__law_name, F__law_name⟩ := c.def_ 4 (d := dd__law_name) rfl
  have g__law_name := (glo_ok X G (c.fact 51 (f := .glo "_law_name") rfl))
  obtain ⟨fd__law_value, F__law_value⟩ := c.def_ 5 (d := dd__law_value) rfl
  have g__law_value := (glo_ok X G (c.fact 52 (f := .glo "_law_value") rfl))
  obtain ⟨fd__law_codes, F__law_codes⟩ := c.def_ 6 (d := dd__law_codes) rfl
  have g__law_codes := (glo_ok X G (c.fact 53 (f := .glo "_law_codes") rfl))
  obtain ⟨fd__law_by_place, F__law_by_place⟩ := c.def_ 7 (d := dd__law_by_place) rfl
  have g__law_by_place := (glo_ok X G (c.fact 54 (f := .glo "_law_by_place") rfl))
  obtain ⟨fd__law_by_name, F__law_by_name⟩ := c.def_ 8 (d := dd__law_by_name) rfl
  have g__law_by_name := (glo_ok X G (c.fact 55 (f := .glo "_law_by_name") rfl))
  obtain ⟨fd__law_sorts, F__law_sorts⟩ := c.def_ 9 (d := dd__law_sorts) rfl
  have g__law_sorts := (glo_ok X G (c.fact 56 (f := .glo "_law_sorts") rfl))
  obtain ⟨fd__law_bases, F__law_bases⟩ := c.def_ 10 (d := dd__law_bases) rfl
  have g__law_bases := (glo_ok X G (c.fact 57 (f := .glo "_law_bases") rfl))
  obtain ⟨fd__law_stands, F__law_stands⟩ := c.def_ 11 (d := dd__law_stands) rfl
  have g__law_stands := (glo_ok X G (c.fact 58 (f := .glo "_law_stands") rfl))
  obtain ⟨fd__law_fields, F__law_fields⟩ := c.def_ 12 (d := dd__law_fields) rfl
  have g__law_fields := (glo_ok X G (c.fact 59 (f := .glo "_law_fields") rfl))
  obtain ⟨fd__law_many, F__law_many⟩ := c.def_ 13 (d := dd__law_many) rfl
  have g__law_many := (glo_ok X G (c.fact 60 (f := .glo "_law_many") rfl))
  obtain ⟨fd__law_raised, F__law_raised⟩ := c.def_ 14 (d := dd__law_raised) rfl
  have g__law_raised := (glo_ok X G (c.fact 61 (f := .glo "_law_raised") rfl))
  obtain ⟨fd__law_caught, F__law_caught⟩ := c.def_ 15 (d := dd__law_caught) rfl
  have g__law_caught := (glo_ok X G (c.fact 62 (f := .glo "_law_caught") rfl))
  obtain ⟨fd_law, F_law⟩ := c.def_ 16 (d := dd_law) rfl
  have g_law := (glo_ok X G (c.fact 63 (f := .glo "law") rfl))
  have e := hfa.symm.trans g_law
  cases e
  have b := FunD.bindsA (ps := ["_law_script"]) F_law fun _ _ _ _ _ _ us hl => match us, hl with | [_], _ => rfl
  refine ⟨fd_law, fun s v => b s [v] rfl, fun base _ _ => ?_⟩
  have M := mks (P := P) (w := w) (base := base) X G c cf
  have c_draw := ok__law_draw (P := P) (w := w) (base := base) F__law_draw g__law_draw T.toBi
  have c_of := ok__law_of F__law_of g__law_of T.toBi c_draw
  have c_name := ok__law_name F__law_name g__law_name T.toBi c_draw c_of
  have c_value := ok__law_value F__law_value g__law_value T.toBi c_draw c_of c_name (M 12 ("TooGreat", []) rfl) xv
  have c_raised := ok__law_raised F__law_raised g__law_raised M
  exact ok_law F_law T (ok__law_bag F__law_bag g__law_bag T.toBi) (ok__law_codes F__law_codes g__law_codes) c_value (ok__law_by_place F__law_by_place g__law_by_place M) (ok__law_by_name F__law_by_name g__law_by_name M) (cal_same F__law_same g__law_same T.toBi 5)
    (ok__law_fields F__law_fields g__law_fields) (ok__law_many F__law_many g__law_many) (ok__law_sorts F__law_sorts g__law_sorts T gC) (ok__law_bases F__law_bases g__law_bases T gC) (ok__law_stands F__law_stands g__law_stands)
    (ok__law_caught F__law_caught g__law_caught gC c_raised ct xcs nfs) xcs nfs sof
end
end K00

open PySem PySem.W PySem.Calls PyProof.Rows
theorem PySem.Challenge.cw_remainways_k00_errors_by_themselves_holds : PySem.Challenge.rw_remainways_k00_errors_by_themselves.Holds := by
  w_on; o_law
  refine HandSHeadRun.head_any (r := K00.R) (q := view K00.R.prog [65]) (H := K00.hookK) (ob := K00.obK) (M := 30000) (loose := K00.looseL) (d := HandSHeadRun.topDef K00.R.prog 65) (kwd := []) K00.obK_eq
    (by kernel_rfl) (fun s => by kernel_rfl) K00.run (by kernel_rfl) (by kernel_rfl) (by kernel_rfl) (by rfl) (by first | assumption | decide +kernel) (by decide +kernel) ⟨rfl, rfl, rfl, rfl, rfl, by decide +kernel⟩ ?hw ?hc
  case hw => w_witness2
  case hc =>
    refine L2.walk_ofE (l := PySem.Challenge.rw_remainways_k00_errors_by_themselves) (n := 63) (k := 9) (x := "_law_script") (CX := C8.CX0) rfl (by decide) (by kernel_rfl) ⟨rfl, by decide, by decide⟩ ?F (fun _ _ _ _ z => z)
    intro w mg fa h Y G hmg0
    obtain ⟨K, KX, c, ex⟩ := Y
    have hmg : mg ("law" : PySem.Str) = some (.ref fa) := by
      have e : (HandSHeadRun.topDef K00.R.prog 65).name = ("law" : PySem.Str) := by kernel_rfl
      rw [← e]
      exact hmg0
    obtain ⟨fd, hb, hF⟩ := K00.facts (P := (PySem.Challenge.rw_remainways_k00_errors_by_themselves).prog) (w := w) KX G hmg c ex
    exact ⟨K, fd, K00.spLaw K, KX, hb, fun H a ns hl _ hS => ⟨a, ns, rfl, hS, fun _ => rfl⟩, hF⟩
