import PyProof.Rows.All
import Wide.All
import OpenK.AllK
import Wide.FinOn
import KE.KIsAll
import KE.KTryMore
import KE.KExcInit
import HandS.ForMost
import HandS.ForExc
import HandS.ExcInit
import HandS.ExcIs
import HandS.IsInst
import HandS.Codes
import HandS.Evl
import HandS.Wide
import HandS.Defaults
import HandS.StrMore
import HandS.Walk
import HandS.More
import HandS.Zip
import HandS.TryMany
import HandS.ExcOwn
import HandS.ExcField
import KE.KxText
import HandS.Text
import HandS.Flow
import HandS.TupAny
import HandS.TupSets
import HandS.TupLe
import HandS.Keys
import HandS.SetFor
import HandS.Deep
import HandS.HeadHook1
import HandS.HeadHook2
import KE.KStateDown
import HandS.Head0
import HandS.Head1
import HandS.Head2
import HandS.HeadEnd
import HandS.Ends
import PySem.Challenge.RW_remainways_k01_words_places_judged
set_option Elab.async false
set_option linter.all false
set_option maxRecDepth 100000
set_option maxHeartbeats 0
/-! errors of the program's own that are held as values: made, given fields, read, asked for their classes -/
namespace XV
open PySem PySem.Spec PySem.W PySem.Calls PyProof.Rows L2
/-- an own error class over one of the built-in ones -/
structure XC (K : Frag) (C : Addr) : Prop where
  base : ∃ (B nI iI : String) (bmB : List Value), ExcBaseFacts B nI iI bmB ∧ StoreFacts B bmB "object.__setattr__" "object" ∧
    excInitIn K C bmB nI = true ∧ excOver K C bmB = true
  sa : findIn K (.ref C) "__setattr__" = some (some (.builtin "object.__setattr__"))
  ga : findIn K (.ref C) "__getattribute__" = some (some (.builtin "BaseException.__getattribute__"))
  gg : findIn K (.ref C) "__getattr__" = some none
  ex : subIn K (.ref C) (.type "BaseException") = some true
  ty : typeIn K (.ref C) = some (.type "type")
  kp : keepIn K (.ref C) = true
  hd : hasDictIn K C = true
  ca : findIn K (.ref C) "__class__" = some (some (.builtin "object.__class__"))
  cn : specialIn K (.builtin "object.__class__") "__get__" = some (some (.builtin "getset_descriptor.__get__"))
  ct : takesIn K (.builtin "object.__class__") = some true
  cm : mroIn K C (.type "object") = some true
def baseB (K : Frag) (C : Addr) (bmB : List Value) (nI : String) : Bool := excInitIn K C bmB nI && excOver K C bmB
def veB : List Value := [.type "ValueError", .type "Exception", .type "BaseException", .type "object"]
def leB : List Value := [.type "LookupError", .type "Exception", .type "BaseException", .type "object"]
def ieB : List Value := [.type "IndexError", .type "LookupError", .type "Exception", .type "BaseException", .type "object"]
def xcB (K : Frag) (C : Addr) : Bool :=
  (baseB K C veB "ValueError.__new__" || (baseB K C leB "LookupError.__new__" || baseB K C ieB "IndexError.__new__")) &&
  (decide (findIn K (.ref C) "__setattr__" = some (some (.builtin "object.__setattr__"))) &&
  (decide (findIn K (.ref C) "__getattribute__" = some (some (.builtin "BaseException.__getattribute__"))) &&
  (decide (findIn K (.ref C) "__getattr__" = some none) &&
  (decide (subIn K (.ref C) (.type "BaseException") = some true) &&
  (decide (typeIn K (.ref C) = some (.type "type")) && (keepIn K (.ref C) && (hasDictIn K C &&
  (decide (findIn K (.ref C) "__class__" = some (some (.builtin "object.__class__"))) &&
  (decide (specialIn K (.builtin "object.__class__") "__get__" = some (some (.builtin "getset_descriptor.__get__"))) &&
  (decide (takesIn K (.builtin "object.__class__") = some true) && decide (mroIn K C (.type "object") = some true)))))))))))
theorem ba2 {a b : Bool} (h : (a && b) = true) : a = true ∧ b = true := Bool.and_eq_true_iff.mp h
theorem xcB_ok {K : Frag} {C : Addr} (h : xcB K C = true) : XC K C := by
  obtain ⟨h0, h⟩ := ba2 h
  obtain ⟨h1, h⟩ := ba2 h
  obtain ⟨h2, h⟩ := ba2 h
  obtain ⟨h3, h⟩ := ba2 h
  obtain ⟨h4, h⟩ := ba2 h
  obtain ⟨h5, h⟩ := ba2 h
  obtain ⟨h6, h⟩ := ba2 h
  obtain ⟨h7, h⟩ := ba2 h
  obtain ⟨h8, h⟩ := ba2 h
  obtain ⟨h9, h⟩ := ba2 h
  obtain ⟨h10, h11⟩ := ba2 h
  refine ⟨?_, of_decide_eq_true h1, of_decide_eq_true h2, of_decide_eq_true h3, of_decide_eq_true h4, of_decide_eq_true h5, h6, h7,
    of_decide_eq_true h8, of_decide_eq_true h9, of_decide_eq_true h10, of_decide_eq_true h11⟩
  cases q : baseB K C veB "ValueError.__new__" with
  | true =>
    obtain ⟨a, b⟩ := ba2 q
    exact ⟨_, _, _, _, F.excBase_ValueError, F.store_ValueError, a, b⟩
  | false =>
    rw [q, Bool.false_or] at h0
    cases q2 : baseB K C leB "LookupError.__new__" with
    | true =>
      obtain ⟨a, b⟩ := ba2 q2
      exact ⟨_, _, _, _, F.excBase_LookupError, F.store_LookupError, a, b⟩
    | false =>
      rw [q2, Bool.false_or] at h0
      obtain ⟨a, b⟩ := ba2 h0
      exact ⟨_, _, _, _, F.excBase_IndexError, F.store_IndexError, a, b⟩
theorem taker_none {K : Frag} {C : Addr} {f : Str} (h : findIn K (.ref C) f = some none) : takerIn K C f = some none := by
  unfold takerIn
  rw [h, Option.bind_some]

section
open Builtin Builtin.ObjectAttr
variable {prog : Program} {w : World} {A : Around} {E : Value → Shared → Prop} {R : Result → Shared → Prop} {hp : Heap} {g : Array GenState} {d : Drawn} {t : Nat} {os : OsState}
/-- the first field: the dict is laid -/
theorem sa_new {K : Frag} {B : String} {bmB : List Value} {name : Str} {tk : Tok} {v : Value} {x C : Addr} {fv : Array Value}
    (SF : StoreFacts B bmB "object.__setattr__" "object") (X : K.In hp) (hx : hp.get? x = some { cls := .ref C, data := .fields fv })
    (ov : excOver K C bmB = true) (hh : hasDictIn K C = true) (ha : findIn K (.ref C) name = some none)
    (hq : ∀ h' tk' dx, (∀ b o, b ≠ x → hp.get? b = some o → h'.get? b = some o) → hp.objs.size ≤ dx → dx ≠ x →
      h'.get? x = some { cls := .ref C, dict := some dx, data := .fields fv } → h'.Ns1 dx (fun y => if y = name then some v else none) → R (.ok (.ret .none)) ⟨h', g, d, tk', os⟩) :
    codeAny (model prog w) A (.call (.builtin "object.__setattr__") ⟨[.ref x, .str name tk, v], []⟩) R ⟨hp, g, d, t, os⟩ := by
  have I : W.InstAt hp x { cls := .ref C, data := .fields fv } C none := ⟨hx, rfl, rfl, trivial⟩
  have hxs : x ≠ hp.objs.size := Nat.ne_of_lt (Heap.lt_size hx)
  obtain ⟨cd, hcd, hdt⟩ := any_some hh
  have lc : W.Looks (model prog w) hp (classData C) cd := W.looks_clsIn X hcd
  refine osa_openX SF X I ov (taker_none ha) fun b => ?_
  show wpAny _ _ (storeInOwnDict (.ref x) (.ref C) (.str name tk) name v b) _ _ _
  obtain ⟨n1, n2, n3, n4, n5, hdd, n6, n7, n8, n9, n10⟩ := cd
  (try dsimp only at hdt)
  subst hdt
  unfold storeInOwnDict ownDictForStores
  repeat (first
    | with_reducible refine HandSPX.store_in_new ?_ ?_
    | with_reducible refine wpAny_loadPart_at hx ?_
    | with_reducible refine lc.at ?_
    | wp_step)
  · exact ⟨_, #[], _, (Heap.get?_update_ne _ _ _ _ hxs.symm).trans (Heap.get?_push_at rfl rfl), rfl, fun e he => absurd he (by simp), fun _ => rfl⟩
  · intro h' tk' hn' hs
    have h1 : (hp.push { cls := .type "dict", data := .dict #[] }).get? x = some { cls := .ref C, data := .fields fv } := Heap.get?_push_of_some _ hx
    refine hq h' tk' hp.objs.size (fun b o hb ho => ?_) (Nat.le_refl _) hxs.symm ?_ hn'
    · exact (hs.2 b (Nat.ne_of_lt (Heap.lt_size ho))).trans ((Heap.get?_update_ne _ _ _ _ hb).trans (Heap.get?_push_of_some _ ho))
    · exact (hs.2 x hxs).trans (Heap.get?_update_self _ h1 rfl)
/-- a further field -/
theorem sa_old {K : Frag} {B : String} {bmB : List Value} {name : Str} {tk : Tok} {v : Value} {x C dx : Addr} {fv : Array Value} {m0 : Str → Option Value} {nl : List Str}
    (SF : StoreFacts B bmB "object.__setattr__" "object") (X : K.In hp) (hx : hp.get? x = some { cls := .ref C, dict := some dx, data := .fields fv })
    (hns : hp.Ns1 dx m0) (hw : Within m0 nl) (hz : nl.length ≤ 1000) (ov : excOver K C bmB = true) (hh : hasDictIn K C = true) (ha : findIn K (.ref C) name = some none)
    (hq : ∀ h' tk', (∀ b o, b ≠ dx → hp.get? b = some o → h'.get? b = some o) → h'.Ns1 dx (fun y => if y = name then some v else m0 y) → R (.ok (.ret .none)) ⟨h', g, d, tk', os⟩) :
    codeAny (model prog w) A (.call (.builtin "object.__setattr__") ⟨[.ref x, .str name tk, v], []⟩) R ⟨hp, g, d, t, os⟩ := by
  obtain ⟨oD, esD, epD, hoD, hdD, _⟩ := hns.count hw
  have I : W.InstAt hp x { cls := .ref C, dict := some dx, data := .fields fv } C (some oD) := ⟨hx, rfl, rfl, hoD⟩
  obtain ⟨cd, hcd, hdt⟩ := any_some hh
  have lc : W.Looks (model prog w) hp (classData C) cd := W.looks_clsIn X hcd
  refine osa_openX SF X I ov (taker_none ha) fun b => ?_
  show wpAny _ _ (storeInOwnDict (.ref x) (.ref C) (.str name tk) name v b) _ _ _
  obtain ⟨n1, n2, n3, n4, n5, hdd, n6, n7, n8, n9, n10⟩ := cd
  (try dsimp only at hdt)
  subst hdt
  unfold storeInOwnDict ownDictForStores
  repeat (first
    | with_reducible refine PySem.OEX.store_in_old hns hw hz ?_
    | with_reducible refine HandSPX.store_in_old hns hw hz ?_
    | with_reducible refine wpAny_loadPart_at hx ?_
    | with_reducible refine lc.at ?_
    | wp_step)
  intro h' tk' hn' hs
  exact hq h' tk' (fun b o hb ho => (hs.2 b hb).trans ho) hn'
end
end XV

namespace K01
open PySem PySem.Spec PySem.W PyProof.Rows L2 XV C8 He
def topS (i : Nat) : Stmt := PySem.Challenge.pw_remainways_k01_words_places_judged.main.body.getD i (.Pass ⟨0, 0, 0, 0⟩)
abbrev s__law_draw : Stmt := topS 20
abbrev s__law_bag : Stmt := topS 19
abbrev s__law_of : Stmt := topS 21
abbrev s__law_same : Stmt := topS 23
abbrev s_is_letters : Stmt := topS 4
abbrev s_is_name : Stmt := topS 2
abbrev s_is_hole : Stmt := topS 3
abbrev s_is_number : Stmt := topS 5
abbrev s_is_place : Stmt := topS 9
abbrev s_is_beneath : Stmt := topS 10
abbrev s__law_is_name : Stmt := topS 24
abbrev s__law_is_hole : Stmt := topS 25
abbrev s__law_whole : Stmt := topS 26
abbrev s__law_is_place : Stmt := topS 27
abbrev s__law_within : Stmt := topS 36
abbrev s_place_text : Stmt := topS 11
abbrev s_scan_place : Stmt := topS 13
abbrev s_read_place : Stmt := topS 12
abbrev s__law_dots : Stmt := topS 33
abbrev s__law_place_of : Stmt := topS 35
abbrev s_lot_text : Stmt := topS 14
abbrev s__law_mixed : Stmt := topS 22
abbrev s__law_given : Stmt := topS 28
abbrev s__law_numbers : Stmt := topS 31
abbrev s__law_odd : Stmt := topS 29
abbrev s__law_word : Stmt := topS 30
abbrev s__law_maybe : Stmt := topS 32
abbrev s__law_bent : Stmt := topS 34
abbrev s_law : Stmt := topS 37
def inClass (st : Stmt) (j : Nat) : Stmt := (clsBody st).getD j (.Pass ⟨0, 0, 0, 0⟩)
abbrev si_TooGreat : Stmt := inClass (topS 17) 0
/-! ### what the head must tell of the class and of the tuples -/
def cfB (K : PySem.W.Frag) (p : Str × List Str) : Bool :=
  xcB K (ga K p.1) && (decide (PySem.W.findIn K (.ref (ga K p.1)) "__init__" = some (some (.ref (ma K (ga K p.1) "__init__")))) && (decide (PySem.W.typeIn K (.ref (ma K (ga K p.1) "__init__")) = some (.type "function")) &&
    (((("code" : Str) :: p.2)).all fun f => decide (PySem.W.findIn K (.ref (ga K p.1)) f = some none))))
def xvB (K : PySem.W.Frag) (C : Addr) : Bool := decide (PySem.W.findIn K (.ref C) "__eq__" = some (some (.builtin "object.__eq__"))) && (decide (PySem.W.kitOne K (.ref C) (.type "list") = some false) && (decide (PySem.W.kitOne K (.ref C) (.type "tuple") = some false) &&
  (decide (PySem.W.kitOne K (.ref C) (.type "bool") = some false) && (decide (PySem.W.kitOne K (.ref C) (.type "int") = some false) && decide (PySem.W.kitOne K (.ref C) (.type "str") = some false)))))
def exB (K : PySem.W.Frag) : Bool := cfB K ("TooGreat", []) && (xvB K (ga K "TooGreat") && (tupB K "TOP" [] && tupB K "DIGITS" [.str "1", .str "2", .str "3", .str "4"]))
def dd_is_name : DefD := ⟨("is_name", none), "is_name", "is_name", defArgs s_is_name, defBody s_is_name, defScope s_is_name, [], []⟩
def dd_is_hole : DefD := ⟨("is_hole", none), "is_hole", "is_hole", defArgs s_is_hole, defBody s_is_hole, defScope s_is_hole, [], []⟩
def dd_is_letters : DefD := ⟨("is_letters", none), "is_letters", "is_letters", defArgs s_is_letters, defBody s_is_letters, defScope s_is_letters, [], []⟩
def dd_is_number : DefD := ⟨("is_number", none), "is_number", "is_number", defArgs s_is_number, defBody s_is_number, defScope s_is_number, [], []⟩
def dd_is_place : DefD := ⟨("is_place", none), "is_place", "is_place", defArgs s_is_place, defBody s_is_place, defScope s_is_place, [], []⟩
def dd_is_beneath : DefD := ⟨("is_beneath", none), "is_beneath", "is_beneath", defArgs s_is_beneath, defBody s_is_beneath, defScope s_is_beneath, [], []⟩
def dd_place_text : DefD := ⟨("place_text", none), "place_text", "place_text", defArgs s_place_text, defBody s_place_text, defScope s_place_text, [], []⟩
def dd_read_place : DefD := ⟨("read_place", none), "read_place", "read_place", defArgs s_read_place, defBody s_read_place, defScope s_read_place, [], []⟩
def dd_scan_place : DefD := ⟨("scan_place", none), "scan_place", "scan_place", defArgs s_scan_place, defBody s_scan_place, defScope s_scan_place, [], []⟩
def dd_lot_text : DefD := ⟨("lot_text", none), "lot_text", "lot_text", defArgs s_lot_text, defBody s_lot_text, defScope s_lot_text, [], []⟩
def dd__law_bag : DefD := ⟨("_law_bag", none), "_law_bag", "_law_bag", defArgs s__law_bag, defBody s__law_bag, defScope s__law_bag, [], []⟩
def dd__law_draw : DefD := ⟨("_law_draw", none), "_law_draw", "_law_draw", defArgs s__law_draw, defBody s__law_draw, defScope s__law_draw, [], []⟩
def dd__law_of : DefD := ⟨("_law_of", none), "_law_of", "_law_of", defArgs s__law_of, defBody s__law_of, defScope s__law_of, [], []⟩
def dd__law_mixed : DefD := ⟨("_law_mixed", none), "_law_mixed", "_law_mixed", defArgs s__law_mixed, defBody s__law_mixed, defScope s__law_mixed, [], []⟩
def dd__law_same : DefD := ⟨("_law_same", none), "_law_same", "_law_same", defArgs s__law_same, defBody s__law_same, defScope s__law_same, [], []⟩
def dd__law_is_name : DefD := ⟨("_law_is_name", none), "_law_is_name", "_law_is_name", defArgs s__law_is_name, defBody s__law_is_name, defScope s__law_is_name, [], []⟩
def dd__law_is_hole : DefD := ⟨("_law_is_hole", none), "_law_is_hole", "_law_is_hole", defArgs s__law_is_hole, defBody s__law_is_hole, defScope s__law_is_hole, [], []⟩
def dd__law_whole : DefD := ⟨("_law_whole", none), "_law_whole", "_law_whole", defArgs s__law_whole, defBody s__law_whole, defScope s__law_whole, [], []⟩
def dd__law_is_place : DefD := ⟨("_law_is_place", none), "_law_is_place", "_law_is_place", defArgs s__law_is_place, defBody s__law_is_place, defScope s__law_is_place, [], []⟩
def dd__law_given : DefD := ⟨("_law_given", none), "_law_given", "_law_given", defArgs s__law_given, defBody s__law_given, defScope s__law_given, [], []⟩
def dd__law_odd : DefD := ⟨("_law_odd", none), "_law_odd", "_law_odd", defArgs s__law_odd, defBody s__law_odd, defScope s__law_odd, [], []⟩
def dd__law_word : DefD := ⟨("_law_word", none), "_law_word", "_law_word", defArgs s__law_word, defBody s__law_word, defScope s__law_word, [], []⟩
def dd__law_numbers : DefD := ⟨("_law_numbers", none), "_law_numbers", "_law_numbers", defArgs s__law_numbers, defBody s__law_numbers, defScope s__law_numbers, [], []⟩
def dd__law_maybe : DefD := ⟨("_law_maybe", none), "_law_maybe", "_law_maybe", defArgs s__law_maybe, defBody s__law_maybe, defScope s__law_maybe, [], []⟩
def dd__law_dots : DefD := ⟨("_law_dots", none), "_law_dots", "_law_dots", defArgs s__law_dots, defBody s__law_dots, defScope s__law_dots, [], []⟩
def dd__law_bent : DefD := ⟨("_law_bent", none), "_law_bent", "_law_bent", defArgs s__law_bent, defBody s__law_bent, defScope s__law_bent, [], []⟩
def dd__law_place_of : DefD := ⟨("_law_place_of", none), "_law_place_of", "_law_place_of", defArgs s__law_place_of, defBody s__law_place_of, defScope s__law_place_of, [], []⟩
def dd__law_within : DefD := ⟨("_law_within", none), "_law_within", "_law_within", defArgs s__law_within, defBody s__law_within, defScope s__law_within, [], []⟩
def dd_law : DefD := ⟨("law", none), "law", "law", defArgs s_law, defBody s_law, defScope s_law, [], []⟩
def di_TooGreat : DefD := ⟨("TooGreat", some "__init__"), "__init__", "TooGreat.__init__", defArgs si_TooGreat, defBody si_TooGreat, defScope si_TooGreat, [], []⟩
def fnL : List DefD := ([dd_is_name, dd_is_hole, dd_is_letters, dd_is_number, dd_is_place, dd_is_beneath, dd_place_text, dd_read_place] : List DefD) ++ (([dd_scan_place, dd_lot_text, dd__law_bag, dd__law_draw, dd__law_of, dd__law_mixed, dd__law_same, dd__law_is_name] : List DefD) ++ (([dd__law_is_hole, dd__law_whole, dd__law_is_place, dd__law_given, dd__law_odd, dd__law_word, dd__law_numbers, dd__law_maybe] : List DefD) ++ (([dd__law_dots, dd__law_bent, dd__law_place_of, dd__law_within, dd_law, di_TooGreat] : List DefD))))
def faL : List Fa := ([Fa.glo "TooGreat", Fa.glo "TOP", Fa.glo "DIGITS", Fa.glo "is_name", Fa.glo "is_hole", Fa.glo "is_letters", Fa.glo "is_number", Fa.glo "is_place"] : List Fa) ++ (([Fa.glo "is_beneath", Fa.glo "place_text", Fa.glo "read_place", Fa.glo "scan_place", Fa.glo "lot_text", Fa.glo "_law_bag", Fa.glo "_law_draw", Fa.glo "_law_of"] : List Fa) ++ (([Fa.glo "_law_mixed", Fa.glo "_law_same", Fa.glo "_law_is_name", Fa.glo "_law_is_hole", Fa.glo "_law_whole", Fa.glo "_law_is_place", Fa.glo "_law_given", Fa.glo "_law_odd"] : List Fa) ++ (([Fa.glo "_law_word", Fa.glo "_law_numbers", Fa.glo "_law_maybe", Fa.glo "_law_dots", Fa.glo "_law_bent", Fa.glo "_law_place_of", Fa.glo "_law_within", Fa.glo "law"] : List Fa) ++ (([Fa.free "int", Fa.free "len", Fa.free "abs", Fa.free "list", Fa.free "tuple", Fa.free "range", Fa.free "zip", Fa.free "all"] : List Fa) ++ (([Fa.free "isinstance", Fa.free "bool", Fa.free "str", Fa.free "set", Fa.free "sorted", Fa.str "BLANK" "_"] : List Fa))))))
/-! ### the head -/
abbrev AlK : Type := AlD × Bool
def obsK (K : PySem.W.Frag) : AlK := (obsD faL fnL K, exB K)
def hookK : PySem.W.Hook where
  α := AlK
  obs := fun s => obsK (frG s.heap.get? (asD s.heap.get? 4))
  val := fun _ => (valD fnL, true)
  says := fun _ h => ∃ K : PySem.W.Frag, K.In h ∧ SaysD faL fnL K ∧ exB K = true
  of := fun _ _ e => ⟨_, frG_in, congrArg (fun z : AlK => z.1) e, congrArg (fun z : AlK => z.2) e⟩
  keeps := fun _ _ _ ⟨K, hK, c⟩ k => ⟨K, PySem.W.Frag.In.keeps hK k, c⟩
def obK (s : PySem.W.SharedT) : AlK := obsK (frG (HandSHeadRun.getT s) (asD (HandSHeadRun.getT s) 4))
theorem obK_eq (s : PySem.W.SharedT) : obK s = hookK.obs s.abs := by
  have e : HandSHeadRun.getT s = s.abs.heap.get? := funext (HandSHeadRun.getT_eq s)
  unfold obK
  rw [e] <;> rfl
abbrev R : PySem.W.OpenRow := PySem.W.OpenLaw.row PySem.Challenge.rw_remainways_k01_words_places_judged
def looseL : List PySem.Str := (["BLANK", "is_name", "is_hole", "is_letters", "is_number", "TOP", "DIGITS", "is_place", "is_beneath", "place_text", "read_place", "scan_place", "lot_text", "WorkError", "TooGreat", "_law_bag"] : List PySem.Str) ++ ((["_law_draw", "_law_of", "_law_mixed", "_law_same", "_law_is_name", "_law_is_hole", "_law_whole", "_law_is_place", "_law_given", "_law_odd", "_law_word", "_law_numbers", "_law_maybe", "_law_dots", "_law_bent", "_law_place_of"] : List PySem.Str) ++ ((["_law_within"] : List PySem.Str)))
theorem run (w : World) : HandSHeadRun.RunEq R (PySem.W.view R.prog [37]) hookK obK 30000 looseL w := by
  intro os
  kernel_rfl
end K01
namespace XV
open PySem PySem.Spec PySem.W PySem.Calls PyProof.Rows L2
section
variable {X : Cx} {pins : List (Addr × Obj)} {σ : L2.St} {H : Hp} {s : Shared} {a C dx : Addr} {f : Str} {y : V} {u : Value} {fs : List (Str × V)} {Q : Unit → Shared → Prop} {E : Value → Shared → Prop} {A : Around}
/-- one error gets its dict: what the abstract heap says then -/
theorem inv_dict {hp h' : Heap} {g : Array GenState} {d : Drawn} {tk tk' : Nat} {os : OsState} {mA : Str → Option Value} {t1 : Addr}
    (I : Inv X pins σ H ⟨hp, g, d, tk, os⟩) (e : H a = some (exo a C none)) (big : hp.objs.size ≤ dx) (ne : dx ≠ a)
    (keep : ∀ b o, b ≠ a → hp.get? b = some o → h'.get? b = some o)
    (at_ : h'.get? a = some { cls := .ref C, dict := some dx, data := .fields #[.ref t1, .none, .none, .none, .bool false, .none] })
    (ns : h'.Ns1 dx mA) (rel : ∀ z, RelO (fs.lookup z) (mA z)) :
    Inv X pins σ (upd (upd H dx (exd dx fs)) a (exo a C (some dx))) ⟨h', g, d, tk', os⟩ := by
  have fresh : H dx = none := I.hok.fresh big
  have old : ∀ {b : Addr} {o : Obj}, hp.get? b = some o → b ≠ dx := fun {b o} q z => by
    rw [z] at q
    exact absurd (Nat.lt_of_lt_of_le (Heap.lt_size q) big) (Nat.lt_irrefl _)
  have off : ∀ {b : Addr}, H b = none → b ≠ a := fun {b} n z => by
    rw [z, e] at n
    exact nomatch n
  have track : ∀ {b : Addr} {o : HO}, H b = some o → o ≠ exo a C none → b ≠ a ∧ b ≠ dx := fun {b o} q d => by
    refine ⟨fun z => ?_, fun z => ?_⟩
    · rw [z, e] at q
      exact d (Option.some.inj q).symm
    · rw [z, fresh] at q
      exact nomatch q
  have un : Un X.fs [] H (upd (upd H dx (exd dx fs)) a (exo a C (some dx))) hp h' := by
    refine ⟨?_, ?_, ?_, ?_, ?_, ?_, ?_⟩
    · intro b o q n _ _
      exact keep b o (off n) q
    · intro b o q n _ _
      exact ⟨o.slots, keep b o (off n) q⟩
    · intro b o q n _
      rw [upd_ne (off n), upd_ne (old q)]
      exact n
    · intro b o q _
      by_cases hb : b = a
      · subst hb
        exact ⟨_, at_⟩
      · exact ⟨o, keep b o hb q⟩
    · intro b xs q
      obtain ⟨n1, n2⟩ := track q (fun z => exo_tup z.symm)
      rw [upd_ne n1, upd_ne n2]
      exact q
    · intro b o v q
      obtain ⟨n1, n2⟩ := track q (fun z => exo_frz z.symm)
      rw [upd_ne n1, upd_ne n2]
      exact q
    · intro b ps q
      obtain ⟨n1, n2⟩ := track q (fun z => exo_tbl z.symm)
      exact ⟨#[], by rw [upd_ne n1, upd_ne n2, q]; simp⟩
  refine I.un (t' := tk') un fun b o q => ?_
  by_cases hb : b = a
  · subst hb
    rw [upd_same] at q
    obtain rfl := Option.some.inj q
    exact exo_ok at_
  · rw [upd_ne hb] at q
    by_cases hd : b = dx
    · subst hd
      rw [upd_same] at q
      obtain rfl := Option.some.inj q
      exact exd_ok ns rel
    · rw [upd_ne hd] at q
      have own : ∀ {c : Addr}, H c = some (.own b) → c ≠ a ∧ c ≠ dx := fun {c} hc => track hc (fun z => exo_own z.symm)
      refine (I.hok b o q).stay (fun c v hc z => keep c v ?_ z) (fun c hc => ?_) (fun c xs hc => ?_)
      · rcases hc with rfl | hc
        · exact hb
        · exact (own hc).1
      · rw [upd_ne (own hc).1, upd_ne (own hc).2]
        exact hc
      · obtain ⟨n1, n2⟩ := track hc (fun z => exo_tup z.symm)
        rw [upd_ne n1, upd_ne n2]
        exact hc
theorem rel_one (ry : RelV y u) (z : Str) : RelO (List.lookup z [(f, y)]) (if z = f then some u else none) :=
  relO_put (fs := []) (mA := fun _ => none) ry (fun _ => True.intro) z
/-- self.f = y, the first -/
theorem st_first (T : XC X.K C) (I : Inv X pins σ H s) (e : H a = some (exo a C none)) (hno : findIn X.K (.ref C) f = some none) (ry : RelV y u)
    (h : ∀ dx s', H dx = none → dx ≠ a → Inv X pins σ (upd (upd H dx (exd dx [(f, y)])) a (exo a C (some dx))) s' → Q () s') :
    wpAny (model X.prog X.w) A (setAttr (.ref a) f u) Q E s := by
  obtain ⟨B, nI, iI, bmB, FB, SF, c1, c2⟩ := T.base
  obtain ⟨t1, ho⟩ := exo_at I.hok e
  obtain ⟨hp, g, d, t, os⟩ := s
  refine set_plain I.kIn (od := none) ⟨ho, rfl, rfl, trivial⟩ T.sa ?_
  refine sa_new SF I.kIn ho c2 T.hd hno fun h' tk' dx k big ne hx hn => ?_
  exact h dx _ (I.hok.fresh big) ne (inv_dict I e big ne k hx hn (rel_one ry))
/-- self.f = y, a further one -/
theorem st_next (T : XC X.K C) (I : Inv X pins σ H s) (e : H a = some (exo a C (some dx))) (ed : H dx = some (exd dx fs)) (hl : fs.length ≤ 900)
    (hno : findIn X.K (.ref C) f = some none) (ry : RelV y u) (h : ∀ s', Inv X pins σ (upd H dx (exd dx ((f, y) :: fs))) s' → Q () s') :
    wpAny (model X.prog X.w) A (setAttr (.ref a) f u) Q E s := by
  obtain ⟨B, nI, iI, bmB, FB, SF, c1, c2⟩ := T.base
  obtain ⟨t1, ho⟩ := exo_at I.hok e
  obtain ⟨mA, hns, rel⟩ := exd_at I.hok ed
  have wi := within_of rel
  obtain ⟨hp, g, d, t, os⟩ := s
  obtain ⟨od, _, _, hod, _, _⟩ := hns.count wi
  refine set_plain I.kIn (od := some od) ⟨ho, rfl, rfl, hod⟩ T.sa ?_
  refine sa_old SF I.kIn ho hns wi (by rw [List.length_map]; omega) c2 T.hd hno fun h' tk' k hn => ?_
  have ex : ∃ o, h'.get? dx = some o := by
    obtain ⟨o, _, _, q, _⟩ := hn
    exact ⟨o, q⟩
  exact h _ (I.write (t' := tk') (x := dx) (e := dx) (o := exd dx ((f, y) :: fs)) (by rw [ed]; exact trivial) (.inl rfl) k ex (exd_ok hn (relO_put ry rel)))
end

/-- self.f = e, self an error that is being made -/
def tFl (K : Frag) (f : Str) (to te : TE) : TS := fun D σ H => te σ H fun y H1 => to σ H1 fun x H2 => ∃ a C : Addr, x = .ref a ∧ XC K C ∧ findIn K (.ref C) f = some none ∧
  ((H2 a = some (exo a C none) ∧ ∀ dx, H2 dx = none → dx ≠ a → D.nx σ (upd (upd H2 dx (exd dx [(f, y)])) a (exo a C (some dx)))) ∨
   ∃ (dx : Addr) (fs : List (Str × V)), H2 a = some (exo a C (some dx)) ∧ H2 dx = some (exd dx fs) ∧ fs.length ≤ 900 ∧ D.nx σ (upd H2 dx (exd dx ((f, y) :: fs))))
section
variable {X : Cx} {o e : Expr} {es : List Expr} {to te : TE} {ta : TA} {f : Str} {p p' p1 p2 pos : Pos}
theorem ps_fl (ho : PE X o to) (he : PE X e te) (hs : swapsWith e (some (.Attribute o f p')) pos.line X.env = pure false := by rfl) :
    PS X (.Assign [.Attribute o f p'] e pos) (tFl X.K f to te) := by
  constructor
  intro pins s σ H D I h
  refine plainObj_wpAny_Assign_Attribute ?_ hs
  refine thn (he.run pins s σ H _ I h) fun v s1 hv => ?_
  obtain ⟨y, H1, I1, r1, q1⟩ := hv
  refine thn (ho.run pins s1 σ H1 _ I1 q1) fun u s2 hu => ?_
  obtain ⟨x, H2, I2, r2, a, C, ex, T, hno, q⟩ := hu
  subst ex
  obtain rfl : u = Value.ref a := r2
  rcases q with ⟨ea, q⟩ | ⟨dx, fs, ea, ed, hl, q⟩
  · exact st_first T I2 ea hno r1 fun dx s' n ne J => ⟨σ, _, J, q dx n ne⟩
  · exact st_next T I2 ea ed hl hno r1 fun s' J => ⟨σ, _, J, q⟩
end

/-! ### C(..) as a value -/
/-- C(..): __init__ keeps sp; the error stands at a -/
def tMkV (C : Addr) (sp : Sp) (ta : TA) : TE := fun σ H Q => ta σ H fun vs H1 => vs.length ≤ 1000 ∧ ∀ a, H1 a = none → sp (.ref a :: vs) (upd H1 a (exo a C none)) (fun v H2 => v = .non ∧ Q (.ref a) H2) (fun _ _ _ => False)
section
variable {X : Cx} {CX : CXT} {x : Str} {C fI : Addr} {k : Nat} {fd : FuncData} {ps : List Str} {sp : Sp} {e : Expr} {es : List Expr} {ta : TA} {p pos : Pos}
theorem run_mk {pins : List (Addr × Obj)} {σ : L2.St} {H : Hp} {s : Shared} {Q : VK} {us : List Value} {vs : List V} (T : XC X.K C)
    (iC : findIn X.K (.ref C) "__init__" = some (some (.ref fI))) (tI : typeIn X.K (.ref fI) = some (.type "function"))
    (F1 : FnOk X.prog X.w X.K X.mg X.base CX k fI fd ps sp) (hr : Room (k + 1) X.A) (hb : Binds X.K fd ps []) (hx : Passes CX X (fun _ _ _ => False))
    (I : Inv X pins σ H s) (r : Vals vs us) (hz : vs.length ≤ 1000)
    (h : ∀ a, H a = none → sp (.ref a :: vs) (upd H a (exo a C none)) (fun v H2 => v = .non ∧ Q (.ref a) H2) (fun _ _ _ => False)) :
    wpAny (model X.prog X.w) X.A (call (.ref C) us) (EP X pins σ Q) X.xe s := by
  obtain ⟨B, nI, iI, bmB, FB, SF, c1, c2⟩ := T.base
  obtain ⟨nm, N, qn, bs, bm, hdct, sn, sub, ab, col, dd, k0, k1, k2, k3, k5, hC, hT⟩ := excInit_of I.kIn c1
  obtain ⟨hp, g, dr, tk, os⟩ := s
  have big : hp.objs.size ≤ hp.objs.size + 1 := Nat.le_succ _
  have hn : H (hp.objs.size + 1) = none := I.hok.fresh big
  have hq := h (hp.objs.size + 1) hn
  have kk : ∀ b o, hp.get? b = some o → ((hp.push (kdv_tup us)).push (HandSPX.excO C hp.objs.size)).get? b = some o := fun b o q => Heap.get?_push_of_some _ (Heap.get?_push_of_some _ q)
  have hget : ((hp.push (kdv_tup us)).push (HandSPX.excO C hp.objs.size)).get? (hp.objs.size + 1) = some (HandSPX.excO C hp.objs.size) := by heap_get
  have I2 : Inv X pins σ (upd H (hp.objs.size + 1) (exo (hp.objs.size + 1) C none)) ⟨(hp.push (kdv_tup us)).push (HandSPX.excO C hp.objs.size), g, dr, tk, os⟩ :=
    I.laid (t' := tk) (a := hp.objs.size + 1) (o := exo (hp.objs.size + 1) C none) kk big (exo_ok hget)
  have r2 : Vals (V.ref (hp.objs.size + 1) :: vs) (Value.ref (hp.objs.size + 1) :: us) := .cons rfl r
  have hl : (Value.ref (hp.objs.size + 1) :: us).length = ps.length := by
    rw [← r2.length]
    exact F1.len _ _ _ _ hq
  have hus : us.length ≤ sizeLine := by
    rw [← r.length, sizeLine_eq]
    omega
  have hbd := hb ⟨(hp.push (kdv_tup us)).push (HandSPX.excO C hp.objs.size), g, dr, tk, os⟩ (Value.ref (hp.objs.size + 1) :: us) I2.kIn (by rw [List.append_nil]; exact hl)
  rw [List.append_nil] at hbd
  refine wpAny_call (HandSPX.call_own FB hT hC (looks_findIn I.kIn iC) (fun self => bind_fn I.kIn self tI) hus ?_)
  refine codeAny_mono (F1.run _ X.stack _ _ ⟨Value.ref (hp.objs.size + 1) :: us, []⟩ (Value.ref (hp.objs.size + 1) :: us) _ _ (fun _ _ _ => False) (hr.make C us []) (I2.env0.make C us []) hbd r2 hq) fun rr s' hq' => ?_
  cases rr with
  | error er => exact hx pins σ _ _ er s' I2 hq'
  | ok fl =>
    cases fl with
    | ret v0 =>
      obtain ⟨v, H2, I3, rv, ev, q3⟩ := I2.after hq'
      subst ev
      exact ⟨rv, .ref (hp.objs.size + 1), H2, I3, rfl, q3⟩
    | next => exact False.elim hq'
    | brk => exact False.elim hq'
    | cont => exact False.elim hq'
theorem pe_mkv (T : XC X.K C) (iC : findIn X.K (.ref C) "__init__" = some (some (.ref fI))) (tI : typeIn X.K (.ref fI) = some (.type "function"))
    (F1 : FnOk X.prog X.w X.K X.mg X.base CX k fI fd ps sp) (hr : Room (k + 1) X.A) (hb : Binds X.K fd ps []) (hx : Passes CX X (fun _ _ _ => False))
    (hg : Gl X x) (hm : X.mg x = some (.ref C)) (ha : PA X (e :: es) ta) (hdb : (x == ("__debug__" : Str)) = false := by decide)
    (he : starEach (e :: es) X.env = (false, eval e X.env) :: starEach es X.env := by rfl) (hpl : (backTo pos (starEach es X.env)).any (·.1) = false := by rfl) :
    PE X (.Call (.Name x p) (e :: es) [] pos) (tMkV C sp ta) := by
  constructor
  intro pins s σ H Q I h
  refine wpAny_Call_Name_kw (ld_glob I hg hm ?_ hdb)
  refine callWith_K (h₀ := X.base) I.ok.mod.kin T.kp (thn (ha.run pos pins s σ H _ I h) fun us s1 hu => ?_) he hpl
  obtain ⟨vs, H1, I1, r1, hz, q1⟩ := hu
  exact ⟨I1.kIn, run_mk T iC tI F1 hr hb hx I1 r1 hz q1⟩
theorem pe_mkv0 (T : XC X.K C) (iC : findIn X.K (.ref C) "__init__" = some (some (.ref fI))) (tI : typeIn X.K (.ref fI) = some (.type "function"))
    (F1 : FnOk X.prog X.w X.K X.mg X.base CX k fI fd ps sp) (hr : Room (k + 1) X.A) (hb : Binds X.K fd ps []) (hx : Passes CX X (fun _ _ _ => False))
    (hg : Gl X x) (hm : X.mg x = some (.ref C)) (hdb : (x == ("__debug__" : Str)) = false := by decide) :
    PE X (.Call (.Name x p) [] [] pos) (tMkV C sp tNil) := by
  constructor
  intro pins s σ H Q I h
  obtain ⟨hz, q1⟩ := (show ([] : List V).length ≤ 1000 ∧ ∀ a, H a = none → sp (.ref a :: []) (upd H a (exo a C none)) (fun v H2 => v = .non ∧ Q (.ref a) H2) (fun _ _ _ => False) from h)
  refine wpAny_Call_Name_kw (ld_glob I hg hm ?_ hdb)
  exact callWith_K0 I.kIn T.kp (run_mk (us := []) T iC tI F1 hr hb hx I .nil hz q1)
end
end XV

namespace XV
open PySem PySem.Spec PySem.W PySem.Calls PyProof.Rows L2
section
variable {M : Model} {A : Around} {E : Value → Shared → Prop} {h : Heap} {g : Array GenState} {d : Drawn} {t : Nat} {os : OsState}
variable {nm q : Str} {C N : Addr} {bs bm bmB : List Value} {hdct : Bool} {sn : List Str} {sub : List Value} {ab : Bool} {col : Option Bool} {dd : Option Addr} {k0 k1 k2 k3 k5 : Option Value} {B newId initId : String}
theorem kw_check (F : ExcBaseFacts B newId initId bmB) (hT : ∀ X : String, bm.contains (.type X) = bmB.contains (.type X)) {kw : List (Str × Value)} {Q : Unit → Shared → Prop}
    (hC : h.get? C = some (excClassObj nm q C N bs bm hdct sn sub ab col dd k0 k1 k2 k3 k5 newId)) (hq : Q () ⟨h, g, d, t, os⟩) : wpAny M A (checkBuiltinCall newId ⟨[.ref C], kw⟩) Q E ⟨h, g, d, t, os⟩ := by
  have c1 : (Value.ref C :: bm).contains (.type B) = true := by rw [List.contains_cons, hT, F.hasB, Bool.or_true]
  have c2 := F.noStar
  simp only [checkBuiltinCall, F.newKind, F.newSplit, F.newRow]
  repeat (first
    | refine wpAny_loadPart_at hC ?_
    | (refine wpAny_isSubtype_exc hC ?_; rw [c1])
    | refine wpAny_staticBase_exc hC ?_
    | refine wpAny_madeBy_exc hC ?_
    | simp only [bne_self_eq_false, Bool.false_eq_true, if_false]
    | wp_step)
  exact hq
end
end XV
namespace PySem
namespace XVK
open Builtin Builtin.ObjectAttr
section
variable {prog : Program} {w : World} {A : Around} {E : Value → Shared → Prop} {R : Result → Shared → Prop} {h : Heap} {g : Array GenState} {d : Drawn} {t : Nat} {os : OsState}
variable {nm q : Str} {C N : Addr} {bs bm bmB : List Value} {hdct : Bool} {sn : List Str} {sub : List Value} {ab : Bool} {col : Option Bool} {dd : Option Addr} {k0 k1 k2 k3 k5 : Option Value} {B newId initId : String}
theorem kw_new (F : ExcBaseFacts B newId initId bmB) (hT : ∀ X : String, bm.contains (.type X) = bmB.contains (.type X)) {kw : List (Str × Value)}
    (hC : h.get? C = some (excClassObj nm q C N bs bm hdct sn sub ab col dd k0 k1 k2 k3 k5 newId))
    (hq : R (.ok (.ret (.ref (h.objs.size + 1)))) ⟨(h.push { cls := .type "tuple", data := .seq #[] }).push { cls := .ref C, data := .fields #[.ref h.objs.size, .none, .none, .none, .bool false, .none] }, g, d, t, os⟩) :
    codeAny (model prog w) A (.builtin newId ⟨[.ref C], kw⟩) R ⟨h, g, d, t, os⟩ := by
  have c0 := F.ends
  have c1 : (Value.ref C :: bm).contains (.type B) = true := by rw [List.contains_cons, hT, F.hasB, Bool.or_true]
  have c2 : (Value.ref C :: bm).contains (.type "AttributeError") = false := by rw [List.contains_cons, hT, F.noAttr]; rfl
  have c3 : (Value.ref C :: bm).contains (.type "NameError") = false := by rw [List.contains_cons, hT, F.noName]; rfl
  refine codeAny_builtinAt F.entry ?_
  unfold Builtin.«BaseException.__new__»
  refine wpAt_bind ?_
  show wpAt _ _ _ (stack >>= _) _ _ _
  refine wpAt_bind (wpAt_stack fun p below => wpAt_of_wpAny ?_)
  wp_walk
  refine wpAt_of_wpAny ?_
  rw [F.owner]
  repeat (first
    | with_reducible refine wpAny_madeHere_exc F.canon hC ?_
    | with_reducible refine wpAny_loadPart_at hC ?_
    | (with_reducible refine wpAny_isSubtype_exc hC ?_; first | rw [c1] | rw [c2] | rw [c3])
    | wp_step)
  show R _ _
  rw [Heap.size_push]
  exact hq
theorem kw_type_call (F : ExcBaseFacts B newId initId bmB) (hT : ∀ X : String, bm.contains (.type X) = bmB.contains (.type X)) {kw : List (Str × Value)} {fI : Addr} {Q : Fin → Shared → Prop}
    (hC : h.get? C = some (excClassObj nm q C N bs bm hdct sn sub ab col dd k0 k1 k2 k3 k5 newId))
    (hi : W.Looks (model prog w) h (typeLookup (.ref C) "__init__") (some (.ref fI))) (hb : ∀ self, W.Looks (model prog w) h (bindSpecial (.ref fI) self) (.ref fI, [self]))
    (hq : codeAny (model prog w) A (.call (.ref fI) ⟨[.ref (h.objs.size + 1)], kw⟩)
      (fun r s' => match r with | .ok (.ret v) => v = .none ∧ Q (.done (.ret (.ref (h.objs.size + 1)))) s' | .ok _ => False | .error e => E e s')
      ⟨(h.push (W.kdv_tup [])).push (HandSPX.excO C h.objs.size), g, d, t, os⟩) :
    wpAny (model prog w) A (Builtin.«type.__call__» ⟨[.ref C], kw⟩) Q E ⟨h, g, d, t, os⟩ := by
  repeat (first
    | with_reducible refine wpAny_loadPart_at hC ?_
    | with_reducible refine wpAny_madeBy_exc hC ?_
    | wp_step)
  refine codeAny_call_builtin_code (Code.quiet_builtin _ F.quiet) (XV.kw_check F hT hC ?_)
  refine kw_new F hT hC ?_
  show wpAny _ _ _ _ _ _
  have k : ∀ b o, h.get? b = some o → ((h.push (W.kdv_tup [])).push (HandSPX.excO C h.objs.size)).get? b = some o :=
    fun b o e => Heap.get?_push_of_some _ (Heap.get?_push_of_some _ e)
  have hC1 := k _ _ hC
  have at1 : ((h.push (W.kdv_tup [])).push (HandSPX.excO C h.objs.size)).get? (h.objs.size + 1) = some (HandSPX.excO C h.objs.size) := by heap_get
  have c4 : (Value.ref C :: bm).contains (.ref C) = true := by simp
  have i1 := hi.keeps k
  have b1 := (hb (.ref (h.objs.size + 1))).keeps k
  unfold isInstance
  repeat (first
    | with_reducible refine wpAny_loadPart_at at1 ?_
    | (with_reducible refine wpAny_isSubtype_exc hC1 ?_; rw [c4])
    | wp_step)
  show wpAny _ _ (typeLookup (.ref C) _) _ _ _
  refine i1.at ?_
  refine wpAny_holding (wpAny_bind (b1.at ?_))
  refine wpAny_bind (wpAny_call (codeAny_mono hq fun r s' z => ?_))
  rcases r with e | (v | _ | _ | _) <;> first | exact z | exact z.elim | skip
  obtain ⟨rfl, z⟩ := z
  first
    | exact wpAny_pure (wpAny_pure z)
    | (wp_walk; exact z)
theorem kw_call (F : ExcBaseFacts B newId initId bmB) (hT : ∀ X : String, bm.contains (.type X) = bmB.contains (.type X)) {kw : List (Str × Value)} {fI : Addr}
    (hC : h.get? C = some (excClassObj nm q C N bs bm hdct sn sub ab col dd k0 k1 k2 k3 k5 newId))
    (hi : W.Looks (model prog w) h (typeLookup (.ref C) "__init__") (some (.ref fI))) (hb : ∀ self, W.Looks (model prog w) h (bindSpecial (.ref fI) self) (.ref fI, [self]))
    (hq : codeAny (model prog w) (A.under (.builtin "type.__call__" ⟨[.ref C], kw⟩)) (.call (.ref fI) ⟨[.ref (h.objs.size + 1)], kw⟩) (W.InitBack (h.objs.size + 1) R)
      ⟨(h.push (W.kdv_tup [])).push (HandSPX.excO C h.objs.size), g, d, t, os⟩) :
    codeAny (model prog w) A (.call (.ref C) ⟨[], kw⟩) R ⟨h, g, d, t, os⟩ := by
  have f1 := tc_lookup
  have f2 := tc_bind (.ref C)
  have ty : (⟨h, g, d, t, os⟩ : Shared).TypeIs (.ref C) "type" := ⟨_, hC, rfl⟩
  refine codeAny_of_tree ?_
  show wpAny _ _ (callAny (.ref C) _) _ _ _
  repeat (any_goals (first
    | assumption
    | with_reducible refine wpAny_loadPart_at hC ?_
    | wp_step))
  refine ⟨rfl, ?_⟩
  refine codeAny_call_builtin_at (Code.quiet_builtin _ (by decide +kernel)) entry_typeCall (wpAny_check_type_call_sub hC (kw_type_call F hT hC hi hb ?_))
  refine codeAny_mono hq fun r s' z => ?_
  rcases r with e | (v | _ | _ | _) <;> exact z
end
end XVK
end PySem

namespace XV
open PySem PySem.Spec PySem.W PySem.Calls PyProof.Rows L2
/-! ### C(k = v, ..) as a value -/
def tMkW (C : Addr) (sp : Sp) (gV : List V → List V → List V) (tk : TA) : TE := fun σ H Q => tk σ H fun zs H1 => ∀ a, H1 a = none → sp (gV [.ref a] zs) (upd H1 a (exo a C none)) (fun v H2 => v = .non ∧ Q (.ref a) H2) (fun _ _ _ => False)
section
variable {X : Cx} {CX : CXT} {x : Str} {C fI : Addr} {k : Nat} {fd : FuncData} {ps ks : List Str} {sp : Sp} {kws : List Keyword} {tk : TA} {p pos : Pos} {g : List Value → List Value → List Value} {gV : List V → List V → List V}
theorem run_mkw {pins : List (Addr × Obj)} {σ : L2.St} {H : Hp} {s : Shared} {Q : VK} {ws : List Value} {zs : List V} (T : XC X.K C)
    (iC : findIn X.K (.ref C) "__init__" = some (some (.ref fI))) (tI : typeIn X.K (.ref fI) = some (.type "function"))
    (F1 : FnOk X.prog X.w X.K X.mg X.base CX k fI fd ps sp) (hr : Room (k + 1) X.A) (hb : KBinds X.K fd ps ks g gV) (hx : Passes CX X (fun _ _ _ => False))
    (I : Inv X pins σ H s) (r : Vals zs ws)
    (h : ∀ a, H a = none → sp (gV [.ref a] zs) (upd H a (exo a C none)) (fun v H2 => v = .non ∧ Q (.ref a) H2) (fun _ _ _ => False)) :
    wpAny (model X.prog X.w) X.A (call (.ref C) [] (ks.zip ws)) (EP X pins σ Q) X.xe s := by
  obtain ⟨B, nI, iI, bmB, FB, SF, c1, c2⟩ := T.base
  obtain ⟨nm, N, qn, bs, bm, hdct, sn, sub, ab, col, dd, k0, k1, k2, k3, k5, hC, hT⟩ := excInit_of I.kIn c1
  obtain ⟨hp, g0, dr, tk, os⟩ := s
  have big : hp.objs.size ≤ hp.objs.size + 1 := Nat.le_succ _
  have hn : H (hp.objs.size + 1) = none := I.hok.fresh big
  have hq := h (hp.objs.size + 1) hn
  have kk : ∀ b o, hp.get? b = some o → ((hp.push (kdv_tup [])).push (HandSPX.excO C hp.objs.size)).get? b = some o := fun b o q => Heap.get?_push_of_some _ (Heap.get?_push_of_some _ q)
  have hget : ((hp.push (kdv_tup [])).push (HandSPX.excO C hp.objs.size)).get? (hp.objs.size + 1) = some (HandSPX.excO C hp.objs.size) := by heap_get
  have I2 : Inv X pins σ (upd H (hp.objs.size + 1) (exo (hp.objs.size + 1) C none)) ⟨(hp.push (kdv_tup [])).push (HandSPX.excO C hp.objs.size), g0, dr, tk, os⟩ :=
    I.laid (t' := tk) (a := hp.objs.size + 1) (o := exo (hp.objs.size + 1) C none) kk big (exo_ok hget)
  have r2 : Vals (gV [V.ref (hp.objs.size + 1)] zs) (g [Value.ref (hp.objs.size + 1)] ws) := hb.rel (.cons rfl .nil) r
  have hl : (g [Value.ref (hp.objs.size + 1)] ws).length = ps.length := by
    rw [← r2.length]
    exact F1.len _ _ _ _ hq
  have hbd := hb.to ⟨(hp.push (kdv_tup [])).push (HandSPX.excO C hp.objs.size), g0, dr, tk, os⟩ [Value.ref (hp.objs.size + 1)] ws I2.kIn hl
  refine wpAny_call (PySem.XVK.kw_call FB hT hC (looks_findIn I.kIn iC) (fun self => bind_fn I.kIn self tI) ?_)
  refine codeAny_mono (F1.run _ X.stack _ _ ⟨[Value.ref (hp.objs.size + 1)], ks.zip ws⟩ (g [Value.ref (hp.objs.size + 1)] ws) _ _ (fun _ _ _ => False) (hr.make C [] (ks.zip ws)) (I2.env0.make C [] (ks.zip ws)) hbd r2 hq) fun rr s' hq' => ?_
  cases rr with
  | error er => exact hx pins σ _ _ er s' I2 hq'
  | ok fl =>
    cases fl with
    | ret v0 =>
      obtain ⟨v, H2, I3, rv, ev, q3⟩ := I2.after hq'
      subst ev
      exact ⟨rv, .ref (hp.objs.size + 1), H2, I3, rfl, q3⟩
    | next => exact False.elim hq'
    | brk => exact False.elim hq'
    | cont => exact False.elim hq'
theorem pe_mkw (T : XC X.K C) (iC : findIn X.K (.ref C) "__init__" = some (some (.ref fI))) (tI : typeIn X.K (.ref fI) = some (.type "function"))
    (F1 : FnOk X.prog X.w X.K X.mg X.base CX k fI fd ps sp) (hr : Room (k + 1) X.A) (hb : KBinds X.K fd ps ks g gV) (hx : Passes CX X (fun _ _ _ => False))
    (hg : Gl X x) (hm : X.mg x = some (.ref C)) (hkw : PK X kws tk)
    (hall : (backToKw pos (keywordEach kws X.env)).all (·.1.isSome) = true := by rfl) (hks : (backToKw pos (keywordEach kws X.env)).filterMap (·.1) = ks := by rfl)
    (hdb : (x == ("__debug__" : Str)) = false := by decide)
    (hpl : ((backTo pos (starEach [] X.env)).any (·.1) || (backToKw pos (keywordEach kws X.env)).any (·.1.isNone)) = false := by rfl) :
    PE X (.Call (.Name x p) [] kws pos) (tMkW C sp gV tk) := by
  constructor
  intro pins s σ H Q I h
  refine wpAny_Call_Name_kw (ld_glob I hg hm ?_ hdb)
  refine callWith_KW0 (h₀ := X.base) I.ok.mod.kin T.kp hall ?_ hpl
  refine thn (hkw.run pos pins s σ H _ I h) fun ws s2 hw => ?_
  obtain ⟨zs, H2, I2, rz, q2⟩ := hw
  refine ⟨I2.kIn, ?_⟩
  rw [hks]
  exact run_mkw T iC tI F1 hr hb hx I2 rz q2
end

/-! ### e.f -/
/-- at a: an error of the class at C whose fields are fs -/
def XAt (H : Hp) (a C : Addr) (fs : List (Str × V)) : Prop := ∃ dx, H a = some (exo a C (some dx)) ∧ H dx = some (exd dx fs)
def tXg (K : Frag) (f : Str) (te : TE) : TE := fun σ H Q => te σ H fun x H1 => ∃ (a C : Addr) (fs : List (Str × V)) (v : V), x = .ref a ∧ XAt H1 a C fs ∧ XC K C ∧ findIn K (.ref C) f = some none ∧ fs.lookup f = some v ∧ Q v H1
theorem inst_of {X : Cx} {pins : List (Addr × Obj)} {σ : L2.St} {H : Hp} {s : Shared} {a C : Addr} {fs : List (Str × V)} (I : Inv X pins σ H s) (h : XAt H a C fs) :
    ∃ (ox od : Obj) (mA : Str → Option Value), W.InstAt s.heap a ox C (some od) ∧ (∀ n, lookIn n od = some (mA n)) ∧ (∀ z, RelO (fs.lookup z) (mA z)) := by
  obtain ⟨dx, e1, e2⟩ := h
  obtain ⟨t1, ho⟩ := exo_at I.hok e1
  obtain ⟨mA, hns, rel⟩ := exd_at I.hok e2
  obtain ⟨od, hod, hl⟩ := lookIn_ns hns
  exact ⟨_, od, mA, ⟨ho, rfl, rfl, hod⟩, hl, rel⟩
theorem pe_xg {X : Cx} {e : Expr} {te : TE} {pos : Pos} {f : Str} (he : PE X e te) (hb : attributeBase e f X.env (eval e X.env) = eval e X.env := by rfl) :
    PE X (.Attribute e f pos) (tXg X.K f te) := by
  constructor
  intro pins s σ H Q I h
  refine attr_of hb (thn (he.run pins s σ H _ I h) fun u s1 hu => ?_)
  obtain ⟨x, H1, I1, rx, a, C, fs, v, ex, hX, T, hno, l, q⟩ := hu
  subst ex
  obtain rfl : u = Value.ref a := rx
  obtain ⟨ox, od, mA, J, hl, rel⟩ := inst_of I1 hX
  obtain ⟨u, hu, ru⟩ := RelO.some_of (v := v) (o := mA f) (by rw [← l]; exact rel f)
  exact HandSPX.exc_get I1.kIn J T.ga T.gg T.ex (findObj_own T.hd hno rfl (by rw [hl, hu])) (handed_of ru) ⟨v, H1, I1.tok _, ru, q⟩

/-! ### isinstance -/
section
variable {prog : Program} {w : World} {A : Around} {E : Value → Shared → Prop} {s : Shared} {K : Frag} {x D : Addr} {ox od : Obj}
theorem find_cls (T : XC K D) {o : Option Obj} : findObj K D o "__class__" = some (.bind (.builtin "getset_descriptor.__get__") (.builtin "object.__class__")) := by
  obtain ⟨cd, hc, _⟩ := any_some T.hd
  have h1 := T.ca
  have h2 := T.cn
  have h3 := T.ct
  unfold findObj
  rw [hc, Option.bind_some, h1, Option.bind_some]
  simp [h2, h3]
theorem ask_class {Q : Option Value → Shared → Prop} (T : XC K D) (X : K.In s.heap) (I : W.InstAt s.heap x ox D (some od)) (h : Q (some (.ref D)) { s with toks := s.toks + 1 }) :
    wpAny (model prog w) A (getAttr? (.ref x) "__class__") Q E s := by
  obtain ⟨hp, g, d, t, os⟩ := s
  have l0 := I.type (M := model prog w)
  have l1 := looks_findIn (M := model prog w) X T.ga
  have l2 := looks_findIn (M := model prog w) X T.gg
  have l3 := looks_find (M := model prog w) X I (find_cls T)
  have l4 : Looks (model prog w) hp (isInstance (.ref x) (.type "BaseException")) true := l0.andThen (looks_subIn X T.ex)
  have b1 : (false && onTheHeap (Value.builtin "BaseException.__getattribute__")) = false := rfl
  have b2 : (onTheHeap (Value.ref D) && Value.builtin "BaseException.__getattribute__" == Value.builtin "object.__getattribute__") = false := by
    rw [show (Value.builtin "BaseException.__getattribute__" == Value.builtin "object.__getattribute__") = false by decide +kernel, Bool.and_false]
  unfold getAttr? getAttrBy? getAttrBy
  refine wpAny_bind (wpAny_mkText (wpAny_bind (wpAny_attempt (wpAny_holding (wpAny_bind (l0.at (wpAny_bind (l1.at ?_))))))))
  show wpAny _ _ (if (onTheHeap (Value.ref D) && Value.builtin "BaseException.__getattribute__" == Value.builtin "object.__getattribute__") = true then _ else _) _ _ _
  rw [b2, if_neg Bool.false_ne_true]
  unfold getAttrByItsOwn hookBefore
  refine wpAny_bind ?_
  rw [if_pos (show onTheHeap (Value.ref D) = true from rfl)]
  refine l2.at ?_
  refine wpAny_bind (wpAny_attempt (wpAny_holding ?_))
  unfold callGetattribute
  rw [b1, if_neg Bool.false_ne_true]
  unfold boundAndCalled
  rw [PySem.F.excAttr_ValueError.ga.bind (.ref x)]
  refine wpAny_bind (wpAny_pure ?_)
  show wpAny _ _ (call (.builtin "BaseException.__getattribute__") [.ref x, .str "__class__" t]) _ _ _
  refine wpAny_call (codeAny_call_builtin PySem.F.excAttr_ValueError.ga.plain PySem.F.entry_bexc_ga ?_)
  refine @check_slot (model prog w) _ _ ⟨hp, g, d, t + 1, os⟩ "BaseException.__getattribute__" "BaseException" "__getattribute__" (.ref x) [.str "__class__" t] [] _ (by decide +kernel) (by decide +kernel) l4 (PySem.F.args_bexc_ga (.ref x) (.str "__class__" t)) ?_
  unfold Builtin.«object.__getattribute__»
  refine wpAny_bind (wpAny_of_eq (a := ((Value.ref x : Value), [Value.str "__class__" t])) (by first | rfl | (simp only [slotArgs]; rfl)) ?_)
  refine wpAny_bind (wpAny_pure (wpAny_bind (l0.at (wpAny_bind (l3.at ?_)))))
  show wpAny _ _ (holding [Value.builtin "object.__class__"] (call (.builtin "getset_descriptor.__get__") [.builtin "object.__class__", .ref x, .ref D]) >>= ret) _ _ _
  refine wpAny_bind (wpAny_holding (wpAny_call (class_get (s := ⟨hp, g, d, t + 1, os⟩) (ox := ox) (od := some od) X I T.cm ?_)))
  refine wpAny_pure ?_
  show wpAny _ _ (handedOut (.ref D)) _ _ _
  rw [handedOut_of (v := .ref D) rfl]
  first
    | exact wpAny_pure (wpAny_pure h)
    | exact wpAny_pure h
    | exact wpAny_pure (wpAny_bind (wpAny_pure (wpAny_pure h)))
theorem kit_x (T : XC K D) : KitX K (.ref x) (.ref D) (fun h => ∃ ox od, W.InstAt h x ox D (some od)) where
  ty := fun M h _ ⟨_, _, I⟩ => I.type
  it := fun M h X _ => by
    obtain ⟨cd, hc, _⟩ := any_some T.hd
    unfold clsIn at hc
    split at hc
    · rename_i c' d' cd' sl' ho
      intro A' Q' E' s' k q
      unfold isType loadHead
      exact wpAny_bind (wpAny_loadPart (k _ _ (X _ _ ho)) (wpAny_pure q))
    · cases hc
  ne := fun h tp dd its n sl X htp => by
    obtain ⟨cd, hc, _⟩ := any_some T.hd
    refine Bool.eq_false_iff.mpr fun q => ?_
    have e : D = tp := Value.ref.inj (beq_iff_eq.mp q)
    subst e
    unfold clsIn at hc
    split at hc
    · rename_i c' d' cd' sl' ho
      have z := (X _ _ ho).symm.trans htp
      cases z
    · cases hc
  ca := fun X ⟨_, _, I⟩ k => ask_class T X I k
end
/-- isinstance(e, c), e an error -/
def rIsX (K : Frag) : List V → Hp → VK → Prop := fun xs H Q => ∃ (a C : Addr) (fs : List (Str × V)) (c : V) (cv : Value) (b : Bool), xs = [.ref a, c] ∧ XAt H a C fs ∧ XC K C ∧ ClsV c cv ∧ kitOne K (.ref C) cv = some b ∧ Q (.bl b) H
theorem call_isX {X : Cx} : CallR X (.builtin "isinstance") (rIsX X.K) := by
  intro pins s σ H xs us Q I r h
  obtain ⟨a, C, fs, c, cv, b, rfl, hX, T, hc, e, q⟩ := h
  cases r with
  | cons rx rr =>
    cases rr with
    | cons rt rr =>
      cases rr
      cases rx
      have ec := hc.eq rt
      subst ec
      obtain ⟨ox, od, mA, J, _, _⟩ := inst_of I hX
      exact kia_one (kit_x T) I.kIn ⟨_, _, J⟩ e (fun z => nomatch z) fun tk => ⟨.bl b, H, I.kept (t' := tk) fun _ _ z => z, rfl, q⟩
/-- isinstance(e, (c1, c2, ..)), e an error, the tuple just laid -/
def rIsXT (K : Frag) : List V → Hp → VK → Prop := fun xs H Q => ∃ (a C : Addr) (fs : List (Str × V)) (tp : Addr) (cs : List V) (us : List Value) (b : Bool), xs = [.ref a, .ref tp] ∧ H tp = some (.tup cs) ∧ Paired ClsV cs us ∧ XAt H a C fs ∧ XC K C ∧ kitAny K (.ref C) us = some b ∧ Q (.bl b) H
end XV

namespace XV
open PySem PySem.Spec PySem.W PySem.Calls PyProof.Rows L2 Evl
/-! ### isinstance of anything that is drawn -/
inductive TyE (K : Frag) (H : Hp) : V → Value → Prop where
  | plain {x : V} {t : Value} (h : TyX K H x t) : TyE K H x t
  | err {a C : Addr} {fs : List (Str × V)} (h : XAt H a C fs) (T : XC K C) : TyE K H (.ref a) (.ref C)
theorem kit_e {X : Cx} {pins : List (Addr × Obj)} {σ : L2.St} {H : Hp} {s : Shared} {x : V} {u t : Value} (I : Inv X pins σ H s) (rx : RelV x u) (ty : TyE X.K H x t) :
    ∃ P : Heap → Prop, KitX X.K u t P ∧ P s.heap ∧ u ≠ .builtin "__main__.__loader__#opaque" := by
  cases ty with
  | plain h => exact kit_of I rx h
  | @err a C fs h T =>
    obtain rfl : u = Value.ref a := rx
    obtain ⟨ox, od, mA, J, _, _⟩ := inst_of I h
    exact ⟨_, kit_x T, ⟨_, _, J⟩, fun z => nomatch z⟩
def rIs1 (K : Frag) : List V → Hp → VK → Prop := fun xs H Q => ∃ (x c : V) (t u : Value) (b : Bool), xs = [x, c] ∧ ClsV c u ∧ TyE K H x t ∧ kitOne K t u = some b ∧ Q (.bl b) H
def rIs2 (K : Frag) : List V → Hp → VK → Prop := fun xs H Q => ∃ (x : V) (tp : Addr) (cs : List V) (t : Value) (us : List Value) (b : Bool), xs = [x, .ref tp] ∧ H tp = some (.tup cs) ∧ Paired ClsV cs us ∧ TyE K H x t ∧ kitAny K t us = some b ∧ Q (.bl b) H
theorem call_is1 {X : Cx} : CallR X (.builtin "isinstance") (rIs1 X.K) := by
  intro pins s σ H xs us Q I r h
  obtain ⟨x, c, t, u, b, rfl, k, ty, e, q⟩ := h
  obtain ⟨u1, u2, rfl, r1, r2⟩ := vals2 r
  obtain rfl := k.eq r2
  obtain ⟨P, Z, p, hx⟩ := kit_e I r1 ty
  exact kia_one Z I.kIn p e hx fun tk => ⟨.bl b, H, I.tok tk, rfl, q⟩
theorem call_is2 {X : Cx} : CallR X (.builtin "isinstance") (rIs2 X.K) := by
  intro pins s σ H xs us Q I r h
  obtain ⟨x, tp, cs, t, ws, b, rfl, hT, k, ty, e, q⟩ := h
  obtain ⟨u1, u2, rfl, r1, r2⟩ := vals2 r
  obtain rfl : u2 = Value.ref tp := r2
  obtain ⟨P, Z, p, hx⟩ := kit_e I r1 ty
  have ok := I.hok tp _ hT
  obtain ⟨_, its, rv, o, h1, h2, n, h3⟩ := (show ObjOk X.prog X.w H s.heap tp (.tup cs) from ok)
  obtain rfl := ClsV.all k rv
  obtain ⟨oc, od, dt, sl⟩ := o
  simp only at h2 h3
  subst h2 h3
  exact kia_tup Z I.kIn p h1 e hx fun tk => ⟨.bl b, H, I.tok tk, rfl, q⟩

/-! ### the bag: a list whose numbers change while it stands -/
def lim : Int := 2147483647
structure Nums (i l m : Int) : Prop where
  i0 : 0 ≤ i
  l0 : 0 ≤ l
  m0 : 0 ≤ m
  m1 : m < lim
def bagL (c : Addr) (i l m k : Int) : List V := [.ref c, .int i, .int l, .int m, .int k]
def BagO (B c : Addr) : HO := .ext fun h => ∃ (its : List Value) (n : Nat) (i l m k : Int), Vals (bagL c i l m k) its ∧ h.get? B = some { cls := .type "list", data := .seq its.toArray n } ∧ Nums i l m
theorem bag_small (c : Addr) (i l m k : Int) : (bagL c i l m k).length ≤ sizeLine := by
  show 5 ≤ sizeLine
  decide
theorem upd_back {H : Hp} {B : Addr} {o u : HO} (h : H B = some o) : upd (upd H B u) B o = H := by
  funext b
  by_cases e : b = B
  · rw [e, upd_same, h]
  · rw [upd_ne e, upd_ne e]
def packD (B c : Addr) (D : Ends) : Ends where
  nx := fun σ H => (∃ i l m k, Nums i l m ∧ H B = some (.lst (bagL c i l m k))) ∧ D.nx σ (upd H B (BagO B c))
  rt := fun v H => (∃ i l m k, Nums i l m ∧ H B = some (.lst (bagL c i l m k))) ∧ D.rt v (upd H B (BagO B c))
  bk := fun σ H => (∃ i l m k, Nums i l m ∧ H B = some (.lst (bagL c i l m k))) ∧ D.bk σ (upd H B (BagO B c))
  ct := fun σ H => (∃ i l m k, Nums i l m ∧ H B = some (.lst (bagL c i l m k))) ∧ D.ct σ (upd H B (BagO B c))
/-- the body sees the list; behind it the bag stands as it stood -/
def tView (B c : Addr) (t : TS) : TS := fun D σ H => H B = some (BagO B c) ∧ ∀ i l m k, Nums i l m → t (packD B c D) σ (upd H B (.lst (bagL c i l m k)))
section
variable {X : Cx} {pins : List (Addr × Obj)} {σ : L2.St} {H : Hp} {s : Shared} {B c : Addr}
theorem inv_open (I : Inv X pins σ H s) (h : H B = some (BagO B c)) : ∃ i l m k, Nums i l m ∧ Inv X pins σ (upd H B (.lst (bagL c i l m k))) s := by
  obtain ⟨⟨its, n, i, l, m, k, hv, hg, hn⟩, _, _⟩ := (show ObjOk X.prog X.w H s.heap B (BagO B c) from I.hok B _ h)
  refine ⟨i, l, m, k, hn, ?_⟩
  have J := I.write (t' := s.toks) (x := B) (e := B) (o := .lst (bagL c i l m k)) (h' := s.heap) (by rw [h]; exact trivial) (.inl rfl) (fun _ _ _ q => q) ⟨_, hg⟩ ⟨bag_small c i l m k, its, n, hv, hg⟩
  exact J
theorem bag_ok {P : Program} {w : World} {H' : Hp} {h : Heap} {i l m k : Int} (hn : Nums i l m) (ok : ObjOk P w H h B (.lst (bagL c i l m k))) : ObjOk P w H' h B (BagO B c) := by
  obtain ⟨_, its, n, hv, hg⟩ := ok
  exact ⟨⟨its, n, i, l, m, k, hv, hg, hn⟩, ⟨_, hg⟩, fun h1 h2 ⟨its', n', i', l', m', k', a, b, d⟩ kp => ⟨its', n', i', l', m', k', a, kp _ b, d⟩⟩
theorem inv_shut (I : Inv X pins σ H s) (h : ∃ i l m k, Nums i l m ∧ H B = some (.lst (bagL c i l m k))) : Inv X pins σ (upd H B (BagO B c)) s := by
  obtain ⟨i, l, m, k, hn, h⟩ := h
  have ok := I.hok B _ h
  have hx : ∃ u, s.heap.get? B = some u := by
    obtain ⟨_, its, n, _, hg⟩ := (show ObjOk X.prog X.w H s.heap B (.lst (bagL c i l m k)) from ok)
    exact ⟨_, hg⟩
  have J := I.write (t' := s.toks) (x := B) (e := B) (o := BagO B c) (h' := s.heap) (by rw [h]; exact trivial) (.inl rfl) (fun _ _ _ q => q) hx (bag_ok hn ok)
  exact J
theorem pss_view {st : List Stmt} {t : TS} (h : PSs X st t) : PSs X st (tView B c t) := by
  constructor
  intro pins s σ H D I hv
  obtain ⟨hB, hv⟩ := hv
  obtain ⟨i, l, m, k, hn, J⟩ := inv_open I hB
  refine thn (h.run pins s σ _ (packD B c D) J (hv i l m k hn)) fun f s1 q => ?_
  cases f with
  | next =>
    obtain ⟨σ1, H1, I1, e, q⟩ := q
    exact ⟨σ1, _, inv_shut I1 e, q⟩
  | brk =>
    obtain ⟨σ1, H1, I1, e, q⟩ := q
    exact ⟨σ1, _, inv_shut I1 e, q⟩
  | cont =>
    obtain ⟨σ1, H1, I1, e, q⟩ := q
    exact ⟨σ1, _, inv_shut I1 e, q⟩
  | ret u =>
    obtain ⟨v, σ1, H1, I1, r, e, q⟩ := q
    exact ⟨v, σ1, _, inv_shut I1 e, r, q⟩
/-- a new list is shut into a bag: a call's end -/
def Bag (H : Hp) (B : Addr) : Prop := ∃ (c : Addr) (ns : List Int), H B = some (BagO B c) ∧ H c = some (.lst (ns.map V.int)) ∧ ns.length ≤ 63
theorem Bag.mono {H H' : Hp} {B : Addr} (e : Ex H H') (h : Bag H B) : Bag H' B := by
  obtain ⟨c, ns, h1, h2, h3⟩ := h
  exact ⟨c, ns, e _ _ h1, e _ _ h2, h3⟩
end
end XV
namespace XV
open L2
/-- a suite cut in two at a promise between -/
theorem seq_cut {A T : TS} {D : Ends} {σ : L2.St} {H : Hp} (J : L2.St → Hp → Prop) (h : ∀ n : L2.St → Hp → Prop, (∀ σ H, J σ H → n σ H) → A { D with nx := n } σ H) (k : ∀ σ H, J σ H → T D σ H) : tSeq A T D σ H := h _ k
end XV
namespace XV
open L2
theorem ifb {b : Bool} {p q : Prop} (h1 : b = true → p) (h2 : b = false → q) : if b = true then p else q := by
  cases b
  · exact h2 rfl
  · exact h1 rfl
end XV

namespace XV
open PySem PySem.Spec PySem.W PySem.Calls PyProof.Rows L2 Evl
/-! ### one of two rules -/
theorem ix_or {X : Cx} {r1 r2 : R2} (h1 : IxR X r1) (h2 : IxR X r2) : IxR X (fun x y H Q => r1 x y H Q ∨ r2 x y H Q) := fun v s pins st σ H x y a b Q I ra rb h e =>
  h.elim (fun h => h1 v s pins st σ H x y a b Q I ra rb h e) fun h => h2 v s pins st σ H x y a b Q I ra rb h e
theorem cr_or {X : Cx} {f : Value} {r1 r2 : List V → Hp → VK → Prop} (h1 : CallR X f r1) (h2 : CallR X f r2) : CallR X f (fun xs H Q => r1 xs H Q ∨ r2 xs H Q) := fun pins s σ H xs us Q I r h =>
  h.elim (fun h => h1 pins s σ H xs us Q I r h) fun h => h2 pins s σ H xs us Q I r h
theorem op_or {X : Cx} {f : Value → Value → Sem Value} {r1 r2 : R2} (h1 : OpR X f r1) (h2 : OpR X f r2) : OpR X f (fun x y H Q => r1 x y H Q ∨ r2 x y H Q) := fun pins s σ H x y a b Q I ra rb h =>
  h.elim (fun h => h1 pins s σ H x y a b Q I ra rb h) fun h => h2 pins s σ H x y a b Q I ra rb h
/-! ### what is given back is shut into a bag -/
def shutD (D : Ends) : Ends := { D with rt := fun v H => ∃ B c, v = .ref B ∧ (∃ i l m k, Nums i l m ∧ H B = some (.lst (bagL c i l m k))) ∧ D.rt v (upd H B (BagO B c)) }
def tShut (t : TS) : TS := fun D σ H => t (shutD D) σ H
theorem pss_shut {X : Cx} {st : List Stmt} {t : TS} (h : PSs X st t) : PSs X st (tShut t) := by
  constructor
  intro pins s σ H D I hv
  refine thn (h.run pins s σ H (shutD D) I hv) fun f s1 q => ?_
  cases f with
  | next => exact q
  | brk => exact q
  | cont => exact q
  | ret u =>
    obtain ⟨v, σ1, H1, I1, r, B, c, e, hb, q⟩ := q
    exact ⟨v, σ1, _, inv_shut I1 hb, r, q⟩
/-! ### values of which only a word is known: P H0 v H, v new since H0 -/
abbrev Pd := Hp → V → Hp → Prop
abbrev Pds := Hp → List V → Hp → Prop
structure Fs (P : Pd) : Prop where
  st : ∀ {H0 H H' : Hp} {v : V}, (∀ a o, H0 a = none → H a = some o → H' a = some o) → P H0 v H → P H0 v H'
  an : ∀ {H0 H0' H : Hp} {v : V}, (∀ a, H0' a = none → H0 a = none) → P H0' v H → P H0 v H
theorem Fs.ex {P : Pd} (f : Fs P) {H0 H H' : Hp} {v : V} (e : Ex H H') (h : P H0 v H) : P H0 v H' := f.st (fun a o _ x => e a o x) h
theorem Fs.back {P : Pd} (f : Fs P) {H0 H0' H : Hp} {v : V} (e : Ex H0 H0') (h : P H0' v H) : P H0 v H := f.an (fun a x => fresh_back e x) h
def EN (te : TE) (σ : L2.St) (H : Hp) (P : Pd) : Prop := ∀ H1, Ex H H1 → ∀ Q : VK, (∀ v H2, Ex H1 H2 → P H1 v H2 → Q v H2) → te σ H1 Q
def AN (ta : TA) (σ : L2.St) (H : Hp) (R : Pds) : Prop := ∀ H1, Ex H H1 → ∀ Q : List V → Hp → Prop, (∀ vs H2, Ex H1 H2 → R H1 vs H2 → Q vs H2) → ta σ H1 Q
/-- each by its own word -/
def Each (H0 H : Hp) : List Pd → List V → Prop
  | [], [] => True
  | P :: Ps, v :: vs => P H0 v H ∧ Each H0 H Ps vs
  | _, _ => False
theorem Each.len {H0 H : Hp} : ∀ {Ps : List Pd} {vs : List V}, Each H0 H Ps vs → vs.length = Ps.length
  | [], [], _ => rfl
  | P :: Ps, v :: vs, h => by rw [List.length_cons, List.length_cons, Each.len h.2]
theorem Each.at {H0 H : Hp} : ∀ {Ps : List Pd} {vs : List V}, Each H0 H Ps vs → ∀ {i : Nat} {P : Pd}, Ps[i]? = some P → ∃ v, vs[i]? = some v ∧ P H0 v H
  | P :: Ps, v :: vs, h, 0, P', e => by
    obtain rfl := Option.some.inj e
    exact ⟨v, rfl, h.1⟩
  | P :: Ps, v :: vs, h, i + 1, P', e => by
    obtain ⟨u, e1, e2⟩ := Each.at h.2 (i := i) e
    exact ⟨u, e1, e2⟩
theorem Each.to {H0 H0' H H' : Hp} : ∀ {Ps : List Pd} {vs : List V}, (∀ P, P ∈ Ps → ∀ v, P H0 v H → P H0' v H') → Each H0 H Ps vs → Each H0' H' Ps vs
  | [], [], _, _ => trivial
  | P :: Ps, v :: vs, k, h => ⟨k P (List.mem_cons_self ..) v h.1, Each.to (fun P' m => k P' (List.mem_cons_of_mem _ m)) h.2⟩
theorem Each.app {H0 H : Hp} : ∀ {Ps Qs : List Pd} {vs us : List V}, Each H0 H Ps vs → Each H0 H Qs us → Each H0 H (Ps ++ Qs) (vs ++ us)
  | [], _, [], _, _, h => h
  | P :: Ps, _, v :: vs, _, h, g => ⟨h.1, Each.app h.2 g⟩
theorem Each.snoc {H0 H : Hp} {P : Pd} {n : Nat} {vs : List V} {v : V} (h : Each H0 H (List.replicate n P) vs) (g : P H0 v H) : Each H0 H (List.replicate (n + 1) P) (vs ++ [v]) := by
  rw [List.replicate_succ']
  exact h.app ⟨g, trivial⟩
theorem Each.all {H0 H : Hp} {P : Pd} : ∀ {n : Nat} {vs : List V}, Each H0 H (List.replicate n P) vs → ∀ v, v ∈ vs → P H0 v H
  | 0, [], _, _, m => nomatch m
  | n + 1, u :: us, h, v, m => by
    rcases List.mem_cons.mp m with m | m
    · exact m ▸ h.1
    · exact Each.all (n := n) h.2 v m
/-- a new list, a new tuple of such -/
def PL (Ps : List Pd) : Pd := fun H0 v H => ∃ p xs, v = .ref p ∧ H0 p = none ∧ H p = some (.lst xs) ∧ Each H0 H Ps xs
def PU (Ps : List Pd) : Pd := fun H0 v H => ∃ p xs, v = .ref p ∧ H0 p = none ∧ H p = some (.tup xs) ∧ Each H0 H Ps xs
def PE1 (v : V) : Pd := fun _ x _ => x = v
theorem fs_v (v : V) : Fs (PE1 v) := ⟨fun _ h => h, fun _ h => h⟩
theorem fs_l {Ps : List Pd} (h : ∀ P, P ∈ Ps → Fs P) : Fs (PL Ps) := ⟨fun k ⟨p, xs, e1, e2, e3, e4⟩ => ⟨p, xs, e1, e2, k p _ e2 e3, e4.to fun P m v x => (h P m).st k x⟩,
  fun k ⟨p, xs, e1, e2, e3, e4⟩ => ⟨p, xs, e1, k p e2, e3, e4.to fun P m v x => (h P m).an k x⟩⟩
theorem fs_u {Ps : List Pd} (h : ∀ P, P ∈ Ps → Fs P) : Fs (PU Ps) := ⟨fun k ⟨p, xs, e1, e2, e3, e4⟩ => ⟨p, xs, e1, e2, k p _ e2 e3, e4.to fun P m v x => (h P m).st k x⟩,
  fun k ⟨p, xs, e1, e2, e3, e4⟩ => ⟨p, xs, e1, k p e2, e3, e4.to fun P m v x => (h P m).an k x⟩⟩
section
variable {K : Frag} {σ : L2.St} {H H' : Hp} {te tu : TE} {ta : TA} {P P' : Pd} {R R' : Pds} {Ps Qs : List Pd}
theorem EN.mono (e : Ex H H') (h : EN te σ H P) : EN te σ H' P := fun H1 a Q q => h H1 (e.trans a) Q q
theorem AN.mono (e : Ex H H') (h : AN ta σ H R) : AN ta σ H' R := fun H1 a Q q => h H1 (e.trans a) Q q
theorem EN.to (h : EN te σ H P) (k : ∀ H0 v H', Ex H H0 → Ex H0 H' → P H0 v H' → P' H0 v H') : EN te σ H P' := fun H1 e Q q => h H1 e Q fun v H2 e2 p => q v H2 e2 (k H1 v H2 e e2 p)
theorem AN.to (h : AN ta σ H R) (k : ∀ H0 v H', Ex H H0 → Ex H0 H' → R H0 v H' → R' H0 v H') : AN ta σ H R' := fun H1 e Q q => h H1 e Q fun v H2 e2 p => q v H2 e2 (k H1 v H2 e e2 p)
theorem en_ev {v : V} (h : Ev te σ H v) : EN te σ H (PE1 v) := fun H1 e Q q => h H1 e Q fun H2 e2 => q v H2 e2 rfl
theorem en_is {v : V} (h : Ev te σ H v) (k : ∀ H0 H', Ex H H0 → Ex H0 H' → P H0 v H') : EN te σ H P := (en_ev h).to fun H0 x H' e e2 q => q ▸ k H0 H' e e2
theorem an_ev {vs : List V} (h : EvA ta σ H vs) : AN ta σ H (fun _ xs _ => xs = vs) := fun H1 e Q q => h H1 e Q fun H2 e2 => q vs H2 e2 rfl
theorem ae_nil : AN tNil σ H (fun H0 vs H' => Each H0 H' [] vs) := fun H1 e Q q => q [] H1 (Ex.refl H1) trivial
theorem ae_cons (f : Fs P) (g : ∀ P, P ∈ Ps → Fs P) (h : EN te σ H P) (hr : AN ta σ H (fun H0 vs H' => Each H0 H' Ps vs)) : AN (tCons te ta) σ H (fun H0 vs H' => Each H0 H' (P :: Ps) vs) := fun H1 e Q q =>
  h H1 e _ fun v H2 e2 p => hr H2 (e.trans e2) _ fun vs H3 e3 r => q (v :: vs) H3 (e2.trans e3) ⟨f.ex e3 p, r.to fun P' m v x => (g P' m).back e2 x⟩
theorem en_lst (g : ∀ P, P ∈ Ps → Fs P) (h : AN ta σ H (fun H0 vs H' => Each H0 H' Ps vs)) (hn : Ps.length ≤ 100000) : EN (tLst ta) σ H (PL Ps) := fun H1 e Q q =>
  h H1 e _ fun vs H2 e2 r => ⟨sz_of (by rw [r.len]; exact hn), fun p hp => q _ _ (e2.trans (Ex.new hp)) ⟨p, vs, rfl, fresh_back e2 hp, upd_same, r.to fun P' m v x => (g P' m).ex (Ex.new hp) x⟩⟩
theorem en_tup (g : ∀ P, P ∈ Ps → Fs P) (h : AN ta σ H (fun H0 vs H' => Each H0 H' Ps vs)) (hn : Ps.length ≤ 100000) : EN (tTup ta) σ H (PU Ps) := fun H1 e Q q =>
  h H1 e _ fun vs H2 e2 r => ⟨sz_of (by rw [r.len]; exact hn), fun p hp => q _ _ (e2.trans (Ex.new hp)) ⟨p, vs, rfl, fresh_back e2 hp, upd_same, r.to fun P' m v x => (g P' m).ex (Ex.new hp) x⟩⟩
/-- a call whose promise says a word of what it gives -/
def SpN (sp : Sp) (vs : List V) (H : Hp) (P : Pd) : Prop := ∀ H1, Ex H H1 → ∀ Q : VK, (∀ v H2, Ex H1 H2 → P H1 v H2 → Q v H2) → ∀ E : XK, sp vs H1 Q E
theorem en_call {sp : Sp} {dvs : List V} {E : XK} (f : Fs P) (h : AN ta σ H R) (hs : ∀ H0 vs H', Ex H H0 → Ex H0 H' → R H0 vs H' → SpN sp (vs ++ dvs) H' P) : EN (tCall sp dvs E ta) σ H P := fun H1 e Q q =>
  h H1 e _ fun vs H2 e2 r => hs H1 vs H2 e e2 r H2 (Ex.refl H2) Q (fun v H3 e3 p => q v H3 (e2.trans e3) (f.back e2 p)) E
/-- a comprehension that tests nothing -/
theorem lc_all {J : It} {n : Nat} {G : Hp → Prop} {Y : Nat → Hp → V → Hp → Prop} (f : Fs P) (w : Walk J n G Y) (hz : n ≤ 40000) {g : TG} {vs : List Nat} {H1 : Hp} {D : Addr} {Qd : Hp → Prop} (hD : H1 D = none) (hG : ∀ H', Ex H1 H' → G H')
    (hs : ∀ i x H H', i < n → Ex H1 H → Y i H x H' → ∀ Q : L2.St → Hp → Prop, (∀ σ2 H2, wipe σ2 vs = wipe σ vs → Ex H H2 → EN te σ2 H2 P → Q σ2 H2) → g x (wipe σ vs) H' Q)
    (hd : ∀ H' xs, Ex H1 H' → H' D = some (.lst xs) → Each H1 H' (List.replicate n P) xs → Qd H') :
    ∃ W : Nat → Nat → Hp → Prop, (∃ m, W 0 m (upd H1 D (.lst []))) ∧ ∀ i m H, W i m H →
      (J.stop i H ∧ Qd H) ∨ (J.go i H ∧ ∃ Nx : Hp → Prop, (∀ H', Nx H' → ∃ m', m' < m ∧ W (i + 1) m' H') ∧ ∀ x H', J.yld i H x H' → g x (wipe σ vs) H' fun σ2 H2 => wipe σ2 vs = wipe σ vs ∧ tYes σ2 H2 fun b H3 =>
        if b = true then te σ2 H3 fun y H4 => ∃ acc, H4 D = some (.lst acc) ∧ acc.length < sizeLine ∧ Nx (upd H4 D (.lst (acc ++ [y]))) else Nx H3) := by
  refine lc_it w (fun i H' => Ex H1 H' ∧ ∃ acc, H' D = some (.lst acc) ∧ Each (upd H1 D (.lst [])) H' (List.replicate i P) acc) ⟨Ex.new hD, [], upd_same, trivial⟩ (fun i H' _ h => hG H' h.1) (fun i x H' H'' hi h y => ?_) (fun H' h => ?_)
  · obtain ⟨e1, acc, e2, e3⟩ := h
    refine hs i x H' H'' hi e1 y _ fun σ2 H2 hw e4 hE => ⟨hw, ?_⟩
    show te σ2 H2 _
    refine hE H2 (Ex.refl H2) _ fun v H4 e5 p => ⟨acc, (e4.trans e5) _ _ e2, sz_lt (by rw [e3.len, List.length_replicate]; omega), Ex.mut ((e1.trans e4).trans e5) hD, acc ++ [v], upd_same, ?_⟩
    have nD : ∀ a, upd H1 D (.lst []) a = none → a ≠ D := fun a h e => by
      rw [e, upd_same] at h
      cases h
    refine Each.snoc (e3.to fun P' m u x => ?_) ?_
    · obtain rfl := List.eq_of_mem_replicate m
      exact f.st (fun a o h0 h => by rw [upd_ne (nD a h0)]; exact (e4.trans e5) a o h) x
    · refine f.st (fun a o h0 h => by rw [upd_ne (nD a h0)]; exact h) (f.an (fun a h => ?_) p)
      by_cases q : a = D
      · rw [q, e4 _ _ e2] at h
        cases h
      · rw [upd_ne q]
        exact fresh_back (e1.trans e4) h
  · obtain ⟨e1, acc, e2, e3⟩ := h
    refine hd H' acc e1 e2 (e3.to fun P' m u x => ?_)
    obtain rfl := List.eq_of_mem_replicate m
    exact f.an (fun a h => fresh_back (Ex.new hD) h) x
end
end XV

namespace XV
open PySem PySem.Spec PyProof.Rows PySem.SeqAt
/-! ### one instance compared with itself -/
section
variable {M : Model} {prog : Program} {w : World} {A : Around} {E : Value → Shared → Prop} {s : Shared} {K : PySem.W.Frag} {x C : Addr} {ox : Obj} {od : Option Obj}
theorem self_call {Q : Value → Shared → Prop} (X : K.In s.heap) (I : PySem.W.InstAt s.heap x ox C od) (hm : PySem.W.mroIn K C (.type "object") = some true) (hq : Q (.bool true) s) :
    wpAny (model prog w) A (call (.builtin "object.__eq__") [.ref x, .ref x]) Q E s :=
  wpAny_call (codeAny_call_builtin F.cmp_object.eq.plain F.cmpEntry_eq (PySem.W.check_slot F.cmpKind_eq F.cmpSplit_eq (I.type.andThen (PySem.W.looks_mroIn X hm)) (F.cmpArgs_eq _ _) (PySem.objEq_entry_same hq)))
theorem self_eq {Q : Value → Shared → Prop} (hu : A.units < cLine) (X : K.In s.heap) (I : PySem.W.InstAt s.heap x ox C od) (hm : PySem.W.mroIn K C (.type "object") = some true) (hs : PySem.W.findIn K (.ref C) "__eq__" = some (some (.builtin "object.__eq__")))
    (h : Q (.bool true) s) : wpAny (model prog w) A (richCompare .Eq (.ref x) (.ref x)) Q E s := by
  have one : wpAny (model prog w) A (tryCompare (.ref x) "__eq__" (.ref x)) (fun r s' => r = some (.bool true) ∧ s' = s) E s := by
    unfold tryCompare
    exact wpAny_bind (HN.ifBound_objEq X I hs (self_call X I hm (wpAny_pure ⟨rfl, rfl⟩)))
  simp only [richCompare, cmpInfo_Eq, oneThing_ref]
  refine wpAny_holding (wpAny_bind (wpAny_cRoomFor hu ?_))
  refine wpAny_bind (I.type.here ?_)
  refine wpAny_bind (I.type.here ?_)
  simp only [bne_self_eq_false, Bool.false_eq_true, if_false]
  refine wpAny_bind (wpAny_pure ?_)
  refine wpAny_bind (m := tryCompare (.ref x) _ (.ref x)) (wpAny_mono one (fun r s1 z => ?_) fun _ _ e => e)
  obtain ⟨z1, z2⟩ := z
  subst z1
  subst z2
  exact wpAny_pure h
end
end XV
namespace XV
open PySem PySem.Spec PySem.W PySem.Calls PyProof.Rows L2 Evl
def rEqX (K : Frag) : R2 := fun x y H Q => ∃ (a C : Addr) (fs : List (Str × V)), x = .ref a ∧ y = .ref a ∧ XAt H a C fs ∧ XC K C ∧ findIn K (.ref C) "__eq__" = some (some (.builtin "object.__eq__")) ∧ Q (.bl true) H
theorem op_eqX {X : Cx} (hu : X.A.units < cLine) : OpR X (compareOp .Eq) (rEqX X.K) := by
  intro pins s σ H x y v u Q I rx ry h
  obtain ⟨a, C, fs, rfl, rfl, hX, T, he, q⟩ := h
  obtain rfl : v = Value.ref a := rx
  obtain rfl : u = Value.ref a := ry
  obtain ⟨ox, od, mA, J, _, _⟩ := inst_of I hX
  show wpAny _ _ (richCompare .Eq (.ref a) (.ref a)) _ _ _
  exact self_eq hu I.kIn J T.cm he ⟨.bl true, H, I, rfl, q⟩
end XV

namespace XV
open PySem PySem.Spec PySem.W PySem.Calls PyProof.Rows L2 Evl
/-! ### the kinds of what is drawn -/
theorem xat_mono {H H' : Hp} {a C : Addr} {fs : List (Str × V)} (e : Ex H H') (h : XAt H a C fs) : XAt H' a C fs := by
  obtain ⟨d, h1, h2⟩ := h
  exact ⟨d, e _ _ h1, e _ _ h2⟩
/-- x is of the kind t, and stays so -/
def Ty0 (K : Frag) (H : Hp) (x : V) (t : Value) : Prop := ∀ H', Ex H H' → TyE K H' x t
section
variable {K : Frag} {H H' : Hp} {x : V} {t : Value}
theorem Ty0.mono (e : Ex H H') (h : Ty0 K H x t) : Ty0 K H' x t := fun H2 e2 => h H2 (e.trans e2)
theorem Ty0.to (h : Ty0 K H x t) : TyE K H x t := h H (Ex.refl H)
theorem Ty0.non : Ty0 K H .non (.type "NoneType") := fun _ _ => .plain (.base .non)
theorem Ty0.bl (b : Bool) : Ty0 K H (.bl b) (.type "bool") := fun _ _ => .plain (.base (.bl b))
theorem Ty0.int (i : Int) : Ty0 K H (.int i) (.type "int") := fun _ _ => .plain (.base (.int i))
theorem Ty0.str (z : Str) : Ty0 K H (.str z) (.type "str") := fun _ _ => .plain (.base (.str z))
theorem Ty0.lst {a : Addr} {xs : List V} (h : H a = some (.lst xs)) : Ty0 K H (.ref a) (.type "list") := fun _ e => .plain (.base (.lst (e _ _ h)))
theorem Ty0.tup {a : Addr} {xs : List V} (h : H a = some (.tup xs)) : Ty0 K H (.ref a) (.type "tuple") := fun _ e => .plain (.base (.tup (e _ _ h)))
theorem Ty0.err {a C : Addr} {fs : List (Str × V)} (h : XAt H a C fs) (x : XC K C) : Ty0 K H (.ref a) (.ref C) := fun _ e => .err (xat_mono e h) x
/-- what is read as a tuple, as a list -/
theorem Ty0.ofT {a : Addr} {xs : List V} (h : SqT K H a xs) : Ty0 K H (.ref a) (.type "tuple") := by
  rcases h with (h | ⟨o, h⟩) | h
  · exact Ty0.tup h
  · exact fun _ e => .plain (.fTuple (e _ _ h))
  · obtain ⟨o, its, n, e1, e2, _⟩ := h
    exact fun _ _ => .plain (.kTuple e1 e2)
theorem Ty0.ofL {a : Addr} {xs : List V} (h : SqL K H a xs) : Ty0 K H (.ref a) (.type "list") := by
  rcases h with (h | ⟨o, h⟩) | h
  · exact Ty0.lst h
  · exact fun _ e => .plain (.base (.frz (e _ _ h)))
  · obtain ⟨o, its, n, e1, e2, _⟩ := h
    exact fun _ _ => .plain (.kList e1 e2)
end
section
variable {K : Frag} {σ : L2.St} {H : Hp} {te : TE} {x : V} {t : Value}
theorem ev_is1 {T : String} {b : Bool} (h : Ev te σ H x) (ty : Ty0 K H x t) (e : kitOne K t (.type T) = some b) : Ev (tCB (rIs1 K) (tCons te (tCons (tC (.ty T)) tNil))) σ H (.bl b) := fun H1 e1 Q q =>
  h H1 e1 _ fun H2 e2 => ⟨x, .ty T, t, .type T, b, rfl, .ty T, (ty.mono (e1.trans e2)).to, e, q H2 e2⟩
theorem ev_is2 {S T : String} {b : Bool} (h : Ev te σ H x) (ty : Ty0 K H x t) (e : kitAny K t [.type S, .type T] = some b) :
    Ev (tCB (rIs2 K) (tCons te (tCons (tTup (tCons (tC (.ty S)) (tCons (tC (.ty T)) tNil))) tNil))) σ H (.bl b) := fun H1 e1 Q q =>
  h H1 e1 _ fun H2 e2 => ⟨show [V.ty S, V.ty T].length ≤ sizeLine by show 2 ≤ sizeLine; decide, fun p hp => ⟨x, p, [.ty S, .ty T], t, [.type S, .type T], b, rfl, upd_same, .cons (.ty S) (.cons (.ty T) .nil), ((ty.mono (e1.trans e2)).mono (Ex.new hp)).to, e, q _ (e2.trans (Ex.new hp))⟩⟩
end
theorem ev_isN {σ : L2.St} {H : Hp} {te : TE} {x : V} (h : Ev te σ H x) : Ev (tIsN te) σ H (.bl (decide (x = .non))) := fun H1 e Q q => h H1 e _ fun H2 e2 => q H2 e2
/-! ### comprehensions over zip, over range -/
section
variable {K : Frag} {a b : Addr} {xs ys : List V}
theorem walk_zipT {n : Nat} (hn : n = min xs.length ys.length) : Walk (RZ.ItzT K a b) n (fun H => SqT K H a xs ∧ SqT K H b ys) (YPair (fun i => xs[i]?) (fun i => ys[i]?)) := by
  subst hn
  refine ⟨fun i _ hi q => ?_, fun _ q => ⟨xs, ys, q.1, q.2, by omega⟩, fun i H v H' _ q y => ?_⟩
  · have h1 : i < xs.length := by omega
    have h2 : i < ys.length := by omega
    exact ⟨xs, ys, xs[i], ys[i], q.1, q.2, by simp [h1], by simp [h2]⟩
  · obtain ⟨T, x, z, h1, h2, h3, h4, h5⟩ := y
    exact ⟨T, x, z, h1, h2, h3, h4 xs q.1, h5 ys q.2⟩
variable {σ : L2.St} {H : Hp} {te : TE} {ta : TA} {P : Pd} {vs : List Nat} {i j : Nat}
theorem en_zip (f : Fs P) (hl : xs.length = ys.length) (hz : xs.length ≤ 40000) (ha : EvA ta σ H [.ref a, .ref b]) (hx : (SqL K H a xs ∧ SqL K H b ys) ∨ (SqT K H a xs ∧ SqT K H b ys))
    (hw : ∀ x y, wipe (((wipe σ vs).set i (some x)).set j (some y)) vs = wipe σ vs)
    (he : ∀ (k : Nat) (x y : V) H1, Ex H H1 → xs[k]? = some x → ys[k]? = some y → EN te (((wipe σ vs).set i (some x)).set j (some y)) H1 P) :
    EN (tLc (RZ.iZipA K ta) (gTup K 2 (gCons (gName i) (gCons (gName j) gNil))) tYes te vs) σ H (PL (List.replicate xs.length P)) := fun H1 e Q q => ha H1 e _ fun H2 e2 => by
  have turn : ∀ (k : Nat) (x : V) (H3 H4 : Hp), k < xs.length → Ex H2 H3 → YPair (fun i => xs[i]?) (fun i => ys[i]?) k H3 x H4 → ∀ Q : L2.St → Hp → Prop, (∀ σ2 H5, wipe σ2 vs = wipe σ vs → Ex H3 H5 → EN te σ2 H5 P → Q σ2 H5) →
      gTup K 2 (gCons (gName i) (gCons (gName j) gNil)) x (wipe σ vs) H4 Q := by
    intro k x H3 H4 hk e3 y Q q
    obtain ⟨T, u, v, rfl, hT, rfl, hu, hv⟩ := y
    exact ⟨T, [u, v], rfl, st_of upd_same, rfl, u, [v], rfl, v, [], rfl, rfl, q _ _ (hw u v) (Ex.new hT) (he k u v _ (((e.trans e2).trans e3).trans (Ex.new hT)) hu hv)⟩
  rcases hx with ⟨h1, h2⟩ | ⟨h1, h2⟩
  · refine ⟨a, b, xs, ys, rfl, .inl ⟨ex_l (e.trans e2) h1, ex_l (e.trans e2) h2, fun D hD => ?_⟩⟩
    refine lc_all f (walk_zip (K := K) (a := a) (b := b) (xs := xs) (ys := ys) (n := xs.length) (by omega)) hz hD (fun H' e3 => ⟨ex_l e3 (ex_l (e.trans e2) h1), ex_l e3 (ex_l (e.trans e2) h2)⟩) turn fun H' zs e3 h3 h4 => ?_
    exact q _ _ (e2.trans e3) ⟨D, zs, rfl, fresh_back e2 hD, h3, h4.to fun P' m v x => by
      obtain rfl := List.eq_of_mem_replicate m
      exact f.back e2 x⟩
  · refine ⟨a, b, xs, ys, rfl, .inr ⟨ex_t (e.trans e2) h1, ex_t (e.trans e2) h2, fun D hD => ?_⟩⟩
    refine lc_all f (walk_zipT (K := K) (a := a) (b := b) (xs := xs) (ys := ys) (n := xs.length) (by omega)) hz hD (fun H' e3 => ⟨ex_t e3 (ex_t (e.trans e2) h1), ex_t e3 (ex_t (e.trans e2) h2)⟩) turn fun H' zs e3 h3 h4 => ?_
    exact q _ _ (e2.trans e3) ⟨D, zs, rfl, fresh_back e2 hD, h3, h4.to fun P' m v x => by
      obtain rfl := List.eq_of_mem_replicate m
      exact f.back e2 x⟩
/-- over range(n), the number told by a word -/
theorem en_rng {n : Nat} (f : Fs P) (hz : n ≤ 40000) (ha : EvA ta σ H [.int (n : Int)]) (hw : ∀ x, wipe ((wipe σ vs).set j (some x)) vs = wipe σ vs)
    (he : ∀ (k : Nat) H1, Ex H H1 → k < n → EN te ((wipe σ vs).set j (some (.int (k : Int)))) H1 P) : EN (tLc (iRng1 ta) (gName j) tYes te vs) σ H (PL (List.replicate n P)) := fun H1 e Q q => ha H1 e _ fun H2 e2 => by
  refine ⟨(n : Int), rfl, by omega, by omega, fun D hD => ?_⟩
  show ∃ W : Nat → Nat → Hp → Prop, _
  refine lc_all f (walk_range (lo := 0) (n := n)) hz hD (fun _ _ => trivial) (fun k x H3 H4 hk e3 y Q q => ?_) fun H' zs e3 h3 h4 => ?_
  · obtain ⟨rfl, rfl⟩ := y
    show Q ((wipe σ vs).set j (some (.int ((0 : Int) + (k : Int))))) H4
    rw [Int.zero_add]
    exact q _ _ (hw _) (Ex.refl _) (he k _ ((e.trans e2).trans e3) hk)
  · exact q _ _ (e2.trans e3) ⟨D, zs, rfl, fresh_back e2 hD, h3, h4.to fun P' m v x => by
      obtain rfl := List.eq_of_mem_replicate m
      exact f.back e2 x⟩
/-- .. a number of which only a word is known -/
theorem en_rngN {m : Nat} (f : Fs P) (hz : m ≤ 40000) (ha : AN ta σ H (fun _ xs _ => ∃ n : Nat, 1 ≤ n ∧ n ≤ m ∧ xs = [.int (n : Int)])) (hw : ∀ x, wipe ((wipe σ vs).set j (some x)) vs = wipe σ vs)
    (he : ∀ (k : Nat) H1, Ex H H1 → k < m → EN te ((wipe σ vs).set j (some (.int (k : Int)))) H1 P) : EN (tLc (iRng1 ta) (gName j) tYes te vs) σ H (fun H0 v H' => ∃ n, 1 ≤ n ∧ n ≤ m ∧ PL (List.replicate n P) H0 v H') := fun H1 e Q q => ha H1 e _ fun us H2 e2 h => by
  obtain ⟨n, n1, n2, rfl⟩ := h
  refine ⟨(n : Int), rfl, by omega, by omega, fun D hD => ?_⟩
  show ∃ W : Nat → Nat → Hp → Prop, _
  refine lc_all f (walk_range (lo := 0) (n := n)) (by omega) hD (fun _ _ => trivial) (fun k x H3 H4 hk e3 y Q q => ?_) fun H' zs e3 h3 h4 => ?_
  · obtain ⟨rfl, rfl⟩ := y
    show Q ((wipe σ vs).set j (some (.int ((0 : Int) + (k : Int))))) H4
    rw [Int.zero_add]
    exact q _ _ (hw _) (Ex.refl _) (he k _ ((e.trans e2).trans e3) (by omega))
  · exact q _ _ (e2.trans e3) ⟨n, n1, n2, D, zs, rfl, fresh_back e2 hD, h3, h4.to fun P' m v x => by
      obtain rfl := List.eq_of_mem_replicate m
      exact f.back e2 x⟩
end
section
variable {K : Frag} {σ : L2.St} {H : Hp} {te : TE}
theorem each_bl {H0 H : Hp} : ∀ {n : Nat} {xs : List V}, Each H0 H (List.replicate n (PE1 (.bl true))) xs → xs = (List.replicate n true).map V.bl
  | 0, [], _ => rfl
  | n + 1, x :: xs, h => by
    obtain ⟨h1, h2⟩ := (show PE1 (.bl true) H0 x H ∧ Each H0 H (List.replicate n (PE1 (.bl true))) xs from h)
    rw [each_bl h2, show x = V.bl true from h1]
    rfl
theorem ev_all {n : Nat} (h : EN te σ H (PL (List.replicate n (PE1 (.bl true))))) : Ev (tCB (rAll K) (tCons te tNil)) σ H (.bl true) := fun H1 e Q q =>
  h H1 e _ fun v H2 e2 p => by
    obtain ⟨a, xs, rfl, _, h2, h3⟩ := p
    obtain rfl := each_bl h3
    refine ⟨a, List.replicate n true, rfl, sq_of h2, ?_⟩
    rw [show (List.replicate n true).all id = true by simp]
    exact q H2 e2
theorem ev_lenA {p : Addr} {xs : List V} (h : Ev te σ H (.ref p)) (hx : SqL K H p xs ∨ SqT K H p xs) :
    Ev (tCB (fun us H Q => (∃ p ys, us = [V.ref p] ∧ (SqL K H p ys ∨ SqT K H p ys) ∧ Q (.int ys.length) H) ∨ ∃ z : Str, us = [V.str z] ∧ z.length ≤ sizeLine ∧ Q (.int z.length) H) (tCons te tNil)) σ H (.int xs.length) := fun H1 e Q q =>
  h H1 e _ fun H2 e2 => .inl ⟨p, xs, rfl, hx.elim (fun h => .inl (ex_l (e.trans e2) h)) (fun h => .inr (ex_t (e.trans e2) h)), q H2 e2⟩
end
end XV

namespace XV
open PySem PySem.Spec PySem.W PySem.Calls PyProof.Rows L2 Evl
/-! ### an __init__ that stores its arguments -/
/-- the error at a, its fields at dx -/
def mkX (H : Hp) (a dx C : Addr) (fs : List (Str × V)) : Hp := upd (upd H dx (exd dx fs)) a (exo a C (some dx))
theorem mkX_a {H : Hp} {a dx C : Addr} {fs : List (Str × V)} : mkX H a dx C fs a = some (exo a C (some dx)) := upd_same
theorem mkX_d {H : Hp} {a dx C : Addr} {fs : List (Str × V)} (n : dx ≠ a) : mkX H a dx C fs dx = some (exd dx fs) := by
  unfold mkX
  rw [upd_ne n, upd_same]
theorem mkX_o {H : Hp} {a dx C b : Addr} {fs : List (Str × V)} (h1 : b ≠ a) (h2 : b ≠ dx) : mkX H a dx C fs b = H b := by
  unfold mkX
  rw [upd_ne h1, upd_ne h2]
theorem mkX_put {H : Hp} {a dx C : Addr} {fs gs : List (Str × V)} (n : dx ≠ a) : upd (mkX H a dx C fs) dx (exd dx gs) = mkX H a dx C gs := by
  unfold mkX
  funext b
  by_cases h1 : b = dx
  · subst h1
    rw [upd_same, upd_ne n, upd_same]
  · rw [upd_ne h1]
    by_cases h2 : b = a
    · rw [h2, upd_same, upd_same]
    · rw [upd_ne h2, upd_ne h2, upd_ne h1, upd_ne h1]
/-- no class attribute stands in the way of these fields -/
def Free (K : Frag) (C : Addr) (fs : List Str) : Prop := ∀ f, f ∈ fs → findIn K (.ref C) f = some none
section
variable {K : Frag} {D : Ends} {σ : L2.St} {H : Hp} {a dx C : Addr} {fs : List (Str × V)} {f : Str} {to te : TE} {y : V}
theorem fl_first (T : XC K C) (hno : findIn K (.ref C) f = some none) (ho : ∀ (H : Hp) (Q : VK), Q (.ref a) H → to σ H Q) (he : ∀ (H : Hp) (Q : VK), Q y H → te σ H Q) (hH : H a = some (exo a C none))
    (h : ∀ dx, H dx = none → dx ≠ a → D.nx σ (mkX H a dx C [(f, y)])) : tFl K f to te D σ H :=
  he H _ (ho H _ ⟨a, C, rfl, T, hno, .inl ⟨hH, h⟩⟩)
theorem fl_next (T : XC K C) (hno : findIn K (.ref C) f = some none) (n : dx ≠ a) (ho : ∀ (H : Hp) (Q : VK), Q (.ref a) H → to σ H Q) (he : ∀ (H : Hp) (Q : VK), Q y H → te σ H Q) (hl : fs.length ≤ 900)
    (h : D.nx σ (mkX H a dx C ((f, y) :: fs))) : tFl K f to te D σ (mkX H a dx C fs) :=
  he _ _ (ho _ _ ⟨a, C, rfl, T, hno, .inr ⟨dx, fs, mkX_a, mkX_d n, hl, by rw [mkX_put n]; exact h⟩⟩)
end
theorem go_var {σ : L2.St} {i : Nat} {v : V} (h : σ[i]? = some (some v)) : ∀ (H : Hp) (Q : VK), Q v H → tVar i σ H Q := fun H Q q => ⟨v, h, q⟩
theorem go_c {σ : L2.St} {v : V} : ∀ (H : Hp) (Q : VK), Q v H → tC v σ H Q := fun H Q q => q
/-- the fields as they stand behind the __init__ -/
def fldsX (code : Str) (fs : List Str) (ys : List V) : List (Str × V) := (fs.zip ys).reverse ++ [(("code" : Str), V.str code)]
def spInit (C : Addr) (code : Str) (fs : List Str) : Sp := fun vs H Q _ => ∃ (a : Addr) (ys : List V), vs = .ref a :: ys ∧ ys.length = fs.length ∧ H a = some (exo a C none) ∧
  ∀ dx, H dx = none → dx ≠ a → Q .non (mkX H a dx C (fldsX code fs ys))
section
variable {K : Frag} {C : Addr} {code f1 f2 f3 f4 : Str} {vs : List V} {H : Hp} {Q : VK} {E : XK} {N0 N1 N2 N3 N4 : Str}
abbrev DQ (Q : VK) : Ends := { nx := fun _ H' => Q .non H', rt := Q }
theorem rd0 (T : XC K C) (hf : Free K C ["code"]) (h : spInit C code [] vs H Q E) : tFl K "code" (tVar 0) (tC (.str code)) (DQ Q) (L2.start [N0] vs) H := by
  obtain ⟨a, ys, rfl, hl, hH, q⟩ := h
  match ys, hl with
  | [], _ => exact fl_first T (hf _ (by simp)) (go_var rfl) go_c hH fun dx h1 h2 => q dx h1 h2
theorem rd1 (T : XC K C) (hf : Free K C ["code", f1]) (h : spInit C code [f1] vs H Q E) : tSeq (tFl K "code" (tVar 0) (tC (.str code))) (tFl K f1 (tVar 0) (tVar 1)) (DQ Q) (L2.start [N0, N1] vs) H := by
  obtain ⟨a, ys, rfl, hl, hH, q⟩ := h
  match ys, hl with
  | [y1], _ => exact fl_first T (hf _ (by simp)) (go_var rfl) go_c hH fun dx h1 h2 => fl_next T (hf _ (by simp)) h2 (go_var rfl) (go_var rfl) (by simp) (q dx h1 h2)
theorem rd2 (T : XC K C) (hf : Free K C ["code", f1, f2]) (h : spInit C code [f1, f2] vs H Q E) : tSeq (tFl K "code" (tVar 0) (tC (.str code))) (tSeq (tFl K f1 (tVar 0) (tVar 1)) (tFl K f2 (tVar 0) (tVar 2))) (DQ Q) (L2.start [N0, N1, N2] vs) H := by
  obtain ⟨a, ys, rfl, hl, hH, q⟩ := h
  match ys, hl with
  | [y1, y2], _ => exact fl_first T (hf _ (by simp)) (go_var rfl) go_c hH fun dx h1 h2 => fl_next T (hf _ (by simp)) h2 (go_var rfl) (go_var rfl) (by simp) (fl_next T (hf _ (by simp)) h2 (go_var rfl) (go_var rfl) (by simp) (q dx h1 h2))
theorem rd3 (T : XC K C) (hf : Free K C ["code", f1, f2, f3]) (h : spInit C code [f1, f2, f3] vs H Q E) : tSeq (tFl K "code" (tVar 0) (tC (.str code))) (tSeq (tFl K f1 (tVar 0) (tVar 1)) (tSeq (tFl K f2 (tVar 0) (tVar 2)) (tFl K f3 (tVar 0) (tVar 3)))) (DQ Q) (L2.start [N0, N1, N2, N3] vs) H := by
  obtain ⟨a, ys, rfl, hl, hH, q⟩ := h
  match ys, hl with
  | [y1, y2, y3], _ => exact fl_first T (hf _ (by simp)) (go_var rfl) go_c hH fun dx h1 h2 => fl_next T (hf _ (by simp)) h2 (go_var rfl) (go_var rfl) (by simp) (fl_next T (hf _ (by simp)) h2 (go_var rfl) (go_var rfl) (by simp) (fl_next T (hf _ (by simp)) h2 (go_var rfl) (go_var rfl) (by simp) (q dx h1 h2)))
theorem rd4 (T : XC K C) (hf : Free K C ["code", f1, f2, f3, f4]) (h : spInit C code [f1, f2, f3, f4] vs H Q E) : tSeq (tFl K "code" (tVar 0) (tC (.str code))) (tSeq (tFl K f1 (tVar 0) (tVar 1)) (tSeq (tFl K f2 (tVar 0) (tVar 2)) (tSeq (tFl K f3 (tVar 0) (tVar 3)) (tFl K f4 (tVar 0) (tVar 4))))) (DQ Q) (L2.start [N0, N1, N2, N3, N4] vs) H := by
  obtain ⟨a, ys, rfl, hl, hH, q⟩ := h
  match ys, hl with
  | [y1, y2, y3, y4], _ => exact fl_first T (hf _ (by simp)) (go_var rfl) go_c hH fun dx h1 h2 => fl_next T (hf _ (by simp)) h2 (go_var rfl) (go_var rfl) (by simp) (fl_next T (hf _ (by simp)) h2 (go_var rfl) (go_var rfl) (by simp) (fl_next T (hf _ (by simp)) h2 (go_var rfl) (go_var rfl) (by simp) (fl_next T (hf _ (by simp)) h2 (go_var rfl) (go_var rfl) (by simp) (q dx h1 h2))))
end
/-! ### a made error: where it stands, what it holds -/
def PX (C : Addr) (fs : List (Str × V)) : Pd := fun H0 v H => ∃ a dx, v = .ref a ∧ H0 a = none ∧ H0 dx = none ∧ H a = some (exo a C (some dx)) ∧ H dx = some (exd dx fs)
theorem fs_x {C : Addr} {fs : List (Str × V)} : Fs (PX C fs) := ⟨fun k ⟨a, dx, e1, e2, e3, e4, e5⟩ => ⟨a, dx, e1, e2, e3, k a _ e2 e4, k dx _ e3 e5⟩, fun k ⟨a, dx, e1, e2, e3, e4, e5⟩ => ⟨a, dx, e1, k a e2, k dx e3, e4, e5⟩⟩
theorem PX.at {C : Addr} {fs : List (Str × V)} {H0 H : Hp} {v : V} (h : PX C fs H0 v H) : ∃ a, v = .ref a ∧ XAt H a C fs := by
  obtain ⟨a, dx, e1, _, _, e4, e5⟩ := h
  exact ⟨a, e1, dx, e4, e5⟩
section
variable {C : Addr} {code : Str} {fs : List Str} {σ : L2.St} {H : Hp} {ta : TA} {vs : List V}
theorem made {H1 : Hp} {a : Addr} {Q : VK} {H : Hp} (e : Ex H H1) (h : H1 a = none) (q : ∀ v H2, Ex H1 H2 → PX C (fldsX code fs vs) H1 v H2 → Q v H2) (hl : vs.length = fs.length) (E : XK) :
    spInit C code fs (.ref a :: vs) (upd H1 a (exo a C none)) (fun v H2 => v = .non ∧ Q (.ref a) H2) E := by
  refine ⟨a, vs, rfl, hl, upd_same, fun dx h1 h2 => ⟨rfl, ?_⟩⟩
  have hd : H1 dx = none := by
    rw [upd_ne h2] at h1
    exact h1
  refine q _ _ (fun b o hb => ?_) ⟨a, dx, rfl, h, hd, mkX_a, mkX_d h2⟩
  rw [mkX_o (ne_of_none hb h) (ne_of_none hb hd), upd_ne (ne_of_none hb h)]
  exact hb
theorem en_mkv (h : EvA ta σ H vs) (hl : vs.length = fs.length) (hz : fs.length ≤ 1000) : EN (tMkV C (spInit C code fs) ta) σ H (PX C (fldsX code fs vs)) := fun H1 e Q q =>
  h H1 e _ fun H2 e2 => ⟨by omega, fun a ha => made (e.trans e2) ha (fun v H3 e3 p => q v H3 (e2.trans e3) (fs_x.back e2 p)) hl _⟩
theorem en_mkw {gV : List V → List V → List V} {tk : TA} {zs : List V} (h : EvA tk σ H zs) (hg : ∀ a, gV [.ref a] zs = .ref a :: vs) (hl : vs.length = fs.length) : EN (tMkW C (spInit C code fs) gV tk) σ H (PX C (fldsX code fs vs)) := fun H1 e Q q =>
  h H1 e _ fun H2 e2 a ha => by
    rw [hg a]
    exact made (e.trans e2) ha (fun v H3 e3 p => q v H3 (e2.trans e3) (fs_x.back e2 p)) hl _
end
end XV

namespace XV
open PySem PySem.Spec PySem.W PySem.Calls PyProof.Rows L2 Evl C8
/-! ### the makers, packed -/
def gR {α : Type} (n : Nat) (us ws : List α) : List α := if us.length = 1 ∧ ws.length = n then us ++ ws.reverse else []
theorem vals_rev : ∀ {vs : List V} {us : List Value}, Vals vs us → Vals vs.reverse us.reverse
  | _, _, .nil => .nil
  | v :: vs, u :: us, .cons r t => by
    rw [List.reverse_cons, List.reverse_cons]
    exact vals_app (vals_rev t) (.cons r .nil)
where
  vals_app : ∀ {vs ws : List V} {us ts : List Value}, Vals vs us → Vals ws ts → Vals (vs ++ ws) (us ++ ts)
    | _, _, _, _, .nil, h => h
    | _, _, _, _, .cons r t, h => .cons r (vals_app t h)
theorem gR_rel {n : Nat} {vs zs : List V} {us ws : List Value} (r : Vals vs us) (q : Vals zs ws) : Vals (gR n vs zs) (gR n us ws) := by
  unfold gR
  rw [r.length, q.length]
  split
  · exact vals_rev.vals_app r (vals_rev q)
  · exact .nil
section
variable {K : Frag} {x qual : Str} {params : Arguments} {body : List Stmt} {scope : Scope} {f : Addr} {fd : FuncData} {ps : List Str}
theorem kb_rev (F : FunD K x qual params body scope [] [] f fd) (ks : List Str) (n : Nat) (hp : ps.length = n + 1)
    (h : ∀ (kV doc pm : Value) (an : Option Addr) (cdv ct u : Value) (ws : List Value), ws.length = n → bindArgs (fnOf x qual params body scope .none kV doc pm an cdv ct) ⟨[u], ks.zip ws⟩ = pure (ps.zip (u :: ws.reverse))) : KBinds K fd ps ks (gR n) (gR n) := by
  obtain ⟨oc, od, dV, kV, doc, pm, an, cdv, ct, osl, rfl, lk, hcd, hD, hK⟩ := F.ex
  rcases hD with ⟨_, rfl⟩ | ⟨e, _⟩
  · refine ⟨fun s us ws _ hl => ?_, fun r q => gR_rel r q⟩
    unfold gR at hl ⊢
    by_cases c : us.length = 1 ∧ ws.length = n
    · rw [if_pos c]
      match us, c.1 with
      | [u], _ => exact .of_eq (h kV doc pm an cdv ct u ws c.2)
    · rw [if_neg c, hp] at hl
      cases hl
  · exact absurd rfl e
end
/-- C(..) may be made under the name x -/
structure MkX (P : Program) (w : World) (K : Frag) (mg : Str → Option Value) (base : Heap) (k : Nat) (x : Str) (C : Addr) (code : Str) (fs : List Str) : Prop where
  xc : XC K C
  g : mg x = some (.ref C)
  ex : ∃ (fI : Addr) (fd : FuncData) (ps : List Str), findIn K (.ref C) "__init__" = some (some (.ref fI)) ∧ typeIn K (.ref fI) = some (.type "function") ∧ FnOk P w K mg base C8.CX0 k fI fd ps (spInit C code fs) ∧ Binds K fd ps [] ∧ KBinds K fd ps fs.reverse (gR fs.length) (gR fs.length)
section
variable {X : Cx} {k j : Nat} {x code : Str} {C : Addr} {fs : List Str} {e : Expr} {es : List Expr} {ta tk : TA} {kws : List Keyword} {p pos : Pos}
theorem pe_xmk (M : MkX X.prog X.w X.K X.mg X.base k x C code fs) (hr : Room j X.A) (hk : k + 1 ≤ j) (hg : Gl X x) (ha : PA X (e :: es) ta) (hdb : (x == ("__debug__" : Str)) = false := by decide)
    (he : starEach (e :: es) X.env = (false, eval e X.env) :: starEach es X.env := by rfl) (hpl : (backTo pos (starEach es X.env)).any (·.1) = false := by rfl) :
    PE X (.Call (.Name x p) (e :: es) [] pos) (tMkV C (spInit C code fs) ta) := by
  obtain ⟨fI, fd, ps, i, t, F, b, _⟩ := M.ex
  exact pe_mkv M.xc i t F (hr.mono hk) b C8.pass0 hg M.g ha hdb he hpl
theorem pe_xmk0 (M : MkX X.prog X.w X.K X.mg X.base k x C code fs) (hr : Room j X.A) (hk : k + 1 ≤ j) (hg : Gl X x) (hdb : (x == ("__debug__" : Str)) = false := by decide) :
    PE X (.Call (.Name x p) [] [] pos) (tMkV C (spInit C code fs) tNil) := by
  obtain ⟨fI, fd, ps, i, t, F, b, _⟩ := M.ex
  exact pe_mkv0 M.xc i t F (hr.mono hk) b C8.pass0 hg M.g hdb
theorem pe_xmw (M : MkX X.prog X.w X.K X.mg X.base k x C code fs) (hr : Room j X.A) (hk : k + 1 ≤ j) (hg : Gl X x) (hkw : PK X kws tk)
    (hall : (backToKw pos (keywordEach kws X.env)).all (·.1.isSome) = true := by rfl) (hks : (backToKw pos (keywordEach kws X.env)).filterMap (·.1) = fs.reverse := by rfl)
    (hdb : (x == ("__debug__" : Str)) = false := by decide)
    (hpl : ((backTo pos (starEach [] X.env)).any (·.1) || (backToKw pos (keywordEach kws X.env)).any (·.1.isNone)) = false := by rfl) :
    PE X (.Call (.Name x p) [] kws pos) (tMkW C (spInit C code fs) (gR fs.length) tk) := by
  obtain ⟨fI, fd, ps, i, t, F, _, b⟩ := M.ex
  exact pe_mkw M.xc i t F (hr.mono hk) b C8.pass0 hg M.g hkw hall hks hdb hpl
end
section
variable {C : Addr} {code : Str} {fs : List Str} {σ : L2.St} {H : Hp} {tk : TA} {vs : List V}
theorem en_mkR (h : EvA tk σ H vs.reverse) (hl : vs.length = fs.length) : EN (tMkW C (spInit C code fs) (gR fs.length) tk) σ H (PX C (fldsX code fs vs)) :=
  en_mkw h (fun a => by
    unfold gR
    rw [if_pos ⟨rfl, by rw [List.length_reverse]; exact hl⟩, List.reverse_reverse]
    rfl) hl
end
end XV

namespace XV
open PySem PySem.Spec PySem.W PySem.Calls PyProof.Rows L2 Evl
section
variable {K : Frag} {σ : L2.St} {H : Hp} {te tu : TE} {ta : TA} {P : Pd} {D : Ends} {tz : TS} {x : V} {t : Value}
/-- isinstance(e, C), C an own class -/
theorem ev_isC {C : Addr} {b : Bool} (h : Ev te σ H x) (ty : Ty0 K H x t) (e : kitOne K t (.ref C) = some b) : Ev (tCB (rIs1 K) (tCons te (tCons (tC (.ref C)) tNil))) σ H (.bl b) := fun H1 e1 Q q =>
  h H1 e1 _ fun H2 e2 => ⟨x, .ref C, t, .ref C, b, rfl, .own C, (ty.mono (e1.trans e2)).to, e, q H2 e2⟩
/-- found + [..] -/
theorem el_cat {p : Addr} {xs ys : List V} (ha : Ev te σ H (.ref p)) (hp : H p = some (.lst xs)) (hb : EvL tu σ H ys) (hz : xs.length + ys.length ≤ 100000) : EvL (tOp rCat te tu) σ H (xs ++ ys) := fun H1 e Q q =>
  ha H1 e _ fun H2 e2 => hb H2 (e.trans e2) _ fun l H3 _ e3 hl => ⟨p, l, xs, ys, rfl, rfl, (e.trans (e2.trans e3)) _ _ hp, hl, sz_of hz, fun r hr => q r _ (fresh_back (e2.trans e3) hr) ((e2.trans e3).trans (Ex.new hr)) upd_same⟩
/-- .. whose items are told by words: the old list stood at v since H0 -/
theorem en_cat {H0 : Hp} {v : V} {Ps Qs : List Pd} (fP : ∀ P, P ∈ Ps → Fs P) (fQ : ∀ P, P ∈ Qs → Fs P) (e0 : Ex H0 H) (ha : Ev te σ H v) (hv : PL Ps H0 v H) (hb : EN tu σ H (PL Qs)) (hz : Ps.length + Qs.length ≤ 100000) :
    ∀ H1, Ex H H1 → ∀ Q : VK, (∀ v H2, Ex H1 H2 → PL (Ps ++ Qs) H0 v H2 → Q v H2) → tOp rCat te tu σ H1 Q := fun H1 e Q q =>
  ha H1 e _ fun H2 e2 => hb H2 (e.trans e2) _ fun u H3 e3 pu => by
    obtain ⟨p, xs, rfl, p0, hp, hE⟩ := hv
    obtain ⟨l, ys, rfl, _, hl, hF⟩ := pu
    refine ⟨p, l, xs, ys, rfl, rfl, (e.trans (e2.trans e3)) _ _ hp, hl, sz_of (by rw [hE.len, hF.len]; exact hz), fun r hr => q _ _ ((e2.trans e3).trans (Ex.new hr)) ⟨r, xs ++ ys, rfl, fresh_back (((e0.trans e).trans e2).trans e3) hr, upd_same, ?_⟩⟩
    refine Each.app (hE.to fun P m v h => (fP P m).ex (((e.trans e2).trans e3).trans (Ex.new hr)) h) (hF.to fun P m v h => (fQ P m).ex (Ex.new hr) ((fQ P m).back ((e0.trans e).trans e2) h))
theorem ev_chain {ta tb tc : TE} {i j k : Int} {g g' : Int → Int → Bool} (ha : Ev ta σ H (.int i)) (hb : Ev tb σ H (.int j)) (hc : Ev tc σ H (.int k)) :
    Ev (tChain (rI0 fun i j => .bl (g i j)) (rI0 fun i j => .bl (g' i j)) ta tb tc) σ H (.bl (g i j && g' j k)) := fun H1 e Q q =>
  ha H1 e _ fun H2 e2 => hb H2 (e.trans e2) _ fun H3 e3 => ⟨i, j, rfl, rfl, g i j, rfl, by
    cases h : g i j with
    | true => exact hc H3 ((e.trans e2).trans e3) _ fun H4 e4 => ⟨j, k, rfl, rfl, by
        have q4 := q H4 ((e2.trans e3).trans e4)
        rw [h] at q4
        exact q4⟩
    | false =>
      have q3 := q H3 (e2.trans e3)
      rw [h] at q3
      exact q3⟩
theorem q_asgN {i : Nat} (h : EN te σ H P) (k : ∀ v H1, Ex H H1 → P H v H1 → tz D (σ.set i (some v)) H1) : tSeq (tAsg te (gName i)) tz D σ H := h H (Ex.refl H) _ fun v H1 e p => k v H1 e p
/-- made errors, one behind another -/
structure AX (Ps : List Pd) (ta : TA) (σ : L2.St) (H : Hp) : Prop where
  f : ∀ P, P ∈ Ps → Fs P
  h : AN ta σ H (fun H0 vs H' => Each H0 H' Ps vs)
theorem ax_nil : AX [] tNil σ H := ⟨fun _ m => (nomatch m), ae_nil⟩
theorem ax_cons {C : Addr} {fs : List (Str × V)} {Ps : List Pd} (h : EN te σ H (PX C fs)) (hr : AX Ps ta σ H) : AX (PX C fs :: Ps) (tCons te ta) σ H :=
  ⟨fun P m => (List.mem_cons.mp m).elim (fun m => m ▸ fs_x) (hr.f P), ae_cons fs_x hr.f h hr.h⟩
structure LX (Ps : List Pd) (H0 : Hp) (v : V) (H : Hp) : Prop where
  f : ∀ P, P ∈ Ps → Fs P
  e : Ex H0 H
  h : PL Ps H0 v H
theorem q_asgX {i : Nat} {Ps : List Pd} (h : AX Ps ta σ H) (hn : Ps.length ≤ 100000) (k : ∀ v H1, LX Ps H v H1 → tz D (σ.set i (some v)) H1) : tSeq (tAsg (tLst ta) (gName i)) tz D σ H :=
  q_asgN (en_lst h.f h.h hn) fun v H1 e p => k v H1 ⟨h.f, e, p⟩
theorem fs_app {Ps Qs : List Pd} (h : ∀ P, P ∈ Ps → Fs P) (g : ∀ P, P ∈ Qs → Fs P) : ∀ P, P ∈ Ps ++ Qs → Fs P := fun P m => (List.mem_append.mp m).elim (h P) (g P)
theorem q_catX {i : Nat} {Ps Qs : List Pd} {H0 : Hp} {v : V} (hv : Ev te σ H v) (p : LX Ps H0 v H) (h : AX Qs ta σ H) (hz : Ps.length + Qs.length ≤ 100000) (k : ∀ v H1, LX (Ps ++ Qs) H0 v H1 → tz D (σ.set i (some v)) H1) : tSeq (tAsg (tOp rCat te (tLst ta)) (gName i)) tz D σ H :=
  en_cat p.f h.f p.e hv p.h (en_lst h.f h.h (by omega)) hz H (Ex.refl H) _ fun v H1 e q => k v H1 ⟨fs_app p.f h.f, p.e.trans e, q⟩
theorem s_catX {Ps Qs : List Pd} {H0 : Hp} {v : V} (hv : Ev te σ H v) (p : LX Ps H0 v H) (h : AX Qs ta σ H) (hz : Ps.length + Qs.length ≤ 100000) (k : ∀ v H1, LX (Ps ++ Qs) H0 v H1 → D.rt v H1) : tRet (tOp rCat te (tLst ta)) D σ H :=
  en_cat p.f h.f p.e hv p.h (en_lst h.f h.h (by omega)) hz H (Ex.refl H) _ fun v H1 e q => k v H1 ⟨fs_app p.f h.f, p.e.trans e, q⟩
end
open C8 in
theorem pe_c0 {X : Cx} {k j : Nat} {x : Str} {sp : Sp} {dvs : List V} {p pos : Pos} (c : Cal X.prog X.w X.K X.mg X.base k x sp dvs) (hr : Room j X.A) (hk : k ≤ j) (hg : Gl X x) (hdb : (x == ("__debug__" : Str)) = false := by decide) :
    PE X (.Call (.Name x p) [] [] pos) (tCall sp dvs C8.E0 tNil) := by
  obtain ⟨f, fd, ps, ds, F, hm, kp, b, d⟩ := c.ex
  exact pe_call0 F (hr.mono hk) hg hm kp b d C8.pass0 hdb
end XV

namespace XV
open PySem PySem.Spec PySem.W PySem.Calls PyProof.Rows L2 Evl
/-! ### raise C(..) -/
def tRX (C : Addr) (code : Str) (fs : List Str) (ta : TA) : L2.St → Hp → XK → Prop := fun σ H Q => ta σ H fun vs H1 => vs.length = fs.length ∧ vs.length ≤ 1000 ∧ ∀ d, H1 d = none → Q (.ref C) (some d) (upd H1 d (.xd (fldsX code fs vs)))
section
variable {X : Cx} {k j : Nat} {x code : Str} {C : Addr} {fs : List Str} {e : Expr} {es : List Expr} {ta : TA} {p pos : Pos}
theorem mk_raise {pins : List (Addr × Obj)} {σ : L2.St} {H : Hp} {s : Shared} {Q : XK} {us : List Value} {vs : List V} (M : MkX X.prog X.w X.K X.mg X.base k x C code fs) (hr : Room (k + 1) X.A) (I : Inv X pins σ H s) (r : Vals vs us)
    (hl : vs.length = fs.length) (hz : vs.length ≤ 1000) (h : ∀ d, H d = none → Q (.ref C) (some d) (upd H d (.xd (fldsX code fs vs)))) : wpAny (model X.prog X.w) X.A (call (.ref C) us) (MkP X pins σ Q) X.xe s := by
  obtain ⟨fI, fd, ps, iC, tI, F1, hb, _⟩ := M.ex
  have T := M.xc
  obtain ⟨B, nI, iI, bmB, FB, SF, c1, c2⟩ := T.base
  obtain ⟨nm, N, qn, bs, bm, hdct, sn, sub, ab, col, dd, k0, k1, k2, k3, k5, hC, hT⟩ := excInit_of I.kIn c1
  obtain ⟨hp, g, dr, tk, os⟩ := s
  have big : hp.objs.size ≤ hp.objs.size + 1 := Nat.le_succ _
  have hn : H (hp.objs.size + 1) = none := I.hok.fresh big
  have kk : ∀ b o, hp.get? b = some o → ((hp.push (kdv_tup us)).push (HandSPX.excO C hp.objs.size)).get? b = some o := fun b o q => Heap.get?_push_of_some _ (Heap.get?_push_of_some _ q)
  have hget : ((hp.push (kdv_tup us)).push (HandSPX.excO C hp.objs.size)).get? (hp.objs.size + 1) = some (HandSPX.excO C hp.objs.size) := by heap_get
  have I2 : Inv X pins σ (upd H (hp.objs.size + 1) (exo (hp.objs.size + 1) C none)) ⟨(hp.push (kdv_tup us)).push (HandSPX.excO C hp.objs.size), g, dr, tk, os⟩ :=
    I.laid (t' := tk) (a := hp.objs.size + 1) (o := exo (hp.objs.size + 1) C none) kk big (exo_ok hget)
  have r2 : Vals (V.ref (hp.objs.size + 1) :: vs) (Value.ref (hp.objs.size + 1) :: us) := .cons rfl r
  have hq : spInit C code fs (V.ref (hp.objs.size + 1) :: vs) (upd H (hp.objs.size + 1) (exo (hp.objs.size + 1) C none))
      (fun v H2 => v = .non ∧ ∃ d : Addr, H2 (hp.objs.size + 1) = some (exo (hp.objs.size + 1) C (some d)) ∧ H2 d = some (exd d (fldsX code fs vs)) ∧ H d = none ∧ Q (.ref C) (some d) (upd (del H2 (hp.objs.size + 1)) d (.xd (fldsX code fs vs)))) (fun _ _ _ => False) := by
    refine ⟨_, vs, rfl, hl, upd_same, fun d h1 h2 => ⟨rfl, d, mkX_a, mkX_d h2, ?_, ?_⟩⟩
    · rw [upd_ne h2] at h1
      exact h1
    · have hd : H d = none := by
        rw [upd_ne h2] at h1
        exact h1
      have e : upd (del (mkX (upd H (hp.objs.size + 1) (exo (hp.objs.size + 1) C none)) (hp.objs.size + 1) d C (fldsX code fs vs)) (hp.objs.size + 1)) d (.xd (fldsX code fs vs)) = upd H d (.xd (fldsX code fs vs)) := by
        funext b
        by_cases b1 : b = d
        · rw [b1, upd_same, upd_same]
        · rw [upd_ne b1, upd_ne b1]
          by_cases b2 : b = hp.objs.size + 1
          · rw [b2, del_same, hn]
          · rw [del_ne b2, mkX_o b2 b1, upd_ne b2]
      rw [e]
      exact h d hd
  have hl2 : (Value.ref (hp.objs.size + 1) :: us).length = ps.length := by
    rw [← r2.length]
    exact F1.len _ _ _ _ hq
  have hus : us.length ≤ sizeLine := by
    rw [← r.length, sizeLine_eq]
    omega
  have hbd := hb ⟨(hp.push (kdv_tup us)).push (HandSPX.excO C hp.objs.size), g, dr, tk, os⟩ (Value.ref (hp.objs.size + 1) :: us) I2.kIn (by rw [List.append_nil]; exact hl2)
  rw [List.append_nil] at hbd
  refine wpAny_call (HandSPX.call_own FB hT hC (looks_findIn I.kIn iC) (fun self => bind_fn I.kIn self tI) hus ?_)
  refine codeAny_mono (F1.run _ X.stack _ _ ⟨Value.ref (hp.objs.size + 1) :: us, []⟩ (Value.ref (hp.objs.size + 1) :: us) _ _ (fun _ _ _ => False) (hr.make C us []) (I2.env0.make C us []) hbd r2 hq) fun rr s' hq' => ?_
  cases rr with
  | error er => exact absurd hq' (fun z => z)
  | ok fl =>
    cases fl with
    | ret v0 =>
      obtain ⟨v, H2, os2, bare2, un2, hok2, rv, ev, d, ea, ed, hd1, q2⟩ := hq'
      subst ev
      obtain ⟨h2, g2, d2, t2, os'⟩ := s'
      exact ⟨rv, mk_end (raises_own T.ex T.ty) I big kk un2 hok2 os2 bare2 ea ed hd1 q2⟩
    | next => exact False.elim hq'
    | brk => exact False.elim hq'
    | cont => exact False.elim hq'
theorem pmk_x (M : MkX X.prog X.w X.K X.mg X.base k x C code fs) (hr : Room j X.A) (hk : k + 1 ≤ j) (hg : Gl X x) (ha : PA X (e :: es) ta) (hdb : (x == ("__debug__" : Str)) = false := by decide)
    (he : starEach (e :: es) X.env = (false, eval e X.env) :: starEach es X.env := by rfl) (hpl : (backTo pos (starEach es X.env)).any (·.1) = false := by rfl) :
    PMk X (.Call (.Name x p) (e :: es) [] pos) (tRX C code fs ta) := by
  intro pins s σ H Q I h
  refine wpAny_Call_Name_kw (ld_glob I hg M.g ?_ hdb)
  refine callWith_K (h₀ := X.base) I.ok.mod.kin M.xc.kp (thn (ha.run pos pins s σ H _ I h) fun us s1 hu => ?_) he hpl
  obtain ⟨vs, H1, I1, r1, hl, hz, q1⟩ := hu
  exact ⟨I1.kIn, mk_raise M (hr.mono hk) I1 r1 hl hz q1⟩
theorem pmk_x0 (M : MkX X.prog X.w X.K X.mg X.base k x C code fs) (hr : Room j X.A) (hk : k + 1 ≤ j) (hg : Gl X x) (hdb : (x == ("__debug__" : Str)) = false := by decide) :
    PMk X (.Call (.Name x p) [] [] pos) (tRX C code fs tNil) := by
  intro pins s σ H Q I h
  obtain ⟨hl, hz, q1⟩ := (show ([] : List V).length = fs.length ∧ ([] : List V).length ≤ 1000 ∧ ∀ d, H d = none → Q (.ref C) (some d) (upd H d (.xd (fldsX code fs []))) from h)
  refine wpAny_Call_Name_kw (ld_glob I hg M.g ?_ hdb)
  exact callWith_K0 I.kIn M.xc.kp (mk_raise (us := []) M (hr.mono hk) I .nil hl hz q1)
end
/-! ### e.f of the error that was caught -/
def tXe (K : Frag) (a : Addr) (cls : Value) (d : Option Addr) (f : Str) (te : TE) : TE := fun σ H Q => te σ H fun x H1 => x = .ref a ∧ ∃ (C dd : Addr) (fs : List (Str × V)) (v : V), cls = .ref C ∧ XC K C ∧ findIn K (.ref C) f = some none ∧ d = some dd ∧ H1 dd = some (.xd fs) ∧ fs.lookup f = some v ∧ Q v H1
theorem pe_xe {X : Cx} {a : Addr} {oe : Obj} {cls : Value} {d : Option Addr} {pn : List (Addr × Obj)} {e : Expr} {te : TE} {pos : Pos} {f : Str} (hz : Zc cls d oe) (hf : ∃ vs, oe.data = .fields vs) (he : PE (X.suite a ((a, oe) :: pn)) e te)
    (hb : attributeBase e f X.env (eval e X.env) = eval e X.env := by rfl) : PE (X.suite a ((a, oe) :: pn)) (.Attribute e f pos) (tXe X.K a cls d f te) := by
  constructor
  intro pins s σ H Q I h
  refine attr_of hb (thn (he.run pins s σ H _ I h) fun u s1 hu => ?_)
  obtain ⟨x, H1, I1, rx, ex, C, dd, fs, v, ec, T, hno, ed, ea, l, q⟩ := hu
  subst ex ec ed
  obtain rfl : u = Value.ref a := rx
  have ha := (I1.pin (a, oe) (List.mem_append_left _ List.mem_cons_self)).1
  obtain ⟨vs, hd⟩ := hf
  obtain ⟨mA, hns, hr⟩ := (show ObjOk X.prog X.w H1 s1.heap dd (.xd fs) from I1.hok dd _ ea)
  obtain ⟨od, ho, hl⟩ := lookIn_ns hns
  obtain ⟨w, hw, rw_⟩ := RelO.some_of (v := v) (o := mA f) (by rw [← l]; exact hr f)
  have J : W.InstAt s1.heap a oe C (some od) := ⟨ha, hz.1, (by unfold W.notCls; rw [hd] <;> rfl), by rw [hz.2]; exact ho⟩
  exact HandSPX.exc_get I1.kIn J T.ga T.gg T.ex (findObj_own T.hd hno rfl (by rw [hl, hw])) (handed_of rw_) ⟨v, H1, I1.tok _, rw_, q⟩
end XV

namespace XV
open PySem PySem.Spec PySem.W PySem.Calls PyProof.Rows L2 Evl
/-! ### try with several clauses, each with the same name behind its as -/
abbrev Clause := Value × (Addr → Value → Option Addr → TS)
/-- behind a suite its name goes -/
def goneD (i : Nat) (D : Ends) : Ends := { nx := fun σ H => D.nx (σ.set i none) H, rt := D.rt, bk := fun σ H => D.bk (σ.set i none) H, ct := fun σ H => D.ct (σ.set i none) H }
def wSome (K : Frag) (i : Nat) (Wout : WX) (D : Ends) : List Clause → WX
  | [] => Wout
  | (c, ts) :: r => fun cls d σ H => ∃ b, exmOne K cls c = some b ∧ (b = true → ∀ a, H a = none → ts a cls d (goneD i D) (σ.set i (some (.ref a))) H) ∧ (b = false → wSome K i Wout D r cls d σ H)
inductive Clauses (X : Cx) (n : Str) : List ExceptHandler → List Clause → Prop
  | nil : Clauses X n [] []
  | cons {x : Str} {c : Value} {ts : Addr → Value → Option Addr → TS} {b₀ : Stmt} {suite : List Stmt} {np pos' : Pos} {hds : List ExceptHandler} {l : List Clause} (hc : Names X x c)
      (hsu : ∀ (a : Addr) (oe : Obj) (cls : Value) (d : Option Addr) (pn : List (Addr × Obj)), Zc cls d oe → (∃ vs, oe.data = .fields vs) → PSs (X.suite a ((a, oe) :: pn)) (b₀ :: suite) (ts a cls d)) (r : Clauses X n hds l) :
      Clauses X n (.ExceptHandler (some (.Name x np)) (some n) (b₀ :: suite) pos' :: hds) ((c, ts) :: l)
section
variable {X : Cx} {body : List Stmt} {h₀ : ExceptHandler} {hds : List ExceptHandler} {l : List Clause} {pos : Pos} {tb : WX → TS} {Wout : WX} {i : Nat} {n : Str}
/-- the state in which the clauses are asked -/
structure Asked (X : Cx) (pins : List (Addr × Obj)) (a : Addr) (cls : Value) (d : Option Addr) (σ : L2.St) (H : Hp) (sI s : Shared) (B : Heap) : Prop where
  ok : X.Ok
  J : Inv X pins σ H sI
  nb : ∀ b o, sI.heap.get? b = some o → b ∉ frs X.stack → B.get? b = some o
  up : sI.heap.UpToSlots s.heap
  fl : HandSPX.FlyingZ B (X.env :: X.outer) a (Zc cls d) s.heap
  na : H a = none
  os : s.os = sI.os
  ag : AllBare s.gens
theorem Asked.now {pins : List (Addr × Obj)} {a : Addr} {cls : Value} {d : Option Addr} {σ : L2.St} {H : Hp} {sI s : Shared} {B : Heap} (A : Asked X pins a cls d σ H sI s B) : Inv X pins σ H s := A.J.landed A.nb A.fl.1 A.up A.os A.ag
theorem Asked.apart {pins : List (Addr × Obj)} {a : Addr} {cls : Value} {d : Option Addr} {σ : L2.St} {H : Hp} {sI s : Shared} {B : Heap} (hf : X.env.frame = some X.env.locals) (A : Asked X pins a cls d σ H sI s B) : a ≠ X.env.locals ∧ a ∉ X.fs := by
  obtain ⟨oe, vs, he, _, hd⟩ := A.fl.there
  have far : a ∉ frs (X.env :: X.outer) := fun hm => by
    obtain ⟨_, o', e', no⟩ := A.fl.2.2.1.mem hm
    rw [he] at e'
    obtain rfl := Option.some.inj e'
    exact no _ hd
  constructor
  · intro z
    exact far (List.mem_filterMap.mpr ⟨X.env, List.mem_cons_self, by rw [hf, z]⟩)
  · intro hm
    obtain ⟨e, m, q⟩ := List.mem_filterMap.mp hm
    exact far (List.mem_filterMap.mpr ⟨e, List.mem_cons_of_mem _ m, q⟩)
theorem Asked.heap {pins : List (Addr × Obj)} {a : Addr} {cls : Value} {d : Option Addr} {σ : L2.St} {H : Hp} {sI s : Shared} {B h' : Heap} (A : Asked X pins a cls d σ H sI s B) (fl : HandSPX.FlyingZ B (X.env :: X.outer) a (Zc cls d) h') (up : s.heap.UpToSlots h') :
    Asked X pins a cls d σ H sI { s with heap := h' } B := ⟨A.ok, A.J, A.nb, A.up.trans up, fl, A.na, A.os, A.ag⟩
theorem clauses_run {pins : List (Addr × Obj)} {a : Addr} {cls : Value} {d : Option Addr} {σ : L2.St} {H : Hp} {sI s : Shared} {B : Heap} {D : Ends} (hs : X.stack = X.env :: X.outer) (hf : X.env.frame = some X.env.locals) (hN : X.N.Nodup) (hi : X.N[i]? = some n) (hln : X.env.kindOf n = some .local)
    (tk : Takes X Wout) (A : Asked X pins a cls d σ H sI s B) {hds : List ExceptHandler} {l : List Clause} (hh : Clauses X n hds l) : wSome X.K i Wout D l cls d σ H →
      wpAny (model X.prog X.w) X.A (handleBy (.ref a) X.env hds) (SP X pins D) X.xe s := by
  have J3 := A.now
  obtain ⟨nL, nF⟩ := A.apart hf
  obtain ⟨oe3, vs3, he3, hz3, hd3⟩ := A.fl.there
  have S3 := J3.suite he3 hd3 A.na nL nF
  induction hh with
  | nil =>
    intro w
    refine wpAny_handleBy_nil ?_
    obtain ⟨k1, k2, k3, oe, vs, T, oT, ts', he, hz, hd, h1, hr⟩ := id A.fl
    unfold PySem.passOn
    refine wpAny_bind (wpAny_field he hd h1 ?_)
    rw [if_neg (show ¬ ((Value.ref T == Value.none) = true) from by simp)]
    have out : wpAny (model X.prog X.w) X.A (setFlight (.ref a) X.env.frame) (fun _ t => wpAny (model X.prog X.w) X.A (throw (.ref a) : Sem Flow) (SP X pins D) X.xe t) X.xe s := by
      rw [hf]
      refine HandSPX.setFlight_upZ A.fl fun h4 hh4 up4 => wpAny_throw (tk _ _ ?_)
      exact ⟨a, B, sI, pins, σ, H, cls, d, rfl, A.J, A.nb, A.up.trans up4, .inr (.inr (by rw [hs]; exact hh4)), A.na, A.os, A.ag, w⟩
    first
      | exact wpAny_bind (wpAny_pure (wpAny_bind out))
      | exact wpAny_bind out
  | @cons x c ts b₀ suite np pos' hds2 l2 hc hsu r ih =>
    intro w
    obtain ⟨b, hb, yes, no⟩ := w
    refine wpAny_handleBy_cons (codeAny_handlers_test ?_) (by intro q; cases q)
    have LT : Looks (model X.prog X.w) s.heap (typeOf (.ref a)) cls := fun A Q E s k q => wpAny_typeOf_ref (k _ _ he3) (by rw [hz3.1]; exact q)
    have LM := exm_one (M := model X.prog X.w) J3.kIn LT hb
    have named : ∀ {Q : Value → Shared → Prop} {E : Value → Shared → Prop}, Q c s → wpAny (model X.prog X.w) (X.A.mark (some (.ref a))) (eval (.Name x np) X.env) Q E s := fun {Q E} q => by
      obtain ⟨hg, hdb, hm | ⟨hm, hv, hnn⟩⟩ := hc
      · exact ld_glob (X := X.suite a ((a, oe3) :: (X.pn ++ pins))) S3 hg hm q hdb
      · exact ld_blt (X := X.suite a ((a, oe3) :: (X.pn ++ pins))) S3 hg hm hv q hnn hdb
    refine named (LM.here ?_)
    cases b with
    | false =>
      show wpAny _ X.A (handleBy (.ref a) X.env hds2) _ _ _
      exact ih (no rfl)
    | true =>
      refine codeAny_handlers_suite_as ?_
      refine HandSPX.lands_againZ A.fl fun h4 fl4 up4 => ?_
      have A4 := A.heap fl4 up4
      obtain ⟨oe4, vs4, he4, hz4, hd4⟩ := fl4.there
      have S4 := A4.now.suite he4 hd4 A.na nL nF
      refine store_ok (X := X.suite a ((a, oe4) :: (X.pn ++ pins))) (v := .ref a) S4 hN hi (.inl hln) rfl (fun s5 S5 => ?_) (.inr hln)
      refine wpAny_mono ((hsu a oe4 cls d (X.pn ++ pins) hz4 ⟨_, hd4⟩).run [] s5 _ H _ S5 (yes rfl a A.na)) (fun f s6 q6 => ?_) (fun _ _ z => False.elim z)
      have ends : ∀ {σ6 : L2.St} {H6 : Hp} {Q : Shared → Prop}, Inv (X.suite a ((a, oe4) :: (X.pn ++ pins))) [] σ6 H6 s6 → (∀ t, Inv X pins (σ6.set i none) H6 t → Q t) →
          wpAny (model X.prog X.w) X.A (do bindName X.env n .none; unbindBehindTheSuite X.env n pos') (fun _ t => Q t) X.xe s6 := fun S6 q => gone_ok (S6.unsuite A.ok) hN hi hln q
      cases f with
      | ret u =>
        obtain ⟨v6, σ6, H6, S6, r6, q⟩ := q6
        exact ends S6 fun t Jt => ⟨_, _, _, Jt, r6, q⟩
      | next =>
        obtain ⟨σ6, H6, S6, q⟩ := q6
        exact ends S6 fun t Jt => ⟨_, _, Jt, q⟩
      | brk =>
        obtain ⟨σ6, H6, S6, q⟩ := q6
        exact ends S6 fun t Jt => ⟨_, _, Jt, q⟩
      | cont =>
        obtain ⟨σ6, H6, S6, q⟩ := q6
        exact ends S6 fun t Jt => ⟨_, _, Jt, q⟩
theorem ps_try_some (hs : X.stack = X.env :: X.outer) (hf : X.env.frame = some X.env.locals) (hN : X.N.Nodup) (hi : X.N[i]? = some n) (hln : X.env.kindOf n = some .local) (tk : Takes X Wout)
    (hb : ∀ (W : WX) (pn : List (Addr × Obj)) (xe : Value → Shared → Prop), Takes (X.tr pn xe) W → PassesOwn (model X.prog X.w) X.A X.env xe → PSs (X.tr pn xe) body (tb W))
    (hh : Clauses X n (h₀ :: hds) l) : PS X (.Try body (h₀ :: hds) [] [] pos) (fun D σ H => tb (wSome X.K i Wout D l) D σ H) := by
  constructor
  intro pins s σ H D I h
  have ok := I.ok
  have hfr : X.A.frames = some (X.env :: X.outer) := by rw [ok.frames, hs]
  refine wpAny_Try_except (wpAny_mono ((hb (wSome X.K i Wout D l) (X.pn ++ pins) (fun e s₁ => wpAny (model X.prog X.w) X.A (noteFrame e X.env) (fun _ s₂ => wpAny (model X.prog X.w) X.A (setFlight e none) (fun _ s₃ =>
    wpAny (model X.prog X.w) X.A (handleBy e X.env (h₀ :: hds)) (SP X pins D) X.xe s₃) X.xe s₂) X.xe s₁) (fun u s' xx => ?_) PassesOwn.looking).run [] s σ H D (I.toTry _) h) (fun f s1 q1 => ?_) (fun _ _ z => z))
  · obtain ⟨a, B, sI, pins', σ', H', cls, d, eu, J', nb, up, sky, na, os, ag, w⟩ := xx
    subst eu
    have sky2 : Sky B (X.env :: X.outer) a (Zc cls d) X.env.locals s'.heap := by rw [← hs]; exact sky
    show wpAny (model X.prog X.w) X.A (noteFrame (.ref a) X.env) _ _ _
    refine Sky.land Zc.steady hfr hf sky2 fun h3 fl3 up3 => ?_
    exact clauses_run (s := { s' with heap := h3 }) hs hf hN hi hln tk ⟨ok, J'.ofTry ok, nb, up.trans up3, fl3, na, os, ag⟩ hh w
  · cases f with
    | ret u =>
      obtain ⟨v, σ', H', J', r, q⟩ := q1
      exact ⟨v, σ', H', J'.ofTry ok, r, q⟩
    | next =>
      obtain ⟨σ', H', J', q⟩ := q1
      exact wpAny_execs_nil ⟨σ', H', J'.ofTry ok, q⟩
    | brk =>
      obtain ⟨σ', H', J', q⟩ := q1
      exact ⟨σ', H', J'.ofTry ok, q⟩
    | cont =>
      obtain ⟨σ', H', J', q⟩ := q1
      exact ⟨σ', H', J'.ofTry ok, q⟩
end
end XV

namespace XV
open PySem PySem.Spec PySem.W PySem.Calls PyProof.Rows L2 Evl
section
variable {K : Frag} {σ : L2.St} {H : Hp} {te tl : TE} {ta : TA} {D : Ends} {tu tz : TS}
/-- a comprehension whose i-th item keeps the i-th word -/
theorem lc_allI {P : Nat → Pd} {J : It} {n : Nat} {G : Hp → Prop} {Y : Nat → Hp → V → Hp → Prop} (f : ∀ i, Fs (P i)) (w : Walk J n G Y) (hz : n ≤ 40000) {g : TG} {vs : List Nat} {H1 : Hp} {B : Addr} {Qd : Hp → Prop} (hB : H1 B = none) (hG : ∀ H', Ex H1 H' → G H')
    (hs : ∀ i x H H', i < n → Ex H1 H → Y i H x H' → ∀ Q : L2.St → Hp → Prop, (∀ σ2 H2, wipe σ2 vs = wipe σ vs → Ex H H2 → EN te σ2 H2 (P i) → Q σ2 H2) → g x (wipe σ vs) H' Q)
    (hd : ∀ H' xs, Ex H1 H' → H' B = some (.lst xs) → Each H1 H' ((List.range n).map P) xs → Qd H') :
    ∃ W : Nat → Nat → Hp → Prop, (∃ m, W 0 m (upd H1 B (.lst []))) ∧ ∀ i m H, W i m H →
      (J.stop i H ∧ Qd H) ∨ (J.go i H ∧ ∃ Nx : Hp → Prop, (∀ H', Nx H' → ∃ m', m' < m ∧ W (i + 1) m' H') ∧ ∀ x H', J.yld i H x H' → g x (wipe σ vs) H' fun σ2 H2 => wipe σ2 vs = wipe σ vs ∧ tYes σ2 H2 fun b H3 =>
        if b = true then te σ2 H3 fun y H4 => ∃ acc, H4 B = some (.lst acc) ∧ acc.length < sizeLine ∧ Nx (upd H4 B (.lst (acc ++ [y]))) else Nx H3) := by
  refine lc_it w (fun i H' => Ex H1 H' ∧ ∃ acc, H' B = some (.lst acc) ∧ Each (upd H1 B (.lst [])) H' ((List.range i).map P) acc) ⟨Ex.new hB, [], upd_same, trivial⟩ (fun i H' _ h => hG H' h.1) (fun i x H' H'' hi h y => ?_) (fun H' h => ?_)
  · obtain ⟨e1, acc, e2, e3⟩ := h
    refine hs i x H' H'' hi e1 y _ fun σ2 H2 hw e4 hE => ⟨hw, ?_⟩
    show te σ2 H2 _
    have hl : acc.length = i := by rw [e3.len, List.length_map, List.length_range]
    refine hE H2 (Ex.refl H2) _ fun v H4 e5 p => ⟨acc, (e4.trans e5) _ _ e2, sz_lt (by omega), Ex.mut ((e1.trans e4).trans e5) hB, acc ++ [v], upd_same, ?_⟩
    have nB : ∀ a, upd H1 B (.lst []) a = none → a ≠ B := fun a h e => by
      rw [e, upd_same] at h
      cases h
    rw [List.range_succ, List.map_append]
    refine Each.app (e3.to fun P' m u x => ?_) ⟨?_, trivial⟩
    · obtain ⟨i', _, rfl⟩ := List.mem_map.mp m
      exact (f i').st (fun a o h0 h => by rw [upd_ne (nB a h0)]; exact (e4.trans e5) a o h) x
    · refine (f i).st (fun a o h0 h => by rw [upd_ne (nB a h0)]; exact h) ((f i).an (fun a h => ?_) p)
      by_cases q : a = B
      · rw [q, e4 _ _ e2] at h
        cases h
      · rw [upd_ne q]
        exact fresh_back (e1.trans e4) h
  · obtain ⟨e1, acc, e2, e3⟩ := h
    refine hd H' acc e1 e2 (e3.to fun P' m u x => ?_)
    obtain ⟨i', _, rfl⟩ := List.mem_map.mp m
    exact (f i').an (fun a h => fresh_back (Ex.new hB) h) x
theorem en_rngI {P : Nat → Pd} {n j : Nat} {vs : List Nat} (f : ∀ i, Fs (P i)) (hz : n ≤ 40000) (ha : EvA ta σ H [.int (n : Int)]) (hw : ∀ x, wipe ((wipe σ vs).set j (some x)) vs = wipe σ vs)
    (he : ∀ (k : Nat) H1, Ex H H1 → k < n → EN te ((wipe σ vs).set j (some (.int (k : Int)))) H1 (P k)) : EN (tLc (iRng1 ta) (gName j) tYes te vs) σ H (PL ((List.range n).map P)) := fun H1 e Q q => ha H1 e _ fun H2 e2 => by
  refine ⟨(n : Int), rfl, by omega, by omega, fun B hB => ?_⟩
  show ∃ W : Nat → Nat → Hp → Prop, _
  refine lc_allI f (walk_range (lo := 0) (n := n)) hz hB (fun _ _ => trivial) (fun k x H3 H4 hk e3 y Q q => ?_) fun H' zs e3 h3 h4 => ?_
  · obtain ⟨rfl, rfl⟩ := y
    show Q ((wipe σ vs).set j (some (.int ((0 : Int) + (k : Int))))) H4
    rw [Int.zero_add]
    exact q _ _ (hw _) (Ex.refl _) (he k _ ((e.trans e2).trans e3) hk)
  · exact q _ _ (e2.trans e3) ⟨B, zs, rfl, fresh_back e2 hB, h3, h4.to fun P' m v x => by
      obtain ⟨i', _, rfl⟩ := List.mem_map.mp m
      exact (f i').back e2 x⟩
/-- a for over a new list of which words are known -/
theorem q_forEN {Ps : List Pd} {j : Nat} (h : EN tl σ H (PL Ps))
    (k : ∀ p xs H1, Ex H H1 → H p = none → H1 p = some (.lst xs) → Each H H1 Ps xs → ∃ Pv : Nat → L2.St → Hp → Prop, Pv 0 σ H1 ∧ (∀ i σ' H', i ≤ xs.length → Pv i σ' H' → SqL K H' p xs) ∧
      (∀ i x σ' H', xs[i]? = some x → Pv i σ' H' → tu { D with nx := Pv (i + 1), ct := Pv (i + 1), bk := tz D } (σ'.set j (some x)) H') ∧ (∀ σ' H', Pv xs.length σ' H' → tz D σ' H')) :
    tSeq (tFor (iList K tl) (gName j) tu) tz D σ H := h H (Ex.refl H) _ fun v H1 e p => by
  obtain ⟨q, xs, rfl, q0, hq, hE⟩ := p
  obtain ⟨Pv, h0, hl, hs, hd⟩ := k q xs H1 e q0 hq hE
  exact ⟨q, rfl, ⟨xs, sq_of hq⟩, for_list Pv h0 hl hs hd⟩
/-- a new tuple of known values -/
def PT (us : List V) : Pd := fun H0 v H => ∃ p, v = .ref p ∧ H0 p = none ∧ H p = some (.tup us)
theorem fs_t {us : List V} : Fs (PT us) := ⟨fun k ⟨p, e1, e2, e3⟩ => ⟨p, e1, e2, k p _ e2 e3⟩, fun k ⟨p, e1, e2, e3⟩ => ⟨p, e1, k p e2, e3⟩⟩
theorem en_tupT {us : List V} (h : EvA ta σ H us) (hl : us.length ≤ 100000) : EN (tTup ta) σ H (PT us) := fun H1 e Q q => eu_tup h hl H1 e Q fun p H2 p0 e2 hp => q _ H2 e2 ⟨p, rfl, p0, hp⟩
theorem q_asgT {g : TG} {us : List V} (h : EvA ta σ H us) (hl : us.length ≤ 100000) (k : ∀ t H1, Ex H H1 → H1 t = some (.tup us) → g (.ref t) σ H1 (tz D)) : tSeq (tAsg (tTup ta) g) tz D σ H :=
  eu_tup h hl H (Ex.refl H) (fun v H1 => g v σ H1 (tz D)) fun t H1 _ e ht => k t H1 e ht
theorem q_catN {i : Nat} {Ps Qs : List Pd} {H0 : Hp} {v : V} (fP : ∀ P, P ∈ Ps → Fs P) (fQ : ∀ P, P ∈ Qs → Fs P) (e0 : Ex H0 H) (hv : Ev te σ H v) (p : PL Ps H0 v H) (h : EN tl σ H (PL Qs)) (hz : Ps.length + Qs.length ≤ 100000)
    (k : ∀ v H1, Ex H H1 → PL (Ps ++ Qs) H0 v H1 → tz D (σ.set i (some v)) H1) : tSeq (tAsg (tOp rCat te tl) (gName i)) tz D σ H :=
  en_cat fP fQ e0 hv p h hz H (Ex.refl H) (fun v H1 => tz D (σ.set i (some v)) H1) k
theorem fs_pts {ls : List (List V)} : ∀ P, P ∈ ls.map PT → Fs P := fun P m => by
  obtain ⟨_, _, rfl⟩ := List.mem_map.mp m
  exact fs_t
theorem call_EN {sp : Sp} {dvs : List V} {E : XK} {tr : TA} {P : Pd} {Q : VK} (h : EN te σ H P) (k : ∀ v H1, Ex H H1 → P H v H1 → tr σ H1 (fun vs H2 => sp ((v :: vs) ++ dvs) H2 Q E)) : tCall sp dvs E (tCons te tr) σ H Q := h H (Ex.refl H) _ k
theorem cut_to (xs : List V) (k : Nat) : cutV xs none (some (k : Int)) = xs.take k := by
  unfold cutV
  rw [HT.sIx_none, HT.sIx_nat, List.drop_zero, Nat.sub_zero]
  by_cases h : k ≤ xs.length
  · rw [Nat.min_eq_left h]
  · rw [Nat.min_eq_right (by omega), List.take_of_length_le (Nat.le_refl _), List.take_of_length_le (by omega)]
end
end XV

/-! what every law's text has: the bag, draws, likeness; values that are drawn -/
namespace XV
open PySem PySem.Spec PyProof.Rows L2 Evl C8
/-- the built-in names that a text calls are not shadowed -/
structure Bi (mg : Str → Option Value) : Prop where
  m_int : mg "int" = none
  m_len : mg "len" = none
  m_abs : mg "abs" = none
  m_list : mg "list" = none
  m_tuple : mg "tuple" = none
  m_range : mg "range" = none
  m_zip : mg "zip" = none
  m_all : mg "all" = none
  m_isinstance : mg "isinstance" = none
  m_bool : mg "bool" = none
  m_str : mg "str" = none
  m_set : mg "set" = none
  m_sorted : mg "sorted" = none
def spDraw : Sp := fun vs H Q _ => ∃ (B : Addr) (top : Int), vs = [.ref B, .int top] ∧ Bag H B ∧ 1 ≤ top ∧ top ≤ 1000000000 ∧ ∀ r, 0 ≤ r → r < top → Q (.int r) H
theorem at_ints {ns : List Int} {i : Int} (h0 : 0 ≤ i) (h1 : i < (ns.length : Int)) : ∃ v, atI (ns.map V.int) i = some (.int v) := by
  have hj : i.toNat < ns.length := by omega
  refine ⟨ns[i.toNat], ?_⟩
  show (ixN (ns.map V.int).length i).bind _ = _
  rw [List.length_map, show ixN ns.length i = some i.toNat by unfold ixN; rw [if_pos h0, if_pos h1]]
  show (ns.map V.int)[i.toNat]? = _
  rw [List.getElem?_map, List.getElem?_eq_getElem hj]
  rfl
def spBag (K : PySem.W.Frag) : Sp := fun vs H Q _ => ∃ (p : Addr) (ns : List Int), vs = [.ref p] ∧ SqL K H p (ns.map V.int) ∧ ∀ B H', Ex H H' → Bag H' B → Q (.ref B) H'
theorem cut_ints (ns : List Int) : ∃ ms : List Int, cutV (ns.map V.int) none (some 63) = ms.map V.int ∧ ms.length ≤ 63 := by
  refine ⟨ns.take (min 63 ns.length), ?_, ?_⟩
  · unfold cutV
    rw [HT.sIx_none, show (some (63 : Int)) = some (((63 : Nat) : Int)) from rfl, HT.sIx_nat, List.length_map, List.drop_zero, Nat.sub_zero, List.map_take]
  · rw [List.length_take]
    omega
def spOf (K : PySem.W.Frag) : Sp := fun vs H Q _ => ∃ (B : Addr) (x : V), vs = [.ref B, x] ∧ Bag H B ∧
  ((∃ p xs, x = .ref p ∧ SqL K H p xs ∧ 1 ≤ xs.length ∧ xs.length ≤ 100000 ∧ ∀ v, v ∈ xs → Q v H) ∨ (∃ z, x = .str z ∧ 1 ≤ z.length ∧ z.length ≤ 100000 ∧ ∀ c, c ∈ z.cps.toList → Q (.str ⟨#[c]⟩) H))
theorem at_some {α : Type} {xs : List α} {i : Int} (h0 : 0 ≤ i) (h1 : i < (xs.length : Int)) : ∃ v, atI xs i = some v ∧ v ∈ xs := by
  have hj : i.toNat < xs.length := by omega
  refine ⟨xs[i.toNat], ?_, List.getElem_mem hj⟩
  show (ixN xs.length i).bind _ = _
  rw [show ixN xs.length i = some i.toNat by unfold ixN; rw [if_pos h0, if_pos h1]]
  exact List.getElem?_eq_getElem hj
/-- an error that is held as a value -/
structure XV0 (K : PySem.W.Frag) (C : Addr) : Prop where
  x : XC K C
  e : PySem.W.findIn K (.ref C) "__eq__" = some (some (.builtin "object.__eq__"))
  l : PySem.W.kitOne K (.ref C) (.type "list") = some false
  t : PySem.W.kitOne K (.ref C) (.type "tuple") = some false
  b : PySem.W.kitOne K (.ref C) (.type "bool") = some false
  i : PySem.W.kitOne K (.ref C) (.type "int") = some false
  s : PySem.W.kitOne K (.ref C) (.type "str") = some false
/-- two values that tell the same, to a depth -/
inductive SM (K : PySem.W.Frag) (H : Hp) : Nat → V → V → Prop where
  | non (n : Nat) : SM K H n .non .non
  | bl (n : Nat) (b : Bool) : SM K H n (.bl b) (.bl b)
  | int (n : Nat) (i : Int) : SM K H n (.int i) (.int i)
  | str (n : Nat) (z : Str) (h : z.length ≤ 100000) : SM K H n (.str z) (.str z)
  | err (n : Nat) {a C : Addr} {fs : List (Str × V)} (h : XAt H a C fs) (x : XV0 K C) : SM K H n (.ref a) (.ref a)
  | tup (n : Nat) {a b : Addr} {xs ys : List V} (h1 : SqT K H a xs) (h2 : SqT K H b ys) (hl : xs.length = ys.length) (hz : xs.length ≤ 40000) (hs : ∀ (i : Nat) (x y : V), xs[i]? = some x → ys[i]? = some y → SM K H n x y) : SM K H (n + 1) (.ref a) (.ref b)
  | lst (n : Nat) {a b : Addr} {xs ys : List V} (h1 : SqL K H a xs) (h2 : SqL K H b ys) (hl : xs.length = ys.length) (hz : xs.length ≤ 40000) (hs : ∀ (i : Nat) (x y : V), xs[i]? = some x → ys[i]? = some y → SM K H n x y) : SM K H (n + 1) (.ref a) (.ref b)
theorem SM.mono {K : PySem.W.Frag} {H H' : Hp} {n : Nat} {x y : V} (e : Ex H H') (h : SM K H n x y) : SM K H' n x y := by
  induction h with
  | non n => exact .non n
  | bl n b => exact .bl n b
  | int n i => exact .int n i
  | str n z h => exact .str n z h
  | err n h x => exact .err n (xat_mono e h) x
  | tup n h1 h2 hl hz hs ih => exact .tup n (ex_t e h1) (ex_t e h2) hl hz ih
  | lst n h1 h2 hl hz hs ih => exact .lst n (ex_l e h1) (ex_l e h2) hl hz ih
theorem SM.up {K : PySem.W.Frag} {H : Hp} {n m : Nat} {x y : V} (h : SM K H n x y) : n ≤ m → SM K H m x y := by
  induction h generalizing m with
  | non n => exact fun _ => .non m
  | bl n b => exact fun _ => .bl m b
  | int n i => exact fun _ => .int m i
  | str n z h => exact fun _ => .str m z h
  | err n h x => exact fun _ => .err m h x
  | tup n h1 h2 hl hz hs ih => exact fun l => match m, l with | m + 1, l => .tup m h1 h2 hl hz fun i x y hx hy => ih i x y hx hy (Nat.le_of_succ_le_succ l)
  | lst n h1 h2 hl hz hs ih => exact fun l => match m, l with | m + 1, l => .lst m h1 h2 hl hz fun i x y hx hy => ih i x y hx hy (Nat.le_of_succ_le_succ l)
def spSame (K : PySem.W.Frag) (n : Nat) : Sp := fun vs H Q _ => ∃ (x y : V), vs = [x, y] ∧ SM K H n x y ∧ ∀ H', Ex H H' → Q (.bl true) H'
/-- the same, one level down -/
def spDown (K : PySem.W.Frag) : Nat → Sp
  | 0 => fun _ _ _ _ => False
  | m + 1 => spSame K m
/-- what a value may be, as a comparison takes it: an atom that equals itself, or two lists, two tuples -/
theorem SM.kind {K : PySem.W.Frag} {H : Hp} {n : Nat} {x y : V} (hm : SM K H n x y) :
    (∃ (v : V) (t : Value) (b1 b2 b3 : Bool), v = x ∧ v = y ∧ (v = .non ∨ ∀ H', Ex H H' → ∀ Q : VK, Q (.bl true) H' → rEq v v H' Q ∨ rEqX K v v H' Q) ∧ (∀ H', Ex H H' → Ty0 K H' v t) ∧ PySem.W.kitAny K t [.type "list", .type "tuple"] = some false ∧
        PySem.W.kitOne K t (.type "bool") = some b1 ∧ PySem.W.kitOne K t (.type "int") = some b2 ∧ PySem.W.kitOne K t (.type "str") = some b3) ∨
        (∃ (m : Nat) (a b : Addr) (xs ys : List V), n = m + 1 ∧ x = .ref a ∧ y = .ref b ∧ ((SqL K H a xs ∧ SqL K H b ys) ∨ (SqT K H a xs ∧ SqT K H b ys)) ∧ xs.length = ys.length ∧ xs.length ≤ 40000 ∧ ∀ (i : Nat) (x y : V), xs[i]? = some x → ys[i]? = some y → SM K H m x y) := by
  cases hm with
  | non n => exact .inl ⟨.non, .type "NoneType", false, false, false, rfl, rfl, .inl rfl, fun _ _ => .non, rfl, rfl, rfl, rfl⟩
  | bl n b => exact .inl ⟨.bl b, .type "bool", true, true, false, rfl, rfl, .inr fun H' _ Q q => .inl ⟨rfl, by rw [decide_eq_true rfl]; exact q⟩, fun _ _ => .bl b, rfl, rfl, rfl, rfl⟩
  | int n i => exact .inl ⟨.int i, .type "int", false, true, false, rfl, rfl, .inr fun H' _ Q q => .inl ⟨rfl, by rw [decide_eq_true rfl]; exact q⟩, fun _ _ => .int i, rfl, rfl, rfl, rfl⟩
  | str n z h => exact .inl ⟨.str z, .type "str", false, false, true, rfl, rfl, .inr fun H' _ Q q => .inl ⟨rfl, by rw [decide_eq_true rfl]; exact q⟩, fun _ _ => .str z, rfl, rfl, rfl, rfl⟩
  | @err n a C fs h x => exact .inl ⟨.ref a, .ref C, false, false, false, rfl, rfl, .inr fun H' e Q q => .inr ⟨a, C, fs, rfl, rfl, xat_mono e h, x.x, x.e, q⟩, fun H' e => .err (xat_mono e h) x.x, by unfold PySem.W.kitAny; rw [x.l]; unfold PySem.W.kitAny; rw [x.t]; rfl, x.b, x.i, x.s⟩
  | @tup n a b xs ys h1 h2 hl hz hs => exact .inr ⟨n, a, b, xs, ys, rfl, rfl, rfl, .inr ⟨h1, h2⟩, hl, hz, hs⟩
  | @lst n a b xs ys h1 h2 hl hz hs => exact .inr ⟨n, a, b, xs, ys, rfl, rfl, rfl, .inl ⟨h1, h2⟩, hl, hz, hs⟩
/-! ### any value that is drawn: new since H0, of a depth -/
inductive GV (K : PySem.W.Frag) (H0 H : Hp) : Nat → V → Prop where
  | non (n : Nat) : GV K H0 H n .non
  | bl (n : Nat) (b : Bool) : GV K H0 H n (.bl b)
  | int (n : Nat) (i : Int) : GV K H0 H n (.int i)
  | str (n : Nat) (z : Str) (h : z.length ≤ 40000) : GV K H0 H n (.str z)
  | err (n : Nat) {a dx C : Addr} {fs : List (Str × V)} (h0 : H0 a = none) (h1 : H0 dx = none) (h : H a = some (exo a C (some dx))) (hd : H dx = some (exd dx fs)) (x : XV0 K C) : GV K H0 H n (.ref a)
  | tup (n : Nat) {a : Addr} {xs : List V} (h0 : H0 a = none) (h : H a = some (.tup xs)) (hz : xs.length ≤ 1000) (hs : ∀ v, v ∈ xs → GV K H0 H n v) : GV K H0 H (n + 1) (.ref a)
  | lst (n : Nat) {a : Addr} {xs : List V} (h0 : H0 a = none) (h : H a = some (.lst xs)) (hz : xs.length ≤ 1000) (hs : ∀ v, v ∈ xs → GV K H0 H n v) : GV K H0 H (n + 1) (.ref a)
def PG (K : PySem.W.Frag) (n : Nat) : Pd := fun H0 v H => GV K H0 H n v
theorem fs_g {K : PySem.W.Frag} {n : Nat} : Fs (PG K n) := by
  refine ⟨fun {H0 H H' v} k h => ?_, fun {H0 H0' H v} k h => ?_⟩
  · show GV K H0 H' n v
    have h' : GV K H0 H n v := h
    clear h
    induction h' with
    | non n => exact .non n
    | bl n b => exact .bl n b
    | int n i => exact .int n i
    | str n z h => exact .str n z h
    | err n h0 h1 h hd x => exact .err n h0 h1 (k _ _ h0 h) (k _ _ h1 hd) x
    | tup n h0 h hz hs ih => exact .tup n h0 (k _ _ h0 h) hz fun v m => ih v m
    | lst n h0 h hz hs ih => exact .lst n h0 (k _ _ h0 h) hz fun v m => ih v m
  · show GV K H0 H n v
    have h' : GV K H0' H n v := h
    clear h
    induction h' with
    | non n => exact .non n
    | bl n b => exact .bl n b
    | int n i => exact .int n i
    | str n z h => exact .str n z h
    | err n h0 h1 h hd x => exact .err n (k _ h0) (k _ h1) h hd x
    | tup n h0 h hz hs ih => exact .tup n (k _ h0) h hz fun v m => ih v m
    | lst n h0 h hz hs ih => exact .lst n (k _ h0) h hz fun v m => ih v m
theorem GV.up {K : PySem.W.Frag} {H0 H : Hp} {n m : Nat} {v : V} (h : GV K H0 H n v) : n ≤ m → GV K H0 H m v := by
  induction h generalizing m with
  | non n => exact fun _ => .non m
  | bl n b => exact fun _ => .bl m b
  | int n i => exact fun _ => .int m i
  | str n z h => exact fun _ => .str m z h
  | err n h0 h1 h hd x => exact fun _ => .err m h0 h1 h hd x
  | tup n h0 h hz hs ih => exact fun l => match m, l with | m + 1, l => .tup m h0 h hz fun v q => ih v q (Nat.le_of_succ_le_succ l)
  | lst n h0 h hz hs ih => exact fun l => match m, l with | m + 1, l => .lst m h0 h hz fun v q => ih v q (Nat.le_of_succ_le_succ l)
theorem GV.same {K : PySem.W.Frag} {H0 H : Hp} {n : Nat} {v : V} (h : GV K H0 H n v) : SM K H n v v := by
  induction h with
  | non n => exact .non n
  | bl n b => exact .bl n b
  | int n i => exact .int n i
  | str n z h => exact .str n z (by omega)
  | err n h0 h1 h hd x => exact .err n ⟨_, h, hd⟩ x
  | tup n h0 h hz hs ih => exact .tup n (st_of h) (st_of h) rfl (by omega) fun i x y hx hy => (Option.some.inj (hx.symm.trans hy)) ▸ ih x (List.mem_of_getElem? hx)
  | lst n h0 h hz hs ih => exact .lst n (sq_of h) (sq_of h) rfl (by omega) fun i x y hx hy => (Option.some.inj (hx.symm.trans hy)) ▸ ih x (List.mem_of_getElem? hx)
section
variable {K : PySem.W.Frag} {σ : L2.St} {H : Hp} {te tu : TE} {ta : TA} {n m : Nat} {P : Pd} {D : Ends} {tb tz : TS} {tt : TT}
theorem s_retN (h : EN te σ H P) (k : ∀ v H1, Ex H H1 → P H v H1 → D.rt v H1) : tRet te D σ H := h H (Ex.refl H) _ k
/-- a test that may go either way -/
def EB (tt : TT) (σ : L2.St) (H : Hp) : Prop := ∀ H1, Ex H H1 → ∀ Q : Bool → Hp → Prop, (∀ b H2, Ex H1 H2 → Q b H2) → tt σ H1 Q
theorem q_any (h : EB tt σ H) (h1 : ∀ H1, Ex H H1 → tb { D with nx := tz D } σ H1) (h2 : ∀ H1, Ex H H1 → tz D σ H1) : tSeq (tIfS tt tb tNext) tz D σ H := h H (Ex.refl H) _ fun b H1 e => by
  cases b with
  | true => exact h1 H1 e
  | false => exact h2 H1 e
theorem eb_gt {g : Int → Int → Bool} {i : Int} (h : EN te σ H (fun _ v _ => ∃ r : Int, v = .int r)) (h2 : Ev tu σ H (.int i)) : EB (tTest (tOp (rI0 fun i j => .bl (g i j)) te tu)) σ H := fun H1 e Q q =>
  h H1 e _ fun v H2 e2 p => by
    obtain ⟨r, rfl⟩ := p
    exact h2 H2 (e.trans e2) _ fun H3 e3 => ⟨r, i, rfl, rfl, g r i, rfl, q _ H3 (e2.trans e3)⟩
/-- a draw is 0, or not -/
theorem eb_eq {i : Int} (h : EN te σ H (fun _ v _ => ∃ r : Int, v = .int r)) (h2 : Ev tu σ H (.int i)) : EB (tTest (tOp rEq te tu)) σ H := fun H1 e Q q =>
  h H1 e _ fun v H2 e2 p => by
    obtain ⟨r, rfl⟩ := p
    exact h2 H2 (e.trans e2) _ fun H3 e3 => ⟨rfl, _, rfl, q _ H3 (e2.trans e3)⟩
/-- a draw -/
def PR (top : Int) : Pd := fun _ v _ => ∃ r : Int, v = .int r ∧ 0 ≤ r ∧ r < top
theorem fs_r {top : Int} : Fs (PR top) := ⟨fun _ h => h, fun _ h => h⟩
theorem en_draw {E : XK} {B : Addr} {top : Int} (hb : Bag H B) (h : Ev te σ H (.ref B)) (h2 : Ev tu σ H (.int top)) (t1 : 1 ≤ top) (t2 : top ≤ 1000000000) : EN (tCall spDraw [] E (tCons te (tCons tu tNil))) σ H (PR top) := fun H1 e Q q =>
  h H1 e _ fun H2 e2 => h2 H2 (e.trans e2) _ fun H3 e3 => ⟨B, top, rfl, hb.mono ((e.trans e2).trans e3), t1, t2, fun r r0 r1 => q _ H3 (e2.trans e3) ⟨r, rfl, r0, r1⟩⟩
theorem en_drawI {E : XK} {B : Addr} {top : Int} (hb : Bag H B) (h : Ev te σ H (.ref B)) (h2 : Ev tu σ H (.int top)) (t1 : 1 ≤ top) (t2 : top ≤ 1000000000) : EN (tCall spDraw [] E (tCons te (tCons tu tNil))) σ H (fun _ v _ => ∃ r : Int, v = .int r) :=
  (en_draw hb h h2 t1 t2).to fun _ _ _ _ _ ⟨r, e, _, _⟩ => ⟨r, e⟩
/-- one of a new list -/
theorem en_of {E : XK} {B : Addr} (f : Fs P) (hb : Bag H B) (h : Ev te σ H (.ref B)) (h2 : EN tu σ H (PL (List.replicate n P))) (n1 : 1 ≤ n) (n2 : n ≤ 100000) : EN (tCall (spOf K) [] E (tCons te (tCons tu tNil))) σ H P := fun H1 e Q q =>
  h H1 e _ fun H2 e2 => h2 H2 (e.trans e2) _ fun v H3 e3 p => by
    obtain ⟨l, xs, rfl, h0, hl, hE⟩ := p
    have hn : xs.length = n := by rw [hE.len, List.length_replicate]
    exact ⟨B, _, rfl, hb.mono ((e.trans e2).trans e3), .inl ⟨l, xs, rfl, sq_of hl, by omega, by omega, fun v m => q v H3 (e2.trans e3) (f.back e2 (hE.all v m))⟩⟩
def PC1 : Pd := fun _ v _ => ∃ c : Nat, v = .str ⟨#[c]⟩
theorem fs_c1 : Fs PC1 := ⟨fun _ h => h, fun _ h => h⟩
theorem en_ofS {E : XK} {B : Addr} {z : Str} (hb : Bag H B) (h : Ev te σ H (.ref B)) (h2 : Ev tu σ H (.str z)) (n1 : 1 ≤ z.length) (n2 : z.length ≤ 100000) : EN (tCall (spOf K) [] E (tCons te (tCons tu tNil))) σ H PC1 := fun H1 e Q q =>
  h H1 e _ fun H2 e2 => h2 H2 (e.trans e2) _ fun H3 e3 => ⟨B, _, rfl, hb.mono ((e.trans e2).trans e3), .inr ⟨z, rfl, n1, n2, fun c _ => q _ H3 (e2.trans e3) ⟨c, rfl⟩⟩⟩
/-- short texts -/
def PZ (n : Nat) : Pd := fun _ v _ => ∃ z : Str, v = .str z ∧ z.length ≤ n
theorem fs_z {n : Nat} : Fs (PZ n) := ⟨fun _ h => h, fun _ h => h⟩
theorem each_z {H0 H : Hp} : ∀ {k : Nat} {xs : List V}, Each H0 H (List.replicate k PC1) xs → ∃ ys : List Str, xs = ys.map V.str ∧ ys.length = k ∧ ∀ y, y ∈ ys → y.length = 1
  | 0, [], _ => ⟨[], rfl, rfl, fun _ m => nomatch m⟩
  | k + 1, x :: xs, h => by
    obtain ⟨⟨c, hc⟩, h2⟩ := (show (∃ c : Nat, x = .str ⟨#[c]⟩) ∧ Each H0 H (List.replicate k PC1) xs from h)
    obtain ⟨ys, e, hl, h1⟩ := each_z h2
    exact ⟨⟨#[c]⟩ :: ys, by rw [hc, e]; rfl, by rw [List.length_cons, hl], fun y my => by
      rcases List.mem_cons.mp my with q | q
      · rw [q]; rfl
      · exact h1 y q⟩
theorem sum_ones : ∀ {ys : List Str}, (∀ y, y ∈ ys → y.length = 1) → (ys.map (·.length)).sum = ys.length
  | [], _ => rfl
  | y :: ys, h => by
    rw [List.map_cons, List.sum_cons, List.length_cons, sum_ones fun z m => h z (List.mem_cons_of_mem _ m), h y (List.mem_cons_self ..)]
    omega
/-- values that are drawn, one behind another -/
def AG (K : PySem.W.Frag) (n k : Nat) (ta : TA) (σ : L2.St) (H : Hp) : Prop := AN ta σ H (fun H0 vs H' => vs.length = k ∧ ∀ v, v ∈ vs → GV K H0 H' n v)
theorem ag_nil : AG K n 0 tNil σ H := fun H1 e Q q => q [] H1 (Ex.refl H1) ⟨rfl, fun _ m => nomatch m⟩
theorem ag_cons {k : Nat} (h : EN te σ H (PG K n)) (hr : AG K n k ta σ H) : AG K n (k + 1) (tCons te ta) σ H := fun H1 e Q q =>
  h H1 e _ fun v H2 e2 p => hr H2 (e.trans e2) _ fun vs H3 e3 r => q (v :: vs) H3 (e2.trans e3) ⟨by rw [List.length_cons, r.1], fun u m => by
    rcases List.mem_cons.mp m with m | m
    · exact m ▸ fs_g.ex e3 p
    · exact fs_g.back e2 (r.2 u m)⟩
theorem en_gt {k : Nat} (h : AG K n k ta σ H) (hn : k ≤ 1000) : EN (tTup ta) σ H (PG K (n + 1)) := fun H1 e Q q =>
  h H1 e _ fun vs H2 e2 r => ⟨sz_of (by omega), fun p hp => q _ _ (e2.trans (Ex.new hp)) (.tup n (fresh_back e2 hp) upd_same (by omega) fun v m => fs_g.ex (Ex.new hp) (r.2 v m))⟩
theorem en_gl {k : Nat} (h : AG K n k ta σ H) (hn : k ≤ 1000) : EN (tLst ta) σ H (PG K (n + 1)) := fun H1 e Q q =>
  h H1 e _ fun vs H2 e2 r => ⟨sz_of (by omega), fun p hp => q _ _ (e2.trans (Ex.new hp)) (.lst n (fresh_back e2 hp) upd_same (by omega) fun v m => fs_g.ex (Ex.new hp) (r.2 v m))⟩
theorem en_gx {C : Addr} (xv : XV0 K C) {code : Str} : EN (tMkV C (spInit C code []) tNil) σ H (PG K n) := (en_mkv (vs := []) ea_nil rfl (by decide)).to fun H0 v H' _ _ p => by
  obtain ⟨a, dx, rfl, h0, h1, h2, h3⟩ := p
  exact .err n h0 h1 h2 h3 xv
theorem en_gof {E : XK} {B : Addr} {k : Nat} (hb : Bag H B) (h : Ev te σ H (.ref B)) (h2 : AG K n k ta σ H) (n1 : 1 ≤ k) (n2 : k ≤ 100000) : EN (tCall (spOf K) [] E (tCons te (tCons (tLst ta) tNil))) σ H (PG K n) := fun H1 e Q q =>
  h H1 e _ fun H2 e2 => h2 H2 (e.trans e2) _ fun vs H3 e3 r => ⟨sz_of (by omega), fun p hp => ⟨B, _, rfl, hb.mono (((e.trans e2).trans e3).trans (Ex.new hp)), .inl ⟨p, vs, rfl, sq_of upd_same, by omega, by omega, fun v m =>
    q v _ ((e2.trans e3).trans (Ex.new hp)) (fs_g.ex (Ex.new hp) (fs_g.back e2 (r.2 v m)))⟩⟩⟩
end
end XV

/-! calls by names, comprehensions over texts and tuples, kinds, signs -/
namespace XV
open PySem PySem.Spec PySem.W PySem.Calls PyProof.Rows L2 Evl C8
/-! ### f(k = v, ..), the names in the reverse of the parameters' order -/
def gZ {α : Type} (n : Nat) (us ws : List α) : List α := if us.length = 0 ∧ ws.length = n then ws.reverse else []
theorem gZ_rel {n : Nat} {vs zs : List V} {us ws : List Value} (r : Vals vs us) (q : Vals zs ws) : Vals (gZ n vs zs) (gZ n us ws) := by
  unfold gZ
  rw [r.length, q.length]
  split
  · exact vals_rev q
  · exact .nil
section
variable {K : Frag} {x qual : Str} {params : Arguments} {body : List Stmt} {scope : Scope} {f : Addr} {fd : FuncData} {ps : List Str}
theorem kb_z (F : FunD K x qual params body scope [] [] f fd) (ks : List Str) (n : Nat) (hp : ps.length = n) (hn : n ≠ 0)
    (h : ∀ (kV doc pm : Value) (an : Option Addr) (cdv ct : Value) (ws : List Value), ws.length = n → bindArgs (fnOf x qual params body scope .none kV doc pm an cdv ct) ⟨[], ks.zip ws⟩ = pure (ps.zip ws.reverse)) : KBinds K fd ps ks (gZ n) (gZ n) := by
  obtain ⟨oc, od, dV, kV, doc, pm, an, cdv, ct, osl, rfl, lk, hcd, hD, hK⟩ := F.ex
  rcases hD with ⟨_, rfl⟩ | ⟨e, _⟩
  · refine ⟨fun s us ws _ hl => ?_, fun r q => gZ_rel r q⟩
    unfold gZ at hl ⊢
    by_cases c : us.length = 0 ∧ ws.length = n
    · rw [if_pos c]
      match us, c.1 with
      | [], _ => exact .of_eq (h kV doc pm an cdv ct ws c.2)
    · rw [if_neg c, hp] at hl
      exact absurd hl.symm hn
  · exact absurd rfl e
end
/-- the def called x, its arguments given by these names -/
structure CalW (P : Program) (w : World) (K : Frag) (mg : Str → Option Value) (base : Heap) (k : Nat) (x : Str) (sp : Sp) (ks : List Str) : Prop where
  ex : ∃ (f : Addr) (fd : FuncData) (ps : List Str), FnOk P w K mg base C8.CX0 k f fd ps sp ∧ mg x = some (.ref f) ∧ keepIn K (.ref f) = true ∧ KBinds K fd ps ks (gZ ks.length) (gZ ks.length)
def tCallW (sp : Sp) (n : Nat) (tk : TA) : TE := fun σ H Q => tk σ H fun zs H1 => sp (gZ n [] zs) H1 Q C8.E0
section
variable {X : Cx} {k j : Nat} {x : Str} {sp : Sp} {ks : List Str} {tk : TA} {kws : List Keyword} {p pos : Pos}
theorem pe_ckw (c : CalW X.prog X.w X.K X.mg X.base k x sp ks) (hr : Room j X.A) (hk : k ≤ j) (hg : Gl X x) (hkw : PK X kws tk)
    (hall : (backToKw pos (keywordEach kws X.env)).all (·.1.isSome) = true := by rfl) (hks : (backToKw pos (keywordEach kws X.env)).filterMap (·.1) = ks := by rfl)
    (hdb : (x == ("__debug__" : Str)) = false := by decide)
    (hpl : ((backTo pos (starEach [] X.env)).any (·.1) || (backToKw pos (keywordEach kws X.env)).any (·.1.isNone)) = false := by rfl) :
    PE X (.Call (.Name x p) [] kws pos) (tCallW sp ks.length tk) := by
  obtain ⟨f, fd, ps, F, hm, kp, b⟩ := c.ex
  constructor
  intro pins s σ H Q I h
  refine wpAny_Call_Name_kw (ld_glob I hg hm ?_ hdb)
  refine callWith_KW0 (h₀ := X.base) I.ok.mod.kin kp hall ?_ hpl
  refine thn (hkw.run pos pins s σ H _ I h) fun ws s2 hw => ?_
  obtain ⟨zs, H2, I2, rz, q2⟩ := hw
  refine ⟨I2.kIn, ?_⟩
  rw [hks]
  exact run_fnk F (hr.mono hk) b C8.pass0 I2 .nil rz q2
end
section
variable {K : Frag} {σ : L2.St} {H : Hp} {te tu : TE} {ta : TA} {t : TT} {v : V}
theorem ev_callW {sp : Sp} {n : Nat} {zs : List V} {z : V} (h : EvA ta σ H zs) (hl : zs.length = n) (hs : SpV sp zs.reverse H z) : Ev (tCallW sp n ta) σ H z := fun H1 e Q q =>
  h H1 e _ fun H2 e2 => by
    have g := hs H2 (e.trans e2) Q (fun H3 e3 => q H3 (e2.trans e3)) C8.E0
    show sp (gZ n [] zs) H2 Q C8.E0
    unfold gZ
    rw [if_pos ⟨rfl, hl⟩]
    exact g
theorem en_callW {sp : Sp} {n : Nat} {zs : List V} {P : Pd} (f : Fs P) (h : EvA ta σ H zs) (hl : zs.length = n) (hs : ∀ H', Ex H H' → SpN sp zs.reverse H' P) : EN (tCallW sp n ta) σ H P := fun H1 e Q q =>
  h H1 e _ fun H2 e2 => by
    have g := hs H2 (e.trans e2) H2 (Ex.refl H2) Q (fun v H3 e3 p => q v H3 (e2.trans e3) (f.back e2 p)) C8.E0
    show sp (gZ n [] zs) H2 Q C8.E0
    unfold gZ
    rw [if_pos ⟨rfl, hl⟩]
    exact g
/-! ### comprehensions -/
theorem el_lcT {a : Addr} {xs : List V} {tl : TE} {j : Nat} {vs : List Nat} (f : Nat → Bool) (v : Nat → V) (h : Ev tl σ H (.ref a)) (hx : SqT K H a xs) (hz : xs.length ≤ 40000) (hw : ∀ x, wipe ((wipe σ vs).set j (some x)) vs = wipe σ vs)
    (ht : ∀ (i : Nat) (x : V) H1, Ex H H1 → xs[i]? = some x → EvT t ((wipe σ vs).set j (some x)) H1 (f i)) (he : ∀ (i : Nat) (x : V) H1, Ex H H1 → xs[i]? = some x → f i = true → Ev te ((wipe σ vs).set j (some x)) H1 (v i)) :
    EvL (tLc (iTup K tl) (gName j) t te vs) σ H (Evl.given xs.length f v) := fun H0 e Q q => h H0 e _ fun H1 e1 => ⟨a, rfl, ⟨xs, ex_t (e.trans e1) hx⟩, fun Dl hD =>
  lc_tup (xs := xs) (Cw H1 f v Dl) ⟨hD, Ex.new hD, upd_same⟩ (fun i H' _ p => ex_t ((e.trans e1).trans p.2.1) hx) (fun i x H' hi p => ⟨hw x, cw_turn p (by have := (List.getElem?_eq_some_iff.mp hi).1; omega) (ht i x H1 (e.trans e1) hi) (fun hf => he i x H1 (e.trans e1) hi hf)⟩)
    (fun H' p => q Dl H' (fresh_back e1 p.1) (e1.trans p.2.1) p.2.2)⟩
/-- over a walk whose items are told -/
theorem el_lcW {J : It} {n : Nat} {G : Hp → Prop} {u : Nat → V} {H1 : Hp} {Dl : Addr} {j : Nat} {vs : List Nat} {Qd : Hp → Prop} (f : Nat → Bool) (v : Nat → V) (w : Walk J n G (fun i H x H' => H' = H ∧ x = u i)) (hz : n ≤ 40000) (hD : H1 Dl = none)
    (hG : ∀ H', Ex H1 H' → G H') (hw : ∀ x, wipe ((wipe σ vs).set j (some x)) vs = wipe σ vs)
    (ht : ∀ (i : Nat) H', Ex H1 H' → i < n → EvT t ((wipe σ vs).set j (some (u i))) H' (f i)) (he : ∀ (i : Nat) H', Ex H1 H' → i < n → f i = true → Ev te ((wipe σ vs).set j (some (u i))) H' (v i))
    (hd : ∀ H', Ex H1 H' → H' Dl = some (.lst (Evl.given n f v)) → Qd H') :
    ∃ W : Nat → Nat → Hp → Prop, (∃ m, W 0 m (upd H1 Dl (.lst []))) ∧ ∀ i m H, W i m H →
      (J.stop i H ∧ Qd H) ∨ (J.go i H ∧ ∃ Nx : Hp → Prop, (∀ H', Nx H' → ∃ m', m' < m ∧ W (i + 1) m' H') ∧ ∀ x H', J.yld i H x H' → gName j x (wipe σ vs) H' fun σ2 H2 => wipe σ2 vs = wipe σ vs ∧ t σ2 H2 fun b H3 =>
        if b = true then te σ2 H3 fun y H4 => ∃ acc, H4 Dl = some (.lst acc) ∧ acc.length < sizeLine ∧ Nx (upd H4 Dl (.lst (acc ++ [y]))) else Nx H3) := by
  refine lc_it w (Cw H1 f v Dl) ⟨hD, Ex.new hD, upd_same⟩ (fun i H' _ h => hG H' h.2.1) (fun i x H' H'' hi h y => ?_) (fun H' h => hd H' h.2.1 h.2.2)
  obtain ⟨rfl, rfl⟩ := y
  exact ⟨hw _, cw_turn h (by omega) (ht i H1 (Ex.refl H1) hi) (fun hf => he i H1 (Ex.refl H1) hi hf)⟩
/-- over a text -/
theorem el_lcS {z : Str} {tl : TE} {j : Nat} {vs : List Nat} (f : Nat → Bool) (v : Nat → V) (h : Ev tl σ H (.str z)) (hz : z.length ≤ 40000) (hw : ∀ x, wipe ((wipe σ vs).set j (some x)) vs = wipe σ vs)
    (ht : ∀ (i c : Nat) H1, Ex H H1 → z.cps.toList[i]? = some c → EvT t ((wipe σ vs).set j (some (.str ⟨#[c]⟩))) H1 (f i)) (he : ∀ (i c : Nat) H1, Ex H H1 → z.cps.toList[i]? = some c → f i = true → Ev te ((wipe σ vs).set j (some (.str ⟨#[c]⟩))) H1 (v i)) :
    EvL (tLc (iStr tl) (gName j) t te vs) σ H (Evl.given z.length f v) := fun H0 e Q q => h H0 e _ fun H1 e1 => ⟨z, rfl, fun Dl hD => by
  have hs : z.cps.size = z.length := rfl
  have cell : ∀ i, i < z.length → z.cps.toList[i]? = some (z.cps.getD i 0) := fun i hi => by
    rw [Array.getElem?_toList, Array.getElem?_eq_getElem (show i < z.cps.size from hi), Array.getD_eq_getD_getElem?, Array.getElem?_eq_getElem (show i < z.cps.size from hi)]
    rfl
  refine el_lcW (u := fun i => V.str ⟨#[z.cps.getD i 0]⟩) (n := z.length) f v (G := fun _ => True) ⟨fun _ _ hi _ => hi, fun _ _ => Nat.le_refl _, fun i H x H' hi _ y => ?_⟩ hz hD (fun _ _ => trivial) hw (fun i H' e2 hi => ht i _ H' ((e.trans e1).trans e2) (cell i hi)) (fun i H' e2 hi hf => he i _ H' ((e.trans e1).trans e2) (cell i hi) hf) (fun H' e2 h2 => q Dl H' (fresh_back e1 hD) (e1.trans e2) h2)
  obtain ⟨rfl, c, hc, rfl⟩ := y
  refine ⟨rfl, ?_⟩
  rw [Array.getD_eq_getD_getElem?, hc] <;> rfl⟩
/-! ### all over truths -/
theorem ev_allL {bs : List Bool} (h : EvL te σ H (bs.map V.bl)) : Ev (tCB (rAll K) (tCons te tNil)) σ H (.bl (bs.all id)) := fun H1 e Q q =>
  h H1 e _ fun p H2 _ e2 hp => ⟨p, bs, rfl, sq_of hp, q H2 e2⟩
theorem given_bl {n : Nat} (g : Nat → Bool) : Evl.given n (fun _ => true) (fun i => V.bl (g i)) = ((List.range n).map g).map V.bl := by
  unfold Evl.given
  rw [List.filter_eq_self.mpr (fun _ _ => rfl), List.map_map]
  rfl
theorem et_yes {σ : L2.St} {H : Hp} : EvT tYes σ H true := fun H1 _ _ q => q H1 (Ex.refl H1)
/-! ### texts -/
theorem ev_m0 {C : Str → Prop} {g : Str → V} {z : Str} (h : Ev te σ H (.str z)) (hc : C z) : Ev (tM0 (fun x xs H Q => ∃ a, x = .str a ∧ xs = [] ∧ C a ∧ Q (g a) H) te) σ H (g z) := fun H1 e Q q =>
  h H1 e _ fun H2 e2 => ⟨⟨z, rfl⟩, z, rfl, rfl, hc, q H2 e2⟩
theorem ev_lenS {z : Str} (h : Ev te σ H (.str z)) (hz : z.length ≤ 100000) : Ev (tCB (fun xs H Q => ∃ z : Str, xs = [.str z] ∧ z.length ≤ sizeLine ∧ Q (.int z.length) H) (tCons te tNil)) σ H (.int (z.length : Int)) := fun H1 e Q q =>
  h H1 e _ fun H2 e2 => ⟨z, rfl, sz_of hz, q H2 e2⟩
theorem ev_lenT {p : Addr} {xs : List V} (h : Ev te σ H (.ref p)) (hx : SqL K H p xs ∨ SqT K H p xs) :
    Ev (tCB (fun us H Q => ∃ p ys, us = [V.ref p] ∧ (SqL K H p ys ∨ SqT K H p ys) ∧ Q (.int ys.length) H) (tCons te tNil)) σ H (.int xs.length) := fun H1 e Q q =>
  h H1 e _ fun H2 e2 => ⟨p, xs, rfl, hx.elim (fun h => .inl (ex_l (e.trans e2) h)) (fun h => .inr (ex_t (e.trans e2) h)), q H2 e2⟩
theorem rv_sign {c : Nat} {z : Str} : RV (fun x y H Q => ∃ (c : Nat) (z : Str), x = .str ⟨#[c]⟩ ∧ y = .str z ∧ Q (.bl (decide (c ∈ z.cps.toList))) H) (.str ⟨#[c]⟩) (.str z) H (.bl (decide (c ∈ z.cps.toList))) :=
  fun H1 _ Q q => ⟨c, z, rfl, rfl, q H1 (Ex.refl H1)⟩
theorem rv_addS {a b : Str} (hz : a.length + b.length ≤ 100000) : RV (fun x y H Q => ∃ i j : Str, x = .str i ∧ y = .str j ∧ i.length + j.length ≤ sizeLine ∧ Q (.str (i ++ j)) H) (.str a) (.str b) H (.str (a ++ b)) :=
  fun H1 _ Q q => ⟨a, b, rfl, rfl, sz_of hz, q H1 (Ex.refl H1)⟩
end
/-! ### kinds -/
def sV : V → Bool
  | .str _ => true
  | _ => false
def iV : V → Bool
  | .int _ => true
  | .bl _ => true
  | _ => false
def bV : V → Bool
  | .bl _ => true
  | _ => false
/-- any value of a kind, as far as the tests of kinds go -/
def AV (K : Frag) (H : Hp) (v : V) : Prop := ∃ (t : Value) (b : Bool), Ty0 K H v t ∧ kitOne K t (.type "str") = some (sV v) ∧ kitOne K t (.type "int") = some (iV v) ∧ kitOne K t (.type "bool") = some (bV v) ∧ kitOne K t (.type "tuple") = some b ∧
  (b = true → ∃ a xs, v = .ref a ∧ SqT K H a xs ∧ xs.length ≤ 40000) ∧ (∀ z, v = .str z → z.length ≤ 40000)
theorem AV.mono {K : Frag} {H H' : Hp} {v : V} (e : Ex H H') (h : AV K H v) : AV K H' v := by
  obtain ⟨t, b, h1, h2, h3, h4, h5, h6, h7⟩ := h
  exact ⟨t, b, h1.mono e, h2, h3, h4, h5, fun hb => by
    obtain ⟨a, xs, e1, e2, e3⟩ := h6 hb
    exact ⟨a, xs, e1, ex_t e e2, e3⟩, h7⟩
section
variable {K : Frag} {H H0 : Hp} {n : Nat} {v : V}
theorem av_int (i : Int) : AV K H (.int i) := ⟨.type "int", false, .int i, rfl, rfl, rfl, rfl, (fun h => nomatch h), (fun _ h => nomatch h)⟩
theorem av_bl (b : Bool) : AV K H (.bl b) := ⟨.type "bool", false, .bl b, rfl, rfl, rfl, rfl, (fun h => nomatch h), (fun _ h => nomatch h)⟩
theorem av_str (z : Str) (hz : z.length ≤ 40000) : AV K H (.str z) := ⟨.type "str", false, .str z, rfl, rfl, rfl, rfl, (fun h => nomatch h), fun y h => by
  cases h
  exact hz⟩
theorem av_non : AV K H .non := ⟨.type "NoneType", false, .non, rfl, rfl, rfl, rfl, (fun h => nomatch h), (fun _ h => nomatch h)⟩
theorem av_tup {a : Addr} {xs : List V} (h : SqT K H a xs) (hz : xs.length ≤ 40000) : AV K H (.ref a) := ⟨.type "tuple", true, .ofT h, rfl, rfl, rfl, rfl, fun _ => ⟨a, xs, rfl, h, hz⟩, (fun _ h => nomatch h)⟩
theorem av_lst {a : Addr} {xs : List V} (h : SqL K H a xs) : AV K H (.ref a) := ⟨.type "list", false, .ofL h, rfl, rfl, rfl, rfl, (fun h => nomatch h), (fun _ h => nomatch h)⟩
theorem GV.av (h : GV K H0 H n v) : AV K H v := by
  cases h with
  | non n => exact av_non
  | bl n b => exact av_bl b
  | int n i => exact av_int i
  | str n z h => exact av_str z h
  | @err n a dx C fs h0 h1 h hd x => exact ⟨.ref C, false, .err ⟨_, h, hd⟩ x.x, x.s, x.i, x.b, x.t, (fun h => nomatch h), (fun _ h => nomatch h)⟩
  | tup n h0 h hz hs => exact av_tup (st_of h) (by omega)
  | lst n h0 h hz hs => exact av_lst (sq_of h)
end
end XV

/-! names, holes, numbers, places: what they are, said of lists -/
namespace XV
open PySem PySem.Spec PyProof.Rows L2 Evl
/-! ### names and holes -/
def lowB (c : Nat) : Bool := decide (97 ≤ c) && decide (c ≤ 122)
def upB (c : Nat) : Bool := decide (65 ≤ c) && decide (c ≤ 90)
theorem ascii_is : ∀ c : Nat, c < 128 → Unicode.isAlpha c = (lowB c || upB c) ∧ Unicode.isLower c = lowB c ∧ Unicode.isUpper c = upB c ∧ Unicode.isTitle c = false := by decide +kernel
def lettersS (m : Int) (z : Str) : Bool := (decide ((1 : Int) ≤ (z.length : Int)) && decide ((z.length : Int) ≤ m)) && (Txt.isascii z && Txt.isalpha z)
def lettersV (m : Int) : V → Bool
  | .str z => lettersS m z
  | _ => false
def nameV : V → Bool
  | .str z => lettersS 8 z && Txt.islower z
  | _ => false
def holeV : V → Bool
  | .str z => lettersS 4 z && Txt.isupper z
  | _ => false
theorem abc_low (c : Nat) : decide (c ∈ (Str.ofString "abcdefghijklmnopqrstuvwxyz").cps.toList) = lowB c := by
  have e : (Str.ofString "abcdefghijklmnopqrstuvwxyz").cps.toList = List.range' 97 26 := by decide +kernel
  rw [e, Bool.eq_iff_iff, decide_eq_true_iff, List.mem_range'_1]
  unfold lowB
  rw [Bool.and_eq_true, decide_eq_true_iff, decide_eq_true_iff]
  omega
theorem abc_up (c : Nat) : decide (c ∈ (Str.ofString "ABCDEFGHIJKLMNOPQRSTUVWXYZ").cps.toList) = upB c := by
  have e : (Str.ofString "ABCDEFGHIJKLMNOPQRSTUVWXYZ").cps.toList = List.range' 65 26 := by decide +kernel
  rw [e, Bool.eq_iff_iff, decide_eq_true_iff, List.mem_range'_1]
  unfold upB
  rw [Bool.and_eq_true, decide_eq_true_iff, decide_eq_true_iff]
  omega
theorem low_lt {c : Nat} (h : lowB c = true) : c < 128 ∧ upB c = false := by
  unfold lowB at h
  unfold upB
  simp only [Bool.and_eq_true, decide_eq_true_iff] at h
  refine ⟨by omega, ?_⟩
  rw [Bool.and_eq_false_iff]
  exact .inr (decide_eq_false (by omega))
theorem up_lt {c : Nat} (h : upB c = true) : c < 128 ∧ lowB c = false := by
  unfold upB at h
  unfold lowB
  simp only [Bool.and_eq_true, decide_eq_true_iff] at h
  refine ⟨by omega, ?_⟩
  rw [Bool.and_eq_false_iff]
  exact .inl (decide_eq_false (by omega))
/-- letters of one case, as the tests of a text tell -/
theorem case_iff {L : List Nat} (hne : 0 < L.length) {p q : Nat → Bool} (pq : ∀ c, p c = true → c < 128 ∧ q c = false) (qp : ∀ c, q c = true → p c = false)
    (ha : ∀ c, c < 128 → Unicode.isAlpha c = (p c || q c)) (hl : ∀ c, c < 128 → Unicode.isTitle c = false) {lo up : Nat → Bool} (h1 : ∀ c, c < 128 → lo c = p c) (h2 : ∀ c, c < 128 → up c = q c) :
    ((L.all (fun c => decide (c < 128)) && (decide (L.length > 0) && L.all Unicode.isAlpha)) && (L.any lo && !L.any fun c => up c || Unicode.isTitle c)) = L.all p := by
  rw [Bool.eq_iff_iff]
  simp only [Bool.and_eq_true, List.all_eq_true, decide_eq_true_iff, List.any_eq_true, Bool.not_eq_true', List.any_eq_false, Bool.or_eq_true, not_or]
  constructor
  · intro h c hc
    obtain ⟨⟨ha1, _, ha2⟩, _, h4⟩ := h
    have hlt := ha1 c hc
    have e := ha2 c hc
    rw [ha c hlt] at e
    have e2 := (h4 c hc).1
    rw [h2 c hlt] at e2
    rcases Bool.or_eq_true_iff.mp e with e | e
    · exact e
    · exact absurd e e2
  · intro h
    have lt : ∀ c ∈ L, c < 128 := fun c hc => (pq c (h c hc)).1
    refine ⟨⟨lt, hne, fun c hc => ?_⟩, ?_, fun c hc => ⟨?_, ?_⟩⟩
    · rw [ha c (lt c hc), h c hc, Bool.true_or]
    · obtain ⟨c, hc⟩ := List.exists_mem_of_length_pos hne
      exact ⟨c, hc, by rw [h1 c (lt c hc)]; exact h c hc⟩
    · rw [h2 c (lt c hc), (pq c (h c hc)).2]
      exact Bool.false_ne_true
    · rw [hl c (lt c hc)]
      exact Bool.false_ne_true
theorem name_all (z : Str) : (lettersS 8 z && Txt.islower z) = ((decide ((1 : Int) ≤ (z.length : Int)) && decide ((z.length : Int) ≤ 8)) && z.cps.toList.all lowB) := by
  unfold lettersS
  cases h : (decide ((1 : Int) ≤ (z.length : Int)) && decide ((z.length : Int) ≤ 8)) with
  | false => rw [Bool.false_and, Bool.false_and, Bool.false_and]
  | true =>
    rw [Bool.true_and, Bool.true_and]
    have hne : 0 < z.cps.toList.length := by
      have h1 := of_decide_eq_true (Bool.and_eq_true_iff.mp h).1
      rw [Array.length_toList]
      show 0 < z.length
      omega
    have e := case_iff hne (p := lowB) (q := upB) (fun c => low_lt) (fun c h => (up_lt h).2) (fun c h => (ascii_is c h).1) (fun c h => (ascii_is c h).2.2.2) (lo := Unicode.isLower) (up := Unicode.isUpper) (fun c h => (ascii_is c h).2.1) (fun c h => (ascii_is c h).2.2.1)
    rw [← e]
    unfold Txt.isascii Txt.isalpha Txt.islower
    rw [← Array.all_toList, ← Array.all_toList, ← Array.any_toList, ← Array.any_toList, Array.length_toList]
    rfl
theorem hole_all (z : Str) : (lettersS 4 z && Txt.isupper z) = ((decide ((1 : Int) ≤ (z.length : Int)) && decide ((z.length : Int) ≤ 4)) && z.cps.toList.all upB) := by
  unfold lettersS
  cases h : (decide ((1 : Int) ≤ (z.length : Int)) && decide ((z.length : Int) ≤ 4)) with
  | false => rw [Bool.false_and, Bool.false_and, Bool.false_and]
  | true =>
    rw [Bool.true_and, Bool.true_and]
    have hne : 0 < z.cps.toList.length := by
      have h1 := of_decide_eq_true (Bool.and_eq_true_iff.mp h).1
      rw [Array.length_toList]
      show 0 < z.length
      omega
    have e := case_iff hne (p := upB) (q := lowB) (fun c => up_lt) (fun c h => (low_lt h).2) (fun c h => by rw [(ascii_is c h).1, Bool.or_comm]) (fun c h => (ascii_is c h).2.2.2) (lo := Unicode.isUpper) (up := Unicode.isLower) (fun c h => (ascii_is c h).2.2.1) (fun c h => (ascii_is c h).2.1)
    rw [← e]
    unfold Txt.isascii Txt.isalpha Txt.isupper
    rw [← Array.all_toList, ← Array.all_toList, ← Array.any_toList, ← Array.any_toList, Array.length_toList]
    rfl
theorem range_all {z : Str} {g : Nat → Bool} : ((List.range z.length).map fun i => g (z.cps.getD i 0)).all id = z.cps.toList.all g := by
  rw [Bool.eq_iff_iff, List.all_eq_true, List.all_eq_true]
  constructor
  · intro h c hc
    obtain ⟨i, hi, e⟩ := List.getElem_of_mem hc
    rw [Array.length_toList] at hi
    have h1 := h _ (List.mem_map.mpr ⟨i, List.mem_range.mpr hi, rfl⟩)
    rw [Array.getD_eq_getD_getElem?, Array.getElem?_eq_getElem hi] at h1
    rw [← e, Array.getElem_toList]
    exact h1
  · intro h b hb
    obtain ⟨i, hi, rfl⟩ := List.mem_map.mp hb
    have hi : i < z.cps.size := List.mem_range.mp hi
    rw [Array.getD_eq_getD_getElem?, Array.getElem?_eq_getElem hi]
    exact h _ (Array.mem_toList_iff.mpr (Array.getElem_mem hi))
/-! ### numbers -/
def numV (lo hi : Int) : V → Bool
  | .int i => decide (lo ≤ i) && decide (i ≤ hi)
  | _ => false
/-! ### data of ints -/
theorem dp_ints {K : PySem.W.Frag} {H : Hp} : ∀ ns : List Int, DpAll K H (ns.map V.int) (ns.map PyData.int)
  | [] => .nil
  | n :: ns => .cons (.int n) (dp_ints ns)
theorem lay_ints : ∀ ns : List Int, PyData.canLayAll0 (ns.map PyData.int) = true ∧ PyData.depthAll (ns.map PyData.int) = 0
  | [] => ⟨by simp only [List.map_nil, PyData.canLayAll0], by simp only [List.map_nil, PyData.depthAll]⟩
  | n :: ns => by
    obtain ⟨h1, h2⟩ := lay_ints ns
    refine ⟨?_, ?_⟩
    · simp only [List.map_cons, PyData.canLayAll0, PyData.canLay0, h1, Bool.and_self]
    · simp only [List.map_cons, PyData.depthAll, PyData.depth, h2, Nat.max_self]
theorem shaped_tup (ns : List Int) : SeqAt.shaped (.tuple (ns.map PyData.int)) = true := by
  unfold SeqAt.shaped
  have h := lay_ints ns
  simp only [PyData.canLay0, PyData.depth, h.1, h.2]
  decide
theorem shaped_lst (ns : List Int) : SeqAt.shaped (.list (ns.map PyData.int)) = true := by
  unfold SeqAt.shaped
  have h := lay_ints ns
  simp only [PyData.canLay0, PyData.depth, h.1, h.2]
  decide
theorem eqv_ints : ∀ ns ms : List Int, PyData.eqvAll (ns.map PyData.int) (ms.map PyData.int) = decide (ns = ms)
  | [], [] => by simp only [List.map_nil, PyData.eqvAll, decide_true]
  | [], m :: ms => by
    simp only [List.map_nil, List.map_cons, PyData.eqvAll]
    exact (decide_eq_false (fun h => nomatch h)).symm
  | n :: ns, [] => by
    simp only [List.map_nil, List.map_cons, PyData.eqvAll]
    exact (decide_eq_false (fun h => nomatch h)).symm
  | n :: ns, m :: ms => by
    simp only [List.map_cons, PyData.eqvAll, PyData.eqv, eqv_ints ns ms]
    rw [Bool.eq_iff_iff, Bool.and_eq_true, decide_eq_true_iff, decide_eq_true_iff, beq_iff_eq, List.cons.injEq]
theorem rv_eqT {K : PySem.W.Frag} {H : Hp} {a b : Addr} {ns ms : List Int} (ha : SqT K H a (ns.map V.int)) (hb : SqT K H b (ms.map V.int)) : RV (rEqD K) (.ref a) (.ref b) H (.bl (decide (ns = ms))) := fun H1 e Q q =>
  ⟨_, _, .tup (ex_t e ha) (dp_ints ns), .tup (ex_t e hb) (dp_ints ms), shaped_tup ns, shaped_tup ms, by
    simp only [PyData.eqv, eqv_ints]
    exact q H1 (Ex.refl H1)⟩
theorem rv_eqL {K : PySem.W.Frag} {H : Hp} {a b : Addr} {ns ms : List Int} (ha : SqL K H a (ns.map V.int)) (hb : SqL K H b (ms.map V.int)) : RV (rEqD K) (.ref a) (.ref b) H (.bl (decide (ns = ms))) := fun H1 e Q q =>
  ⟨_, _, .lst (ex_l e ha) (dp_ints ns), .lst (ex_l e hb) (dp_ints ms), shaped_lst ns, shaped_lst ms, by
    simp only [PyData.eqv, eqv_ints]
    exact q H1 (Ex.refl H1)⟩
theorem rv_neL {K : PySem.W.Frag} {H : Hp} {a b : Addr} {ns ms : List Int} (ha : SqL K H a (ns.map V.int)) (hb : SqL K H b (ms.map V.int)) : RV (rNeD K) (.ref a) (.ref b) H (.bl (!decide (ns = ms))) := fun H1 e Q q =>
  ⟨_, _, .lst (ex_l e ha) (dp_ints ns), .lst (ex_l e hb) (dp_ints ms), shaped_lst ns, shaped_lst ms, by
    simp only [PyData.eqv, eqv_ints]
    exact q H1 (Ex.refl H1)⟩
end XV

/-! any value compared with a text -/
namespace XVE
open PySem PySem.Spec PyProof.Rows PySem.SeqAt HN
section
variable {M : Model} {prog : Program} {w : World} {A : Around} {E : Value → Shared → Prop} {s : Shared} {K : PySem.W.Frag} {x C : Addr} {ox : Obj} {od : Option Obj} {z : Str} {t : Tok}
theorem same_str {R : Bool → Shared → Prop} (h : R false s) : wpAny M A (isSame (.ref x) (.str z t)) R E s := wpAny_of_eq (rfl : isSame (.ref x) (.str z t) = pure false) h
theorem entry_txt {Q : Fin → Shared → Prop} (hq : Q (.done (.ret .notImplemented)) s) : wpAny M A (Builtin.«object.__eq__» ⟨[.ref x, .str z t], []⟩) Q E s := by
  unfold Builtin.«object.__eq__»
  repeat (first | with_reducible refine same_str ?_ | wp_step)
  exact hq
theorem call_txt {Q : Value → Shared → Prop} (X : K.In s.heap) (I : PySem.W.InstAt s.heap x ox C od) (hm : PySem.W.mroIn K C (.type "object") = some true) (hq : Q .notImplemented s) :
    wpAny (model prog w) A (call (.builtin "object.__eq__") [.ref x, .str z t]) Q E s :=
  wpAny_call (codeAny_call_builtin F.cmp_object.eq.plain F.cmpEntry_eq (PySem.W.check_slot F.cmpKind_eq F.cmpSplit_eq (I.type.andThen (PySem.W.looks_mroIn X hm)) (F.cmpArgs_eq _ _) (entry_txt hq)))
theorem txt_declines (b : Str) (u : Tok) (l : Addr) (c : Value) (fv : Array Value) (dd : Option Addr) (sl : Array (Option Value)) :
    Meets (Builtin.«str.__eq__» ⟨[.str b u, .ref l], []⟩) (fun _ R s => s.heap.get? l = some { cls := c, dict := dd, data := .fields fv, slots := sl } ∧ R (.ok (.ret .notImplemented)) s) :=
  .of_wp fun prog w A R s h => by obtain ⟨hp, g, d, tk, os⟩ := s; obtain ⟨hl, h⟩ := h; wp_walk using wpAny_loadPart' hl, wpAny_load hl; exact ⟨_, rfl, h⟩
theorem sub_txt : PySem.W.subIn K (.type "str") (.ref C) = some false := by
  have e : fastBuiltinMro "str" = some [.type "str", .type "object"] := by decide +kernel
  show (fastBuiltinMro "str").map (·.contains (.ref C)) = some false
  rw [e]
  first
    | rfl
    | simp
theorem rc_txt {fv : Array Value} {dd : Option Addr} {sl : Array (Option Value)} (hu : A.units < cLine) (X : K.In s.heap) (I : PySem.W.InstAt s.heap x ox C od) (ho : s.heap.get? x = some { cls := .ref C, dict := dd, data := .fields fv, slots := sl }) (hm : PySem.W.mroIn K C (.type "object") = some true)
    (hs : PySem.W.findIn K (.ref C) "__eq__" = some (some (.builtin "object.__eq__"))) :
    RcAt A s (.ref x) (.str z t) false := fun prog w E Q h => by
  have one : wpAny (model prog w) A (tryCompare (.ref x) "__eq__" (.str z t)) (fun r s' => r = none ∧ s' = s) E s := by
    unfold tryCompare
    exact wpAny_bind (ifBound_objEq X I hs (call_txt X I hm (wpAny_pure ⟨rfl, rfl⟩)))
  have two : wpAny (model prog w) A (tryCompare (.str z t) "__eq__" (.ref x)) (fun r s' => r = none ∧ s' = s) E s :=
    wpAny_tryCompare_declines (typeIs_str s z t) F.slot_str_eq_refl (call_meets F.slot_str_eq_refl (typeIs_str s z t) F.entry_str_eq (F.args_str_eq_2 _ _) (txt_declines z t x (.ref C) fv dd sl) ⟨ho, rfl, rfl, rfl⟩)
  simp only [richCompare, cmpInfo_Eq, oneThing_ref]
  refine wpAny_holding (wpAny_bind (wpAny_cRoomFor hu ?_))
  refine wpAny_bind (I.type.here ?_)
  refine wpAny_bind (wpAny_typeOf (typeIs_str s z t) ?_)
  split
  · refine wpAny_bind ((PySem.W.looks_subIn X sub_txt).here ?_)
    simp only [Bool.false_eq_true, if_false, Bool.not_false, if_true]
    refine wpAny_bind (m := tryCompare (.ref x) _ (.str z t)) (wpAny_mono one (fun r s1 z => ?_) fun _ _ e => e)
    obtain ⟨z1, z2⟩ := z
    subst z1
    subst z2
    refine wpAny_bind (m := tryCompare (.str z t) _ (.ref x)) (wpAny_mono two (fun r s2 z => ?_) fun _ _ e => e)
    obtain ⟨z1, z2⟩ := z
    subst z1
    subst z2
    exact wpAny_bind (wpAny_rule (wpAny_bind (wpAny_of_eq (rfl : isSame (.ref x) (.str z t) = pure false) (wpAny_pure h))))
  · rename_i q
    exact absurd (by simp) q
end
end XVE
namespace XV
open PySem PySem.Spec PyProof.Rows L2 Evl C8
/-- any value, one level of it -/
inductive QV (K : PySem.W.Frag) (H : Hp) : V → Prop where
  | non : QV K H .non
  | bl (b : Bool) : QV K H (.bl b)
  | int (i : Int) : QV K H (.int i)
  | str (z : Str) (h : z.length ≤ 40000) : QV K H (.str z)
  | err {a C : Addr} {fs : List (Str × V)} (h : XAt H a C fs) (x : XV0 K C) : QV K H (.ref a)
  | tup {a : Addr} {xs : List V} (h : SqT K H a xs) (hz : xs.length ≤ 40000) : QV K H (.ref a)
  | lst {a : Addr} {xs : List V} (h : SqL K H a xs) : QV K H (.ref a)
theorem QV.mono {K : PySem.W.Frag} {H H' : Hp} {v : V} (e : Ex H H') (h : QV K H v) : QV K H' v := by
  cases h with
  | non => exact .non
  | bl b => exact .bl b
  | int i => exact .int i
  | str z h => exact .str z h
  | err h x => exact .err (xat_mono e h) x
  | tup h hz => exact .tup (ex_t e h) hz
  | lst h => exact .lst (ex_l e h)
theorem QV.av {K : PySem.W.Frag} {H : Hp} {v : V} (h : QV K H v) : AV K H v := by
  cases h with
  | non => exact av_non
  | bl b => exact av_bl b
  | int i => exact av_int i
  | str z h => exact av_str z h
  | @err a C fs h x => exact ⟨.ref C, false, .err h x.x, x.s, x.i, x.b, x.t, (fun h => nomatch h), (fun _ h => nomatch h)⟩
  | tup h hz => exact av_tup h hz
  | lst h => exact av_lst h
theorem GV.qv {K : PySem.W.Frag} {H H0 : Hp} {n : Nat} {v : V} (h : GV K H0 H n v) : QV K H v := by
  cases h with
  | non n => exact .non
  | bl n b => exact .bl b
  | int n i => exact .int i
  | str n z h => exact .str z h
  | err n h0 h1 h hd x => exact .err ⟨_, h, hd⟩ x
  | tup n h0 h hz hs => exact .tup (st_of h) (by omega)
  | lst n h0 h hz hs => exact .lst (sq_of h)
def rEqQ (K : PySem.W.Frag) : R2 := fun x y H Q => ∃ z : Str, y = .str z ∧ QV K H x ∧ Q (.bl (decide (x = .str z))) H
theorem op_eqQ {X : Cx} (hu : X.A.units < cLine) : OpR X (compareOp .Eq) (rEqQ X.K) := by
  intro pins s σ H x y v u Q I rx ry h
  obtain ⟨z, rfl, hq, q⟩ := h
  have no : ∀ {a : Addr}, x = .ref a → Q (.bl false) H := fun e => by
    rw [decide_eq_false (by rw [e]; exact fun h => nomatch h)] at q
    exact q
  cases hq with
  | non => exact op_eq pins s σ H _ _ v u Q I rx ry ⟨rfl, q⟩
  | bl b => exact op_eq pins s σ H _ _ v u Q I rx ry ⟨rfl, q⟩
  | int i => exact op_eq pins s σ H _ _ v u Q I rx ry ⟨rfl, q⟩
  | str y h => exact op_eq pins s σ H _ _ v u Q I rx ry ⟨rfl, q⟩
  | @err a C fs hX x =>
    obtain rfl : v = Value.ref a := rx
    obtain ⟨t, rfl⟩ := ry
    obtain ⟨ox, od, mA, J, _, _⟩ := inst_of I hX
    obtain ⟨dx, e1, e2⟩ := hX
    obtain ⟨t1, ho⟩ := exo_at I.hok e1
    exact XVE.rc_txt hu I.kIn J ho x.x.cm x.e _ _ _ _ ⟨.bl false, H, I, rfl, no rfl⟩
  | @tup a xs h hz =>
    obtain rfl : v = Value.ref a := rx
    obtain ⟨t, rfl⟩ := ry
    obtain ⟨its, r, ht, _⟩ := I.tuple h
    exact SeqAt.RcAt.tuple_str z t ht hu _ _ _ _ ⟨.bl false, H, I, rfl, no rfl⟩
  | @lst a xs h =>
    obtain rfl : v = Value.ref a := rx
    obtain ⟨t, rfl⟩ := ry
    obtain ⟨its, r, hl, _⟩ := I.list h
    exact SeqAt.RcAt.list_str z t hl.isList hu _ _ _ _ ⟨.bl false, H, I, rfl, no rfl⟩
theorem rv_eqQ {K : PySem.W.Frag} {H : Hp} {x : V} {z : Str} (h : QV K H x) : RV (rEqQ K) x (.str z) H (.bl (decide (x = .str z))) := fun H1 e Q q => ⟨z, rfl, h.mono e, q H1 (Ex.refl H1)⟩
end XV

/-! texts of places -/
namespace XV
open PySem PySem.Spec PyProof.Rows L2 Evl
def dig (n : Int) : List Nat := [(48 + n).toNat]
def Num4 (ns : List Int) : Prop := ∀ n, n ∈ ns → 1 ≤ n ∧ n ≤ 4
theorem Num4.tail {n : Int} {ns : List Int} (h : Num4 (n :: ns)) : Num4 ns := fun m hm => h m (List.mem_cons_of_mem _ hm)
theorem Num4.head {n : Int} {ns : List Int} (h : Num4 (n :: ns)) : 1 ≤ n ∧ n ≤ 4 := h n (List.mem_cons_self ..)
def dotsL (ns : List Int) : List Nat := if ns = [] then [46] else TL.joinL [46] (ns.map dig)
def dotsS (ns : List Int) : Str := ⟨(dotsL ns).toArray⟩
def digB (c : Nat) : Bool := decide (49 ≤ c) && decide (c ≤ 52)
theorem digB_iff {c : Nat} : digB c = true ↔ 49 ≤ c ∧ c ≤ 52 := by
  unfold digB
  rw [Bool.and_eq_true, decide_eq_true_iff, decide_eq_true_iff]
def altL : List Nat → Option (List Int)
  | [] => none
  | [d] => if digB d then some [(d : Int) - 48] else none
  | d :: c :: r => if digB d && c == 46 then (altL r).map fun ns => ((d : Int) - 48) :: ns else none
def readL (L : List Nat) : Option (List Int) := if L = [46] then some [] else altL L
theorem alt_len : ∀ (L : List Nat) (ns : List Int), altL L = some ns → ns.length ≤ L.length ∧ Num4 ns
  | [], ns, h => nomatch h
  | [d], ns, h => by
    unfold altL at h
    by_cases c : digB d = true
    · rw [if_pos c] at h
      obtain rfl := Option.some.inj h
      have := digB_iff.mp c
      refine ⟨by simp, fun n hn => ?_⟩
      obtain rfl := List.mem_singleton.mp hn
      omega
    · rw [if_neg c] at h
      cases h
  | d :: c :: r, ns, h => by
    unfold altL at h
    by_cases q : (digB d && c == 46) = true
    · rw [if_pos q] at h
      cases e : altL r with
      | none =>
        rw [e] at h
        cases h
      | some ms =>
        rw [e] at h
        obtain rfl := Option.some.inj h
        obtain ⟨h1, h2⟩ := alt_len r ms e
        have := digB_iff.mp (Bool.and_eq_true_iff.mp q).1
        refine ⟨by simp only [List.length_cons]; omega, fun n hn => ?_⟩
        rcases List.mem_cons.mp hn with rfl | hn
        · omega
        · exact h2 n hn
    · rw [if_neg q] at h
      cases h
theorem read_len {L : List Nat} {ns : List Int} (h : readL L = some ns) : ns.length ≤ L.length ∧ Num4 ns := by
  unfold readL at h
  by_cases c : L = [46]
  · rw [if_pos c] at h
    obtain rfl := Option.some.inj h
    exact ⟨Nat.zero_le _, fun n hn => nomatch hn⟩
  · rw [if_neg c] at h
    exact alt_len L ns h
theorem dig_is {n : Int} (h : 1 ≤ n ∧ n ≤ 4) : digB (48 + n).toNat = true ∧ (((48 + n).toNat : Nat) : Int) - 48 = n := by
  refine ⟨digB_iff.mpr (by omega), by omega⟩
theorem alt_join : ∀ (n : Int) (ns : List Int), Num4 (n :: ns) → altL (TL.joinL [46] ((n :: ns).map dig)) = some (n :: ns)
  | n, [], h => by
    obtain ⟨h1, h2⟩ := dig_is h.head
    show altL [(48 + n).toNat] = _
    unfold altL
    rw [if_pos h1, h2]
  | n, m :: ns, h => by
    obtain ⟨h1, h2⟩ := dig_is h.head
    have ih := alt_join m ns h.tail
    show altL ((48 + n).toNat :: 46 :: TL.joinL [46] ((m :: ns).map dig)) = _
    unfold altL
    rw [if_pos (by rw [h1]; rfl), ih, h2]
    rfl
theorem read_dots {ns : List Int} (h : Num4 ns) : readL (dotsL ns) = some ns := by
  unfold dotsL
  match ns, h with
  | [], _ => rfl
  | n :: r, h =>
    rw [if_neg (List.cons_ne_nil _ _)]
    unfold readL
    rw [if_neg, alt_join n r h]
    intro e
    have h1 := alt_join n r h
    rw [e] at h1
    cases h1
theorem join_len (sep : Nat) : ∀ ns : List Int, (TL.joinL [sep] (ns.map dig)).length ≤ 2 * ns.length
  | [] => Nat.le_refl _
  | [n] => by
    show 1 ≤ _
    simp
  | n :: m :: r => by
    have ih := join_len sep (m :: r)
    show ((48 + n).toNat :: sep :: TL.joinL [sep] ((m :: r).map dig)).length ≤ _
    simp only [List.length_cons] at ih ⊢
    omega
theorem dots_len (ns : List Int) : (dotsS ns).length ≤ 2 * ns.length + 1 := by
  show ((dotsL ns).toArray).size ≤ _
  rw [List.size_toArray]
  unfold dotsL
  split
  · simp
  · have := join_len 46 ns
    omega
/-- the digits with a dot behind each, the last dot left out -/
def dotted (ns : List Int) : List Nat := ns.flatMap fun n => [(48 + n).toNat, 46]
theorem dotted_join : ∀ (n : Int) (ns : List Int), dotted (n :: ns) = TL.joinL [46] ((n :: ns).map dig) ++ [46]
  | n, [] => rfl
  | n, m :: ns => by
    have ih := dotted_join m ns
    show (48 + n).toNat :: 46 :: dotted (m :: ns) = ((48 + n).toNat :: 46 :: TL.joinL [46] ((m :: ns).map dig)) ++ [46]
    rw [ih]
    rfl
theorem dotted_snoc (ns : List Int) (n : Int) : dotted (ns ++ [n]) = dotted ns ++ [(48 + n).toNat, 46] := by
  unfold dotted
  rw [List.flatMap_append]
  rfl
theorem dotted_len (ns : List Int) : (dotted ns).length = 2 * ns.length := by
  induction ns with
  | nil => rfl
  | cons n r ih =>
    show ((48 + n).toNat :: 46 :: dotted r).length = _
    simp only [List.length_cons, ih]
    omega
/-! ### slices of texts -/
theorem cut1 (z : Str) (k : Nat) : cutS z (some (k : Int)) (some ((k : Int) + 1)) = ⟨((z.cps.toList.drop k).take 1).toArray⟩ := by
  unfold cutS
  rw [HT.sIx_nat, show ((k : Int) + 1) = ((k + 1 : Nat) : Int) by omega, HT.sIx_nat]
  have hz : z.length = z.cps.toList.length := (Array.length_toList ..).symm
  by_cases h : k < z.length
  · rw [Nat.min_eq_left (Nat.le_of_lt h), Nat.min_eq_left (by omega), show k + 1 - k = 1 by omega]
  · rw [Nat.min_eq_right (by omega), Nat.min_eq_right (by omega), Nat.sub_self, List.take_zero, List.drop_of_length_le (by omega), List.take_nil]
theorem cut_last (l : List Nat) (c : Nat) : cutS ⟨(l ++ [c]).toArray⟩ none (some (-1)) = ⟨l.toArray⟩ := by
  unfold cutS
  rw [HT.sIx_none]
  have e : HT.sIx (Str.length ⟨(l ++ [c]).toArray⟩) (Str.length ⟨(l ++ [c]).toArray⟩) (some (-1)) = l.length := by
    unfold HT.sIx
    dsimp only
    rw [if_pos (by decide)]
    show ((-1 : Int) + (((l ++ [c]).toArray.size : Nat) : Int)).toNat = _
    rw [List.size_toArray, List.length_append, List.length_singleton]
    omega
  rw [e, Nat.sub_zero, List.drop_zero]
  simp
section
variable {K : PySem.W.Frag} {σ : L2.St} {H : Hp} {te : TE} {tl th : TO}
theorem ev_slS {z : Str} {lo hi : Option Int} (h : Ev te σ H (.str z)) (h1 : EvO tl σ H lo) (h2 : EvO th σ H hi) (hz : z.length ≤ 100000) : Ev (tSl rSlS te tl th) σ H (.str (cutS z lo hi)) := fun H1 e Q q =>
  h H1 e _ fun H2 e2 => h1 H2 (e.trans e2) _ fun H3 e3 => h2 H3 ((e.trans e2).trans e3) _ fun H4 e4 => ⟨z, rfl, sz_of hz, q H4 ((e2.trans e3).trans e4)⟩
/-- a tuple of these, new or old -/
def EvS (K : PySem.W.Frag) (te : TE) (σ : L2.St) (H : Hp) (xs : List V) : Prop := ∀ H1, Ex H H1 → ∀ Q : VK, (∀ p H2, Ex H1 H2 → SqT K H2 p xs → Q (.ref p) H2) → te σ H1 Q
theorem es_of {p : Addr} {xs : List V} (h : Ev te σ H (.ref p)) (hx : SqT K H p xs) : EvS K te σ H xs := fun H1 e Q q => h H1 e _ fun H2 e2 => q p H2 e2 (ex_t (e.trans e2) hx)
theorem es_u {xs : List V} (h : EvU te σ H xs) : EvS K te σ H xs := fun H1 e Q q => h H1 e _ fun p H2 _ e2 hp => q p H2 e2 (st_of hp)
theorem cut_whole {xs : List V} {lo hi : Option Int} (h : HT.sIx xs.length 0 lo = 0 ∧ HT.sIx xs.length xs.length hi = xs.length) : cutV xs lo hi = xs := by
  unfold cutV
  rw [h.1, h.2, List.drop_zero, Nat.sub_zero, List.take_length]
theorem es_sl {xs : List V} {lo hi : Option Int} (h : EvS K te σ H xs) (h1 : EvO tl σ H lo) (h2 : EvO th σ H hi) : EvS K (tSl (rSlA K) te tl th) σ H (cutV xs lo hi) := fun H1 e Q q =>
  h H1 e _ fun p H2 e2 hp => h1 H2 (e.trans e2) _ fun H3 e3 => h2 H3 ((e.trans e2).trans e3) _ fun H4 e4 => ⟨p, xs, rfl, ex_t (e3.trans e4) hp,
    (fun hw => q p H4 ((e2.trans e3).trans e4) (by rw [cut_whole hw]; exact ex_t (e3.trans e4) hp)), fun _ r hr => q r _ (((e2.trans e3).trans e4).trans (Ex.new hr)) (st_of upd_same)⟩
theorem es_cat {tu : TE} {xs ys : List V} (h : EvS K te σ H xs) (g : EvS K tu σ H ys) (hz : xs.length + ys.length ≤ 100000) : EvS K (tOp (rCatA K) te tu) σ H (xs ++ ys) := fun H1 e Q q =>
  h H1 e _ fun p H2 e2 hp => g H2 (e.trans e2) _ fun r H3 e3 hr => ⟨p, r, xs, ys, rfl, rfl, ex_t e3 hp, hr, sz_of hz, (fun hx => q r H3 (e2.trans e3) (by rw [hx]; exact hr)), (fun _ hy => q p H3 (e2.trans e3) (by rw [hy, List.append_nil]; exact ex_t e3 hp)),
    fun _ _ u hu => q u _ ((e2.trans e3).trans (Ex.new hu)) (st_of upd_same)⟩
/-- a == b, tuples of ints -/
theorem ev_eqS {tu : TE} {ns ms : List Int} (h : EvS K te σ H (ns.map V.int)) (g : EvS K tu σ H (ms.map V.int)) : Ev (tOp (rEqD K) te tu) σ H (.bl (decide (ns = ms))) := fun H1 e Q q =>
  h H1 e _ fun p H2 e2 hp => g H2 (e.trans e2) _ fun r H3 e3 hr => rv_eqT (ex_t e3 hp) hr H3 (Ex.refl H3) Q fun H4 e4 => q H4 ((e2.trans e3).trans e4)
/-- tuple(a new list) -/
theorem eu_tupOf {xs : List V} (h : EvL te σ H xs) : EvU (tCB (fun us H Q => ∃ p ys, us = [V.ref p] ∧ ((SqL K H p ys ∧ ∀ l, H l = none → Q (.ref l) (upd H l (.tup ys))) ∨ (SqT K H p ys ∧ Q (.ref p) H))) (tCons te tNil)) σ H xs := fun H1 e Q q =>
  h H1 e _ fun p H2 _ e2 hp => ⟨p, xs, rfl, .inl ⟨sq_of hp, fun l hl => q l _ (fresh_back e2 hl) (e2.trans (Ex.new hl)) upd_same⟩⟩
theorem eu_tupOfL {a : Addr} {xs : List V} (h : Ev te σ H (.ref a)) (hx : SqL K H a xs) : EvU (tCB (fun us H Q => ∃ p ys, us = [V.ref p] ∧ ((SqL K H p ys ∧ ∀ l, H l = none → Q (.ref l) (upd H l (.tup ys))) ∨ (SqT K H p ys ∧ Q (.ref p) H))) (tCons te tNil)) σ H xs := fun H1 e Q q =>
  h H1 e _ fun H2 e2 => ⟨a, xs, rfl, .inl ⟨ex_l (e.trans e2) hx, fun l hl => q l _ (fresh_back e2 hl) (e2.trans (Ex.new hl)) upd_same⟩⟩
end
theorem given_map (xs : List V) (g : V → V) : Evl.given xs.length (fun _ => true) (fun i => g (xs.getD i .non)) = xs.map g := by
  unfold Evl.given
  rw [List.filter_eq_self.mpr (fun _ _ => rfl)]
  refine List.ext_getElem? fun i => ?_
  rw [List.getElem?_map, List.getElem?_map]
  by_cases hi : i < xs.length
  · rw [List.getElem?_range hi, List.getElem?_eq_getElem hi]
    show some (g (xs.getD i .non)) = some (g xs[i])
    rw [List.getD_eq_getElem?_getD, List.getElem?_eq_getElem hi] <;> rfl
  · rw [List.getElem?_eq_none (by rw [List.length_range]; omega), List.getElem?_eq_none (by omega)]
    rfl
section
variable {K : PySem.W.Frag} {σ : L2.St} {H : Hp} {te tl : TE} {a : Addr} {xs : List V} {j : Nat} {vs : List Nat}
/-- [g(x) for x in a tuple], in a list -/
theorem el_mapT (g : V → V) (h : Ev tl σ H (.ref a)) (hx : SqT K H a xs) (hz : xs.length ≤ 40000) (hw : ∀ x, wipe ((wipe σ vs).set j (some x)) vs = wipe σ vs)
    (he : ∀ (x : V) H1, Ex H H1 → x ∈ xs → Ev te ((wipe σ vs).set j (some x)) H1 (g x)) : EvL (tLc (iTup K tl) (gName j) tYes te vs) σ H (xs.map g) := by
  rw [← given_map]
  refine el_lcT (fun _ => true) _ h hx hz hw (fun _ _ _ _ _ => et_yes) fun i x H1 e1 hi _ => ?_
  rw [List.getD_eq_getElem?_getD, hi]
  exact he x H1 e1 (List.mem_of_getElem? hi)
theorem el_mapL (g : V → V) (h : Ev tl σ H (.ref a)) (hx : SqL K H a xs) (hz : xs.length ≤ 40000) (hw : ∀ x, wipe ((wipe σ vs).set j (some x)) vs = wipe σ vs)
    (he : ∀ (x : V) H1, Ex H H1 → x ∈ xs → Ev te ((wipe σ vs).set j (some x)) H1 (g x)) : EvL (tLc (iList K tl) (gName j) tYes te vs) σ H (xs.map g) := by
  rw [← given_map]
  refine el_lcL (fun _ => true) _ h hx hz hw (fun _ _ _ _ _ => et_yes) fun i x H1 e1 hi _ => ?_
  rw [List.getD_eq_getElem?_getD, hi]
  exact he x H1 e1 (List.mem_of_getElem? hi)
theorem el_mapNL (g : V → V) (h : EvL tl σ H xs) (hz : xs.length ≤ 40000) (hw : ∀ x, wipe ((wipe σ vs).set j (some x)) vs = wipe σ vs)
    (he : ∀ (x : V) H1, Ex H H1 → x ∈ xs → Ev te ((wipe σ vs).set j (some x)) H1 (g x)) : EvL (tLc (iList K tl) (gName j) tYes te vs) σ H (xs.map g) := by
  rw [← given_map]
  refine el_lcNL (fun _ => true) _ h hz hw (fun _ _ _ _ _ => et_yes) fun i x H1 e1 hi _ => ?_
  rw [List.getD_eq_getElem?_getD, hi]
  exact he x H1 e1 (List.mem_of_getElem? hi)
end
end XV

/-! joins, or, ints of texts; reading a place sign by sign -/
namespace XV
open PySem PySem.Spec PyProof.Rows L2 Evl
section
variable {K : PySem.W.Frag} {σ : L2.St} {H : Hp} {te tu : TE} {D : Ends} {x : V}
theorem ev_orS {z : Str} {v : V} (h : Ev te σ H (.str z)) (hz : z.length ≤ 100000) (h1 : z.length ≠ 0 → V.str z = v) (h2 : z.length = 0 → Ev tu σ H v) : Ev (tOrT K te tu) σ H v := fun H1 e Q q =>
  h H1 e _ fun H2 e2 => ⟨((z.length : Int) != 0), ⟨sz_of hz, rfl⟩, by
    by_cases c : z.length = 0
    · rw [if_neg (by rw [c]; decide)]
      exact h2 c H2 (e.trans e2) Q fun H3 e3 => q H3 (e2.trans e3)
    · rw [if_pos (by rw [bne_iff_ne]; omega), h1 c]
      exact q H2 e2⟩
theorem ev_join {a : Str} {ys : List Str} (h : Ev te σ H (.str a)) (g : EvL tu σ H (ys.map V.str)) (hz : (ys.map (·.length)).sum + ys.length * a.length ≤ 16777216) :
    Ev (tM1 (fun x xs H Q => ∃ a p, ∃ ys : List Str, x = .str a ∧ xs = [.ref p] ∧ (SqL K H p (ys.map V.str) ∨ SqT K H p (ys.map V.str)) ∧ (ys.map (·.length)).sum + ys.length * a.length ≤ 16777216 ∧ Q (.str (Txt.join a ys)) H) te tu) σ H (.str (Txt.join a ys)) := fun H1 e Q q =>
  h H1 e _ fun H2 e2 => ⟨⟨a, rfl⟩, g H2 (e.trans e2) _ fun p H3 _ e3 hp => ⟨a, p, ys, rfl, rfl, .inl (sq_of hp), hz, q H3 (e2.trans e3)⟩⟩
theorem ev_strI {i : Int} (h : Ev te σ H (.int i)) (hz : i.natAbs.log2 < 1920) : Ev (tCB (fun xs H Q => ∃ i : Int, xs = [.int i] ∧ i.natAbs.log2 < 1920 ∧ Q (.str (toString i)) H) (tCons te tNil)) σ H (.str (toString i)) := fun H1 e Q q =>
  h H1 e _ fun H2 e2 => ⟨i, rfl, hz, q H2 e2⟩
theorem ev_intS {a : Str} {n : Int} (h : Ev te σ H (.str a)) (hn : PySem.intText? a = some n) (hz : a.length ≤ 640) : Ev (tCB (fun xs H Q => ∃ (a : Str) (n : Int), xs = [.str a] ∧ PySem.intText? a = some n ∧ a.length ≤ 640 ∧ Q (.int n) H) (tCons te tNil)) σ H (.int n) := fun H1 e Q q =>
  h H1 e _ fun H2 e2 => ⟨a, n, rfl, hn, hz, q H2 e2⟩
theorem ev_int1 {i : Int} (h : Ev te σ H (.int i)) : Ev (tCB (fun xs H Q => (∃ i, xs = [V.int i] ∧ Q (.int i) H) ∨ ∃ k, xs = [V.bl k] ∧ Q (.int (if k then 1 else 0)) H) (tCons te tNil)) σ H (.int i) := fun H1 e Q q =>
  h H1 e _ fun H2 e2 => .inl ⟨i, rfl, q H2 e2⟩
theorem s_ret2U {xs : List V} (h : Ev te σ H x) (g : EvU tu σ H xs) (k : ∀ t p H1, Ex H H1 → H1 t = some (.tup xs) → H1 p = some (.tup [x, .ref t]) → D.rt (.ref p) H1) : tRet (tTup (tCons te (tCons tu tNil))) D σ H :=
  h H (Ex.refl H) _ fun H1 e1 => g H1 e1 _ fun t H2 _ e2 ht => ⟨show 2 ≤ sizeLine by decide, fun p hp => k t p _ ((e1.trans e2).trans (Ex.new hp)) (Ex.new hp _ _ ht) upd_same⟩
end
theorem tos : ∀ n : Int, 1 ≤ n ∧ n ≤ 4 → (Str.ofString (toString n)) = ⟨(dig n).toArray⟩ := fun n h => by
  have c : n = 1 ∨ n = 2 ∨ n = 3 ∨ n = 4 := by omega
  rcases c with rfl | rfl | rfl | rfl <;> decide +kernel
theorem toi : ∀ d : Nat, digB d = true → PySem.intText? ⟨#[d]⟩ = some ((d : Int) - 48) := fun d h => by
  have c : d = 49 ∨ d = 50 ∨ d = 51 ∨ d = 52 := by
    have := digB_iff.mp h
    omega
  rcases c with rfl | rfl | rfl | rfl <;> decide +kernel
theorem join_dots (ns : List Int) : Txt.join (Str.ofString ".") (ns.map fun n => (⟨(dig n).toArray⟩ : Str)) = ⟨(TL.joinL [46] (ns.map dig)).toArray⟩ := by
  have e := SX.join_S [46] (ns.map dig)
  rw [List.map_map] at e
  exact e
theorem join_ne : ∀ (n : Int) (ns : List Int), TL.joinL [46] ((n :: ns).map dig) ≠ []
  | _, [] => List.cons_ne_nil _ _
  | _, _ :: _ => List.cons_ne_nil _ _
theorem lens_dig (ns : List Int) : ((ns.map fun n => (⟨(dig n).toArray⟩ : Str)).map (·.length)).sum = ns.length := by
  induction ns with
  | nil => rfl
  | cons n r ih =>
    rw [List.map_cons, List.map_cons, List.sum_cons, ih, List.length_cons]
    show 1 + r.length = _
    omega
def hDot : List Nat → Bool
  | d :: _ => decide (d = 46)
  | [] => false
def hDig : List Nat → Bool
  | d :: _ => digB d
  | [] => false
def digsV : List V := [.str "1", .str "2", .str "3", .str "4"]
theorem in_digs : ∀ X : List Nat, inV (.str ⟨(X.take 1).toArray⟩) digsV = hDig X
  | [] => by decide +kernel
  | d :: r => by
    show inV (.str (SX.S [d])) [.str (SX.S [49]), .str (SX.S [50]), .str (SX.S [51]), .str (SX.S [52])] = digB d
    unfold inV
    have e : ∀ c : Nat, eqV (.str (SX.S [c])) (.str (SX.S [d])) = decide (c = d) := fun c => by
      show (SX.S [c] == SX.S [d]) = _
      rw [SX.S_beq_eq]
      exact decide_eq_decide.mpr ⟨fun h => (List.cons.inj h).1, fun h => by rw [h]⟩
    simp only [List.any_cons, List.any_nil, e, Bool.or_false]
    unfold digB
    rw [Bool.eq_iff_iff]
    simp only [Bool.or_eq_true, Bool.and_eq_true, decide_eq_true_iff]
    omega
theorem dot_eq (X : List Nat) : decide (V.str ⟨(X.take 1).toArray⟩ = V.str (Str.ofString ".")) = hDot X := by
  cases X with
  | nil => decide +kernel
  | cons d r =>
    show decide (V.str (SX.S [d]) = V.str (SX.S [46])) = decide (d = 46)
    refine decide_eq_decide.mpr ⟨fun h => ?_, fun h => by rw [h]⟩
    injection h with h
    exact (List.cons.inj (SX.S_inj h)).1
theorem read_dot (r : List Nat) : readL (46 :: r) = if r = [] then some [] else none := by
  unfold readL
  cases r with
  | nil => rfl
  | cons c r =>
    rw [if_neg (fun h => nomatch h), if_neg (List.cons_ne_nil _ _)]
    rfl
theorem read_alt {L : List Nat} (h : ∀ r, L ≠ 46 :: r) : readL L = altL L := by
  unfold readL
  rw [if_neg (h [])]
theorem alt_no {X : List Nat} (h : hDig X = false) : altL X = none := by
  match X, h with
  | [], _ => rfl
  | [d], h =>
    unfold altL
    rw [if_neg (by rw [show digB d = false from h]; decide)]
  | d :: c :: r, h =>
    unfold altL
    rw [if_neg (by rw [show digB d = false from h, Bool.false_and]; exact Bool.false_ne_true)]
theorem alt_end {d : Nat} {r : List Nat} (hd : digB d = true) (h : hDot r = false) : altL (d :: r) = if r = [] then some [(d : Int) - 48] else none := by
  match r, h with
  | [], _ =>
    unfold altL
    rw [if_pos hd] <;> rfl
  | c :: r, h =>
    unfold altL
    rw [if_neg (List.cons_ne_nil _ _), if_neg]
    rw [hd, Bool.true_and, beq_iff_eq]
    exact of_decide_eq_false h
theorem alt_on {d : Nat} {r : List Nat} (hd : digB d = true) : altL (d :: 46 :: r) = (altL r).map fun ns => ((d : Int) - 48) :: ns := by
  rw [altL, if_pos (by rw [hd]; rfl)]
theorem head_dot {X : List Nat} (h : hDot X = true) : ∃ r, X = 46 :: r := by
  match X, h with
  | d :: r, h => exact ⟨r, by rw [of_decide_eq_true h]⟩
theorem head_dig {X : List Nat} (h : hDig X = true) : ∃ d r, X = d :: r ∧ digB d = true := by
  match X, h with
  | d :: r, h => exact ⟨d, r, rfl, h⟩
theorem bnot_t {b : Bool} (h : (!b) = true) : b = false := by
  cases b
  · rfl
  · cases h
theorem bnot_f {b : Bool} (h : (!b) = false) : b = true := by
  cases b
  · cases h
  · rfl
end XV

/-! a place's text, looked at by index -/
namespace XV
open PySem PySem.Spec PyProof.Rows L2 Evl
def okL : List Nat → Bool
  | [] => false
  | [d] => digB d
  | d :: c :: r => (digB d && c == 46) && okL r
def evL : List Nat → List Int
  | [] => []
  | [d] => [(d : Int) - 48]
  | d :: _ :: r => ((d : Int) - 48) :: evL r
theorem alt_ok : ∀ L : List Nat, altL L = if okL L = true then some (evL L) else none
  | [] => rfl
  | [d] => rfl
  | d :: c :: r => by
    rw [altL, okL, alt_ok r]
    cases h1 : (digB d && c == 46)
    · rw [if_neg Bool.false_ne_true, Bool.false_and, if_neg Bool.false_ne_true]
    · rw [if_pos rfl, Bool.true_and]
      cases okL r
      · rfl
      · rfl
theorem ok_odd : ∀ L : List Nat, okL L = true → L.length % 2 = 1
  | [], h => nomatch h
  | [d], _ => rfl
  | d :: c :: r, h => by
    have h2 := ok_odd r (Bool.and_eq_true_iff.mp h).2
    simp only [List.length_cons]
    omega
def badB (L : List Nat) (k : Nat) : Bool := !(if k % 2 = 0 then digB (L.getD k 0) else decide (L.getD k 0 = 46))
theorem bad_on {d c : Nat} {r : List Nat} (k : Nat) : badB (d :: c :: r) (k + 2) = badB r k := by
  unfold badB
  rw [Nat.add_mod_right]
  rfl
theorem any_bad : ∀ L : List Nat, L.length % 2 = 1 → (List.range L.length).any (badB L) = !okL L
  | [], h => nomatch h
  | [d], _ => by
    show (badB [d] 0 || false) = _
    rw [Bool.or_false]
    rfl
  | d :: c :: r, h => by
    have ih := any_bad r (by simp only [List.length_cons] at h; omega)
    have e : (List.range (r.length + 2)).any (badB (d :: c :: r)) = (badB (d :: c :: r) 0 || (badB (d :: c :: r) 1 || (List.range r.length).any (badB r))) := by
      rw [List.range_succ_eq_map, List.any_cons, List.any_map, List.range_succ_eq_map, List.any_cons, List.any_map]
      congr 2
      exact congrArg (fun g => (List.range r.length).any g) (funext fun k => bad_on k)
    show (List.range (r.length + 2)).any (badB (d :: c :: r)) = _
    rw [e, ih]
    show (!digB d || (!decide (c = 46) || !okL r)) = !((digB d && c == 46) && okL r)
    rw [Bool.not_and, Bool.not_and, Bool.or_assoc]
    rfl
theorem evens : ∀ L : List Nat, L.length % 2 = 1 → (List.range ((L.length + 1) / 2)).map (fun i => ((L.getD (2 * i) 0 : Nat) : Int) - 48) = evL L
  | [], h => nomatch h
  | [d], _ => by
    have e : ([d].length + 1) / 2 = 1 := by simp
    rw [e, List.range_succ_eq_map]
    rfl
  | d :: c :: r, h => by
    have ih := evens r (by simp only [List.length_cons] at h; omega)
    have e : ((d :: c :: r).length + 1) / 2 = (r.length + 1) / 2 + 1 := by
      simp only [List.length_cons]
      omega
    rw [e, List.range_succ_eq_map, List.map_cons, List.map_map]
    show ((d : Int) - 48) :: _ = ((d : Int) - 48) :: evL r
    rw [← ih]
    congr 1
theorem ok_at : ∀ (L : List Nat) (i : Nat), okL L = true → 2 * i < L.length → digB (L.getD (2 * i) 0) = true
  | [], _, h, _ => nomatch h
  | [d], 0, h, _ => h
  | [d], i + 1, _, hi => by
    simp only [List.length_singleton] at hi
    omega
  | d :: c :: r, 0, h, _ => (Bool.and_eq_true_iff.mp (Bool.and_eq_true_iff.mp h).1).1
  | d :: c :: r, i + 1, h, hi => by
    have ih := ok_at r i (Bool.and_eq_true_iff.mp h).2 (by simp only [List.length_cons] at hi; omega)
    exact ih
theorem find_dig : ∀ d : Nat, digB d = true → Txt.find (Str.ofString "01234") ⟨#[d]⟩ = (d : Int) - 48 := fun d h => by
  have c : d = 49 ∨ d = 50 ∨ d = 51 ∨ d = 52 := by
    have := digB_iff.mp h
    omega
  rcases c with rfl | rfl | rfl | rfl <;> decide +kernel
theorem in_1234 (c : Nat) : decide (c ∈ (Str.ofString "1234").cps.toList) = digB c := by
  have e : (Str.ofString "1234").cps.toList = List.range' 49 4 := by decide +kernel
  rw [e, Bool.eq_iff_iff, decide_eq_true_iff, List.mem_range'_1, digB_iff]
  omega
theorem in_dot (c : Nat) : decide (c ∈ (Str.ofString ".").cps.toList) = decide (c = 46) := by
  have e : (Str.ofString ".").cps.toList = [46] := by decide +kernel
  rw [e]
  exact decide_eq_decide.mpr List.mem_singleton
theorem rg_two {n : Nat} (h1 : 1 ≤ n) (h2 : n ≤ 40000) : RgC 0 (n : Int) 2 ((n + 1) / 2) := by
  refine ⟨by decide, by decide, ?_, ?_⟩
  · have fit : ∀ i : Int, 0 ≤ i → i ≤ 50000 → Builtin.Range.rangeFitsLong i = true := fun i h0 h3 => by
      unfold Builtin.Range.rangeFitsLong
      rw [decide_eq_true (by omega), decide_eq_true (by omega)]
      rfl
    have e : Builtin.Range.rangeSize 0 (n : Int) 2 = (((n + 1) / 2 : Nat) : Int) := by
      unfold Builtin.Range.rangeSize
      rw [if_pos (by decide), if_pos (by omega)]
      omega
    unfold Builtin.Range.small
    rw [e, fit 0 (by omega) (by omega), fit n (by omega) (by omega), fit 2 (by omega) (by omega), fit _ (by omega) (by omega), if_pos (by decide), fit _ (by omega) (by omega), Bool.or_true]
    rfl
  · unfold Builtin.Range.rangeSize
    rw [if_pos (by decide), if_pos (by omega)]
    omega
section
variable {K : PySem.W.Frag} {σ : L2.St} {H : Hp} {te : TE} {ta : TA} {t : TT}
/-- over range(i, j, c) -/
theorem el_lcR3 {i j c : Int} {n s : Nat} {vs : List Nat} (f : Nat → Bool) (v : Nat → V) (h : EvA ta σ H [.int i, .int j, .int c]) (hr : RgC i j c n) (hz : n ≤ 40000) (hw : ∀ x, wipe ((wipe σ vs).set s (some x)) vs = wipe σ vs)
    (ht : ∀ (k : Nat) H1, Ex H H1 → k < n → EvT t ((wipe σ vs).set s (some (.int (i + (k : Int) * c)))) H1 (f k)) (he : ∀ (k : Nat) H1, Ex H H1 → k < n → f k = true → Ev te ((wipe σ vs).set s (some (.int (i + (k : Int) * c)))) H1 (v k)) :
    EvL (tLc (iRng3 ta) (gName s) t te vs) σ H (Evl.given n f v) := fun H0 e Q q => h H0 e _ fun H1 e1 => ⟨i, j, c, n, rfl, hr, fun Dl hD =>
  el_lcW f v (walk_rangeC (lo := i) (c := c) (n := n)) hz hD (fun _ _ => trivial) hw (fun k H' e2 hk => ht k H' ((e.trans e1).trans e2) hk) (fun k H' e2 hk hf => he k H' ((e.trans e1).trans e2) hk hf) fun H' e2 h2 => q Dl H' (fresh_back e1 hD) (e1.trans e2) h2⟩
end
end XV

/-! places sorted: tuples of 1 .. 4, some longer than others, the empty one among them -/
namespace YS
open PySem PySem.Calls PyProof.Rows PySem.SeqAt Ob XV
/-! ### the rank -/
def rk : Nat → List Int → Int
  | 0, _ => 0
  | _ + 1, [] => 0
  | D + 1, d :: r => d * 5 ^ D + rk D r
theorem rk_nil (D : Nat) : rk D [] = 0 := by cases D <;> rfl
theorem rk_bd : ∀ (D : Nat) (ns : List Int), Num4 ns → 0 ≤ rk D ns ∧ rk D ns < 5 ^ D
  | 0, ns, _ => by
    show (0 : Int) ≤ 0 ∧ (0 : Int) < 5 ^ 0
    decide
  | D + 1, [], _ => by
    have h := rk_bd D [] (fun _ m => nomatch m)
    rw [rk_nil] at h ⊢
    rw [Int.pow_succ]
    omega
  | D + 1, d :: r, h => by
    obtain ⟨h0, h1⟩ := rk_bd D r h.tail
    obtain ⟨d0, d1⟩ := h.head
    show 0 ≤ d * 5 ^ D + rk D r ∧ d * 5 ^ D + rk D r < 5 ^ (D + 1)
    exact (show (5 : Int) ^ (D + 1) = 5 ^ D * 5 from Int.pow_succ ..) ▸ TS.num1 h0 h1 (by omega) (by omega)
theorem rk_lt {D : Nat} {d e : Int} {r q : List Int} (hr : Num4 (d :: r)) (hq : Num4 (e :: q)) : d < e → rk (D + 1) (d :: r) < rk (D + 1) (e :: q) := fun h =>
  TS.num2 (rk_bd D r hr.tail).1 (rk_bd D r hr.tail).2 (rk_bd D q hq.tail).1 h
theorem rk_same {D : Nat} {d : Int} {r q : List Int} : rk (D + 1) (d :: r) < rk (D + 1) (d :: q) ↔ rk D r < rk D q := by
  show d * 5 ^ D + rk D r < d * 5 ^ D + rk D q ↔ _
  generalize d * 5 ^ D = x
  omega
theorem rk_pos {D : Nat} {d : Int} {r : List Int} (h : Num4 (d :: r)) : 0 < rk (D + 1) (d :: r) := by
  have h1 := (rk_bd D r h.tail).1
  have h2 := h.head.1
  show 0 < d * 5 ^ D + rk D r
  have h3 : 1 * 5 ^ D ≤ d * (5 : Int) ^ D := Int.mul_le_mul_of_nonneg_right h2 (Int.le_of_lt (Int.pow_pos (by decide)))
  have h4 : (0 : Int) < 5 ^ D := Int.pow_pos (by decide)
  omega
theorem rk_cons {D : Nat} {p q : Int} {ns ms : List Int} (h1 : Num4 (p :: ns)) (h2 : Num4 (q :: ms)) (ne : p ≠ q) : decide (rk (D + 1) (p :: ns) < rk (D + 1) (q :: ms)) = decide (p < q) := by
  refine decide_eq_decide.mpr ⟨fun x => ?_, fun x => rk_lt h1 h2 x⟩
  rcases Int.lt_trichotomy p q with y | y | y
  · exact y
  · exact absurd y ne
  · have := rk_lt (D := D) h2 h1 y
    omega
theorem rk_inj : ∀ (D : Nat) (ns ms : List Int), Num4 ns → Num4 ms → ns.length ≤ D → ms.length ≤ D → rk D ns = rk D ms → ns = ms
  | _, [], [], _, _, _, _, _ => rfl
  | D + 1, [], q :: ms, _, h2, _, _, e => by
    have := rk_pos (D := D) h2
    rw [← e, rk_nil] at this
    omega
  | D + 1, p :: ns, [], h1, _, _, _, e => by
    have := rk_pos (D := D) h1
    rw [e, rk_nil] at this
    omega
  | D + 1, p :: ns, q :: ms, h1, h2, l1, l2, e => by
    have pq : p = q := by
      rcases Int.lt_trichotomy p q with y | y | y
      · have := rk_lt (D := D) h1 h2 y
        omega
      · exact y
      · have := rk_lt (D := D) h2 h1 y
        omega
    subst pq
    have e2 : rk D ns = rk D ms := by
      have e' : p * 5 ^ D + rk D ns = p * 5 ^ D + rk D ms := e
      omega
    rw [rk_inj D ns ms h1.tail h2.tail (by simpa using l1) (by simpa using l2) e2]
  | 0, _ :: _, _, _, _, l1, _, _ => absurd l1 (by simp)
  | 0, [], _ :: _, _, _, _, l2, _ => absurd l2 (by simp)
/-! ### one compared with another -/
section
variable {prog : Program} {w : World} {A : Around} {E : Value → Shared → Prop} {s : Shared} {Q : Bool → Shared → Prop}
theorem lex_mix {b fin : Bool} {us vs : List Value} {ns ms : List Int} (D i : Nat) (hx : IntsAre us ns) (hy : IntsAre vs ms) (n4 : Num4 ns) (m4 : Num4 ms) (ln : ns.length ≤ D) (lm : ms.length ≤ D) (hf : fin = decide (ns.length < ms.length))
    (q : Q (decide (rk D ns < rk D ms)) s) : PySem.W.KatLex prog w A b fin Q (us.zip vs) i s := by
  induction hx generalizing vs ms i D with
  | nil =>
    cases hy with
    | nil =>
      rw [hf]
      rw [show decide (rk D [] < rk D []) = decide (([] : List Int).length < ([] : List Int).length) by rw [rk_nil]; rfl] at q
      exact PySem.W.kat_nil q
    | cons y u hy =>
      rw [hf]
      cases D with
      | zero => exact absurd lm (by simp)
      | succ D =>
        rw [rk_nil, decide_eq_true (rk_pos m4)] at q
        exact PySem.W.kat_nil q
  | @cons p t us ns hx ih =>
    cases D with
    | zero => exact absurd ln (by simp)
    | succ D =>
      cases hy with
      | nil =>
        rw [hf]
        rw [rk_nil, decide_eq_false (by have := rk_pos (D := D) n4; omega)] at q
        exact PySem.W.kat_nil q
      | @cons y u vs ms hy =>
        have nf : fin = decide (ns.length < ms.length) := by
          rw [hf]
          exact decide_eq_decide.mpr (by simp)
        show PySem.W.KatLex prog w A b fin Q ((Value.int p t, Value.int y u) :: us.zip vs) i s
        refine PySem.W.kat_cons (wpAny_eqBool_int ?_)
        by_cases e : p = y
        · subst e
          rw [beq_self_eq_true]
          rw [decide_eq_decide.mpr rk_same] at q
          exact PySem.W.kat_yes (ih D (i + 1) hy n4.tail m4.tail (by simpa using ln) (by simpa using lm) nf q)
        · rw [beq_eq_false_iff_ne.mpr e]
          rw [rk_cons n4 m4 e] at q
          exact PySem.W.kat_no (TS.oneLt_ints _ q)
theorem lex_at (ns ms : List Int) : ∀ (D k i : Nat), k = min ns.length ms.length - i → i ≤ min ns.length ms.length → Num4 (ns.drop i) → Num4 (ms.drop i) → (ns.drop i).length ≤ D → (ms.drop i).length ≤ D →
    lexAt (fun j => decide (ns.getD j 0 = ms.getD j 0)) (fun j => decide (ns.getD j 0 < ms.getD j 0)) (decide (ns.length < ms.length)) i k = decide (rk D (ns.drop i) < rk D (ms.drop i))
  | D, 0, i, hk, hi, n4, m4, ln, lm => by
    rw [lexAt_zero]
    refine decide_eq_decide.mpr ?_
    by_cases c : ns.length ≤ i
    · rw [List.drop_of_length_le c, rk_nil]
      by_cases c2 : ms.length ≤ i
      · rw [List.drop_of_length_le c2, rk_nil]
        omega
      · have hm : i < ms.length := by omega
        rw [List.drop_eq_getElem_cons hm] at m4 lm ⊢
        cases D with
        | zero => exact absurd lm (Nat.not_succ_le_zero _)
        | succ D =>
          have := rk_pos (D := D) m4
          omega
    · have hn : i < ns.length := by omega
      have hm : ms.length ≤ i := by omega
      rw [List.drop_of_length_le hm, rk_nil]
      have := (rk_bd D _ n4).1
      omega
  | D, k + 1, i, hk, hi, n4, m4, ln, lm => by
    have hn : i < ns.length := by omega
    have hm : i < ms.length := by omega
    rw [lexAt_succ]
    have en : ns.getD i 0 = ns[i] := by rw [List.getD_eq_getElem?_getD, List.getElem?_eq_getElem hn] <;> rfl
    have em : ms.getD i 0 = ms[i] := by rw [List.getD_eq_getElem?_getD, List.getElem?_eq_getElem hm] <;> rfl
    rw [List.drop_eq_getElem_cons hn] at n4 ln ⊢
    rw [List.drop_eq_getElem_cons hm] at m4 lm ⊢
    cases D with
    | zero => exact absurd ln (Nat.not_succ_le_zero _)
    | succ D =>
      rw [en, em]
      by_cases e : ns[i] = ms[i]
      · rw [decide_eq_true e, if_pos rfl, lex_at ns ms D k (i + 1) (by omega) (by omega) n4.tail m4.tail (Nat.le_of_succ_le_succ ln) (Nat.le_of_succ_le_succ lm), e]
        exact decide_eq_decide.mpr rk_same.symm
      · rw [decide_eq_false e, if_neg Bool.false_ne_true]
        exact (rk_cons n4 m4 e).symm
/-- what the items say to each other -/
theorem items_say {xs : Array Value} {ns : List Int} (h : IntsAre xs.toList ns) : xs.size = ns.length ∧ ∀ j (hj : j < xs.size), ∃ t, xs[j] = Value.int (ns.getD j 0) t := by
  have hl := h.length
  rw [Array.length_toList] at hl
  refine ⟨hl, fun j hj => ?_⟩
  obtain ⟨t, e⟩ := PyProof.Rows.IntsAre.int_at h j xs[j] (by rw [Array.getElem?_toList, Array.getElem?_eq_getElem hj])
  exact ⟨t, e⟩
theorem lt_pairs {xs ys : Array Value} {ns ms : List Int} (hx : IntsAre xs.toList ns) (hy : IntsAre ys.toList ms) :
    (∀ j (h1 : j < xs.size) (h2 : j < ys.size), EqAt A s xs[j] ys[j] (decide (ns.getD j 0 = ms.getD j 0))) ∧ (∀ j (h1 : j < xs.size) (h2 : j < ys.size), decide (ns.getD j 0 = ms.getD j 0) = false → RcOp .Lt A s xs[j] ys[j] (decide (ns.getD j 0 < ms.getD j 0))) := by
  obtain ⟨_, k1⟩ := items_say hx
  obtain ⟨_, k2⟩ := items_say hy
  refine ⟨fun j h1 h2 => ?_, fun j h1 h2 _ => ?_⟩
  · obtain ⟨t, e1⟩ := k1 j h1
    obtain ⟨u, e2⟩ := k2 j h2
    rw [e1, e2]
    exact SeqAt.EqAt.int_int _ t _ u
  · obtain ⟨t, e1⟩ := k1 j h1
    obtain ⟨u, e2⟩ := k2 j h2
    rw [e1, e2]
    exact RcOp.lt_int _ _ t u
/-! ### the kinds of a comparison -/
/-- what is sorted: tuples of at most D numbers -/
def Tups (h : Heap) (D : Nat) (vs : List Value) : Prop := ∀ v, v ∈ vs → ∃ ns, TS.TupInts h v ns ∧ Num4 ns ∧ ns.length ≤ D
theorem Tups.keeps {h h' : Heap} {D : Nat} {vs : List Value} (x : Tups h D vs) (k : ∀ b o, h.get? b = some o → o.cls = .type "tuple" → h'.get? b = some o) : Tups h' D vs := fun v hv => by
  obtain ⟨ns, t, r⟩ := x v hv
  exact ⟨ns, t.keeps k, r⟩
def rkV (h : Heap) (D : Nat) (v : Value) : Int := rk D (TS.intsOf h v)
theorem rich_lt {D : Nat} {u v : Value} {ns ms : List Int} (hu : A.units < cLine) (tu : TS.TupInts s.heap u ns) (tv : TS.TupInts s.heap v ms) (n4 : Num4 ns) (m4 : Num4 ms) (ln : ns.length ≤ D) (lm : ms.length ≤ D) :
    RcOp .Lt A s u v (decide (rk D ns < rk D ms)) := by
  obtain ⟨a, xs, rfl, ⟨o, ho, hc, n, hd⟩, ix⟩ := tu
  obtain ⟨b, ys, rfl, ⟨o2, ho2, hc2, n2, hd2⟩, iy⟩ := tv
  obtain ⟨e1, e2⟩ := lt_pairs (A := A.in1) (s := s) ix iy
  have z := RcOp.tuples_lt (A := A) (s := s) ⟨o, ho, hc, n, hd⟩ ⟨o2, ho2, hc2, n2, hd2⟩ hu e1 e2
  have lx := (items_say ix).1
  have ly := (items_say iy).1
  rw [lx, ly, lex_at ns ms D _ 0 (by omega) (Nat.zero_le _) (by rw [List.drop_zero]; exact n4) (by rw [List.drop_zero]; exact m4) (by rw [List.drop_zero]; exact ln) (by rw [List.drop_zero]; exact lm), List.drop_zero, List.drop_zero] at z
  exact z
/-- the three kinds that such a list may have -/
inductive KD : SortKind → Prop where
  | tup (b : Bool) : KD (tuples' b)
  | gen : KD general'
  | one : KD oneType'
theorem kd_lt {D : Nat} {u v : Value} {ns ms : List Int} {κ : SortKind} (k : KD κ) (hu : A.units < cLine) (tu : TS.TupInts s.heap u ns) (tv : TS.TupInts s.heap v ms) (n4 : Num4 ns) (m4 : Num4 ms) (ln : ns.length ≤ D) (lm : ms.length ≤ D)
    (q : Q (decide (rk D ns < rk D ms)) s) : wpAny (model prog w) A (keyLt' κ u v) Q E s := by
  have rich := rich_lt (A := A) (s := s) hu tu tv n4 m4 ln lm
  cases k with
  | tup b =>
    obtain ⟨a, xs, rfl, ⟨o, ho, hc, n, hd⟩, ix⟩ := tu
    obtain ⟨b2, ys, rfl, ⟨o2, ho2, hc2, n2, hd2⟩, iy⟩ := tv
    refine PySem.W.kat_lt ho hd ho2 hd2 ?_
    exact lex_mix D 0 ix iy n4 m4 ln lm (by rw [(items_say ix).1, (items_say iy).1]) q
  | gen => exact PySem.W.kat_one u v (rich prog w E _ q)
  | one =>
    rw [keyLt'_oneType, oneLt'_eq]
    simp only [if_true]
    refine wpAny_bind (wpAny_cRoomFor hu ?_)
    obtain ⟨a, xs, rfl, ⟨o, ho, hc, n, hd⟩, ix⟩ := tu
    obtain ⟨b2, ys, rfl, ⟨o2, ho2, hc2, n2, hd2⟩, iy⟩ := tv
    obtain ⟨cls, dd, data, sl⟩ := o
    obtain ⟨cls2, dd2, data2, sl2⟩ := o2
    simp only at hc hd hc2 hd2
    subst hc hd hc2 hd2
    obtain ⟨e1, e2⟩ := lt_pairs (A := A.in1) (s := s) ix iy
    have z := lex_at ns ms D (min ns.length ms.length) 0 (by omega) (Nat.zero_le _) (by rw [List.drop_zero]; exact n4) (by rw [List.drop_zero]; exact m4) (by rw [List.drop_zero]; exact ln) (by rw [List.drop_zero]; exact lm)
    rw [List.drop_zero, List.drop_zero] at z
    refine wpAny_bind (wpAny_callSpecialIfBound?_slot ⟨_, ho, rfl⟩ F.slot_tuple_lt (call_meets F.slot_tuple_lt ⟨_, ho, rfl⟩ F.entry_tuple_lt (F.args_tuple_lt_2 _ _) (tuple_ltAt a b2 xs ys n n2 dd dd2 sl sl2 _ _) ⟨ho, ho2, e1, e2, ?_⟩))
    rw [(items_say ix).1, (items_say iy).1, z]
    exact wpAny_truthy_bool q
def headV (h : Heap) : Value → Option Value
  | .ref a => (h.get? a).bind fun o => match o.data with
    | .seq xs _ => xs[0]?
    | _ => none
  | _ => none
theorem heads_go {D : Nat} : ∀ {vs : List Value} {R : List (Option Value) → Shared → Prop}, Tups s.heap D vs → R (vs.map (headV s.heap)) s → wpAny (model prog w) A (vs.mapM firstOfTuple') R E s
  | [], R, _, q => by
    rw [List.mapM_nil]
    exact wpAny_pure q
  | v :: vs, R, x, q => by
    obtain ⟨ns, ⟨a, xs, rfl, ⟨o, ho, hc, n, hd⟩, ix⟩, _⟩ := x v (List.mem_cons_self ..)
    have hv : headV s.heap (.ref a) = xs[0]? := by
      show (s.heap.get? a).bind _ = _
      rw [ho]
      show (match o.data with | .seq xs _ => xs[0]? | _ => none) = _
      rw [hd]
    rw [List.map_cons, hv] at q
    rw [List.mapM_cons]
    refine wpAny_bind ?_
    rw [PySem.W.kas_first_eq]
    refine wpAny_bind ((show PySem.W.Looks (model prog w) s.heap (typeOf (.ref a)) o.cls from (PySem.W.Looks.ld ho).andThen .now).here ?_)
    rw [hc, if_neg (by decide)]
    refine wpAny_bind (listItems_at ho hd (wpAny_pure (wpAny_bind (heads_go (R := fun bs s' => wpAny (model prog w) A (pure (xs[0]? :: bs)) R E s') (fun u hu => x u (List.mem_cons_of_mem _ hu)) (wpAny_pure q)))))
theorem full_go {D : Nat} : ∀ {vs : List Value}, Tups s.heap D vs → (∀ v, v ∈ vs → headV s.heap v ≠ none) → ∃ fs, PySem.W.KatTups s.heap vs fs ∧ fs.length = vs.length ∧ ∀ f, f ∈ fs → ∃ n t, f = Value.int n t
  | [], _, _ => ⟨[], PySem.W.KatTups.nil, rfl, fun _ m => nomatch m⟩
  | v :: vs, x, hv => by
    obtain ⟨fs, k, hl, hi⟩ := full_go (vs := vs) (fun u hu => x u (List.mem_cons_of_mem _ hu)) fun u hu => hv u (List.mem_cons_of_mem _ hu)
    have hh := hv v (List.mem_cons_self ..)
    obtain ⟨ns, ⟨a, xs, rfl, ⟨o, ho, hc, n, hd⟩, ix⟩, _⟩ := x v (List.mem_cons_self ..)
    have e : headV s.heap (.ref a) = xs[0]? := by
      show (s.heap.get? a).bind _ = _
      rw [ho]
      show (match o.data with | .seq xs _ => xs[0]? | _ => none) = _
      rw [hd]
    rw [e] at hh
    cases q : xs[0]? with
    | none => exact absurd q hh
    | some f =>
      have h0 : 0 < xs.size := (Array.getElem?_eq_some_iff.mp q).1
      obtain ⟨t, ef⟩ := (items_say ix).2 0 h0
      have e3 : f = Value.int (ns.getD 0 0) t := by
        rw [Array.getElem?_eq_getElem h0] at q
        rw [← ef]
        exact (Option.some.inj q).symm
      exact ⟨f :: fs, PySem.W.KatTups.cons ho hc hd q k, by simp [hl], fun g hg => (List.mem_cons.mp hg).elim (fun z => ⟨_, t, z.trans e3⟩) (hi g)⟩
theorem kd_kind {D : Nat} {vs : List Value} {R : SortKind → Shared → Prop} (x : Tups s.heap D vs) (h2 : 2 ≤ vs.length) (q : ∀ κ, KD κ → R κ s) : wpAny (model prog w) A (keyKind' vs.toArray) R E s := by
  by_cases full : ∀ v, v ∈ vs → headV s.heap v ≠ none
  · obtain ⟨fs, k, hl, hi⟩ := full_go x full
    refine PySem.W.kat_kind (T := Value.type "int") k (by omega) (fun f hf => ?_) rfl (q _ (.tup _))
    obtain ⟨n, t, rfl⟩ := hi f hf
    exact PySem.W.Looks.of_pure rfl
  · have not_all : ¬ ((vs.map (headV s.heap)).toArray.all fun z => z.isSome) = true := fun z => full fun v hv e => by
      rw [List.all_toArray, List.all_eq_true] at z
      have := z _ (List.mem_map.mpr ⟨v, hv, e⟩)
      cases this
    have ty : ∀ v, v ∈ vs → PySem.W.Looks (model prog w) s.heap (typeOf v) (Value.type "tuple") := fun v hv => by
      obtain ⟨ns, ⟨a, xs, rfl, ⟨o, ho, hc, _⟩, _⟩, _⟩ := x v hv
      rw [← hc]
      exact (PySem.W.Looks.ld ho).andThen .now
    rw [PyProof.Rows.kat_kind_eq, List.mapM_toArray, map_eq_pure_bind]
    refine wpAny_bind (wpAny_bind (heads_go x (wpAny_pure ?_)))
    rw [if_neg not_all]
    by_cases c : (((vs.map (headV s.heap)).toArray[0]?).bind id).isSome = true
    · rw [if_pos c]
      exact wpAny_pure (q _ .gen)
    · rw [if_neg c, oneTypeOnly'_eq, List.mapM_toArray, map_eq_pure_bind]
      refine wpAny_bind (wpAny_bind (wpAny_bind (PySem.W.kas_mapM (r := Value.type "tuple") _ (fun v hv R' hq => (ty v hv).here hq) (wpAny_pure ?_))))
      obtain ⟨v0, r0, rfl⟩ : ∃ v0 r0, vs = v0 :: r0 := by
        match vs, h2 with
        | v0 :: r0, _ => exact ⟨v0, r0, rfl⟩
      have same : ((List.map (fun _ => Value.type "tuple") (v0 :: r0)).toArray.all fun z => z == Value.type "tuple") = true := by
        simp only [List.all_toArray, List.all_map, List.all_eq_true]
        exact fun _ _ => rfl
      have first : (List.map (fun _ => Value.type "tuple") (v0 :: r0)).toArray[0]? = some (Value.type "tuple") := by simp
      rw [first]
      simp only [same, if_true]
      exact wpAny_pure (wpAny_pure (q _ .one))
end
/-! ### list.sort, sorted -/
section
variable {prog : Program} {w : World} {A : Around} {E : Value → Shared → Prop} {s : Shared}
theorem sort_mix {a : Addr} {vs : List Value} {n D : Nat} {R : PySem.Fin → Shared → Prop} (hu : A.units < cLine) (at_ : s.heap.get? a = some (seqObj "list" vs.toArray n)) (few : vs.length < 64) (x : Tups s.heap D vs)
    (q : ∀ out : Array Value, out.toList.Perm vs → out.toList.Pairwise (fun u v => rkV s.heap D u ≤ rkV s.heap D v) → R (.done (.ret .none)) { s with heap := sortedHeap s.heap a vs out }) :
    wpAny (model prog w) A (Builtin.«list.sort» ⟨[.ref a], []⟩) R E s := by
  have stay : ∀ b o, s.heap.get? b = some o → o.cls = .type "tuple" → (TS.midHeap s.heap a vs).get? b = some o := fun b o e hc => by
    refine TS.midHeap_old (fun z => ?_) e
    rw [z, at_] at e
    rw [← Option.some.inj e] at hc
    exact absurd (Value.type.inj (show Value.type "list" = Value.type "tuple" from hc)) (by decide)
  have x2 := x.keeps stay
  refine SK.plain_sort (r := rkV s.heap D) at_ few (fun h2 R2 hR => ?_) fun ps out e1 e2 e3 => ?_
  · refine kd_kind (s := { s with heap := TS.midHeap s.heap a vs }) x2 h2 fun κ k => hR κ fun y z hy hz Q' E' hq => ?_
    rw [pairsOf_toList] at hy hz
    obtain ⟨ns, t1, n4, ln⟩ := x _ (mem_zip_self hy).2
    obtain ⟨ms, t2, m4, lm⟩ := x _ (mem_zip_self hz).2
    refine kd_lt k hu (t1.keeps stay) (t2.keeps stay) n4 m4 ln lm ?_
    unfold rkV at hq
    rw [t1.ints, t2.ints] at hq
    exact hq
  · obtain ⟨p1, p2⟩ := TS.out_rank e1 e2 e3
    exact q out p1 p2
theorem call_mix {a : Addr} {vs : List Value} {n D : Nat} {R : Value → Shared → Prop} (hu : A.units + 1 < cLine) (at_ : s.heap.get? a = some (seqObj "list" vs.toArray n)) (few : vs.length < 64) (x : Tups s.heap D vs)
    (q : ∀ out : Array Value, out.toList.Perm vs → out.toList.Pairwise (fun u v => rkV s.heap D u ≤ rkV s.heap D v) → R .none { s with heap := sortedHeap s.heap a vs out }) :
    wpAny (model prog w) A (call (.builtin "list.sort") [.ref a]) R E s :=
  wpAny_call_entry slot_list_sort ⟨_, at_, rfl⟩ entry_list_sort (sort_mix (A := A.in1) hu at_ few x fun out h1 h2 => ⟨_, rfl, q out h1 h2⟩) (args_list_sort _)
end
end YS

/-! sorted(a list of places), sorted(a set of places), set(a list, a tuple of places) -/
namespace YS
open PySem PySem.Calls PyProof.Rows XV
section
variable {prog : Program} {w : World} {A : Around} {E : Value → Shared → Prop} {s : Shared}
theorem sorted_any {x : Value} {D : Nat} {Src : Shared → List Value → Prop} {R : Value → Shared → Prop} (hu : A.units + 2 < cLine)
    (hC : ∀ (E' : Value → Shared → Prop) (R' : List Value → Shared → Prop), (∀ s1 vs, (∀ b o, s.heap.get? b = some o → s1.heap.get? b = some o) → s1.gens = s.gens → s1.os = s.os → s.heap.objs.size ≤ s1.heap.objs.size → Tups s1.heap D vs → vs.length < 64 → Src s1 vs → R' vs s1) → wpAny (model prog w) A.in1 (collect x) R' E' s)
    (q : ∀ s1 s2 vs p (out : Array Value) c, (∀ b o, s1.heap.get? b = some o → s2.heap.get? b = some o) → (∀ b o, s.heap.get? b = some o → s2.heap.get? b = some o) → s2.gens = s.gens → s2.os = s.os → s.heap.objs.size ≤ p → s2.heap.get? p = some (seqObj "list" out c) → Src s1 vs →
      out.toList.Perm vs → out.toList.Pairwise (fun u v => rkV s1.heap D u ≤ rkV s1.heap D v) → R (.ref p) s2) :
    wpAny (model prog w) A (call (.builtin "sorted") [x]) R E s := by
  refine Calls.call_function_entry kind_sorted plain_sorted entry_sorted (args_sorted1 _) ?_
  unfold Builtin.«sorted»
  refine wpAny_bind (m := checkCount "sorted" 1 1 _) (wpAny_pure ?_)
  refine wpAny_bind (hC _ _ fun s1 vs k1 g1 o1 z1 x1 few src => ?_)
  refine wpAny_bind (wpAny_newList ?_ (by rw [sizeLine_eq]; omega))
  have atL : (s1.heap.push (seqObj "list" vs.toArray 0)).get? s1.heap.objs.size = some (seqObj "list" vs.toArray 0) := Heap.get?_push_size _ rfl
  have k2 : ∀ b o, s1.heap.get? b = some o → (s1.heap.push (seqObj "list" vs.toArray 0)).get? b = some o := fun b o e => Heap.get?_push_of_some _ e
  have x2 : Tups (s1.heap.push (seqObj "list" vs.toArray 0)) D vs := x1.keeps fun b o e _ => k2 b o e
  refine wpAny_bind (wpAny_holding (call_mix (s := { s1 with heap := s1.heap.push (seqObj "list" vs.toArray 0) }) hu atL few x2 fun out p1 p2 => ?_))
  obtain ⟨c, hc⟩ := sortedHeap_at (vs := vs) (out := out) atL
  have k3 : ∀ b o, s1.heap.get? b = some o → (sortedHeap (s1.heap.push (seqObj "list" vs.toArray 0)) s1.heap.objs.size vs out).get? b = some o := fun b o e => by
    have lt := Heap.lt_size e
    rw [sortedHeap_old (Nat.ne_of_lt lt) (by rw [size_push']; exact Nat.lt_succ_of_lt lt)]
    exact k2 b o e
  refine wpAny_pure ⟨_, rfl, q s1 _ vs _ out c k3 (fun b o e => k3 b o (k1 b o e)) g1 o1 z1 hc src p1 ?_⟩
  refine List.Pairwise.imp_of_mem (fun {u v} hu hv le => ?_) p2
  have same : ∀ v, v ∈ vs → rkV (s1.heap.push (seqObj "list" vs.toArray 0)) D v = rkV s1.heap D v := fun v hv => by
    obtain ⟨ns, t, _⟩ := x1 v hv
    unfold rkV
    rw [t.ints, (t.keeps fun b o e _ => k2 b o e).ints]
  rw [← same u (p1.mem_iff.mp hu), ← same v (p1.mem_iff.mp hv)]
  exact le
end
end YS
namespace XV
open PySem PySem.Spec PyProof.Rows L2 Evl
/-- places by their addresses -/
abbrev AL := List (Addr × List Int)
def refsL (L : AL) : List V := L.map fun p => V.ref p.1
/-- each of them stands as a tuple of at most D numbers -/
def Plcs (K : PySem.W.Frag) (H : Hp) (D : Nat) (L : AL) : Prop := ∀ p, p ∈ L → SqT K H p.1 (p.2.map V.int) ∧ Num4 p.2 ∧ p.2.length ≤ D
theorem Plcs.mono {K : PySem.W.Frag} {H H' : Hp} {D : Nat} {L : AL} (e : Ex H H') (h : Plcs K H D L) : Plcs K H' D L := fun p m => ⟨ex_t e (h p m).1, (h p m).2⟩
def rSortedM (K : PySem.W.Frag) (P : Program) (w : World) (D : Nat) : List V → Hp → VK → Prop := fun vs H Q => ∃ (a : Addr) (L : AL), vs = [V.ref a] ∧ (SqL K H a (refsL L) ∨ H a = some (SetTO P w a L)) ∧ Plcs K H D L ∧ L.length < 64 ∧
  ∀ (L' : AL) (p : Addr), L'.Perm L → L'.Pairwise (fun q r => YS.rk D q.2 ≤ YS.rk D r.2) → H p = none → Q (.ref p) (upd H p (.lst (refsL L')))
section
variable {X : Cx}
theorem tups_of {pins : List (Addr × Obj)} {σ : L2.St} {H : Hp} {s : Shared} {D : Nat} {L : AL} {h' : Heap} (I : Inv X pins σ H s) (h : Plcs X.K H D L) (k : ∀ b o, s.heap.get? b = some o → h'.get? b = some o) :
    YS.Tups h' D (L.map fun p => Value.ref p.1) ∧ ∀ p, p ∈ L → YS.rkV h' D (.ref p.1) = YS.rk D p.2 := by
  have one : ∀ p, p ∈ L → TS.TupInts h' (.ref p.1) p.2 := fun p hp => (tupI_raw I (h p hp).1).keeps fun b o e _ => k b o e
  refine ⟨fun v hv => ?_, fun p hp => ?_⟩
  · obtain ⟨p, hp, rfl⟩ := List.mem_map.mp hv
    exact ⟨p.2, one p hp, (h p hp).2⟩
  · unfold YS.rkV
    rw [(one p hp).ints]
theorem cr_sortedM {D : Nat} (hc : X.calm = true) (hu : X.A.units + 64 < cLine) : CallR X (.builtin "sorted") (rSortedM X.K X.prog X.w D) := by
  intro pins s σ H vs us Q I r h
  obtain ⟨a, L, rfl, src, pl, few, q⟩ := h
  rw [Vals.ref1 r]
  refine YS.sorted_any (D := D) (Src := fun s1 vs => (∀ b o, s.heap.get? b = some o → s1.heap.get? b = some o) ∧ vs.Perm (L.map fun p => Value.ref p.1)) (by omega) (fun E' R' hR => ?_) fun s1 s2 vs p out c k12 k2 g o big hg src2 pm pw => ?_
  · rcases src with hl | hs
    · obtain ⟨its, rv, il, hz⟩ := I.list hl
      have e : its = L.map fun p => Value.ref p.1 := refs_of_vals rv
      subst e
      have k : ∀ b o, s.heap.get? b = some o → ((s.heap.push (seqObj "list" #[] 0)).update s.heap.objs.size (Obj.mapSeq (· ++ (L.map fun p => Value.ref p.1).toArray))).get? b = some o := fun b o e => by
        rw [Heap.get?_update_ne _ _ _ _ (Nat.ne_of_lt (Heap.lt_size e))]
        exact Heap.get?_push_of_some _ e
      refine collect_list il.isList (hR _ _ k rfl rfl ?_ (tups_of I pl k).1 (by rw [List.length_map]; exact few) ⟨k, List.Perm.refl _⟩) (by rw [List.length_map, sizeLine_eq]; omega)
      show s.heap.objs.size ≤ ((s.heap.push _).update _ _).objs.size
      rw [Heap.size_update, Heap.size_push]
      exact Nat.le_succ _
    · have R0 : SetT0 X.prog X.w s.heap a L := (I.hok a _ hs).1
      obtain ⟨es, ep, t, Rf⟩ := R0.full fun p hp => I.isT (pl p hp).1
      obtain ⟨o, ho, hex, hd⟩ := Rf.ob
      have hsz := Rf.size
      refine collect_set (A := X.A.in1) (by simp [I.ok.hd hc]) ⟨o, ho, hex.1, hd⟩ Rf.fits (by unfold scanBound; omega) Rf.tab.ris Rf.led fun s1 vs k1 hz g1 o1 pm => ?_
      have rows : es.toList.map (·.2) = L.map fun p => Value.ref p.1 := by
        rw [Rf.rows]
        unfold rowsOf
        rw [List.map_map] <;> rfl
      rw [rows] at pm
      refine hR s1 vs k1 g1 o1 hz (fun v hv => (tups_of I pl k1).1 v (pm.mem_iff.mp hv)) ?_ ⟨k1, pm⟩
      rw [pm.length_eq, List.length_map]
      exact few
  · obtain ⟨k1, pv⟩ := src2
    obtain ⟨L', pL, eL⟩ := perm_lift (fun p : Addr × List Int => Value.ref p.1) (pm.trans pv) L rfl
    have hn : H p = none := I.hok.fresh big
    have hv : Vals (refsL L') out.toList := by
      rw [← eL]
      exact vals_of_refs L'
    have hlen : (refsL L').length ≤ sizeLine := by
      unfold refsL
      rw [List.length_map, pL.length_eq, sizeLine_eq]
      omega
    have J : Inv X pins σ (upd H p (.lst (refsL L'))) { s with heap := s2.heap, gens := s2.gens, drawn := s2.drawn, toks := s2.toks } :=
      I.call (ch := []) (Un.laid k2 big hn) (I.hok.laid k2 big ⟨hlen, out.toList, c, hv, hg⟩) (by rw [g]; exact I.bare) (fun _ z => nomatch z)
    have e : s2 = { s with heap := s2.heap, gens := s2.gens, drawn := s2.drawn, toks := s2.toks } := by
      cases s2
      cases s
      cases o
      rfl
    rw [e]
    refine ⟨.ref p, _, J, rfl, q L' p pL ?_ hn⟩
    rw [← eL] at pw
    refine List.Pairwise.imp_of_mem (fun {y z} hy hz le => ?_) (List.pairwise_map.mp pw)
    have rr := (tups_of I pl k1).2
    rw [← rr y (pL.mem_iff.mp hy), ← rr z (pL.mem_iff.mp hz)]
    exact le
end
end XV

/-! set(a tuple of places) -/
namespace L2
open PySem PySem.Spec PyProof.Rows
section
variable {P : Program} {w : World} {A : Around} {E : Value → Shared → Prop} {s : Shared}
/-- a set that is just made -/
abbrev setZ (w : World) : Obj := { cls := .type "set", dict := none, data := .set #[] 0 (.fresh 0 0 (!w.params.followText "set-order")) }
theorem setT_run {l : Addr} {xs : Array Value} (ks : List (Addr × List Int)) {R : Value → Shared → Prop} (calm : A.handled = none) (tl : s.heap.IsTuple l xs) (it : xs.toList = ks.map fun p => Value.ref p.1)
    (tp : ∀ p ∈ ks, IsT P w s.heap p.2 p.1) (few : ks.length < 64) (room : A.units + 3 < cLine)
    (q : ∀ (h' : Heap) (tk : Nat) L es ep t, SetTR P w h' s.heap.objs.size L es ep t → Got ks ks.length L → (∀ b o, s.heap.get? b = some o → h'.get? b = some o) → R (.ref s.heap.objs.size) { s with heap := h', toks := tk }) :
    wpAny (model P w) A (call (.type "set") [.ref l]) R E s := by
  have nx : xs.size = ks.length := by
    rw [← Array.length_toList, it, List.length_map]
  obtain ⟨c, tl0, mro0⟩ := F.called_set.mro
  have mk0 := F.called_set.made
  have sb0 := F.called_set.sub
  refine wpAny_call (codeAny_of_tree (show wpAny _ _ (callAny (.type "set") _) _ _ _ from ?_))
  refine wpAny_pure ⟨Code.quiet_builtin _ (by decide +kernel), codeAny_builtin F.entry_type_call ?_⟩
  rw [Around.under_plain (weight_type_call_type "set" [.ref l] []) rfl]
  have nt0 := F.called_set.notType
  have cr0 := F.called_set.canCreate
  have tc0 := F.typeCall_set_1 (.ref l)
  repeat (any_goals (first | assumption | wp_step))
  refine codeAny_mono (code_set_led1 (.ref l) (E := E) (Q₁ := fun obj s₁ => obj = .ref s.heap.objs.size ∧ s₁ = { s with heap := s.heap.push (setZ w) }) ⟨rfl, rfl⟩) fun r s₁ hr => ?_
  match r, hr with
  | .error e, hr => exact hr
  | .ok .next, hr => exact hr.elim
  | .ok .brk, hr => exact hr.elim
  | .ok .cont, hr => exact hr.elim
  | .ok (.ret obj), hr =>
    obtain ⟨rfl, rfl⟩ := hr
    have gS : (s.heap.push (setZ w)).get? s.heap.objs.size = some (setZ w) := Heap.get?_push_size _ rfl
    have ty : Shared.TypeIs { s with heap := s.heap.push (setZ w) } (.ref s.heap.objs.size) "set" := ⟨_, gS, rfl⟩
    have li0 := F.called_set.init.lookup
    have bi0 := F.called_set.init.bind (.ref s.heap.objs.size)
    repeat (any_goals (first | assumption | wp_step))
    refine codeAny_mono (codeAny_call_builtin (R := wants (fun r s₂ => r = .none ∧ ∃ h' tk L es ep t, s₂ = { s with heap := h', toks := tk } ∧ SetTR P w h' s.heap.objs.size L es ep t ∧ Got ks ks.length L ∧
        ∀ b o, s.heap.get? b = some o → h'.get? b = some o) E) F.called_set.init.plain F.entry_set_init (check_set_init_1 ty ?_)) fun r₂ s₂ hr₂ => ?_
    · obtain ⟨⟨ocls, odict, odata, oslots⟩, hol, hcl, nl, hdl⟩ := tl
      simp only at hcl hdl
      subst hcl hdl
      have hol1 : (s.heap.push (setZ w)).get? l = some { cls := .type "tuple", dict := odict, data := .seq xs nl, slots := oslots } := Heap.get?_push_of_some _ hol
      have f1 := F.sub_tuple_set
      have f2 := F.sub_tuple_frozenset
      have f3 : (Value.type "tuple" == Value.type "dict") = false := by decide
      have tl1 : (s.heap.push (setZ w)).IsTuple l xs := ⟨_, hol1, rfl, nl, rfl⟩
      unfold Builtin.«set.__init__» noKeywords Builtin.Frozenset.updateFrom
      generalize hPI : pyIter = PI
      wp_walk
      subst hPI
      refine wpAny_pyIter_tuple tl1 (wpAny_bind (wpAny_runValue ?_))
      have ll := Heap.lt_size hol
      have calm3 : A.in1.in1.in1.handled = none := by simp [calm]
      have sz : (s.heap.push (setZ w)).objs.size = s.heap.objs.size + 1 := Heap.size_push ..
      have ne : l ≠ (s.heap.push (setZ w)).objs.size := by rw [sz]; exact Nat.ne_of_lt (Nat.lt_succ_of_lt ll)
      have off : s.heap.objs.size ∉ [(s.heap.push (setZ w)).objs.size, l] := by
        rw [sz]
        simp only [List.mem_cons, List.not_mem_nil, or_false, not_or]
        exact And.intro (Nat.ne_of_lt (Nat.lt_succ_self _)) (Nat.ne_of_gt ll)
      have vals : ∀ (i : Nat) (v : Value), xs[i]? = some v → ∃ p, ks[i]? = some p ∧ v = .ref p.1 := fun i v hv => by
        rw [← Array.getElem?_toList, it, List.getElem?_map] at hv
        obtain ⟨p, h1, h2⟩ := Option.map_eq_some_iff.mp hv
        exact ⟨p, h1, h2.symm⟩
      have none_of : ∀ b, s.heap.objs.size ≤ b → s.heap.get? b = none := fun b hb => by
        cases z : s.heap.get? b with
        | none => rfl
        | some o => exact absurd (Nat.lt_of_lt_of_le (Heap.lt_size z) hb) (Nat.lt_irrefl _)
      refine set_update_tups ((Walks.tuple calm3 _ l ne xs).toS) s.heap.objs.size off ks nx few vals s.heap tp (none_of _ (Nat.le_refl _)) (fun b hb => none_of b (by rw [List.mem_singleton.mp hb, sz]; omega)) room (xs.size - 0) 0 _ (by omega) (Nat.zero_le _)
        ⟨⟨_, Heap.get?_push_size _ rfl, rfl, rfl⟩, (tl1.push _)⟩ (fun b o e => Heap.get?_push_of_some _ (Heap.get?_push_of_some _ e)) ?s0 ?fin
      case s0 => exact ⟨[], #[], 0, _, setTR_fresh (Heap.get?_push_of_some _ gS), Got.zero ks⟩
      case fin =>
        intro s' L es ep t hm hS' g' hkp
        obtain ⟨h', g2, d', tk', os'⟩ := s'
        obtain rfl : g2 = s.gens := hm.gens
        obtain rfl : d' = s.drawn := hm.drawn
        obtain rfl : os' = s.os := hm.os
        rw [nx] at g'
        exact wpAny_pure (show wpAny _ _ (ret Value.none) _ _ _ from wpAny_pure ⟨rfl, h', tk', L, es, ep, t, rfl, hS', g', hkp⟩)
    · match r₂, hr₂ with
      | .error e, hr₂ => exact hr₂
      | .ok .next, hr₂ => exact hr₂.elim
      | .ok .brk, hr₂ => exact hr₂.elim
      | .ok .cont, hr₂ => exact hr₂.elim
      | .ok (.ret r), hr₂ =>
        obtain ⟨rfl, h', tk, L, es, ep, t, rfl, hS', g', hk'⟩ := hr₂
        repeat (any_goals (first | assumption | wp_step))
        exact q _ _ _ _ _ _ hS' g' hk'
end
end L2
namespace XV
open PySem PySem.Spec PyProof.Rows L2 Evl
/-- set(a list, a tuple of places) -/
def rSetM (K : PySem.W.Frag) (P : Program) (w : World) (D : Nat) : List V → Hp → VK → Prop := fun xs H Q => ∃ (l : Addr) (ks : AL), xs = [V.ref l] ∧ (SqL K H l (refsL ks) ∨ SqT K H l (refsL ks)) ∧ Plcs K H D ks ∧ ks.length < 64 ∧
  ∀ a (L : AL), H a = none → (∀ p ∈ L, p ∈ ks) → (∀ p ∈ ks, p.2 ∈ L.map (·.2)) → (L.map (·.2)).Nodup → L.length < 64 → Q (.ref a) (upd H a (SetTO P w a L))
section
variable {X : Cx}
theorem cr_setM {D : Nat} (hc : X.calm = true) (hu : X.A.units + 64 < cLine) : CallR X (.type "set") (rSetM X.K X.prog X.w D) := by
  intro pins s σ H xs us Q I r h
  obtain ⟨l, ks, rfl, hl, hk, few, q⟩ := h
  rw [Vals.ref1 r]
  have hn : H s.heap.objs.size = none := I.hok.fresh (Nat.le_refl _)
  have fin : ∀ (h' : Heap) (tk : Nat) L es ep t, SetTR X.prog X.w h' s.heap.objs.size L es ep t → Got ks ks.length L → (∀ b o, s.heap.get? b = some o → h'.get? b = some o) → EP X pins σ Q (.ref s.heap.objs.size) { s with heap := h', toks := tk } := fun h' tk L es ep t R g k =>
    ⟨.ref s.heap.objs.size, upd H s.heap.objs.size (SetTO X.prog X.w s.heap.objs.size L), I.laid (t' := tk) k (Nat.le_refl _) (setTO_new R.t0), rfl, q _ L hn (fun p hp => List.mem_of_mem_take (g.sub p hp)) (fun p hp => g.all p (by rw [List.take_length]; exact hp)) R.nd R.few⟩
  rcases hl with hl | hl
  · obtain ⟨its, rv, pl, hz⟩ := I.list hl
    exact call_set_tups (P := X.prog) (w := X.w) ks (I.ok.hd hc) pl.isList (by simpa using refs_of_vals rv) (fun p hp => I.isT (hk p hp).1) few (by omega) fin
  · obtain ⟨its, rv, pl, hz⟩ := I.tuple hl
    exact setT_run (P := X.prog) (w := X.w) ks (I.ok.hd hc) pl (by simpa using refs_of_vals rv) (fun p hp => I.isT (hk p hp).1) few (by omega) fin
end
end XV

/-! lists of places: told, sorted, each once -/
namespace XV
open PySem PySem.Spec PyProof.Rows L2 Evl
theorem given_mapA {α : Type} (L : List α) (d : α) (g : α → V) : Evl.given L.length (fun _ => true) (fun i => g (L.getD i d)) = L.map g := by
  unfold Evl.given
  rw [List.filter_eq_self.mpr (fun _ _ => rfl)]
  refine List.ext_getElem? fun i => ?_
  rw [List.getElem?_map, List.getElem?_map]
  by_cases hi : i < L.length
  · rw [List.getElem?_range hi, List.getElem?_eq_getElem hi]
    show some (g (L.getD i d)) = some (g L[i])
    rw [List.getD_eq_getElem?_getD, List.getElem?_eq_getElem hi] <;> rfl
  · rw [List.getElem?_eq_none (by rw [List.length_range]; omega), List.getElem?_eq_none (by omega)]
    rfl
section
variable {K : PySem.W.Frag} {σ : L2.St} {H : Hp} {te tl : TE} {a : Addr} {j : Nat} {vs : List Nat}
/-- [g(p) for f(p) in a list], the items told by p -/
theorem el_mapA {α : Type} {L : List α} {f : α → V} (d : α) (g : α → V) (h : Ev tl σ H (.ref a)) (hx : SqL K H a (L.map f)) (hz : L.length ≤ 40000) (hw : ∀ x, wipe ((wipe σ vs).set j (some x)) vs = wipe σ vs)
    (he : ∀ (p : α) H1, Ex H H1 → p ∈ L → Ev te ((wipe σ vs).set j (some (f p))) H1 (g p)) : EvL (tLc (iList K tl) (gName j) tYes te vs) σ H (L.map g) := by
  rw [← given_mapA L d g, show L.length = (L.map f).length from (List.length_map ..).symm]
  refine el_lcL (fun _ => true) _ h hx (by rw [List.length_map]; exact hz) hw (fun _ _ _ _ _ => et_yes) fun i x H1 e1 hi _ => ?_
  rw [List.getElem?_map] at hi
  obtain ⟨p, hp, rfl⟩ := Option.map_eq_some_iff.mp hi
  rw [List.getD_eq_getElem?_getD, hp]
  exact he p H1 e1 (List.mem_of_getElem? hp)
end
/-! ### each once, ascending -/
/-- nss: the same places as A, each once, ascending -/
def SS (nss A : List (List Int)) : Prop := nss.Pairwise (fun x y => YS.rk 40 x < YS.rk 40 y) ∧ ∀ x, x ∈ nss ↔ x ∈ A
theorem ss_uniq : ∀ {l m : List (List Int)}, l.Pairwise (fun x y => YS.rk 40 x < YS.rk 40 y) → m.Pairwise (fun x y => YS.rk 40 x < YS.rk 40 y) → (∀ x, x ∈ l ↔ x ∈ m) → l = m
  | [], [], _, _, _ => rfl
  | [], y :: m, _, _, h => absurd ((h y).mpr (List.mem_cons_self ..)) (by simp)
  | x :: l, [], _, _, h => absurd ((h x).mp (List.mem_cons_self ..)) (by simp)
  | x :: l, y :: m, hl, hm, h => by
    obtain ⟨l1, l2⟩ := List.pairwise_cons.mp hl
    obtain ⟨m1, m2⟩ := List.pairwise_cons.mp hm
    have e : x = y := by
      rcases List.mem_cons.mp ((h x).mp (List.mem_cons_self ..)) with e | hx
      · exact e
      · rcases List.mem_cons.mp ((h y).mpr (List.mem_cons_self ..)) with e | hy
        · exact e.symm
        · have := m1 x hx
          have := l1 y hy
          omega
    subst e
    have h2 : ∀ z, z ∈ l ↔ z ∈ m := fun z => by
      constructor
      · intro hz
        rcases List.mem_cons.mp ((h z).mp (List.mem_cons_of_mem _ hz)) with e | hz2
        · subst e
          have := l1 z hz
          omega
        · exact hz2
      · intro hz
        rcases List.mem_cons.mp ((h z).mpr (List.mem_cons_of_mem _ hz)) with e | hz2
        · subst e
          have := m1 z hz
          omega
        · exact hz2
    rw [ss_uniq l2 m2 h2]
theorem SS.eq {l m A B : List (List Int)} (h1 : SS l A) (h2 : SS m B) (e : ∀ x, x ∈ A ↔ x ∈ B) : l = m :=
  ss_uniq h1.1 h2.1 fun x => (h1.2 x).trans ((e x).trans (h2.2 x).symm)
/-- sorted, each once: strictly ascending -/
theorem strict_of {L : AL} (h4 : ∀ p, p ∈ L → Num4 p.2 ∧ p.2.length ≤ 40) (nd : (L.map (·.2)).Nodup) (pw : L.Pairwise (fun q r => YS.rk 40 q.2 ≤ YS.rk 40 r.2)) : (L.map (·.2)).Pairwise (fun x y => YS.rk 40 x < YS.rk 40 y) := by
  rw [List.pairwise_map]
  have nd2 := List.pairwise_map.mp nd
  refine List.Pairwise.imp_of_mem (fun {q r} hq hr h => ?_) (List.pairwise_and_iff.mpr ⟨pw, nd2⟩)
  rcases Int.lt_or_eq_of_le h.1 with c | c
  · exact c
  · exact absurd (YS.rk_inj 40 _ _ (h4 q hq).1 (h4 r hr).1 (h4 q hq).2 (h4 r hr).2 c) h.2
/-- what a loop keeps that puts each once, in the order of a sorted list -/
def once : List (List Int) → List (List Int) → List (List Int)
  | acc, [] => acc
  | acc, x :: r => if x ∈ acc then once acc r else once (acc ++ [x]) r
theorem once_mem : ∀ (r acc : List (List Int)) (x : List Int), x ∈ once acc r ↔ x ∈ acc ∨ x ∈ r
  | [], acc, x => by simp [once]
  | y :: r, acc, x => by
    rw [once]
    by_cases c : y ∈ acc
    · rw [if_pos c, once_mem r acc x, List.mem_cons]
      constructor
      · rintro (h | h)
        · exact .inl h
        · exact .inr (.inr h)
      · rintro (h | rfl | h)
        · exact .inl h
        · exact .inl c
        · exact .inr h
    · rw [if_neg c, once_mem r (acc ++ [y]) x, List.mem_append, List.mem_singleton, List.mem_cons, or_assoc]
theorem once_asc {f : List Int → Int} {G : List Int → Prop} (inj : ∀ x y, G x → G y → f x = f y → x = y) : ∀ (r acc : List (List Int)), (∀ x, x ∈ acc → G x) → (∀ x, x ∈ r → G x) → acc.Pairwise (fun x y => f x < f y) → (∀ x, x ∈ acc → ∀ y, y ∈ r → f x ≤ f y) → r.Pairwise (fun x y => f x ≤ f y) → (once acc r).Pairwise (fun x y => f x < f y)
  | [], acc, _, _, h, _, _ => h
  | y :: r, acc, ga, gr, h, k, pw => by
    have gr2 : ∀ x, x ∈ r → G x := fun x hx => gr x (List.mem_cons_of_mem _ hx)
    have gy := gr y (List.mem_cons_self ..)
    obtain ⟨p1, p2⟩ := List.pairwise_cons.mp pw
    rw [once]
    by_cases c : y ∈ acc
    · rw [if_pos c]
      exact once_asc inj r acc ga gr2 h (fun x hx z hz => k x hx z (List.mem_cons_of_mem _ hz)) p2
    · rw [if_neg c]
      refine once_asc inj r (acc ++ [y]) (fun x hx => (List.mem_append.mp hx).elim (ga x) fun e => (List.mem_singleton.mp e) ▸ gy) gr2 (List.pairwise_append.mpr ⟨h, List.pairwise_singleton .., fun x hx z hz => ?_⟩) (fun x hx z hz => ?_) p2
      · obtain rfl := List.mem_singleton.mp hz
        rcases Int.lt_or_eq_of_le (k x hx z (List.mem_cons_self ..)) with q | q
        · exact q
        · exact absurd (inj x z (ga x hx) gy q ▸ hx) c
      · rcases List.mem_append.mp hx with hx | hx
        · exact k x hx z (List.mem_cons_of_mem _ hz)
        · obtain rfl := List.mem_singleton.mp hx
          exact p1 z hz
/-! ### x in a list of places -/
theorem dp_plcs {K : PySem.W.Frag} {H : Hp} : ∀ {L : AL}, (∀ p, p ∈ L → SqT K H p.1 (p.2.map V.int)) → DpAll K H (refsL L) (L.map fun p => PyData.tuple (p.2.map PyData.int))
  | [], _ => .nil
  | p :: L, h => .cons (.tup (h p (List.mem_cons_self ..)) (dp_ints p.2)) (dp_plcs fun q m => h q (List.mem_cons_of_mem _ m))
theorem lay_plcs : ∀ L : AL, PyData.canLayAll0 (L.map fun p => PyData.tuple (p.2.map PyData.int)) = true ∧ PyData.depthAll (L.map fun p => PyData.tuple (p.2.map PyData.int)) ≤ 1
  | [] => ⟨by simp only [List.map_nil, PyData.canLayAll0], by simp only [List.map_nil, PyData.depthAll]; omega⟩
  | p :: L => by
    obtain ⟨h1, h2⟩ := lay_plcs L
    have h3 := lay_ints p.2
    refine ⟨?_, ?_⟩
    · simp only [List.map_cons, PyData.canLayAll0, PyData.canLay0, h1, h3.1, Bool.and_self]
    · simp only [List.map_cons, PyData.depthAll, PyData.depth, h3.2]
      omega
theorem shaped_plcs (L : AL) : SeqAt.shaped (.list (L.map fun p => PyData.tuple (p.2.map PyData.int))) = true := by
  unfold SeqAt.shaped
  obtain ⟨h1, h2⟩ := lay_plcs L
  rw [Bool.and_eq_true]
  exact ⟨by simp only [PyData.canLay0, h1], decide_eq_true (by simp only [PyData.depth]; omega)⟩
theorem rv_notIn {K : PySem.W.Frag} {H : Hp} {b l : Addr} {ns : List Int} {L : AL} (hb : SqT K H b (ns.map V.int)) (hl : SqL K H l (refsL L)) (hL : ∀ p, p ∈ L → SqT K H p.1 (p.2.map V.int)) : RV (rNotInD K) (.ref b) (.ref l) H (.bl (!decide (ns ∈ L.map (·.2)))) := fun H1 e Q q =>
  ⟨_, _, .tup (ex_t e hb) (dp_ints ns), .lst (ex_l e hl) (dp_plcs fun p m => ex_t e (hL p m)), shaped_tup ns, shaped_plcs L, by
    have z : ((L.map fun p => PyData.tuple (p.2.map PyData.int)).any fun z => PyData.eqv z (.tuple (ns.map PyData.int))) = decide (ns ∈ L.map (·.2)) := by
      rw [Bool.eq_iff_iff, List.any_map, List.any_eq_true, decide_eq_true_iff, List.mem_map]
      constructor
      · rintro ⟨p, hp, h⟩
        simp only [Function.comp, PyData.eqv, eqv_ints, decide_eq_true_iff] at h
        exact ⟨p, hp, h⟩
      · rintro ⟨p, hp, h⟩
        refine ⟨p, hp, ?_⟩
        simp only [Function.comp, PyData.eqv, eqv_ints, decide_eq_true_iff]
        exact h
    rw [z]
    exact q H1 (Ex.refl H1)⟩
/-! ### the text of a lot -/
def lotS (nss : List (List Int)) : Str := if nss = [] then Str.ofString "0" else Txt.join (Str.ofString "+") (nss.map dotsS)
theorem lcL_src {K : PySem.W.Frag} {σ : L2.St} {H : Hp} {tl te : TE} {g : TG} {tt : TT} {vs : List Nat} {Q : VK} (h : tl σ H fun v H' => ∃ t, v = .ref t ∧ tLc (iList K (tC (.ref t))) g tt te vs σ H' Q) : tLc (iList K tl) g tt te vs σ H Q := by
  have e : ∀ (c d : VK), (∀ v H', c v H' ↔ d v H') → tl σ H c → tl σ H d := fun c d k h => by
    have : c = d := funext fun v => funext fun H' => propext (k v H')
    rw [← this]
    exact h
  refine e _ _ (fun v H' => ⟨fun h => ?_, fun h => ?_⟩) h
  · obtain ⟨t, et, a, ea, h1, h2⟩ := h
    exact ⟨a, et.trans ea, h1, h2⟩
  · obtain ⟨a, ea, h1, h2⟩ := h
    exact ⟨a, ea, a, rfl, h1, h2⟩
section
variable {K : PySem.W.Frag} {σ : L2.St} {H : Hp} {te tu : TE} {D : Ends} {tz : TS} {i j : Nat}
theorem q_parLL {xs ys : List V} (h : EvL te σ H xs) (g : EvL tu σ H ys) (k : ∀ p r H1, H p = none → H r = none → p ≠ r → Ex H H1 → H1 p = some (.lst xs) → H1 r = some (.lst ys) → tz D ((σ.set i (some (.ref p))).set j (some (.ref r))) H1) : tSeq (tPar i j (tCons te (tCons tu tNil))) tz D σ H :=
  h H (Ex.refl H) _ fun p H1 hp e1 h1 => g H1 e1 _ fun r H2 hr e2 h2 => ⟨_, _, rfl, k p r H2 hp (fresh_back e1 hr) (fun e => by
    rw [← e, h1] at hr
    cases hr) (e1.trans e2) (e2 _ _ h1) h2⟩
/-- a = f(..), [] : the first told by a word -/
theorem q_parNL {P : Pd} {ys : List V} (h : EN te σ H P) (g : EvL tu σ H ys) (f : Fs P) (k : ∀ v r H1, H r = none → (∃ H2, Ex H H2 ∧ P H v H2 ∧ H2 r = none ∧ Ex H2 H1) → H1 r = some (.lst ys) → tz D ((σ.set i (some v)).set j (some (.ref r))) H1) : tSeq (tPar i j (tCons te (tCons tu tNil))) tz D σ H :=
  h H (Ex.refl H) _ fun v H1 e1 p => g H1 e1 _ fun r H2 hr e2 h2 => ⟨_, _, rfl, k v r H2 (fresh_back e1 hr) ⟨H1, e1, p, hr, e2⟩ h2⟩
theorem q_parNN {P P' : Pd} (h : EN te σ H P) (g : EN tu σ H P') (f : Fs P) (f2 : Fs P') (k : ∀ v u H1, Ex H H1 → P H v H1 → P' H u H1 → tz D ((σ.set i (some v)).set j (some u)) H1) : tSeq (tPar i j (tCons te (tCons tu tNil))) tz D σ H :=
  h H (Ex.refl H) _ fun v H1 e1 p => g H1 e1 _ fun u H2 e2 p2 => ⟨_, _, rfl, k v u H2 (e1.trans e2) (f.ex e2 p) (f2.back e1 p2)⟩
end
section
variable {K : PySem.W.Frag} {σ : L2.St} {H : Hp} {te tl : TE} {ta : TA} {tt : TT} {P : Pd} {a : Addr} {j : Nat} {vs : List Nat}
/-- [x for x in a list if ..], the test told by nothing -/
theorem en_some {xs : List V} (h : Ev tl σ H (.ref a)) (hx : SqL K H a xs) (hz : xs.length ≤ 40000) (hw : ∀ x, wipe ((wipe σ vs).set j (some x)) vs = wipe σ vs)
    (ht : ∀ (x : V) H1, Ex H H1 → EB tt ((wipe σ vs).set j (some x)) H1) (he : ∀ (x : V) H1, Ex H H1 → Ev te ((wipe σ vs).set j (some x)) H1 x) :
    ∀ H1, Ex H H1 → ∀ Q : VK, (∀ p ys H2, H1 p = none → Ex H1 H2 → H2 p = some (.lst ys) → (∀ y, y ∈ ys → y ∈ xs) → ys.length ≤ xs.length → Q (.ref p) H2) → tLc (iList K tl) (gName j) tt te vs σ H1 Q := fun H0 e Q q => h H0 e _ fun H1 e1 => ⟨a, rfl, ⟨xs, ex_l (e.trans e1) hx⟩, fun D hD => by
  refine lc_list (xs := xs) (fun i H' => Ex H1 H' ∧ ∃ ys, H' D = some (.lst ys) ∧ (∀ y, y ∈ ys → y ∈ xs) ∧ ys.length ≤ i) ⟨Ex.new hD, [], upd_same, (fun _ m => nomatch m), Nat.le_refl _⟩ (fun i H' _ p => ex_l ((e.trans e1).trans p.1) hx) (fun i x H' hi p => ⟨hw x, ?_⟩) fun H' p => ?_
  · obtain ⟨e2, ys, h2, h3, h4⟩ := p
    have hlt := (List.getElem?_eq_some_iff.mp hi).1
    refine ht x H' ((e.trans e1).trans e2) H' (Ex.refl H') _ fun b H3 e3 => ?_
    cases b with
    | true =>
      show te _ H3 _
      refine he x H3 (((e.trans e1).trans e2).trans e3) H3 (Ex.refl H3) _ fun H4 e4 => ⟨ys, e4 _ _ (e3 _ _ h2), sz_lt (by omega), Ex.mut ((e2.trans e3).trans e4) hD, ys ++ [x], upd_same, fun y hy => ?_, ?_⟩
      · rcases List.mem_append.mp hy with hy | hy
        · exact h3 y hy
        · rw [List.mem_singleton.mp hy]
          exact List.mem_of_getElem? hi
      · rw [List.length_append, List.length_singleton]
        omega
    | false =>
      show Ex H1 H3 ∧ _
      exact ⟨e2.trans e3, ys, e3 _ _ h2, h3, by omega⟩
  · obtain ⟨e2, ys, h2, h3, h4⟩ := p
    exact q D ys H' (fresh_back e1 hD) (e1.trans e2) h2 h3 h4⟩
/-- over range(n), n told by a word, 0 among them -/
theorem en_rngZ {m : Nat} (f : Fs P) (hz : m ≤ 40000) (ha : AN ta σ H (fun _ xs _ => ∃ n : Nat, n ≤ m ∧ xs = [.int (n : Int)])) (hw : ∀ x, wipe ((wipe σ vs).set j (some x)) vs = wipe σ vs)
    (he : ∀ (k : Nat) H1, Ex H H1 → k < m → EN te ((wipe σ vs).set j (some (.int (k : Int)))) H1 P) : EN (tLc (iRng1 ta) (gName j) tYes te vs) σ H (fun H0 v H' => ∃ n, n ≤ m ∧ PL (List.replicate n P) H0 v H') := fun H1 e Q q => ha H1 e _ fun us H2 e2 h => by
  obtain ⟨n, n2, rfl⟩ := h
  refine ⟨(n : Int), rfl, by omega, by omega, fun D hD => ?_⟩
  show ∃ W : Nat → Nat → Hp → Prop, _
  refine lc_all f (walk_range (lo := 0) (n := n)) (by omega) hD (fun _ _ => trivial) (fun k x H3 H4 hk e3 y Q q => ?_) fun H' zs e3 h3 h4 => ?_
  · obtain ⟨rfl, rfl⟩ := y
    show Q ((wipe σ vs).set j (some (.int ((0 : Int) + (k : Int))))) H4
    rw [Int.zero_add]
    exact q _ _ (hw _) (Ex.refl _) (he k _ ((e.trans e2).trans e3) (by omega))
  · exact q _ _ (e2.trans e3) ⟨n, n2, D, zs, rfl, fresh_back e2 hD, h3, h4.to fun P' m v x => by
      obtain rfl := List.eq_of_mem_replicate m
      exact f.back e2 x⟩
theorem each_num {H0 H : Hp} : ∀ {n : Nat} {xs : List V}, Each H0 H (List.replicate n (fun _ v _ => ∃ n : Int, v = .int n ∧ 1 ≤ n ∧ n ≤ 4)) xs → ∃ ns : List Int, xs = ns.map V.int ∧ ns.length = n ∧ Num4 ns
  | 0, [], _ => ⟨[], rfl, rfl, fun _ m => nomatch m⟩
  | n + 1, x :: xs, h => by
    obtain ⟨⟨i, e, i1, i2⟩, h2⟩ := (show (∃ n : Int, x = .int n ∧ 1 ≤ n ∧ n ≤ 4) ∧ Each H0 H (List.replicate n (fun _ v _ => ∃ n : Int, v = .int n ∧ 1 ≤ n ∧ n ≤ 4)) xs from h)
    obtain ⟨ns, e2, hl, h4⟩ := each_num h2
    exact ⟨i :: ns, by rw [e, e2]; rfl, by rw [List.length_cons, hl], fun m hm => by
      rcases List.mem_cons.mp hm with rfl | hm
      · exact ⟨i1, i2⟩
      · exact h4 m hm⟩
end
section
variable {K : PySem.W.Frag} {σ : L2.St} {H : Hp} {te : TE}
/-- a new list of which a word is known; the tuple of it -/
def PLG (G : List V → Prop) : Pd := fun H0 v H => ∃ p xs, v = .ref p ∧ H0 p = none ∧ H p = some (.lst xs) ∧ G xs
def PTG (G : List V → Prop) : Pd := fun H0 v H => ∃ p xs, v = .ref p ∧ H0 p = none ∧ H p = some (.tup xs) ∧ G xs
theorem en_tupG {G : List V → Prop} (h : EN te σ H (PLG G)) : EN (tCB (fun us H Q => ∃ p ys, us = [V.ref p] ∧ ((SqL K H p ys ∧ ∀ l, H l = none → Q (.ref l) (upd H l (.tup ys))) ∨ (SqT K H p ys ∧ Q (.ref p) H))) (tCons te tNil)) σ H (PTG G) := fun H1 e Q q =>
  h H1 e _ fun v H2 e2 p => by
    obtain ⟨l, xs, rfl, h0, hl, g⟩ := p
    exact ⟨l, xs, rfl, .inl ⟨sq_of hl, fun r hr => q _ _ (e2.trans (Ex.new hr)) ⟨r, xs, rfl, fresh_back e2 hr, upd_same, g⟩⟩⟩
end
section
variable {σ : L2.St} {H : Hp} {te tu : TE}
theorem en_opI {i : Int} {g : Int → Int → V} {C : Int → Prop} (h : Ev te σ H (.int i)) (hu : EN tu σ H (fun _ v _ => ∃ r : Int, v = .int r ∧ C r)) : EN (tOp (rI0 g) te tu) σ H (fun _ v _ => ∃ r : Int, v = g i r ∧ C r) := fun H1 e Q q =>
  h H1 e _ fun H2 e2 => hu H2 (e.trans e2) _ fun v H3 e3 p => by
    obtain ⟨r, rfl, c⟩ := p
    exact ⟨i, r, rfl, rfl, q _ H3 (e2.trans e3) ⟨r, rfl, c⟩⟩
end
end XV

/-! texts and tuples of which words are known -/
namespace XV
open PySem PySem.Spec PyProof.Rows L2 Evl
section
variable {K : PySem.W.Frag} {σ : L2.St} {H H0 : Hp} {te tu : TE} {ta : TA} {tl th : TO} {D : Ends} {tz tb : TS} {P : Pd}
theorem s_asgN {i : Nat} (h : EN te σ H P) (k : ∀ v H1, Ex H H1 → P H v H1 → D.nx (σ.set i (some v)) H1) : tAsg te (gName i) D σ H := h H (Ex.refl H) _ fun v H1 e p => k v H1 e p
theorem ez_ev {z : Str} {n : Nat} (h : Ev te σ H (.str z)) (hz : z.length ≤ n) : EN te σ H (PZ n) := en_is h fun _ _ _ _ => ⟨z, rfl, hz⟩
theorem cat_len (a b : Str) : (a ++ b).length = a.length + b.length := by
  rw [← SX.S_tl a, ← SX.S_tl b, SX.S_cat, SX.S_len, SX.S_len, SX.S_len, List.length_append]
theorem ez_add {a b n : Nat} (h : EN te σ H (PZ a)) (g : EN tu σ H (PZ b)) (hn : a + b ≤ n) (hz : n ≤ 100000) : EN (tOp (fun x y H Q => ∃ i j : Str, x = .str i ∧ y = .str j ∧ i.length + j.length ≤ sizeLine ∧ Q (.str (i ++ j)) H) te tu) σ H (PZ n) := fun H1 e Q q =>
  h H1 e _ fun v H2 e2 p => g H2 (e.trans e2) _ fun u H3 e3 r => by
    obtain ⟨y, rfl, hy⟩ := p
    obtain ⟨z, rfl, hz⟩ := r
    exact ⟨y, z, rfl, rfl, sz_of (by omega), q _ H3 (e2.trans e3) ⟨_, rfl, by rw [cat_len]; omega⟩⟩
/-- a bound of which nothing is known -/
def EOA (to : TO) (σ : L2.St) (H : Hp) : Prop := ∀ H1, Ex H H1 → ∀ Q : Option Int → Hp → Prop, (∀ o H2, Ex H1 H2 → Q o H2) → to σ H1 Q
theorem eoa_ev {o : Option Int} (h : EvO tl σ H o) : EOA tl σ H := fun H1 e Q q => h H1 e Q fun H2 e2 => q o H2 e2
theorem eoa_some (h : EN te σ H (fun _ v _ => ∃ r : Int, v = .int r)) : EOA (tPart te) σ H := fun H1 e Q q => h H1 e _ fun v H2 e2 p => by
  obtain ⟨r, rfl⟩ := p
  exact ⟨r, rfl, q _ H2 e2⟩
theorem ez_sl {z : Str} (h : Ev te σ H (.str z)) (h1 : EOA tl σ H) (h2 : EOA th σ H) (hz : z.length ≤ 100000) : EN (tSl rSlS te tl th) σ H (PZ z.length) := fun H1 e Q q =>
  h H1 e _ fun H2 e2 => h1 H2 (e.trans e2) _ fun o1 H3 e3 => h2 H3 ((e.trans e2).trans e3) _ fun o2 H4 e4 => ⟨z, rfl, sz_of hz, q _ H4 ((e2.trans e3).trans e4) ⟨_, rfl, cutS_length z _ _⟩⟩
theorem ez_c1 (h : EN te σ H PC1) : EN te σ H (PZ 1) := h.to fun _ v _ _ _ ⟨c, e⟩ => ⟨⟨#[c]⟩, e, Nat.le_refl _⟩
theorem ez_up {n m : Nat} (h : EN te σ H (PZ n)) (hn : n ≤ m) : EN te σ H (PZ m) := h.to fun _ v _ _ _ ⟨z, e, hz⟩ => ⟨z, e, by omega⟩
/-- "".join of drawn signs -/
theorem ez_join {m : Nat} (hm : m ≤ 1000) (h : EN te σ H (fun H0 v H' => ∃ n, n ≤ m ∧ PL (List.replicate n PC1) H0 v H')) :
    EN (tM1 (fun x xs H Q => ∃ a p, ∃ ys : List Str, x = .str a ∧ xs = [.ref p] ∧ (SqL K H p (ys.map V.str) ∨ SqT K H p (ys.map V.str)) ∧ (ys.map (·.length)).sum + ys.length * a.length ≤ 16777216 ∧ Q (.str (Txt.join a ys)) H) (tC (.str "")) te) σ H (PZ m) := fun H1 e Q q =>
  ⟨⟨_, rfl⟩, h H1 e _ fun v H2 e2 p => by
    obtain ⟨n, n2, l, xs, rfl, _, hl, hE⟩ := p
    obtain ⟨ys, rfl, hy, h1⟩ := each_z hE
    refine ⟨_, l, ys, rfl, rfl, .inl (sq_of hl), ?_, q _ H2 e2 ⟨_, rfl, ?_⟩⟩
    · rw [sum_ones h1, show (Str.ofString "").length = 0 by decide]
      omega
    · rw [PySem.W.KT.join_ones ys h1]
      omega⟩
/-- a call whose second argument is told by a word -/
theorem en_call2 {sp : Sp} {E : XK} {x : V} {P2 : Pd} (f : Fs P2) (h : Ev te σ H x) (g : EN tu σ H P) (k : ∀ v H0 H', Ex H H0 → P H0 v H' → Ex H0 H' → SpN sp [x, v] H' P2) : EN (tCall sp [] E (tCons te (tCons tu tNil))) σ H P2 := fun H1 e Q q =>
  h H1 e _ fun H2 e2 => g H2 (e.trans e2) _ fun v H3 e3 p => k v H2 H3 (e.trans e2) p e3 H3 (Ex.refl H3) Q (fun u H4 e4 p4 => q u H4 ((e2.trans e3).trans e4) (f.back (e2.trans e3) p4)) E
theorem en_call1 {sp : Sp} {E : XK} {P2 : Pd} (f : Fs P2) (g : EN tu σ H P) (k : ∀ v H0 H', Ex H H0 → P H0 v H' → Ex H0 H' → SpN sp [v] H' P2) : EN (tCall sp [] E (tCons tu tNil)) σ H P2 := fun H1 e Q q =>
  g H1 e _ fun v H3 e3 p => k v H1 H3 e p e3 H3 (Ex.refl H3) Q (fun u H4 e4 p4 => q u H4 (e3.trans e4) (f.back e3 p4)) E
theorem en_sp {sp : Sp} {E : XK} {vs : List V} {P2 : Pd} (h : EvA ta σ H vs) (f : Fs P2) (k : ∀ H', Ex H H' → SpN sp vs H' P2) : EN (tCall sp [] E ta) σ H P2 := fun H1 e Q q =>
  h H1 e _ fun H2 e2 => by
    have g := k H2 (e.trans e2) H2 (Ex.refl H2) Q (fun u H4 e4 p4 => q u H4 (e2.trans e4) (f.back e2 p4)) E
    rw [← List.append_nil vs] at g
    exact g
/-! ### anchored: new since H0 -/
/-- a tuple of these, new since H0 -/
def EvN (H0 : Hp) (te : TE) (σ : L2.St) (H : Hp) (xs : List V) : Prop := ∀ H1, Ex H H1 → ∀ Q : VK, (∀ p H2, Ex H1 H2 → H0 p = none → H2 p = some (.tup xs) → Q (.ref p) H2) → te σ H1 Q
theorem ev0_of {p : Addr} {xs : List V} (h : Ev te σ H (.ref p)) (h0 : H0 p = none) (hx : H p = some (.tup xs)) : EvN H0 te σ H xs := fun H1 e Q q => h H1 e _ fun H2 e2 => q p H2 e2 h0 ((e.trans e2) _ _ hx)
theorem ev0_u {xs : List V} (e0 : Ex H0 H) (h : EvU te σ H xs) : EvN H0 te σ H xs := fun H1 e Q q => h H1 e _ fun p H2 hp e2 h2 => q p H2 e2 (fresh_back (e0.trans e) hp) h2
theorem ev0_sl {xs : List V} {lo hi : Option Int} (e0 : Ex H0 H) (h : EvN H0 te σ H xs) (h1 : EvO tl σ H lo) (h2 : EvO th σ H hi) : EvN H0 (tSl (rSlA K) te tl th) σ H (cutV xs lo hi) := fun H1 e Q q =>
  h H1 e _ fun p H2 e2 h0 hp => h1 H2 (e.trans e2) _ fun H3 e3 => h2 H3 ((e.trans e2).trans e3) _ fun H4 e4 => ⟨p, xs, rfl, st_of ((e3.trans e4) _ _ hp),
    (fun hw => q p H4 ((e2.trans e3).trans e4) h0 (by rw [cut_whole hw]; exact (e3.trans e4) _ _ hp)), fun _ r hr => q r _ (((e2.trans e3).trans e4).trans (Ex.new hr)) (fresh_back (e0.trans (e.trans ((e2.trans e3).trans e4))) hr) upd_same⟩
theorem ev0_cat {xs ys : List V} (e0 : Ex H0 H) (h : EvN H0 te σ H xs) (g : EvN H0 tu σ H ys) (hz : xs.length + ys.length ≤ 100000) : EvN H0 (tOp (rCatA K) te tu) σ H (xs ++ ys) := fun H1 e Q q =>
  h H1 e _ fun p H2 e2 p0 hp => g H2 (e.trans e2) _ fun r H3 e3 r0 hr => ⟨p, r, xs, ys, rfl, rfl, st_of (e3 _ _ hp), st_of hr, sz_of hz, (fun hx => q r H3 (e2.trans e3) r0 (by rw [hx]; exact hr)), (fun _ hy => q p H3 (e2.trans e3) p0 (by rw [hy, List.append_nil]; exact e3 _ _ hp)),
    fun _ _ u hu => q u _ ((e2.trans e3).trans (Ex.new hu)) (fresh_back (e0.trans (e.trans (e2.trans e3))) hu) upd_same⟩
/-- any value, new since H0 -/
def EG (K : PySem.W.Frag) (n : Nat) (H0 : Hp) (te : TE) (σ : L2.St) (H : Hp) : Prop := ∀ H1, Ex H H1 → ∀ Q : VK, (∀ v H2, Ex H1 H2 → GV K H0 H2 n v → Q v H2) → te σ H1 Q
def AGA (K : PySem.W.Frag) (n k : Nat) (H0 : Hp) (ta : TA) (σ : L2.St) (H : Hp) : Prop := ∀ H1, Ex H H1 → ∀ Q : List V → Hp → Prop, (∀ vs H2, Ex H1 H2 → (vs.length = k ∧ ∀ v, v ∈ vs → GV K H0 H2 n v) → Q vs H2) → ta σ H1 Q
theorem eg_en {n : Nat} (e0 : Ex H0 H) (h : EN te σ H (PG K n)) : EG K n H0 te σ H := fun H1 e Q q => h H1 e Q fun v H2 e2 p => q v H2 e2 (fs_g.back (e0.trans e) p)
theorem eg_ev {n : Nat} {v : V} (h : Ev te σ H v) (hv : GV K H0 H n v) : EG K n H0 te σ H := fun H1 e Q q => h H1 e Q fun H2 e2 => q v H2 e2 (fs_g.ex (e.trans e2) hv)
theorem eg_n {n : Nat} {xs : List V} (h : EvN H0 te σ H xs) (hz : xs.length ≤ 1000) (hx : ∀ v, v ∈ xs → GV K H0 H n v) : EG K (n + 1) H0 te σ H := fun H1 e Q q => h H1 e Q fun p H2 e2 p0 hp => q _ H2 e2 (.tup n p0 hp hz fun v m => fs_g.ex (e.trans e2) (hx v m))
theorem aga_nil {n : Nat} : AGA K n 0 H0 tNil σ H := fun H1 e Q q => q [] H1 (Ex.refl H1) ⟨rfl, fun _ m => nomatch m⟩
theorem aga_cons {n k : Nat} (h : EG K n H0 te σ H) (hr : AGA K n k H0 ta σ H) : AGA K n (k + 1) H0 (tCons te ta) σ H := fun H1 e Q q =>
  h H1 e _ fun v H2 e2 p => hr H2 (e.trans e2) _ fun vs H3 e3 r => q (v :: vs) H3 (e2.trans e3) ⟨by rw [List.length_cons, r.1], fun u m => by
    rcases List.mem_cons.mp m with m | m
    · exact m ▸ fs_g.ex e3 p
    · exact r.2 u m⟩
theorem eg_of {E : XK} {B : Addr} {n k : Nat} (hb : Bag H B) (h : Ev te σ H (.ref B)) (h2 : AGA K n k H0 ta σ H) (n1 : 1 ≤ k) (n2 : k ≤ 100000) : EG K n H0 (tCall (spOf K) [] E (tCons te (tCons (tLst ta) tNil))) σ H := fun H1 e Q q =>
  h H1 e _ fun H2 e2 => h2 H2 (e.trans e2) _ fun vs H3 e3 r => ⟨sz_of (by omega), fun p hp => ⟨B, _, rfl, hb.mono (((e.trans e2).trans e3).trans (Ex.new hp)), .inl ⟨p, vs, rfl, sq_of upd_same, by omega, by omega, fun v m =>
    q v _ ((e2.trans e3).trans (Ex.new hp)) (fs_g.ex (Ex.new hp) (r.2 v m))⟩⟩⟩
end
end XV

/-! drawn from a list whose items keep one word -/
namespace XV
open PySem PySem.Spec PyProof.Rows L2 Evl
section
variable {K : PySem.W.Frag} {σ : L2.St} {H H0 : Hp} {te tu : TE} {ta : TA} {P : Pd}
def AQ (P : Pd) (k : Nat) (ta : TA) (σ : L2.St) (H : Hp) : Prop := AN ta σ H (fun H0 vs H' => vs.length = k ∧ ∀ v, v ∈ vs → P H0 v H')
theorem aq_nil : AQ P 0 tNil σ H := fun H1 e Q q => q [] H1 (Ex.refl H1) ⟨rfl, fun _ m => nomatch m⟩
theorem aq_cons {k : Nat} (f : Fs P) (h : EN te σ H P) (hr : AQ P k ta σ H) : AQ P (k + 1) (tCons te ta) σ H := fun H1 e Q q =>
  h H1 e _ fun v H2 e2 p => hr H2 (e.trans e2) _ fun vs H3 e3 r => q (v :: vs) H3 (e2.trans e3) ⟨by rw [List.length_cons, r.1], fun u m => by
    rcases List.mem_cons.mp m with m | m
    · exact m ▸ f.ex e3 p
    · exact f.back e2 (r.2 u m)⟩
theorem en_ofQ {E : XK} {B : Addr} {k : Nat} (f : Fs P) (hb : Bag H B) (h : Ev te σ H (.ref B)) (h2 : AQ P k ta σ H) (n1 : 1 ≤ k) (n2 : k ≤ 100000) : EN (tCall (spOf K) [] E (tCons te (tCons (tLst ta) tNil))) σ H P := fun H1 e Q q =>
  h H1 e _ fun H2 e2 => h2 H2 (e.trans e2) _ fun vs H3 e3 r => ⟨sz_of (by omega), fun p hp => ⟨B, _, rfl, hb.mono (((e.trans e2).trans e3).trans (Ex.new hp)), .inl ⟨p, vs, rfl, sq_of upd_same, by omega, by omega, fun v m =>
    q v _ ((e2.trans e3).trans (Ex.new hp)) (f.ex (Ex.new hp) (f.back e2 (r.2 v m)))⟩⟩⟩
theorem s_retG {n : Nat} {D : Ends} (h : EG K n H0 te σ H) (k : ∀ v H1, Ex H H1 → GV K H0 H1 n v → D.rt v H1) : tRet te D σ H := h H (Ex.refl H) _ k
theorem el_listT {p : Addr} {xs : List V} (ha : Ev te σ H (.ref p)) (h : SqT K H p xs) : EvL (tCB (rListS K) (tCons te tNil)) σ H xs := fun H1 e Q q =>
  ha H1 e _ fun H2 e2 => ⟨p, xs, rfl, Or.inr (ex_t (e.trans e2) h), fun l hl => q l _ (fresh_back e2 hl) (e2.trans (Ex.new hl)) upd_same⟩
/-- a text that is not empty -/
def PZ1 (n : Nat) : Pd := fun _ v _ => ∃ z : Str, v = .str z ∧ 1 ≤ z.length ∧ z.length ≤ n
theorem fs_z1 {n : Nat} : Fs (PZ1 n) := ⟨fun _ h => h, fun _ h => h⟩
/-- a number below a bound -/
theorem an_one {top : Int} {m : Nat} (h : EN te σ H (PR top)) (hm : top ≤ (m : Int) + 1) : AN (tCons te tNil) σ H (fun _ xs _ => ∃ n : Nat, n ≤ m ∧ xs = [.int (n : Int)]) := fun H1 e Q q =>
  h H1 e _ fun v H2 e2 p => by
    obtain ⟨r, rfl, r0, r1⟩ := p
    exact q _ H2 e2 ⟨r.toNat, by omega, by rw [Int.toNat_of_nonneg r0]⟩
end
end XV

/-! values and lists of which only a word is known, told over any heap that follows -/
namespace XV
open PySem PySem.Spec PyProof.Rows L2 Evl
def Mo {α : Type} (P : α → Hp → Prop) : Prop := ∀ v H H', Ex H H' → P v H → P v H'
def VM (te : TE) (σ : L2.St) (H : Hp) (P : V → Hp → Prop) : Prop := ∀ H1, Ex H H1 → ∀ Q : VK, (∀ v H2, Ex H1 H2 → P v H2 → Q v H2) → te σ H1 Q
def AY (ta : TA) (σ : L2.St) (H : Hp) (R : List V → Hp → Prop) : Prop := ∀ H1, Ex H H1 → ∀ Q : List V → Hp → Prop, (∀ vs H2, Ex H1 H2 → R vs H2 → Q vs H2) → ta σ H1 Q
def LY (te : TE) (σ : L2.St) (H : Hp) (R : List V → Hp → Prop) : Prop := ∀ H1, Ex H H1 → ∀ Q : VK, (∀ l xs H2, Ex H1 H2 → H2 l = some (.lst xs) → R xs H2 → Q (.ref l) H2) → te σ H1 Q
/-- so many, each of this kind -/
def Many (P : V → Hp → Prop) (k : Nat) : List V → Hp → Prop := fun xs H => xs.length ≤ k ∧ ∀ x, x ∈ xs → P x H
theorem mo_many {P : V → Hp → Prop} (mo : Mo P) {k : Nat} : Mo (Many P k) := fun _ H H' e h => ⟨h.1, fun x m => mo x H H' e (h.2 x m)⟩
section
variable {K : PySem.W.Frag} {σ : L2.St} {H H0 : Hp} {te tu tl tr : TE} {ta : TA} {t : TT} {tb tz : TS} {D : Ends} {P : V → Hp → Prop} {R R' : List V → Hp → Prop} {P' : Pd}
theorem vm_ev {v : V} (h : Ev te σ H v) (k : ∀ H', Ex H H' → P v H') : VM te σ H P := fun H1 e Q q => h H1 e _ fun H2 e2 => q v H2 e2 (k H2 (e.trans e2))
theorem vm_en (h : EN te σ H P') (k : ∀ v H1 H2, Ex H H1 → Ex H1 H2 → P' H1 v H2 → P v H2) : VM te σ H P := fun H1 e Q q => h H1 e _ fun v H2 e2 p => q v H2 e2 (k v H1 H2 e e2 p)
theorem vm_to {P2 : V → Hp → Prop} (h : VM te σ H P) (k : ∀ v H2, Ex H H2 → P v H2 → P2 v H2) : VM te σ H P2 := fun H1 e Q q => h H1 e _ fun v H2 e2 p => q v H2 e2 (k v H2 (e.trans e2) p)
theorem vm_g {n : Nat} (e0 : Ex H0 H) (h : EN te σ H (PG K n)) : VM te σ H (fun v H' => GV K H0 H' n v) := vm_en h fun v H1 H2 e1 e2 p => fs_g.back (e0.trans e1) p
theorem mo_g {n : Nat} : Mo (fun v H' => GV K H0 H' n v) := fun _ _ _ e h => fs_g.ex e h
theorem ay_nil : AY tNil σ H (fun vs _ => vs = []) := fun H1 _ Q q => q [] H1 (Ex.refl H1) rfl
theorem ay_cons (mo : Mo P) (h : VM te σ H P) (r : AY ta σ H R) : AY (tCons te ta) σ H (fun vs H' => ∃ v us, vs = v :: us ∧ P v H' ∧ R us H') := fun H1 e Q q =>
  h H1 e _ fun v H2 e2 p => r H2 (e.trans e2) _ fun us H3 e3 r3 => q (v :: us) H3 (e2.trans e3) ⟨v, us, rfl, mo v H2 H3 e3 p, r3⟩
theorem am_nil : AY tNil σ H (Many P 0) := fun H1 _ Q q => q [] H1 (Ex.refl H1) ⟨Nat.le_refl _, fun _ m => nomatch m⟩
theorem am_cons {k : Nat} (mo : Mo P) (h : VM te σ H P) (r : AY ta σ H (Many P k)) : AY (tCons te ta) σ H (Many P (k + 1)) := fun H1 e Q q =>
  h H1 e _ fun v H2 e2 p => r H2 (e.trans e2) _ fun us H3 e3 r3 => q (v :: us) H3 (e2.trans e3) ⟨Nat.succ_le_succ r3.1, fun x m => by
    rcases List.mem_cons.mp m with m | m
    · exact m ▸ mo v H2 H3 e3 p
    · exact r3.2 x m⟩
theorem lx_lst (h : AY ta σ H R) (mo : Mo R) (hz : ∀ xs H', R xs H' → xs.length ≤ 100000) : LY (tLst ta) σ H R := fun H1 e Q q =>
  h H1 e _ fun vs H2 e2 r => ⟨sz_of (hz vs H2 r), fun p hp => q p vs _ (e2.trans (Ex.new hp)) upd_same (mo vs _ _ (Ex.new hp) r)⟩
theorem lx_many {k : Nat} (h : AY ta σ H (Many P k)) (mo : Mo P) (hz : k ≤ 100000) : LY (tLst ta) σ H (Many P k) := lx_lst h (mo_many mo) fun _ _ r => Nat.le_trans r.1 hz
theorem lx_PL {n : Nat} (h : EN te σ H (PL (List.replicate n P'))) (k : ∀ v H1 H2, Ex H H1 → Ex H1 H2 → P' H1 v H2 → P v H2) : LY te σ H (Many P n) := fun H1 e Q q =>
  h H1 e _ fun v H2 e2 p => by
    obtain ⟨l, xs, rfl, _, hl, hE⟩ := p
    exact q l xs H2 e2 hl ⟨by rw [hE.len, List.length_replicate]; exact Nat.le_refl _, fun x m => k x H1 H2 e e2 (hE.all x m)⟩
theorem lx_cat {a b : Nat} (mo : Mo P) (h : LY te σ H (Many P a)) (g : LY tu σ H (Many P b)) (hz : a + b ≤ 100000) : LY (tOp rCat te tu) σ H (Many P (a + b)) := fun H1 e Q q =>
  h H1 e _ fun l xs H2 e2 hl r => g H2 (e.trans e2) _ fun m ys H3 e3 hm s => ⟨l, m, xs, ys, rfl, rfl, e3 _ _ hl, hm, sz_of (by have := r.1; have := s.1; omega), fun p hp =>
    q p (xs ++ ys) _ ((e2.trans e3).trans (Ex.new hp)) upd_same ⟨by rw [List.length_append]; have := r.1; have := s.1; omega, fun x mx => by
      rcases List.mem_append.mp mx with mx | mx
      · exact mo x _ _ (e3.trans (Ex.new hp)) (r.2 x mx)
      · exact mo x _ _ (Ex.new hp) (s.2 x mx)⟩⟩
/-- a loop over such a list, whose body changes nothing that is there -/
theorem q_forM {g : TG} {m : Nat} (h : LY tl σ H (Many P m)) (mo : Mo P) (J : L2.St → Prop) (h0 : J σ)
    (hs : ∀ H1, Ex H H1 → ∀ x σ' H', Ex H1 H' → P x H' → J σ' → g x σ' H' fun σ2 H2 => tb { D with nx := fun σ3 H3 => Ex H1 H3 ∧ J σ3, ct := fun σ3 H3 => Ex H1 H3 ∧ J σ3, bk := tz D } σ2 H2)
    (hd : ∀ σ' H', Ex H H' → J σ' → tz D σ' H') : tSeq (tFor (iList K tl) g tb) tz D σ H := h H (Ex.refl H) _ fun l xs H1 e hl r =>
  ⟨l, rfl, ⟨xs, sq_of hl⟩, for_list (fun _ σ' H' => Ex H1 H' ∧ J σ') ⟨Ex.refl H1, h0⟩ (fun i σ' H' _ p => sq_of (p.1 l _ hl)) (fun i x σ' H' hx p => hs H1 e x σ' H' p.1 (mo x H1 H' p.1 (r.2 x (List.mem_of_getElem? hx))) p.2) (fun σ' H' p => hd σ' H' (e.trans p.1) p.2)⟩
theorem q_asgM {i : Nat} (h : VM te σ H P) (k : ∀ v H1, Ex H H1 → P v H1 → tz D (σ.set i (some v)) H1) : tSeq (tAsg te (gName i)) tz D σ H := h H (Ex.refl H) _ fun v H1 e p => k v H1 e p
theorem q_asgY {i : Nat} (h : LY te σ H R) (k : ∀ l xs H1, Ex H H1 → H1 l = some (.lst xs) → R xs H1 → tz D (σ.set i (some (.ref l))) H1) : tSeq (tAsg te (gName i)) tz D σ H := h H (Ex.refl H) _ fun l xs H1 e hl r => k l xs H1 e hl r
/-! ### what is told -/
inductive Dat | v (x : V) | t (ns : List Int)
def Pn (x : V) : Prop := x = .non ∨ (∃ b, x = .bl b) ∨ (∃ i, x = .int i) ∨ ∃ z : Str, x = .str z ∧ z.length ≤ 100000
def Tl (K : PySem.W.Frag) : Dat → V → Hp → Prop
  | .v x, y, _ => y = x ∧ Pn x
  | .t ns, y, H => ∃ p, y = .ref p ∧ SqT K H p (ns.map V.int) ∧ ns.length ≤ 40000
theorem mo_tl {d : Dat} : Mo (Tl K d) := fun y H H' e h => match d, h with
  | .v x, h => h
  | .t ns, ⟨p, e1, h1, h2⟩ => ⟨p, e1, ex_t e h1, h2⟩
theorem tl_sm {d : Dat} {x y : V} (h : Tl K d x H) (g : Tl K d y H) : SM K H 4 x y := by
  match d, h, g with
  | .v z, h, g =>
    obtain ⟨e1, p⟩ := (show x = z ∧ Pn z from h)
    obtain ⟨e2, _⟩ := (show y = z ∧ Pn z from g)
    rw [e1, e2]
    rcases p with rfl | ⟨b, rfl⟩ | ⟨i, rfl⟩ | ⟨s, rfl, hs⟩
    · exact .non 4
    · exact .bl 4 b
    · exact .int 4 i
    · exact .str 4 s hs
  | .t ns, h, g =>
    obtain ⟨p, rfl, h1, h2⟩ := (show ∃ p, x = .ref p ∧ SqT K H p (ns.map V.int) ∧ ns.length ≤ 40000 from h)
    obtain ⟨r, rfl, g1, _⟩ := (show ∃ p, y = .ref p ∧ SqT K H p (ns.map V.int) ∧ ns.length ≤ 40000 from g)
    refine .tup 3 h1 g1 rfl (by rw [List.length_map]; exact h2) fun i a b ha hb => ?_
    rw [ha] at hb
    obtain rfl := Option.some.inj hb
    obtain ⟨n, _, rfl⟩ := List.mem_map.mp (List.mem_of_getElem? ha)
    exact .int 3 n
def Tells (K : PySem.W.Frag) : List Dat → List V → Hp → Prop
  | [], [], _ => True
  | d :: ds, v :: vs, H => Tl K d v H ∧ Tells K ds vs H
  | _, _, _ => False
theorem tells_len : ∀ {ds : List Dat} {vs : List V}, Tells K ds vs H → vs.length = ds.length
  | [], [], _ => rfl
  | _ :: ds, _ :: vs, h => by rw [List.length_cons, List.length_cons, tells_len h.2]
theorem mo_tells : ∀ {ds : List Dat}, Mo (Tells K ds) := fun {ds} vs H H' e h => by
  induction ds generalizing vs with
  | nil => match vs, h with
    | [], h => exact h
  | cons d ds ih => match vs, h with
    | v :: vs, h => exact ⟨mo_tl v H H' e h.1, ih vs h.2⟩
theorem tells_sm : ∀ {ds : List Dat} {vs ws : List V}, Tells K ds vs H → Tells K ds ws H → ∀ (i : Nat) (x y : V), vs[i]? = some x → ws[i]? = some y → SM K H 4 x y
  | [], [], [], _, _, i, x, y, hx, _ => by simp at hx
  | _ :: ds, v :: vs, w :: ws, h, g, 0, x, y, hx, hy => by
    obtain rfl := Option.some.inj hx
    obtain rfl := Option.some.inj hy
    exact tl_sm h.1 g.1
  | _ :: ds, v :: vs, w :: ws, h, g, i + 1, x, y, hx, hy => tells_sm h.2 g.2 i x y hx hy
theorem tells_app : ∀ {ds es : List Dat} {vs ws : List V}, Tells K ds vs H → Tells K es ws H → Tells K (ds ++ es) (vs ++ ws) H
  | [], _, [], _, _, g => g
  | _ :: ds, _, v :: vs, _, h, g => ⟨h.1, tells_app h.2 g⟩
theorem ad_nil : AY tNil σ H (Tells K []) := fun H1 _ Q q => q [] H1 (Ex.refl H1) trivial
theorem ad_cons {d : Dat} {ds : List Dat} (h : VM te σ H (Tl K d)) (r : AY ta σ H (Tells K ds)) : AY (tCons te ta) σ H (Tells K (d :: ds)) := fun H1 e Q q =>
  h H1 e _ fun v H2 e2 p => r H2 (e.trans e2) _ fun us H3 e3 r3 => q (v :: us) H3 (e2.trans e3) ⟨mo_tl v H2 H3 e3 p, r3⟩
theorem ld_lst {ds : List Dat} (h : AY ta σ H (Tells K ds)) (hz : ds.length ≤ 100000) : LY (tLst ta) σ H (Tells K ds) := lx_lst h mo_tells fun _ _ r => by rw [tells_len r]; exact hz
theorem ld_rep {ds : List Dat} (h : LY te σ H (Tells K ds)) (g : Ev tu σ H (.int 2)) (hz : ds.length ≤ 1000) : LY (tOp rRep te tu) σ H (Tells K (ds ++ ds)) := fun H1 e Q q =>
  h H1 e _ fun l xs H2 e2 hl r => g H2 (e.trans e2) _ fun H3 e3 => ⟨l, 2, xs, rfl, rfl, e3 _ _ hl, by decide, by decide, by
    rw [tells_len r]
    exact sz_of (show ds.length * 2 ≤ 100000 by omega), fun p hp => q p _ _ ((e2.trans e3).trans (Ex.new hp)) upd_same (by
      have e4 : (List.replicate (2 : Int).toNat xs).flatten = xs ++ xs := by
        show xs ++ (xs ++ []) = xs ++ xs
        rw [List.append_nil]
      rw [e4]
      have r2 : Tells K ds xs (upd H3 p (.lst (xs ++ xs))) := mo_tells xs _ _ (e3.trans (Ex.new hp)) r
      exact tells_app r2 r2)⟩
theorem ev_same {E : XK} {ds : List Dat} (h : LY te σ H (Tells K ds)) (g : LY tu σ H (Tells K ds)) (hz : ds.length ≤ 40000) : Ev (tCall (spSame K 5) [] E (tCons te (tCons tu tNil))) σ H (.bl true) := fun H1 e Q q =>
  h H1 e _ fun l xs H2 e2 hl r => g H2 (e.trans e2) _ fun m ys H3 e3 hm s =>
    ⟨_, _, rfl, .lst 4 (sq_of (e3 _ _ hl)) (sq_of hm) (by rw [tells_len r, tells_len s]) (by rw [tells_len r]; exact hz) (tells_sm (mo_tells xs _ _ e3 r) s), fun H4 e4 => q H4 ((e2.trans e3).trans e4)⟩
theorem q_same {E : XK} {ds : List Dat} {tf : TS} (h : LY te σ H (Tells K ds)) (g : LY tu σ H (Tells K ds)) (hz : ds.length ≤ 40000) (k : ∀ H1, Ex H H1 → tz D σ H1) :
    tSeq (tIfS (tNot (tB (tCall (spSame K 5) [] E (tCons te (tCons tu tNil))))) tf tNext) tz D σ H := q_when (b := !true) (et_not (et_B (ev_same h g hz))) (fun h => nomatch h) fun _ H1 e1 => k H1 e1
theorem s_same {E : XK} {ds : List Dat} {tf : TS} (h : LY te σ H (Tells K ds)) (g : LY tu σ H (Tells K ds)) (hz : ds.length ≤ 40000) (k : ∀ H1, Ex H H1 → D.nx σ H1) :
    tIfS (tNot (tB (tCall (spSame K 5) [] E (tCons te (tCons tu tNil))))) tf tNext D σ H := s_if (b := !true) (et_not (et_B (ev_same h g hz))) (fun h => nomatch h) fun _ H1 e1 => k H1 e1
theorem td_b {b : Bool} (h : Ev te σ H (.bl b)) : VM te σ H (Tl K (.v (.bl b))) := vm_ev h fun _ _ => ⟨rfl, .inr (.inl ⟨b, rfl⟩)⟩
theorem td_s {z : Str} (h : Ev te σ H (.str z)) (hz : z.length ≤ 100000) : VM te σ H (Tl K (.v (.str z))) := vm_ev h fun _ _ => ⟨rfl, .inr (.inr (.inr ⟨z, rfl, hz⟩))⟩
theorem td_t {p : Addr} {ns : List Int} (h : Ev te σ H (.ref p)) (ht : SqT K H p (ns.map V.int)) (hz : ns.length ≤ 40000) : VM te σ H (Tl K (.t ns)) := vm_ev h fun _ e => ⟨p, rfl, ex_t e ht, hz⟩
theorem td_u {ns : List Int} (h : EvU te σ H (ns.map V.int)) (hz : ns.length ≤ 40000) : VM te σ H (Tl K (.t ns)) := fun H1 e Q q => h H1 e Q fun p H2 _ e2 hp => q _ H2 e2 ⟨p, rfl, st_of hp, hz⟩
theorem ly_var {l : Addr} {xs : List V} (h : Ev te σ H (.ref l)) (hl : H l = some (.lst xs)) (mo : Mo R) (r : R xs H) : LY te σ H R := fun H1 e Q q => h H1 e Q fun H2 e2 => q l xs H2 e2 ((e.trans e2) _ _ hl) (mo xs H H2 (e.trans e2) r)
/-- .. told by a word on their number -/
theorem lx_PLz {m : Nat} (h : EN te σ H (fun H0 v H' => ∃ n, n ≤ m ∧ PL (List.replicate n P') H0 v H')) (k : ∀ v H1 H2, Ex H H1 → Ex H1 H2 → P' H1 v H2 → P v H2) : LY te σ H (Many P m) := fun H1 e Q q =>
  h H1 e _ fun v H2 e2 p => by
    obtain ⟨n, hn, l, xs, rfl, _, hl, hE⟩ := p
    exact q l xs H2 e2 hl ⟨by rw [hE.len, List.length_replicate]; exact hn, fun x m => k x H1 H2 e e2 (hE.all x m)⟩
theorem ly_el {xs : List V} (h : EvL te σ H xs) (k : ∀ H', Ex H H' → R xs H') : LY te σ H R := fun H1 e Q q => h H1 e Q fun p H2 _ e2 hp => q p xs H2 e2 hp (k H2 (e.trans e2))
theorem s_asgY {i : Nat} (h : LY te σ H R) (k : ∀ l xs H1, Ex H H1 → H1 l = some (.lst xs) → R xs H1 → D.nx (σ.set i (some (.ref l))) H1) : tAsg te (gName i) D σ H := h H (Ex.refl H) _ fun l xs H1 e hl r => k l xs H1 e hl r
/-- new, too -/
def LN (te : TE) (σ : L2.St) (H : Hp) (R : List V → Hp → Prop) : Prop := ∀ H1, Ex H H1 → ∀ Q : VK, (∀ l xs H2, Ex H1 H2 → H1 l = none → H2 l = some (.lst xs) → R xs H2 → Q (.ref l) H2) → te σ H1 Q
theorem q_forS {g : TG} (h : LN tl σ H R) (k : ∀ l xs H1, Ex H H1 → H l = none → H1 l = some (.lst xs) → R xs H1 → ∃ Pv : Nat → L2.St → Hp → Prop, Pv 0 σ H1 ∧ (∀ i σ' H', i ≤ xs.length → Pv i σ' H' → SqL K H' l xs) ∧
    (∀ i x σ' H', xs[i]? = some x → Pv i σ' H' → g x σ' H' fun σ2 H2 => tb { D with nx := Pv (i + 1), ct := Pv (i + 1), bk := tz D } σ2 H2) ∧ (∀ σ' H', Pv xs.length σ' H' → tz D σ' H')) : tSeq (tFor (iList K tl) g tb) tz D σ H :=
  h H (Ex.refl H) _ fun l xs H1 e l0 hl r => by
    obtain ⟨Pv, h0, h1, hs, hd⟩ := k l xs H1 e l0 hl r
    exact ⟨l, rfl, ⟨xs, sq_of hl⟩, for_list Pv h0 h1 hs hd⟩
theorem q_parVL {i j : Nat} {ys : List V} (h : VM te σ H P) (g : EvL tu σ H ys) (k : ∀ v r Hb H1, Ex H Hb → P v Hb → Hb r = none → Ex Hb H1 → H1 r = some (.lst ys) → tz D ((σ.set i (some v)).set j (some (.ref r))) H1) : tSeq (tPar i j (tCons te (tCons tu tNil))) tz D σ H :=
  h H (Ex.refl H) _ fun v H1 e1 p => g H1 e1 _ fun r H2 hr e2 h2 => ⟨_, _, rfl, k v r H1 H2 e1 p hr e2 h2⟩
/-- an address with its numbers, for each -/
theorem refs_of {C : Addr → List Int → Prop} : ∀ {xs : List V}, (∀ x, x ∈ xs → ∃ p ns, x = .ref p ∧ C p ns) → ∃ L : AL, xs = refsL L ∧ ∀ q, q ∈ L → C q.1 q.2
  | [], _ => ⟨[], rfl, fun _ m => nomatch m⟩
  | x :: xs, h => by
    obtain ⟨p, ns, rfl, c⟩ := h x (List.mem_cons_self ..)
    obtain ⟨L, rfl, hL⟩ := refs_of (fun y m => h y (List.mem_cons_of_mem _ m))
    exact ⟨(p, ns) :: L, rfl, fun q m => by
      rcases List.mem_cons.mp m with m | m
      · rw [m]; exact c
      · exact hL q m⟩
theorem tells_refs : ∀ {L : AL}, (∀ q, q ∈ L → SqT K H q.1 (q.2.map V.int) ∧ q.2.length ≤ 40000) → Tells K (L.map fun q => Dat.t q.2) (refsL L) H
  | [], _ => trivial
  | q :: L, h => ⟨⟨q.1, rfl, h q (List.mem_cons_self ..)⟩, tells_refs fun r m => h r (List.mem_cons_of_mem _ m)⟩
theorem ints_inj {a b : List Int} (h : a.map V.int = b.map V.int) : a = b := by
  induction a generalizing b with
  | nil => match b, h with
    | [], _ => rfl
  | cons x a ih => match b, h with
    | y :: b, h =>
      rw [List.map_cons, List.map_cons] at h
      injection h with h1 h2
      injection h1 with h1
      rw [h1, ih h2]
/-- sorted and each once: the same as any other such list of the same -/
theorem once_ss {Ls L : AL} (h4 : ∀ q, q ∈ L → Num4 q.2 ∧ q.2.length ≤ 40) (pm : Ls.Perm L) (pw : Ls.Pairwise (fun q r => YS.rk 40 q.2 ≤ YS.rk 40 r.2)) : SS (once [] (Ls.map (·.2))) (L.map (·.2)) := by
  refine ⟨?_, fun x => ?_⟩
  · refine once_asc (f := YS.rk 40) (G := fun ns => Num4 ns ∧ ns.length ≤ 40) (fun x y gx gy e => YS.rk_inj 40 _ _ gx.1 gy.1 gx.2 gy.2 e) _ _ (fun _ m => nomatch m) (fun x m => ?_) List.Pairwise.nil (fun _ m => nomatch m) (List.pairwise_map.mpr pw)
    obtain ⟨q, hq, rfl⟩ := List.mem_map.mp m
    exact h4 q (pm.mem_iff.mp hq)
  · rw [once_mem, (pm.map (·.2)).mem_iff]
    exact ⟨fun h => h.elim (fun m => nomatch m) id, .inr⟩
/-- calls by a name whose answer is told by a word -/
theorem vm_call {sp : Sp} {E : XK} {vs : List V} (h : EvA ta σ H vs) (k : ∀ H', Ex H H' → ∀ (Q : VK) (E : XK), (∀ v H2, Ex H' H2 → P v H2 → Q v H2) → sp (vs ++ []) H' Q E) : VM (tCall sp [] E ta) σ H P := fun H1 e Q q =>
  h H1 e _ fun H2 e2 => k H2 (e.trans e2) Q E fun v H3 e3 p => q v H3 (e2.trans e3) p
theorem vm_callW {sp : Sp} {n : Nat} {zs : List V} (h : EvA ta σ H zs) (hl : zs.length = n) (k : ∀ H', Ex H H' → ∀ (Q : VK) (E : XK), (∀ v H2, Ex H' H2 → P v H2 → Q v H2) → sp zs.reverse H' Q E) : VM (tCallW sp n ta) σ H P := fun H1 e Q q =>
  h H1 e _ fun H2 e2 => by
    show sp (gZ n [] zs) H2 Q C8.E0
    unfold gZ
    rw [if_pos ⟨rfl, hl⟩]
    exact k H2 (e.trans e2) Q C8.E0 fun v H3 e3 p => q v H3 (e2.trans e3) p
/-! ### pairs of places, side by side -/
def PP (K : PySem.W.Frag) : V → Hp → Prop := fun v H => ∃ (p a b : Addr) (ns ms : List Int), v = .ref p ∧ SqT K H p [.ref a, .ref b] ∧ SqT K H a (ns.map V.int) ∧ SqT K H b (ms.map V.int) ∧ ns.length ≤ 1000 ∧ ms.length ≤ 1000
theorem mo_pp : Mo (PP K) := fun v H H' e ⟨p, a, b, ns, ms, h0, h1, h2, h3, h4⟩ => ⟨p, a, b, ns, ms, h0, ex_t e h1, ex_t e h2, ex_t e h3, h4⟩
theorem vm_pair {ns ms : List Int} (h : EvN H0 te σ H (ns.map V.int)) (g : EvN H0 tu σ H (ms.map V.int)) (h1 : ns.length ≤ 1000) (h2 : ms.length ≤ 1000) : VM (tTup (tCons te (tCons tu tNil))) σ H (PP K) := fun H1 e Q q =>
  h H1 e _ fun a H2 e2 _ ha => g H2 (e.trans e2) _ fun b H3 e3 _ hb => ⟨sz_of (show 2 ≤ 100000 by decide), fun p hp => q _ _ ((e2.trans e3).trans (Ex.new hp)) ⟨p, a, b, ns, ms, rfl, st_of upd_same, st_of (Ex.new hp _ _ (e3 _ _ ha)), st_of (Ex.new hp _ _ hb), h1, h2⟩⟩
theorem el_zipF {a b : Addr} {xs ys : List V} {i j n : Nat} {vs : List Nat} (f : Nat → Bool) (v : Nat → V) (ha : EvA ta σ H [.ref a, .ref b]) (h1 : SqT K H a xs) (h2 : SqT K H b ys) (hn : n = min xs.length ys.length) (hz : n ≤ 40000)
    (hw : ∀ x y, wipe (((wipe σ vs).set i (some x)).set j (some y)) vs = wipe σ vs)
    (ht : ∀ (k : Nat) (x y : V) H1, Ex H H1 → xs[k]? = some x → ys[k]? = some y → EvT t (((wipe σ vs).set i (some x)).set j (some y)) H1 (f k))
    (he : ∀ (k : Nat) (x y : V) H1, Ex H H1 → xs[k]? = some x → ys[k]? = some y → f k = true → Ev te (((wipe σ vs).set i (some x)).set j (some y)) H1 (v k)) :
    EvL (tLc (RZ.iZipA K ta) (gTup K 2 (gCons (gName i) (gCons (gName j) gNil))) t te vs) σ H (Evl.given n f v) := fun H0 e Q q => ha H0 e _ fun H1 e1 => by
  refine ⟨a, b, xs, ys, rfl, .inr ⟨ex_t (e.trans e1) h1, ex_t (e.trans e1) h2, fun Dl hD => ?_⟩⟩
  refine lc_it (walk_zipT (K := K) (a := a) (b := b) (xs := xs) (ys := ys) hn) (Cw H1 f v Dl) ⟨hD, Ex.new hD, upd_same⟩ (fun k H' _ p => ⟨ex_t ((e.trans e1).trans p.2.1) h1, ex_t ((e.trans e1).trans p.2.1) h2⟩) (fun k x H3 H4 hk p y => ?_) fun H' p => q Dl H' (fresh_back e1 p.1) (e1.trans p.2.1) p.2.2
  obtain ⟨T, u, z, rfl, hT, rfl, hu, hv⟩ := y
  exact ⟨T, [u, z], rfl, st_of upd_same, rfl, u, [z], rfl, z, [], rfl, rfl, hw u z, cw_turn ⟨p.1, p.2.1.trans (Ex.new hT), Ex.new hT Dl _ p.2.2⟩ (by omega) (ht k u z H1 (e.trans e1) hu hv) fun hf => he k u z H1 (e.trans e1) hu hv hf⟩
def apart (ns ms : List Int) : List Int := ((List.range (min ns.length ms.length)).filter fun k => !decide (ns.getD k 0 = ms.getD k 0)).map fun _ => 1
theorem apart_given (ns ms : List Int) : Evl.given (min ns.length ms.length) (fun k => !decide (ns.getD k 0 = ms.getD k 0)) (fun _ => V.int 1) = (apart ns ms).map V.int := by
  unfold Evl.given apart
  rw [List.map_map]
  rfl
theorem apart_nil {ns ms : List Int} (h : ms.length < ns.length) : decide (apart ns ms = []) = decide (ns.take ms.length = ms) := by
  refine decide_eq_decide.mpr ?_
  unfold apart
  rw [List.map_eq_nil_iff, List.filter_eq_nil_iff, Nat.min_eq_right (Nat.le_of_lt h)]
  constructor
  · intro hk
    refine List.ext_getElem (by rw [List.length_take]; omega) fun i h1 h2 => ?_
    have := hk i (List.mem_range.mpr h2)
    rw [List.getD_eq_getElem?_getD, List.getD_eq_getElem?_getD, List.getElem?_eq_getElem (show i < ns.length by omega), List.getElem?_eq_getElem h2] at this
    rw [List.getElem_take]
    simpa using this
  · intro e k hk
    have h2 := List.mem_range.mp hk
    have : ms[k]? = ns[k]? := by
      conv => lhs; rw [← e]
      rw [List.getElem?_take, if_pos h2]
    rw [List.getD_eq_getElem?_getD, List.getD_eq_getElem?_getD, this]
    simp
end
end XV

namespace K01
open PySem PySem.Spec PyProof.Rows L2 Evl XV C8 He
theorem sc__law_draw : FnScope ["_law_bag_here", "_law_top", "_law_cell", "_law_digit", "_law_seed"] ["_law_bag_here", "_law_top"] (defScope s__law_draw) := ⟨rfl, rfl, rfl, by decide +kernel, rfl, by decide +kernel, by decide +kernel⟩
section
variable {P : Program} {w : World} {K : PySem.W.Frag} {mg : Str → Option Value} {base : Heap}
theorem ok__law_draw {f : Addr} {fd : FuncData} (F : FunD K "_law_draw" "_law_draw" (defArgs s__law_draw) (defBody s__law_draw) (defScope s__law_draw) [] [] f fd) (g : mg "_law_draw" = some (.ref f)) (T : Bi mg) :
    Cal P w K mg base 1 "_law_draw" spDraw [] := by
  refine ⟨f, fd, ["_law_bag_here", "_law_top"], [], F.ok sc__law_draw (fun vs H Q E h => ?_) (fun cdv A outer s H vs Q E hr h => ?_), g, F.kp, FunD.bindsN F fun _ _ _ _ _ _ us hl => match us, hl with | [_, _], _ => rfl, .nil⟩
  · obtain ⟨B, top, rfl, _⟩ := h
    rfl
  · obtain ⟨B, top, rfl, hb, h1, h2, q⟩ := h
    obtain ⟨c, ns, hB, hc, hns⟩ := hb
    refine ⟨_, PSs.nox (pss_view (B := B) (c := c) 
(pss_cons (ps_asg (pe_op op_add (pe_ix ix_list (pv 0) pe_int (fun _ _ => rfl)) pe_int) (pg_sub (pv 0) pe_int set_list))
  (pss_cons (ps_if (PW.pt (pw_and (pt_cmpR op_eq (pe_ix ix_list (pv 0) pe_int (fun _ _ => rfl)) pe_int (nomark _)) (pw_and1 (pt_cmpR op_lt (pe_ix ix_list (pv 0) pe_int (fun _ _ => rfl)) (pe_callB call_len_seq (by rfl) T.m_len (by decide +kernel) (pa_cons (pe_ix ix_list (pv 0) pe_int (fun _ _ => rfl)) pa_nil)) (nomark _)))))
  (pss_cons (ps_set (i := 2) sc__law_draw.nd rfl (.inl rfl) (pe_callTy call_int1 (by rfl) T.m_int (by decide +kernel) (pa_cons (pe_ix ix_list (pe_ix ix_list (pv 0) pe_int (fun _ _ => rfl)) (pe_ix ix_list (pv 0) pe_int (fun _ _ => rfl)) (fun _ _ => rfl)) pa_nil)))
  (pss_cons (ps_asg (pe_op op_add (pe_ix ix_list (pv 0) pe_int (fun _ _ => rfl)) pe_int) (pg_sub (pv 0) pe_int set_list))
  (pss_one (ps_if (pt_cmpR op_ge (pe_callB call_abs (by rfl) T.m_abs (by decide +kernel) (pa_cons (pv 2) pa_nil)) (pe_op op_pow pe_int pe_int) (nomark _))
  (pss_one (ps_asg (pe_callB call_abs (by rfl) T.m_abs (by decide +kernel) (pa_cons (pv 2) pa_nil)) (pg_sub (pv 0) pe_int set_list)))
  (pss_one (ps_asg (pe_op op_mod (pe_callTy call_int1 (by rfl) T.m_int (by decide +kernel) (pa_cons (pe_op op_add (pe_op op_add (pe_op op_mul (pe_ix ix_list (pv 0) pe_int (fun _ _ => rfl)) pe_int) (pe_op op_mul (pe_op op_mod (pe_callTy call_int1 (by rfl) T.m_int (by decide +kernel) (pa_cons (pv 2) pa_nil)) pe_int) pe_int)) pe_int) pa_nil)) pe_int) (pg_sub (pv 0) pe_int set_list)))))))
  pss_nil)
  (pss_cons (ps_if (pt_cmpR op_gt (pe_ix ix_list (pv 0) pe_int (fun _ _ => rfl)) pe_int (nomark _))
  (pss_cons (ps_set (i := 3) sc__law_draw.nd rfl (.inl rfl) (pe_op op_mod (pe_callTy call_int1 (by rfl) T.m_int (by decide +kernel) (pa_cons (pe_ix ix_list (pv 0) pe_int (fun _ _ => rfl)) pa_nil)) (pv 1)))
  (pss_cons (ps_asg (pe_op op_fdivN (pe_ix ix_list (pv 0) pe_int (fun _ _ => rfl)) (pv 1)) (pg_sub (pv 0) pe_int set_list))
  (pss_one (ps_ret (pv 3)))))
  pss_nil)
  (pss_cons (ps_set (i := 4) sc__law_draw.nd rfl (.inl rfl) (pe_callTy call_int1 (by rfl) T.m_int (by decide +kernel) (pa_cons (pe_ix ix_list (pv 0) pe_int (fun _ _ => rfl)) pa_nil)))
  (pss_cons (ps_asg (pe_op op_mod (pe_callTy call_int1 (by rfl) T.m_int (by decide +kernel) (pa_cons (pe_op op_add (pe_op op_add (pe_op op_add (pe_op op_pow (pv 4) pe_int) (pe_op op_mul (pv 4) pe_int)) (pe_op op_mul (pe_ix ix_list (pv 0) pe_int (fun _ _ => rfl)) pe_int)) pe_int) pa_nil)) pe_int) (pg_sub (pv 0) pe_int set_list))
  (pss_one (ps_ret (pe_op op_mod (pe_callTy call_int1 (by rfl) T.m_int (by decide +kernel) (pa_cons (pe_op op_add (pe_op op_fdivN (pe_ix ix_list (pv 0) pe_int (fun _ _ => rfl)) pe_int) (pe_op op_mul (pe_op op_mod (pe_callTy call_int1 (by rfl) T.m_int (by decide +kernel) (pa_cons (pe_ix ix_list (pv 0) pe_int (fun _ _ => rfl)) pa_nil)) pe_int) pe_int)) pa_nil)) (pv 1)))))))))
), ?_⟩
    refine ⟨hB, fun i l m k hn => ?_⟩
    have hcB : c ≠ B := fun e => by
      rw [e, hB] at hc
      cases hc
    have hget : ∀ (o : HO), (upd H B o) c = some (.lst (ns.map V.int)) := fun o => (upd_ne hcB).trans hc
    refine ⟨_, rfl, _, _, _, _, rfl, rfl, .inl (.inl upd_same), rfl, _, _, rfl, rfl, _, rfl, _, _, _, _, rfl, rfl, upd_same, rfl, ?_⟩
    rw [upd_upd]
    dsimp only
    refine seq_cut (fun σ H1 => ∃ x y z, σ = [some (.ref B), some (.int top), x, y, z] ∧ ∃ i l m k, Nums i l m ∧ H1 = upd H B (.lst (bagL c i l m k))) (fun nx hnx => ?_) (fun σ H1 hj => ?_)
    · refine ⟨_, rfl, _, _, _, _, rfl, rfl, .inl (.inl upd_same), rfl, rfl, _, rfl, ?_⟩
      refine ifb (fun e => ?_) (fun e => ?_)
      · refine ⟨_, rfl, _, _, _, _, rfl, rfl, .inl (.inl upd_same), rfl, ?_⟩
        refine ⟨_, rfl, _, _, _, _, rfl, rfl, .inl (.inl upd_same), rfl, _, _, rfl, .inl (.inl (.inl (hget _))), _, _, rfl, rfl, _, rfl, ?_⟩
        refine ifb (fun e => ?_) (fun e => ?_)
        · obtain ⟨v, hv⟩ := at_ints (ns := ns) hn.i0 (by rw [List.length_map] at e; exact of_decide_eq_true e)
          refine ⟨_, rfl, _, _, _, _, rfl, rfl, .inl (.inl upd_same), rfl, _, rfl, _, _, _, _, rfl, rfl, .inl (.inl upd_same), rfl, _, _, _, _, rfl, rfl, .inl (.inl (hget _)), hv, .inl ⟨_, rfl, ?_⟩⟩
          refine ⟨_, rfl, _, _, _, _, rfl, rfl, .inl (.inl upd_same), rfl, _, _, rfl, rfl, _, rfl, _, _, _, _, rfl, rfl, upd_same, rfl, ?_⟩
          rw [upd_upd]
          dsimp only
          refine ⟨_, rfl, _, rfl, _, _, rfl, rfl, ⟨show (0 : Int) ≤ 18 by decide, show (18 : Int) ≤ 1000000 by decide, show (10 : Int).natAbs < 2 ^ 64 by decide⟩, _, _, rfl, rfl, _, rfl, ?_⟩
          refine ifb (fun e => ?_) (fun e => ?_)
          · refine ⟨_, rfl, _, rfl, _, rfl, _, _, _, _, rfl, rfl, upd_same, rfl, ?_⟩
            rw [upd_upd]
            refine hnx _ _ ⟨_, _, _, rfl, _, _, _, _, ⟨?_, ?_, hn.m0, hn.m1⟩, rfl⟩
            · exact Int.add_nonneg hn.i0 (by decide)
            · by_cases h0 : v < 0
              · rw [if_pos h0]; omega
              · rw [if_neg h0]; omega
          · refine ⟨_, rfl, _, _, _, _, rfl, rfl, .inl (.inl upd_same), rfl, _, _, rfl, rfl, .inr (by decide), _, rfl, .inl ⟨_, rfl, _, _, rfl, rfl, show (0 : Int) < 999979 by decide, _, _, rfl, rfl, .inr (by decide), _, _, rfl, rfl, _, _, rfl, rfl, .inl ⟨_, rfl, _, _, rfl, rfl, show (0 : Int) < 2147483587 by decide, ?_⟩⟩⟩
            refine ⟨_, rfl, _, _, _, _, rfl, rfl, upd_same, rfl, ?_⟩
            rw [upd_upd]
            refine hnx _ _ ⟨_, _, _, rfl, _, _, _, _, ⟨?_, hn.l0, ?_, ?_⟩, rfl⟩
            · exact Int.add_nonneg hn.i0 (by decide)
            · exact Int.emod_nonneg _ (by decide)
            · exact Int.lt_trans (Int.emod_lt_of_pos _ (by decide)) (by decide)
        · exact hnx _ _ ⟨_, _, _, rfl, _, _, _, _, hn, rfl⟩
      · exact hnx _ _ ⟨_, _, _, rfl, _, _, _, _, hn, rfl⟩
    · obtain ⟨x, y, z, rfl, i, l, m, k, hn, rfl⟩ := hj
      try dsimp only
      refine seq_cut (fun σ H1 => ∃ x y z, σ = [some (.ref B), some (.int top), x, y, z] ∧ ∃ i l m k, Nums i l m ∧ H1 = upd H B (.lst (bagL c i l m k))) (fun nx hnx => ?_) (fun σ H1 hj => ?_)
      · refine ⟨_, rfl, _, _, _, _, rfl, rfl, .inl (.inl upd_same), rfl, _, _, rfl, rfl, _, rfl, ?_⟩
        refine ifb (fun e => ?_) (fun e => ?_)
        · refine ⟨_, rfl, _, _, _, _, rfl, rfl, .inl (.inl upd_same), rfl, .inl ⟨_, rfl, _, rfl, _, _, rfl, rfl, show 0 < top by omega, ?_⟩⟩
          refine ⟨_, rfl, _, _, _, _, rfl, rfl, .inl (.inl upd_same), rfl, _, rfl, _, _, rfl, rfl, ⟨show top ≠ 0 by omega, show top.natAbs < 1073741824 by omega⟩, _, rfl, _, _, _, _, rfl, rfl, upd_same, rfl, ?_⟩
          rw [upd_upd]
          refine ⟨_, rfl, ⟨_, _, _, _, ⟨hn.i0, ?_, hn.m0, hn.m1⟩, upd_same⟩, ?_⟩
          · show 0 ≤ l.fdiv top
            rw [Int.fdiv_eq_ediv_of_nonneg _ (by omega)]
            exact Int.ediv_nonneg hn.l0 (by omega)
          · rw [upd_back hB]
            exact q _ (Int.emod_nonneg _ (by omega)) (Int.emod_lt_of_pos _ (by omega))
        · exact hnx _ _ ⟨_, _, _, rfl, _, _, _, _, hn, rfl⟩
      · obtain ⟨x, y, z, rfl, i, l, m, k, hn, rfl⟩ := hj
        refine ⟨_, rfl, _, _, _, _, rfl, rfl, .inl (.inl upd_same), rfl, .inl ⟨_, rfl, ?_⟩⟩
        refine ⟨_, rfl, _, _, rfl, rfl, ⟨show (0 : Int) ≤ 3 by decide, show (3 : Int) ≤ 1000000 by decide, ?_⟩, _, rfl, _, _, rfl, rfl, .inr (by decide), _, _, rfl, rfl, _, rfl, _, _, _, _, rfl, rfl, .inl (.inl upd_same), rfl, _, _, rfl, rfl, .inr (by decide), _, _, rfl, rfl, _, _, rfl, rfl, .inl ⟨_, rfl, _, _, rfl, rfl, show (0 : Int) < 2147483549 by decide, ?_⟩⟩
        · have h1 := hn.m0
          have h2 : m < 2147483647 := hn.m1
          show m.natAbs < 2 ^ 64
          omega
        · refine ⟨_, rfl, _, _, _, _, rfl, rfl, upd_same, rfl, ?_⟩
          rw [upd_upd]
          dsimp only
          refine ⟨_, rfl, _, _, _, _, rfl, rfl, .inl (.inl upd_same), rfl, _, _, rfl, rfl, ⟨by decide, by decide⟩, _, rfl, _, _, _, _, rfl, rfl, .inl (.inl upd_same), rfl, .inl ⟨_, rfl, _, _, rfl, rfl, show (0 : Int) < 7919 by decide, _, _, rfl, rfl, .inr (by decide), _, _, rfl, rfl, .inl ⟨_, rfl, _, rfl, _, _, rfl, rfl, show 0 < top by omega, ?_⟩⟩⟩
          refine ⟨⟨_, _, _, _, ⟨hn.i0, hn.l0, ?_, ?_⟩, upd_same⟩, ?_⟩
          · exact Int.emod_nonneg _ (by decide)
          · exact Int.lt_trans (Int.emod_lt_of_pos _ (by decide)) (by decide)
          · rw [upd_back hB]
            exact q _ (Int.emod_nonneg _ (by omega)) (Int.emod_lt_of_pos _ (by omega))

/-! ### the bag -/
theorem sc__law_bag : FnScope ["_law_script", "_law_mixed_here", "_law_cell"] ["_law_script"] (defScope s__law_bag) := ⟨rfl, rfl, rfl, by decide +kernel, rfl, by decide +kernel, by decide +kernel⟩
theorem ok__law_bag {f : Addr} {fd : FuncData} (F : FunD K "_law_bag" "_law_bag" (defArgs s__law_bag) (defBody s__law_bag) (defScope s__law_bag) [] [] f fd) (g : mg "_law_bag" = some (.ref f)) (T : Bi mg) :
    Cal P w K mg base 1 "_law_bag" (spBag K) [] := by
  refine ⟨f, fd, ["_law_script"], [], F.ok sc__law_bag (fun vs H Q E h => ?_) (fun cdv A outer s H vs Q E hr h => ?_), g, F.kp, FunD.bindsN F fun _ _ _ _ _ _ us hl => match us, hl with | [_], _ => rfl, .nil⟩
  · obtain ⟨p, ns, rfl, _⟩ := h
    rfl
  · obtain ⟨p, ns, rfl, hp, q⟩ := h
    refine ⟨_, PSs.nox (pss_shut
(pss_cons (ps_set (i := 1) sc__law_bag.nd rfl (.inl rfl) pe_int)
  (pss_cons (ps_for PassesOwn.never rfl (pi_list (pe_slice sl_list (pv 0) po_none (po_some pe_int))) (pg_name (i := 2) sc__law_bag.nd rfl (.inl rfl))
  (pss_one (ps_set (i := 1) sc__law_bag.nd rfl (.inl rfl) (pe_op op_mod (pe_callTy call_int1 (by rfl) T.m_int (by decide +kernel) (pa_cons (pe_op op_add (pe_op op_add (pe_op op_mul (pv 1) pe_int) (pe_op op_mul (pe_op op_mod (pe_callTy call_int1 (by rfl) T.m_int (by decide +kernel) (pa_cons (pv 2) pa_nil)) pe_int) pe_int)) pe_int) pa_nil)) pe_int))))
  (pss_one (ps_ret (pe_lst (pa_cons (pe_callTy call_list_of (by rfl) T.m_list (by decide +kernel) (pa_cons (pe_slice sl_list (pv 0) po_none (po_some pe_int)) pa_nil)) (pa_cons pe_int (pa_cons pe_int (pa_cons (pv 1) (pa_cons pe_int pa_nil))))))))))
), ?_⟩
    obtain ⟨ms, hms, hl⟩ := cut_ints ns
    refine q_asg ev_c fun H1 e1 => ?_
    refine q_forNLn (xs := ms.map V.int) (by rw [← hms]; exact el_sl (ev_var rfl) eo_none (eo_some ev_c) (ex_l e1 hp))
      (fun a i σ' H' => ∃ m x, σ' = [some (.ref p), some (.int m), x] ∧ 0 ≤ m ∧ m < lim ∧ Ex H H' ∧ H' a = some (.lst (ms.map V.int)))
      (fun a H2 _ e2 h2 => ⟨5077, _, rfl, by decide, by decide, e1.trans e2, h2⟩) (fun a i σ' H' _ h => ?_) (fun a i x σ' H' hx h => ?_) (fun a σ' H' h => ?_)
    · obtain ⟨m, x, _, _, _, _, h⟩ := h
      exact sq_of h
    · obtain ⟨m, y, rfl, m0, m1, e2, h⟩ := h
      rw [List.getElem?_map] at hx
      obtain ⟨v, hv⟩ : ∃ v : Int, x = .int v := by
        cases e : ms[i]? with
        | none =>
          rw [e] at hx
          cases hx
        | some v =>
          rw [e] at hx
          exact ⟨v, (Option.some.inj hx).symm⟩
      subst hv
      refine ⟨_, rfl, _, _, rfl, rfl, .inr (by decide), _, rfl, .inl ⟨_, rfl, _, _, rfl, rfl, show (0 : Int) < 999979 by decide, _, _, rfl, rfl, .inr (by decide), _, _, rfl, rfl, _, _, rfl, rfl, .inl ⟨_, rfl, _, _, rfl, rfl, show (0 : Int) < 2147483629 by decide, ?_⟩⟩⟩
      exact ⟨_, _, rfl, Int.emod_nonneg _ (by decide), Int.lt_trans (Int.emod_lt_of_pos _ (by decide)) (by decide), e2, h⟩
    · obtain ⟨m, y, rfl, m0, m1, e2, h⟩ := h
      refine ⟨_, rfl, _, rfl, _, _, rfl, ex_l e2 hp, fun a1 h1 => ⟨_, _, rfl, .inl (sq_of upd_same), fun c hc => ⟨_, rfl, bag_small c 0 0 m 0, fun B hB => ⟨B, c, rfl, ⟨0, 0, m, 0, ⟨by decide, by decide, m0, m1⟩, upd_same⟩, ?_⟩⟩⟩⟩
      rw [upd_upd]
      refine q B _ (((e2.trans (Ex.new h1)).trans (Ex.new hc)).trans (Ex.new hB)) ⟨c, ms, upd_same, ?_, hl⟩
      rw [upd_ne (ne_of_none upd_same hB), hms]
      exact upd_same

/-! ### one of some -/
theorem sc__law_of : FnScope ["_law_bag_here", "_law_some"] ["_law_bag_here", "_law_some"] (defScope s__law_of) := ⟨rfl, rfl, rfl, by decide +kernel, rfl, by decide +kernel, by decide +kernel⟩
theorem ok__law_of {f : Addr} {fd : FuncData} (F : FunD K "_law_of" "_law_of" (defArgs s__law_of) (defBody s__law_of) (defScope s__law_of) [] [] f fd) (g : mg "_law_of" = some (.ref f)) (T : Bi mg) (c_draw : Cal P w K mg base 1 "_law_draw" spDraw []) :
    Cal P w K mg base 2 "_law_of" (spOf K) [] := by
  refine ⟨f, fd, ["_law_bag_here", "_law_some"], [], F.ok sc__law_of (fun vs H Q E h => ?_) (fun cdv A outer s H vs Q E hr h => ?_), g, F.kp, FunD.bindsN F fun _ _ _ _ _ _ us hl => match us, hl with | [_, _], _ => rfl, .nil⟩
  · obtain ⟨B, x, rfl, _⟩ := h
    rfl
  · obtain ⟨B, x, rfl, hb, h⟩ := h
    refine ⟨_, PSs.nox (
(pss_one (ps_ret (pe_ix (ix_or ix_list ix_str) (pv 1) (pe_c (c_draw) hr (by omega) (by rfl) (pa_cons (pv 0) (pa_cons (pe_callB (cr_or call_len_seq call_len_str) (by rfl) T.m_len (by decide +kernel) (pa_cons (pv 1) pa_nil)) pa_nil))) (fun _ _ => rfl))))
), ?_⟩
    rcases h with ⟨p, xs, rfl, hx, h1, h2, q⟩ | ⟨z, rfl, h1, h2, q⟩
    · refine ⟨_, rfl, _, rfl, _, rfl, .inl ⟨_, _, rfl, .inl hx, B, _, rfl, hb, by omega, by omega, fun r r0 r1 => ?_⟩⟩
      obtain ⟨v, e, m⟩ := at_some r0 r1
      exact .inl ⟨_, _, _, _, rfl, rfl, hx, e, q v m⟩
    · refine ⟨_, rfl, _, rfl, _, rfl, .inr ⟨_, rfl, sz_of h2, B, _, rfl, hb, by omega, by omega, fun r r0 r1 => ?_⟩⟩
      obtain ⟨v, e, m⟩ := at_some (xs := z.cps.toList) r0 (by rw [Array.length_toList]; exact r1)
      exact .inr ⟨_, _, _, rfl, rfl, sz_of h2, e, q v m⟩
end
end K01

namespace K01
open PySem PySem.Spec PyProof.Rows L2 Evl XV C8 He RZ
theorem sc__law_same : FnScope ["_law_found", "_law_want", "_law_a", "_law_b"] ["_law_found", "_law_want"] (defScope s__law_same) := ⟨rfl, rfl, rfl, by decide +kernel, rfl, by decide +kernel, by decide +kernel⟩
section
variable {P : Program} {w : World} {K : PySem.W.Frag} {mg : Str → Option Value} {base : Heap}
theorem ok__same_none {f : Addr} {fd : FuncData} (F : FunD K "_law_same" "_law_same" (defArgs s__law_same) (defBody s__law_same) (defScope s__law_same) [] [] f fd) (g : mg "_law_same" = some (.ref f)) :
    Cal P w K mg base 1 "_law_same" (fun _ _ _ _ => False) [] :=
  ⟨f, fd, ["_law_found", "_law_want"], [], F.ok sc__law_same (fun vs H Q E h => h.elim) (fun cdv A outer s H vs Q E hr h => h.elim), g, F.kp, FunD.bindsN F fun _ _ _ _ _ _ us hl => match us, hl with | [_, _], _ => rfl, .nil⟩
theorem ok__law_same {f : Addr} {fd : FuncData} (F : FunD K "_law_same" "_law_same" (defArgs s__law_same) (defBody s__law_same) (defScope s__law_same) [] [] f fd) (g : mg "_law_same" = some (.ref f)) (T : Bi mg) (n k : Nat)
    (c_same : Cal P w K mg base k "_law_same" (spDown K n) []) :
    Cal P w K mg base (k + 1) "_law_same" (spSame K n) [] := by
  refine ⟨f, fd, ["_law_found", "_law_want"], [], F.ok sc__law_same (fun vs H Q E h => ?_) (fun cdv A outer s H vs Q E hr h => ?_), g, F.kp, FunD.bindsN F fun _ _ _ _ _ _ us hl => match us, hl with | [_, _], _ => rfl, .nil⟩
  · obtain ⟨x, y, rfl, _⟩ := h
    rfl
  · obtain ⟨x, y, rfl, hm, q⟩ := h
    refine ⟨_, PSs.nox (
(pss_cons (ps_if (pt_val (pe_callB call_is2 (by rfl) T.m_isinstance (by decide +kernel) (pa_cons (pv 1) (pa_cons (pe_tup (pa_cons (pe_bltn (v := .ty "list") (by rfl) T.m_list (by decide +kernel) rfl) (pa_cons (pe_bltn (v := .ty "tuple") (by rfl) T.m_tuple (by decide +kernel) rfl) pa_nil))) pa_nil))))
  (pss_cons (ps_if (PW.pt (pw_or (pt_cmpR op_ne (pe_callB call_is1 (by rfl) T.m_isinstance (by decide +kernel) (pa_cons (pv 0) (pa_cons (pe_bltn (v := .ty "list") (by rfl) T.m_list (by decide +kernel) rfl) pa_nil))) (pe_callB call_is1 (by rfl) T.m_isinstance (by decide +kernel) (pa_cons (pv 1) (pa_cons (pe_bltn (v := .ty "list") (by rfl) T.m_list (by decide +kernel) rfl) pa_nil))) (nomark _)) (pw_or1 (pt_cmpR op_ne (pe_callB call_is1 (by rfl) T.m_isinstance (by decide +kernel) (pa_cons (pv 0) (pa_cons (pe_bltn (v := .ty "tuple") (by rfl) T.m_tuple (by decide +kernel) rfl) pa_nil))) (pe_callB call_is1 (by rfl) T.m_isinstance (by decide +kernel) (pa_cons (pv 1) (pa_cons (pe_bltn (v := .ty "tuple") (by rfl) T.m_tuple (by decide +kernel) rfl) pa_nil))) (nomark _)))))
  (pss_one (ps_ret pe_bl))
  pss_nil)
  (pss_one (ps_ret (pe_and (pe_cmpR op_eq (pe_callB (cr_or call_len_seq call_len_str) (by rfl) T.m_len (by decide +kernel) (pa_cons (pv 0) pa_nil)) (pe_callB (cr_or call_len_seq call_len_str) (by rfl) T.m_len (by decide +kernel) (pa_cons (pv 1) pa_nil)) (nomark _)) (pe_one (pe_callB (cr_all rfl) (by rfl) T.m_all (by decide +kernel) (pa_cons (pe_lc (own := [("_law_a", 2), ("_law_b", 3)]) (g := gTup K 2 (gCons (gName 2) (gCons (gName 3) gNil))) (by rfl) sc__law_same.nd (pi_zipA (by rfl) T.m_zip (pa_cons (pv 0) (pa_cons (pv 1) pa_nil))) (blkOk_by (own := [("_law_a", 2), ("_law_b", 3)]) (N := ["_law_found", "_law_want", "_law_a", "_law_b"]) (sc := defScope s__law_same) (by decide +kernel)) (fun _ _ _ _ _ => (pg_tup (by rfl) (pgs_cons (pg_name (i := 2) sc__law_same.nd rfl (.inl rfl)) (pgs_cons (pg_name (i := 3) sc__law_same.nd rfl (.inl rfl)) pgs_nil)))) (fun _ _ _ _ _ => pts_nil) (fun _ _ _ _ _ => (pe_c (c_same) hr (by omega) (by rfl) (pa_cons (pv 2) (pa_cons (pv 3) pa_nil))))) pa_nil)))))))
  pss_nil)
  (pss_cons (ps_if (pt_val (pe_callB call_is2 (by rfl) T.m_isinstance (by decide +kernel) (pa_cons (pv 0) (pa_cons (pe_tup (pa_cons (pe_bltn (v := .ty "list") (by rfl) T.m_list (by decide +kernel) rfl) (pa_cons (pe_bltn (v := .ty "tuple") (by rfl) T.m_tuple (by decide +kernel) rfl) pa_nil))) pa_nil))))
  (pss_one (ps_ret pe_bl))
  pss_nil)
  (pss_cons (ps_if (PW.pt (pw_or (pt_cmp (pc_isN (pv 1))) (pw_or1 (pt_cmp (pc_isN (pv 0))))))
  (pss_one (ps_ret (pe_and (pe_cmp (pc_isN (pv 1))) (pe_one (pe_cmp (pc_isN (pv 0)))))))
  pss_nil)
  (pss_cons (ps_if (PW.pt (pw_or (pt_val (pe_callB call_is1 (by rfl) T.m_isinstance (by decide +kernel) (pa_cons (pv 1) (pa_cons (pe_bltn (v := .ty "bool") (by rfl) T.m_bool (by decide +kernel) rfl) pa_nil)))) (pw_or1 (pt_val (pe_callB call_is1 (by rfl) T.m_isinstance (by decide +kernel) (pa_cons (pv 0) (pa_cons (pe_bltn (v := .ty "bool") (by rfl) T.m_bool (by decide +kernel) rfl) pa_nil)))))))
  (pss_one (ps_ret (pe_and (pe_callB call_is1 (by rfl) T.m_isinstance (by decide +kernel) (pa_cons (pv 1) (pa_cons (pe_bltn (v := .ty "bool") (by rfl) T.m_bool (by decide +kernel) rfl) pa_nil))) (pe_and (pe_callB call_is1 (by rfl) T.m_isinstance (by decide +kernel) (pa_cons (pv 0) (pa_cons (pe_bltn (v := .ty "bool") (by rfl) T.m_bool (by decide +kernel) rfl) pa_nil))) (pe_one (pe_cmpR (op_or op_eq (op_eqX hr.units0)) (pv 0) (pv 1) (nomark _)))))))
  pss_nil)
  (pss_cons (ps_if (PW.pt (pw_or (pt_val (pe_callB call_is1 (by rfl) T.m_isinstance (by decide +kernel) (pa_cons (pv 1) (pa_cons (pe_bltn (v := .ty "int") (by rfl) T.m_int (by decide +kernel) rfl) pa_nil)))) (pw_or1 (pt_val (pe_callB call_is1 (by rfl) T.m_isinstance (by decide +kernel) (pa_cons (pv 0) (pa_cons (pe_bltn (v := .ty "int") (by rfl) T.m_int (by decide +kernel) rfl) pa_nil)))))))
  (pss_one (ps_ret (pe_and (pe_callB call_is1 (by rfl) T.m_isinstance (by decide +kernel) (pa_cons (pv 1) (pa_cons (pe_bltn (v := .ty "int") (by rfl) T.m_int (by decide +kernel) rfl) pa_nil))) (pe_and (pe_callB call_is1 (by rfl) T.m_isinstance (by decide +kernel) (pa_cons (pv 0) (pa_cons (pe_bltn (v := .ty "int") (by rfl) T.m_int (by decide +kernel) rfl) pa_nil))) (pe_one (pe_cmpR (op_or op_eq (op_eqX hr.units0)) (pv 0) (pv 1) (nomark _)))))))
  pss_nil)
  (pss_cons (ps_if (PW.pt (pw_or (pt_val (pe_callB call_is1 (by rfl) T.m_isinstance (by decide +kernel) (pa_cons (pv 1) (pa_cons (pe_bltn (v := .ty "str") (by rfl) T.m_str (by decide +kernel) rfl) pa_nil)))) (pw_or1 (pt_val (pe_callB call_is1 (by rfl) T.m_isinstance (by decide +kernel) (pa_cons (pv 0) (pa_cons (pe_bltn (v := .ty "str") (by rfl) T.m_str (by decide +kernel) rfl) pa_nil)))))))
  (pss_one (ps_ret (pe_and (pe_callB call_is1 (by rfl) T.m_isinstance (by decide +kernel) (pa_cons (pv 1) (pa_cons (pe_bltn (v := .ty "str") (by rfl) T.m_str (by decide +kernel) rfl) pa_nil))) (pe_and (pe_callB call_is1 (by rfl) T.m_isinstance (by decide +kernel) (pa_cons (pv 0) (pa_cons (pe_bltn (v := .ty "str") (by rfl) T.m_str (by decide +kernel) rfl) pa_nil))) (pe_one (pe_cmpR (op_or op_eq (op_eqX hr.units0)) (pv 0) (pv 1) (nomark _)))))))
  pss_nil)
  (pss_one (ps_ret (pe_cmpR (op_or op_eq (op_eqX hr.units0)) (pv 0) (pv 1) (nomark _))))))))))
), ?_⟩
    rcases hm.kind with ⟨v, t, b1, b2, b3, rfl, rfl, he, ty, k0, k1, k2, k3⟩ | ⟨m, a, b, xs, ys, rfl, rfl, rfl, hx, hl, hz, hs⟩
    · skip
      refine q_when (et_B (ev_is2 (ev_var rfl) (ty _ (Ex.refl _)) k0)) (fun h => nomatch h) fun _ H1 e1 => ?_
      refine q_when (et_B (ev_is2 (ev_var rfl) (ty _ e1) k0)) (fun h => nomatch h) fun _ H2 e2 => ?_
      have e2 := e1.trans e2
      refine q_when (et_or (et_B (ev_isN (ev_var rfl))) fun _ => et_B (ev_isN (ev_var rfl))) (fun hn H3 e3 => ?_) (fun hn H3 e3 => ?_)
      · have hd : decide (v = V.non) = true := by
          cases h : decide (v = V.non)
          · rw [h] at hn
            cases hn
          · rfl
        refine s_ret (ev_andV (ev_isN (ev_var rfl)) fun _ => ev_isN (ev_var rfl)) fun H4 e4 => ?_
        rw [hd]
        exact q _ ((e2.trans e3).trans e4)
      · have he : ∀ H', Ex H H' → RV (fun x y H Q => rEq x y H Q ∨ rEqX K x y H Q) v v H' (.bl true) := fun H' e H5 e5 Q q => by
          rcases he with he | he
          · rw [he] at hn
            cases hn
          · exact he H5 (e.trans e5) Q (q H5 (Ex.refl H5))
        have e3 := e2.trans e3
        have step : ∀ (T : String) (b : Bool) (H' : Hp), Ex H H' → PySem.W.kitOne K t (.type T) = some b → b = true → ∀ D : Ends, D.rt = Q → tRet (tAndV (tCB (rIs1 K) (tCons (tVar 1) (tCons (tC (V.ty T)) tNil))) (tAndV (tCB (rIs1 K) (tCons (tVar 0) (tCons (tC (V.ty T)) tNil))) (tOp (fun x y H Q => rEq x y H Q ∨ rEqX K x y H Q) (tVar 0) (tVar 1)))) D (L2.start ["_law_found", "_law_want", "_law_a", "_law_b"] [v, v]) H' := by
          intro T b H' e k hb D hD
          subst hb
          refine s_ret (ev_andV (ev_is1 (ev_var rfl) (ty _ e) k) fun _ => ev_andV (ev_is1 (ev_var rfl) (ty _ e) k) fun _ => ev_op (ev_var rfl) (ev_var rfl) (he _ e)) fun H4 e4 => ?_
          rw [hD]
          exact q _ (e.trans e4)
        refine q_when (et_or (et_B (ev_is1 (ev_var rfl) (ty _ e3) k1)) fun _ => et_B (ev_is1 (ev_var rfl) (ty _ e3) k1)) (fun hb H4 e4 => step _ b1 _ (e3.trans e4) k1 (by cases b1 <;> first | rfl | exact hb) _ (by rfl)) (fun hb H4 e4 => ?_)
        have e4 := e3.trans e4
        refine q_when (et_or (et_B (ev_is1 (ev_var rfl) (ty _ e4) k2)) fun _ => et_B (ev_is1 (ev_var rfl) (ty _ e4) k2)) (fun hb H5 e5 => step _ b2 _ (e4.trans e5) k2 (by cases b2 <;> first | rfl | exact hb) _ (by rfl)) (fun hb H5 e5 => ?_)
        have e5 := e4.trans e5
        refine q_when (et_or (et_B (ev_is1 (ev_var rfl) (ty _ e5) k3)) fun _ => et_B (ev_is1 (ev_var rfl) (ty _ e5) k3)) (fun hb H6 e6 => step _ b3 _ (e5.trans e6) k3 (by cases b3 <;> first | rfl | exact hb) _ (by rfl)) (fun hb H6 e6 => ?_)
        have e6 := e5.trans e6
        exact s_ret (ev_op (ev_var rfl) (ev_var rfl) (he _ e6)) fun H7 e7 => q _ (e6.trans e7)
    · rcases hx with ⟨ha, hb⟩ | ⟨ha, hb⟩
      · refine q_when (et_B (ev_is2 (ev_var rfl) (.ofL hb) rfl)) (fun _ H1 e1 => ?_) (fun h => nomatch h)
        refine q_when (et_or (et_test (ev_op (ev_is1 (ev_var rfl) (.ofL (ex_l e1 ha)) rfl) (ev_is1 (ev_var rfl) (.ofL (ex_l e1 hb)) rfl) (rv_ne rfl))) fun _ => et_test (ev_op (ev_is1 (ev_var rfl) (.ofL (ex_l e1 ha)) rfl) (ev_is1 (ev_var rfl) (.ofL (ex_l e1 hb)) rfl) (rv_ne rfl))) (fun h => absurd h (by decide)) (fun _ H2 e2 => ?_)
        have e2 := e1.trans e2
        refine s_ret (ev_andV (ev_op (ev_lenA (ev_var rfl) (.inl (ex_l e2 ha))) (ev_lenA (ev_var rfl) (.inl (ex_l e2 hb))) (rv_eq rfl)) fun _ => ev_all (en_zip (fs_v _) hl hz (ea_cons (ev_var rfl) (ea_cons (ev_var rfl) ea_nil)) (.inl ⟨ex_l e2 ha, ex_l e2 hb⟩) (fun _ _ => rfl) fun k x y H3 e3 hx hy => ?_)) fun H3 e3 => ?_
        · exact en_ev (ev_call (ea_cons (ev_var rfl) (ea_cons (ev_var rfl) ea_nil)) fun H4 e4 Q q E => ⟨x, y, rfl, (hs k x y hx hy).mono ((e2.trans e3).trans e4), fun H5 e5 => q H5 e5⟩)
        · rw [hl, decide_eq_true rfl]
          exact q _ (e2.trans e3)
      · refine q_when (et_B (ev_is2 (ev_var rfl) (.ofT hb) rfl)) (fun _ H1 e1 => ?_) (fun h => nomatch h)
        refine q_when (et_or (et_test (ev_op (ev_is1 (ev_var rfl) (.ofT (ex_t e1 ha)) rfl) (ev_is1 (ev_var rfl) (.ofT (ex_t e1 hb)) rfl) (rv_ne rfl))) fun _ => et_test (ev_op (ev_is1 (ev_var rfl) (.ofT (ex_t e1 ha)) rfl) (ev_is1 (ev_var rfl) (.ofT (ex_t e1 hb)) rfl) (rv_ne rfl))) (fun h => absurd h (by decide)) (fun _ H2 e2 => ?_)
        have e2 := e1.trans e2
        refine s_ret (ev_andV (ev_op (ev_lenA (ev_var rfl) (.inr (ex_t e2 ha))) (ev_lenA (ev_var rfl) (.inr (ex_t e2 hb))) (rv_eq rfl)) fun _ => ev_all (en_zip (fs_v _) hl hz (ea_cons (ev_var rfl) (ea_cons (ev_var rfl) ea_nil)) (.inr ⟨ex_t e2 ha, ex_t e2 hb⟩) (fun _ _ => rfl) fun k x y H3 e3 hx hy => ?_)) fun H3 e3 => ?_
        · exact en_ev (ev_call (ea_cons (ev_var rfl) (ea_cons (ev_var rfl) ea_nil)) fun H4 e4 Q q E => ⟨x, y, rfl, (hs k x y hx hy).mono ((e2.trans e3).trans e4), fun H5 e5 => q H5 e5⟩)
        · rw [hl, decide_eq_true rfl]
          exact q _ (e2.trans e3)
/-- to any depth -/
theorem cal_same {f : Addr} {fd : FuncData} (F : FunD K "_law_same" "_law_same" (defArgs s__law_same) (defBody s__law_same) (defScope s__law_same) [] [] f fd) (g : mg "_law_same" = some (.ref f)) (T : Bi mg) :
    ∀ n : Nat, Cal P w K mg base (n + 2) "_law_same" (spSame K n) []
  | 0 => ok__law_same F g T 0 1 (ok__same_none F g)
  | n + 1 => ok__law_same F g T (n + 1) (n + 2) (cal_same F g T n)
end
end K01

namespace K01
open PySem PySem.Spec PyProof.Rows L2 Evl XV C8 He RZ
theorem sV_str {v : V} (h : sV v = true) : ∃ z, v = .str z := by
  cases v <;> first | exact ⟨_, rfl⟩ | cases h
theorem iV_int {v : V} (h : iV v = true) (h2 : (!bV v) = true) : ∃ i, v = .int i := by
  cases v with
  | int i => exact ⟨_, rfl⟩
  | bl b => exact absurd (show false = true from h2) Bool.false_ne_true
  | _ => exact absurd (show false = true from h) Bool.false_ne_true
def spLetters (K : PySem.W.Frag) : Sp := fun vs H Q _ => ∃ (v : V) (m : Int), vs = [v, .int m] ∧ AV K H v ∧ RetV (.bl (lettersV m v)) H Q
def spB1 (K : PySem.W.Frag) (g : V → Bool) : Sp := fun vs H Q _ => ∃ v : V, vs = [v] ∧ AV K H v ∧ RetV (.bl (g v)) H Q
def spB3 (K : PySem.W.Frag) : Sp := fun vs H Q _ => ∃ (v : V) (lo hi : Int), vs = [v, .int lo, .int hi] ∧ AV K H v ∧ RetV (.bl (numV lo hi v)) H Q
/-- no tuple -/
def NT (K : PySem.W.Frag) (H : Hp) (v : V) : Prop := ∃ t, Ty0 K H v t ∧ PySem.W.kitOne K t (.type "tuple") = some false
def spPlc (K : PySem.W.Frag) : Sp := fun vs H Q _ => ∃ v : V, vs = [v] ∧ ((∃ a xs, v = .ref a ∧ SqT K H a xs ∧ xs.length ≤ 40000 ∧ (∀ x, x ∈ xs → AV K H x) ∧ RetV (.bl (xs.all (numV 1 4))) H Q) ∨ (NT K H v ∧ RetV (.bl false) H Q))
def benB (ns ms : List Int) : Bool := decide (ms.length < ns.length) && decide (ns.take ms.length = ms)
def spBen (K : PySem.W.Frag) : Sp := fun vs H Q _ => ∃ (a b : Addr) (ns ms : List Int), vs = [.ref a, .ref b] ∧ SqT K H a (ns.map V.int) ∧ SqT K H b (ms.map V.int) ∧ ns.length ≤ 40000 ∧ ms.length ≤ 40000 ∧ RetV (.bl (benB ns ms)) H Q
theorem sc_is_letters : FnScope ["value", "most"] ["value", "most"] (defScope s_is_letters) := ⟨rfl, rfl, rfl, by decide +kernel, rfl, by decide +kernel, by decide +kernel⟩
theorem sc_is_name : FnScope ["value"] ["value"] (defScope s_is_name) := ⟨rfl, rfl, rfl, by decide +kernel, rfl, by decide +kernel, by decide +kernel⟩
theorem sc_is_hole : FnScope ["value"] ["value"] (defScope s_is_hole) := ⟨rfl, rfl, rfl, by decide +kernel, rfl, by decide +kernel, by decide +kernel⟩
theorem sc_is_number : FnScope ["value", "least", "most"] ["value", "least", "most"] (defScope s_is_number) := ⟨rfl, rfl, rfl, by decide +kernel, rfl, by decide +kernel, by decide +kernel⟩
theorem sc_is_place : FnScope ["value", "item"] ["value"] (defScope s_is_place) := ⟨rfl, rfl, rfl, by decide +kernel, rfl, by decide +kernel, by decide +kernel⟩
theorem sc_is_beneath : FnScope ["place", "other"] ["place", "other"] (defScope s_is_beneath) := ⟨rfl, rfl, rfl, by decide +kernel, rfl, by decide +kernel, by decide +kernel⟩
theorem sc__law_is_name : FnScope ["_law_v", "_law_c"] ["_law_v"] (defScope s__law_is_name) := ⟨rfl, rfl, rfl, by decide +kernel, rfl, by decide +kernel, by decide +kernel⟩
theorem sc__law_is_hole : FnScope ["_law_v", "_law_c"] ["_law_v"] (defScope s__law_is_hole) := ⟨rfl, rfl, rfl, by decide +kernel, rfl, by decide +kernel, by decide +kernel⟩
theorem sc__law_whole : FnScope ["_law_v"] ["_law_v"] (defScope s__law_whole) := ⟨rfl, rfl, rfl, by decide +kernel, rfl, by decide +kernel, by decide +kernel⟩
theorem sc__law_is_place : FnScope ["_law_v", "_law_k"] ["_law_v"] (defScope s__law_is_place) := ⟨rfl, rfl, rfl, by decide +kernel, rfl, by decide +kernel, by decide +kernel⟩
theorem sc__law_within : FnScope ["_law_v", "_law_low", "_law_high"] ["_law_v", "_law_low", "_law_high"] (defScope s__law_within) := ⟨rfl, rfl, rfl, by decide +kernel, rfl, by decide +kernel, by decide +kernel⟩
section
variable {P : Program} {w : World} {K : PySem.W.Frag} {mg : Str → Option Value} {base : Heap}
theorem fok_is_letters {f : Addr} {fd : FuncData} (F : FunD K "is_letters" "is_letters" (defArgs s_is_letters) (defBody s_is_letters) (defScope s_is_letters) [] [] f fd) (T : Bi mg) :
    FnOk P w K mg base C8.CX0 1 f fd ["value", "most"] (spLetters K) := by
  refine F.ok sc_is_letters (fun vs H Q E h => ?_) (fun cdv A outer s H vs Q E hr h => ?_)
  · obtain ⟨v, m, rfl, _⟩ := h
    rfl
  · obtain ⟨v, m, rfl, hv, q⟩ := h
    refine ⟨_, PSs.nox (
(pss_one (ps_ret (pe_and (pe_callB call_is1 (by rfl) T.m_isinstance (by decide +kernel) (pa_cons (pv 0) (pa_cons (pe_bltn (v := .ty "str") (by rfl) T.m_str (by decide +kernel) rfl) pa_nil))) (pe_and (pe_chain op_le op_le pe_int (pe_callB call_len_str (by rfl) T.m_len (by decide +kernel) (pa_cons (pv 0) pa_nil)) (pv 1)) (pe_and (pe_m0 PySem.F.slot_str_isascii PySem.F.type_str_isascii mt_isascii (pv 0)) (pe_one (pe_m0 PySem.F.slot_str_isalpha PySem.F.type_str_isalpha mt_isalpha (pv 0))))))))
), ?_⟩
    obtain ⟨t, b, ty, ks, ki, kb, kt, ht, hl⟩ := hv
    refine s_ret (ev_is (w := .bl (lettersV m v)) (ev_andV (b := lettersV m v) (ev_is1 (ev_var rfl) ty ks) fun hs => ?_) ?_) fun H1 e1 => q H1 e1
    · obtain ⟨z, rfl⟩ := sV_str hs
      have hz := hl z rfl
      exact ev_andV (ev_chain (g := fun i j => decide (i ≤ j)) (g' := fun i j => decide (i ≤ j)) ev_c (ev_lenS (ev_var rfl) (by omega)) (ev_var rfl)) fun _ => ev_andV (ev_m0 (g := fun a => V.bl (Txt.isascii a)) (ev_var rfl) trivial) fun _ => ev_m0 (g := fun a => V.bl (Txt.isalpha a)) (ev_var rfl) trivial
    · cases v <;> rfl
theorem ok_is_letters {f : Addr} {fd : FuncData} (F : FunD K "is_letters" "is_letters" (defArgs s_is_letters) (defBody s_is_letters) (defScope s_is_letters) [] [] f fd) (g : mg "is_letters" = some (.ref f)) (T : Bi mg) :
    Cal P w K mg base 1 "is_letters" (spLetters K) [] :=
  ⟨f, fd, ["value", "most"], [], fok_is_letters F T, g, F.kp, FunD.bindsN F fun _ _ _ _ _ _ us hl => match us, hl with | [_, _], _ => rfl, .nil⟩
theorem okw_is_letters {f : Addr} {fd : FuncData} (F : FunD K "is_letters" "is_letters" (defArgs s_is_letters) (defBody s_is_letters) (defScope s_is_letters) [] [] f fd) (g : mg "is_letters" = some (.ref f)) (T : Bi mg) :
    CalW P w K mg base 1 "is_letters" (spLetters K) ["most", "value"] :=
  ⟨f, fd, ["value", "most"], fok_is_letters F T, g, F.kp, kb_z F ["most", "value"] 2 rfl (by decide) fun _ _ _ _ _ _ us hl => match us, hl with | [_, _], _ => rfl⟩
theorem fok_is_name {f : Addr} {fd : FuncData} (F : FunD K "is_name" "is_name" (defArgs s_is_name) (defBody s_is_name) (defScope s_is_name) [] [] f fd) (T : Bi mg) (cis_letters : Cal P w K mg base 1 "is_letters" (spLetters K) []) :
    FnOk P w K mg base C8.CX0 2 f fd ["value"] (spB1 K nameV) := by
  refine F.ok sc_is_name (fun vs H Q E h => ?_) (fun cdv A outer s H vs Q E hr h => ?_)
  · obtain ⟨v, rfl, _⟩ := h
    rfl
  · obtain ⟨v, rfl, hv, q⟩ := h
    refine ⟨_, PSs.nox (
(pss_one (ps_ret (pe_and (pe_c (cis_letters) hr (by omega) (by rfl) (pa_cons (pv 0) (pa_cons pe_int pa_nil))) (pe_one (pe_m0 PySem.F.slot_str_islower PySem.F.type_str_islower mt_islower (pv 0))))))
), ?_⟩
    refine s_ret (ev_is (w := .bl (nameV v)) (ev_andV (a := lettersV 8 v) (b := match v with | .str z => Txt.islower z | _ => false) (ev_call (ea_cons (ev_var rfl) (ea_cons ev_c ea_nil)) fun H1 e Q q E => ⟨v, 8, rfl, hv.mono e, q⟩) fun hs => ?_) ?_) fun H1 e1 => q H1 e1
    · cases v with
      | str z => exact ev_m0 (g := fun a => V.bl (Txt.islower a)) (ev_var rfl) trivial
      | _ => cases hs
    · cases v <;> rfl
theorem ok_is_name {f : Addr} {fd : FuncData} (F : FunD K "is_name" "is_name" (defArgs s_is_name) (defBody s_is_name) (defScope s_is_name) [] [] f fd) (g : mg "is_name" = some (.ref f)) (T : Bi mg) (cis_letters : Cal P w K mg base 1 "is_letters" (spLetters K) []) :
    Cal P w K mg base 2 "is_name" (spB1 K nameV) [] :=
  ⟨f, fd, ["value"], [], fok_is_name F T cis_letters, g, F.kp, FunD.bindsN F fun _ _ _ _ _ _ us hl => match us, hl with | [_], _ => rfl, .nil⟩
theorem okw_is_name {f : Addr} {fd : FuncData} (F : FunD K "is_name" "is_name" (defArgs s_is_name) (defBody s_is_name) (defScope s_is_name) [] [] f fd) (g : mg "is_name" = some (.ref f)) (T : Bi mg) (cis_letters : Cal P w K mg base 1 "is_letters" (spLetters K) []) :
    CalW P w K mg base 2 "is_name" (spB1 K nameV) ["value"] :=
  ⟨f, fd, ["value"], fok_is_name F T cis_letters, g, F.kp, kb_z F ["value"] 1 rfl (by decide) fun _ _ _ _ _ _ us hl => match us, hl with | [_], _ => rfl⟩
theorem fok_is_hole {f : Addr} {fd : FuncData} (F : FunD K "is_hole" "is_hole" (defArgs s_is_hole) (defBody s_is_hole) (defScope s_is_hole) [] [] f fd) (T : Bi mg) (cis_letters : Cal P w K mg base 1 "is_letters" (spLetters K) []) :
    FnOk P w K mg base C8.CX0 2 f fd ["value"] (spB1 K holeV) := by
  refine F.ok sc_is_hole (fun vs H Q E h => ?_) (fun cdv A outer s H vs Q E hr h => ?_)
  · obtain ⟨v, rfl, _⟩ := h
    rfl
  · obtain ⟨v, rfl, hv, q⟩ := h
    refine ⟨_, PSs.nox (
(pss_one (ps_ret (pe_and (pe_c (cis_letters) hr (by omega) (by rfl) (pa_cons (pv 0) (pa_cons pe_int pa_nil))) (pe_one (pe_m0 PySem.F.slot_str_isupper PySem.F.type_str_isupper mt_isupper (pv 0))))))
), ?_⟩
    refine s_ret (ev_is (w := .bl (holeV v)) (ev_andV (a := lettersV 4 v) (b := match v with | .str z => Txt.isupper z | _ => false) (ev_call (ea_cons (ev_var rfl) (ea_cons ev_c ea_nil)) fun H1 e Q q E => ⟨v, 4, rfl, hv.mono e, q⟩) fun hs => ?_) ?_) fun H1 e1 => q H1 e1
    · cases v with
      | str z => exact ev_m0 (g := fun a => V.bl (Txt.isupper a)) (ev_var rfl) trivial
      | _ => cases hs
    · cases v <;> rfl
theorem ok_is_hole {f : Addr} {fd : FuncData} (F : FunD K "is_hole" "is_hole" (defArgs s_is_hole) (defBody s_is_hole) (defScope s_is_hole) [] [] f fd) (g : mg "is_hole" = some (.ref f)) (T : Bi mg) (cis_letters : Cal P w K mg base 1 "is_letters" (spLetters K) []) :
    Cal P w K mg base 2 "is_hole" (spB1 K holeV) [] :=
  ⟨f, fd, ["value"], [], fok_is_hole F T cis_letters, g, F.kp, FunD.bindsN F fun _ _ _ _ _ _ us hl => match us, hl with | [_], _ => rfl, .nil⟩
theorem okw_is_hole {f : Addr} {fd : FuncData} (F : FunD K "is_hole" "is_hole" (defArgs s_is_hole) (defBody s_is_hole) (defScope s_is_hole) [] [] f fd) (g : mg "is_hole" = some (.ref f)) (T : Bi mg) (cis_letters : Cal P w K mg base 1 "is_letters" (spLetters K) []) :
    CalW P w K mg base 2 "is_hole" (spB1 K holeV) ["value"] :=
  ⟨f, fd, ["value"], fok_is_hole F T cis_letters, g, F.kp, kb_z F ["value"] 1 rfl (by decide) fun _ _ _ _ _ _ us hl => match us, hl with | [_], _ => rfl⟩
theorem fok_is_number {f : Addr} {fd : FuncData} (F : FunD K "is_number" "is_number" (defArgs s_is_number) (defBody s_is_number) (defScope s_is_number) [] [] f fd) (T : Bi mg) :
    FnOk P w K mg base C8.CX0 1 f fd ["value", "least", "most"] (spB3 K) := by
  refine F.ok sc_is_number (fun vs H Q E h => ?_) (fun cdv A outer s H vs Q E hr h => ?_)
  · obtain ⟨v, lo, hi, rfl, _⟩ := h
    rfl
  · obtain ⟨v, lo, hi, rfl, hv, q⟩ := h
    refine ⟨_, PSs.nox (
(pss_one (ps_ret (pe_and (pe_callB call_is1 (by rfl) T.m_isinstance (by decide +kernel) (pa_cons (pv 0) (pa_cons (pe_bltn (v := .ty "int") (by rfl) T.m_int (by decide +kernel) rfl) pa_nil))) (pe_and (pe_not (pe_callB call_is1 (by rfl) T.m_isinstance (by decide +kernel) (pa_cons (pv 0) (pa_cons (pe_bltn (v := .ty "bool") (by rfl) T.m_bool (by decide +kernel) rfl) pa_nil)))) (pe_one (pe_chain op_le op_le (pv 1) (pv 0) (pv 2)))))))
), ?_⟩
    obtain ⟨t, b, ty, ks, ki, kb, kt, ht, hl⟩ := hv
    refine s_ret (ev_is (w := .bl (numV lo hi v)) (ev_andV (b := numV lo hi v) (ev_is1 (ev_var rfl) ty ki) fun h1 => ev_is (v := .bl (!bV v && numV lo hi v)) (ev_andV (ev_notV (ev_is1 (ev_var rfl) ty kb)) fun h2 => ?_) ?_) ?_) fun H1 e1 => q H1 e1
    · obtain ⟨i, rfl⟩ := iV_int h1 h2
      exact ev_chain (g := fun i j => decide (i ≤ j)) (g' := fun i j => decide (i ≤ j)) (ev_var rfl) (ev_var rfl) (ev_var rfl)
    · cases v <;> simp [bV, numV]
    · cases v <;> simp [iV, numV]
theorem ok_is_number {f : Addr} {fd : FuncData} (F : FunD K "is_number" "is_number" (defArgs s_is_number) (defBody s_is_number) (defScope s_is_number) [] [] f fd) (g : mg "is_number" = some (.ref f)) (T : Bi mg) :
    Cal P w K mg base 1 "is_number" (spB3 K) [] :=
  ⟨f, fd, ["value", "least", "most"], [], fok_is_number F T, g, F.kp, FunD.bindsN F fun _ _ _ _ _ _ us hl => match us, hl with | [_, _, _], _ => rfl, .nil⟩
theorem okw_is_number {f : Addr} {fd : FuncData} (F : FunD K "is_number" "is_number" (defArgs s_is_number) (defBody s_is_number) (defScope s_is_number) [] [] f fd) (g : mg "is_number" = some (.ref f)) (T : Bi mg) :
    CalW P w K mg base 1 "is_number" (spB3 K) ["most", "least", "value"] :=
  ⟨f, fd, ["value", "least", "most"], fok_is_number F T, g, F.kp, kb_z F ["most", "least", "value"] 3 rfl (by decide) fun _ _ _ _ _ _ us hl => match us, hl with | [_, _, _], _ => rfl⟩
theorem fok__law_within {f : Addr} {fd : FuncData} (F : FunD K "_law_within" "_law_within" (defArgs s__law_within) (defBody s__law_within) (defScope s__law_within) [] [] f fd) (T : Bi mg) :
    FnOk P w K mg base C8.CX0 1 f fd ["_law_v", "_law_low", "_law_high"] (spB3 K) := by
  refine F.ok sc__law_within (fun vs H Q E h => ?_) (fun cdv A outer s H vs Q E hr h => ?_)
  · obtain ⟨v, lo, hi, rfl, _⟩ := h
    rfl
  · obtain ⟨v, lo, hi, rfl, hv, q⟩ := h
    refine ⟨_, PSs.nox (
(pss_one (ps_ret (pe_and (pe_callB call_is1 (by rfl) T.m_isinstance (by decide +kernel) (pa_cons (pv 0) (pa_cons (pe_bltn (v := .ty "int") (by rfl) T.m_int (by decide +kernel) rfl) pa_nil))) (pe_and (pe_not (pe_callB call_is1 (by rfl) T.m_isinstance (by decide +kernel) (pa_cons (pv 0) (pa_cons (pe_bltn (v := .ty "bool") (by rfl) T.m_bool (by decide +kernel) rfl) pa_nil)))) (pe_and (pe_not (pe_cmpR op_lt (pv 0) (pv 1) (nomark _))) (pe_one (pe_not (pe_cmpR op_gt (pv 0) (pv 2) (nomark _)))))))))
), ?_⟩
    obtain ⟨t, b, ty, ks, ki, kb, kt, ht, hl⟩ := hv
    refine s_ret (ev_is (w := .bl (numV lo hi v)) (ev_andV (b := numV lo hi v) (ev_is1 (ev_var rfl) ty ki) fun h1 => ev_is (v := .bl (!bV v && numV lo hi v)) (ev_andV (ev_notV (ev_is1 (ev_var rfl) ty kb)) fun h2 => ?_) ?_) ?_) fun H1 e1 => q H1 e1
    · obtain ⟨i, rfl⟩ := iV_int h1 h2
      refine ev_is (ev_andV (ev_notV (ev_op (ev_var rfl) (ev_var rfl) rv_I0)) fun _ => ev_notV (ev_op (ev_var rfl) (ev_var rfl) rv_I0)) ?_
      show V.bl (!decide (i < lo) && !decide (i > hi)) = V.bl (decide (lo ≤ i) && decide (i ≤ hi))
      rw [← decide_not, ← decide_not, decide_eq_decide.mpr (show ¬ i < lo ↔ lo ≤ i by omega), decide_eq_decide.mpr (show ¬ i > hi ↔ i ≤ hi by omega)]
    · cases v <;> simp [bV, numV]
    · cases v <;> simp [iV, numV]
theorem ok__law_within {f : Addr} {fd : FuncData} (F : FunD K "_law_within" "_law_within" (defArgs s__law_within) (defBody s__law_within) (defScope s__law_within) [] [] f fd) (g : mg "_law_within" = some (.ref f)) (T : Bi mg) :
    Cal P w K mg base 1 "_law_within" (spB3 K) [] :=
  ⟨f, fd, ["_law_v", "_law_low", "_law_high"], [], fok__law_within F T, g, F.kp, FunD.bindsN F fun _ _ _ _ _ _ us hl => match us, hl with | [_, _, _], _ => rfl, .nil⟩
theorem fok__law_is_name {f : Addr} {fd : FuncData} (F : FunD K "_law_is_name" "_law_is_name" (defArgs s__law_is_name) (defBody s__law_is_name) (defScope s__law_is_name) [] [] f fd) (T : Bi mg) :
    FnOk P w K mg base C8.CX0 1 f fd ["_law_v"] (spB1 K nameV) := by
  refine F.ok sc__law_is_name (fun vs H Q E h => ?_) (fun cdv A outer s H vs Q E hr h => ?_)
  · obtain ⟨v, rfl, _⟩ := h
    rfl
  · obtain ⟨v, rfl, hv, q⟩ := h
    refine ⟨_, PSs.nox (
(pss_one (ps_ret (pe_and (pe_callB call_is1 (by rfl) T.m_isinstance (by decide +kernel) (pa_cons (pv 0) (pa_cons (pe_bltn (v := .ty "str") (by rfl) T.m_str (by decide +kernel) rfl) pa_nil))) (pe_and (pe_chain op_le op_le pe_int (pe_callB call_len_str (by rfl) T.m_len (by decide +kernel) (pa_cons (pv 0) pa_nil)) pe_int) (pe_one (pe_callB (cr_all rfl) (by rfl) T.m_all (by decide +kernel) (pa_cons (pe_lc (own := [("_law_c", 1)]) (g := gName 1) (by rfl) sc__law_is_name.nd (pi_str (pv 0)) (blkOk_by (own := [("_law_c", 1)]) (N := ["_law_v", "_law_c"]) (sc := defScope s__law_is_name) (by decide +kernel)) (fun _ _ _ _ _ => (pg_name (i := 1) sc__law_is_name.nd rfl (Or.inl rfl))) (fun _ _ _ _ _ => pts_nil) (fun _ _ _ _ _ => (pe_cmpR op_in_sign (pv 1) pe_str (by rfl)))) pa_nil)))))))
), ?_⟩
    obtain ⟨t, b, ty, ks, ki, kb, kt, ht, hl⟩ := hv
    refine s_ret (ev_is (w := .bl (nameV v)) (ev_andV (b := nameV v) (ev_is1 (ev_var rfl) ty ks) fun hs => ?_) ?_) fun H1 e1 => q H1 e1
    · obtain ⟨z, rfl⟩ := sV_str hs
      have hz := hl z rfl
      refine ev_is (ev_andV (ev_chain (g := fun i j => decide (i ≤ j)) (g' := fun i j => decide (i ≤ j)) ev_c (ev_lenS (ev_var rfl) (by omega)) ev_c) fun _ => ev_allL (bs := (List.range z.length).map fun i => lowB (z.cps.getD i 0)) ?_) ?_
      · rw [← given_bl]
        refine el_lcS (fun _ => true) _ (ev_var rfl) hz (fun _ => rfl) (fun _ _ _ _ _ => et_yes) fun i c H1 e1 hc _ => ?_
        refine ev_is (ev_op (ev_var rfl) ev_c rv_sign) ?_
        rw [abc_low, show z.cps.getD i 0 = c by rw [Array.getD_eq_getD_getElem?, ← Array.getElem?_toList, hc] <;> rfl]
      · show V.bl ((decide ((1 : Int) ≤ (z.length : Int)) && decide ((z.length : Int) ≤ 8)) && _) = V.bl (nameV (.str z))
        rw [range_all, ← name_all]
        rfl
    · cases v <;> rfl
theorem ok__law_is_name {f : Addr} {fd : FuncData} (F : FunD K "_law_is_name" "_law_is_name" (defArgs s__law_is_name) (defBody s__law_is_name) (defScope s__law_is_name) [] [] f fd) (g : mg "_law_is_name" = some (.ref f)) (T : Bi mg) :
    Cal P w K mg base 1 "_law_is_name" (spB1 K nameV) [] :=
  ⟨f, fd, ["_law_v"], [], fok__law_is_name F T, g, F.kp, FunD.bindsN F fun _ _ _ _ _ _ us hl => match us, hl with | [_], _ => rfl, .nil⟩
theorem fok__law_is_hole {f : Addr} {fd : FuncData} (F : FunD K "_law_is_hole" "_law_is_hole" (defArgs s__law_is_hole) (defBody s__law_is_hole) (defScope s__law_is_hole) [] [] f fd) (T : Bi mg) :
    FnOk P w K mg base C8.CX0 1 f fd ["_law_v"] (spB1 K holeV) := by
  refine F.ok sc__law_is_hole (fun vs H Q E h => ?_) (fun cdv A outer s H vs Q E hr h => ?_)
  · obtain ⟨v, rfl, _⟩ := h
    rfl
  · obtain ⟨v, rfl, hv, q⟩ := h
    refine ⟨_, PSs.nox (
(pss_one (ps_ret (pe_and (pe_callB call_is1 (by rfl) T.m_isinstance (by decide +kernel) (pa_cons (pv 0) (pa_cons (pe_bltn (v := .ty "str") (by rfl) T.m_str (by decide +kernel) rfl) pa_nil))) (pe_and (pe_chain op_le op_le pe_int (pe_callB call_len_str (by rfl) T.m_len (by decide +kernel) (pa_cons (pv 0) pa_nil)) pe_int) (pe_one (pe_callB (cr_all rfl) (by rfl) T.m_all (by decide +kernel) (pa_cons (pe_lc (own := [("_law_c", 1)]) (g := gName 1) (by rfl) sc__law_is_hole.nd (pi_str (pv 0)) (blkOk_by (own := [("_law_c", 1)]) (N := ["_law_v", "_law_c"]) (sc := defScope s__law_is_hole) (by decide +kernel)) (fun _ _ _ _ _ => (pg_name (i := 1) sc__law_is_hole.nd rfl (Or.inl rfl))) (fun _ _ _ _ _ => pts_nil) (fun _ _ _ _ _ => (pe_cmpR op_in_sign (pv 1) pe_str (by rfl)))) pa_nil)))))))
), ?_⟩
    obtain ⟨t, b, ty, ks, ki, kb, kt, ht, hl⟩ := hv
    refine s_ret (ev_is (w := .bl (holeV v)) (ev_andV (b := holeV v) (ev_is1 (ev_var rfl) ty ks) fun hs => ?_) ?_) fun H1 e1 => q H1 e1
    · obtain ⟨z, rfl⟩ := sV_str hs
      have hz := hl z rfl
      refine ev_is (ev_andV (ev_chain (g := fun i j => decide (i ≤ j)) (g' := fun i j => decide (i ≤ j)) ev_c (ev_lenS (ev_var rfl) (by omega)) ev_c) fun _ => ev_allL (bs := (List.range z.length).map fun i => upB (z.cps.getD i 0)) ?_) ?_
      · rw [← given_bl]
        refine el_lcS (fun _ => true) _ (ev_var rfl) hz (fun _ => rfl) (fun _ _ _ _ _ => et_yes) fun i c H1 e1 hc _ => ?_
        refine ev_is (ev_op (ev_var rfl) ev_c rv_sign) ?_
        rw [abc_up, show z.cps.getD i 0 = c by rw [Array.getD_eq_getD_getElem?, ← Array.getElem?_toList, hc] <;> rfl]
      · show V.bl ((decide ((1 : Int) ≤ (z.length : Int)) && decide ((z.length : Int) ≤ 4)) && _) = V.bl (holeV (.str z))
        rw [range_all, ← hole_all]
        rfl
    · cases v <;> rfl
theorem ok__law_is_hole {f : Addr} {fd : FuncData} (F : FunD K "_law_is_hole" "_law_is_hole" (defArgs s__law_is_hole) (defBody s__law_is_hole) (defScope s__law_is_hole) [] [] f fd) (g : mg "_law_is_hole" = some (.ref f)) (T : Bi mg) :
    Cal P w K mg base 1 "_law_is_hole" (spB1 K holeV) [] :=
  ⟨f, fd, ["_law_v"], [], fok__law_is_hole F T, g, F.kp, FunD.bindsN F fun _ _ _ _ _ _ us hl => match us, hl with | [_], _ => rfl, .nil⟩
end
end K01

namespace K01
open PySem PySem.Spec PyProof.Rows L2 Evl XV C8 He RZ
section
variable {P : Program} {w : World} {K : PySem.W.Frag} {mg : Str → Option Value} {base : Heap}
theorem fok_is_place {f : Addr} {fd : FuncData} (F : FunD K "is_place" "is_place" (defArgs s_is_place) (defBody s_is_place) (defScope s_is_place) [] [] f fd) (T : Bi mg) (cis_number : Cal P w K mg base 1 "is_number" (spB3 K) []) :
    FnOk P w K mg base C8.CX0 2 f fd ["value"] (spPlc K) := by
  refine F.ok sc_is_place (fun vs H Q E h => ?_) (fun cdv A outer s H vs Q E hr h => ?_)
  · obtain ⟨v, rfl, _⟩ := h
    rfl
  · obtain ⟨v, rfl, hv⟩ := h
    refine ⟨_, PSs.nox (
(pss_one (ps_ret (pe_and (pe_callB call_is1 (by rfl) T.m_isinstance (by decide +kernel) (pa_cons (pv 0) (pa_cons (pe_bltn (v := .ty "tuple") (by rfl) T.m_tuple (by decide +kernel) rfl) pa_nil))) (pe_one (pe_callB (cr_all rfl) (by rfl) T.m_all (by decide +kernel) (pa_cons (pe_lc (own := [("item", 1)]) (g := gName 1) (by rfl) sc_is_place.nd (pi_tup (pv 0)) (blkOk_by (own := [("item", 1)]) (N := ["value", "item"]) (sc := defScope s_is_place) (by decide +kernel)) (fun _ _ _ _ _ => (pg_name (i := 1) sc_is_place.nd rfl (Or.inl rfl))) (fun _ _ _ _ _ => pts_nil) (fun _ _ _ _ _ => (pe_c (cis_number) hr (by omega) (by rfl) (pa_cons (pv 1) (pa_cons pe_int (pa_cons pe_int pa_nil)))))) pa_nil))))))
), ?_⟩
    rcases hv with ⟨a, xs, rfl, hx, hz, hA, q⟩ | ⟨⟨t, ty, kt⟩, q⟩
    · refine s_ret (ev_andV (ev_is1 (ev_var rfl) (.ofT hx) rfl) fun _ => ev_allL (bs := xs.map (numV 1 4)) ?_) fun H1 e1 => ?_
      · rw [List.map_map]
        refine el_mapT _ (ev_var rfl) hx hz (fun _ => rfl) fun x H1 e1 hi => ?_
        exact ev_call (z := .bl (numV 1 4 x)) (ea_cons (ev_var rfl) (ea_cons ev_c (ea_cons ev_c ea_nil))) fun H2 e2 Q q E => ⟨x, 1, 4, rfl, (hA x hi).mono (e1.trans e2), q⟩
      · rw [Bool.true_and, List.all_map]
        exact q H1 e1
    · exact s_ret (ev_is (ev_andV (a := false) (b := false) (ev_is1 (ev_var rfl) ty kt) fun h => nomatch h) rfl) fun H1 e1 => q H1 e1
theorem ok_is_place {f : Addr} {fd : FuncData} (F : FunD K "is_place" "is_place" (defArgs s_is_place) (defBody s_is_place) (defScope s_is_place) [] [] f fd) (g : mg "is_place" = some (.ref f)) (T : Bi mg) (cis_number : Cal P w K mg base 1 "is_number" (spB3 K) []) :
    Cal P w K mg base 2 "is_place" (spPlc K) [] :=
  ⟨f, fd, ["value"], [], fok_is_place F T cis_number, g, F.kp, FunD.bindsN F fun _ _ _ _ _ _ us hl => match us, hl with | [_], _ => rfl, .nil⟩
theorem okw_is_place {f : Addr} {fd : FuncData} (F : FunD K "is_place" "is_place" (defArgs s_is_place) (defBody s_is_place) (defScope s_is_place) [] [] f fd) (g : mg "is_place" = some (.ref f)) (T : Bi mg) (cis_number : Cal P w K mg base 1 "is_number" (spB3 K) []) :
    CalW P w K mg base 2 "is_place" (spPlc K) ["value"] :=
  ⟨f, fd, ["value"], fok_is_place F T cis_number, g, F.kp, kb_z F ["value"] 1 rfl (by decide) fun _ _ _ _ _ _ us hl => match us, hl with | [_], _ => rfl⟩
theorem fok__law_whole {f : Addr} {fd : FuncData} (F : FunD K "_law_whole" "_law_whole" (defArgs s__law_whole) (defBody s__law_whole) (defScope s__law_whole) [] [] f fd) (T : Bi mg) :
    FnOk P w K mg base C8.CX0 1 f fd ["_law_v"] (spB1 K (fun v => iV v && !bV v)) := by
  refine F.ok sc__law_whole (fun vs H Q E h => ?_) (fun cdv A outer s H vs Q E hr h => ?_)
  · obtain ⟨v, rfl, _⟩ := h
    rfl
  · obtain ⟨v, rfl, hv, q⟩ := h
    refine ⟨_, PSs.nox (
(pss_one (ps_ret (pe_and (pe_callB call_is1 (by rfl) T.m_isinstance (by decide +kernel) (pa_cons (pv 0) (pa_cons (pe_bltn (v := .ty "int") (by rfl) T.m_int (by decide +kernel) rfl) pa_nil))) (pe_one (pe_not (pe_callB call_is1 (by rfl) T.m_isinstance (by decide +kernel) (pa_cons (pv 0) (pa_cons (pe_bltn (v := .ty "bool") (by rfl) T.m_bool (by decide +kernel) rfl) pa_nil))))))))
), ?_⟩
    obtain ⟨t, b, ty, ks, ki, kb, kt, ht, hl⟩ := hv
    exact s_ret (ev_andV (ev_is1 (ev_var rfl) ty ki) fun h1 => ev_notV (ev_is1 (ev_var rfl) ty kb)) fun H1 e1 => q H1 e1
theorem ok__law_whole {f : Addr} {fd : FuncData} (F : FunD K "_law_whole" "_law_whole" (defArgs s__law_whole) (defBody s__law_whole) (defScope s__law_whole) [] [] f fd) (g : mg "_law_whole" = some (.ref f)) (T : Bi mg) :
    Cal P w K mg base 1 "_law_whole" (spB1 K (fun v => iV v && !bV v)) [] :=
  ⟨f, fd, ["_law_v"], [], fok__law_whole F T, g, F.kp, FunD.bindsN F fun _ _ _ _ _ _ us hl => match us, hl with | [_], _ => rfl, .nil⟩
theorem fok__law_is_place {f : Addr} {fd : FuncData} (F : FunD K "_law_is_place" "_law_is_place" (defArgs s__law_is_place) (defBody s__law_is_place) (defScope s__law_is_place) [] [] f fd) (T : Bi mg) (c_whole : Cal P w K mg base 1 "_law_whole" (spB1 K (fun v => iV v && !bV v)) []) :
    FnOk P w K mg base C8.CX0 2 f fd ["_law_v"] (spPlc K) := by
  refine F.ok sc__law_is_place (fun vs H Q E h => ?_) (fun cdv A outer s H vs Q E hr h => ?_)
  · obtain ⟨v, rfl, _⟩ := h
    rfl
  · obtain ⟨v, rfl, hv⟩ := h
    refine ⟨_, PSs.nox (
(pss_one (ps_ret (pe_and (pe_callB call_is1 (by rfl) T.m_isinstance (by decide +kernel) (pa_cons (pv 0) (pa_cons (pe_bltn (v := .ty "tuple") (by rfl) T.m_tuple (by decide +kernel) rfl) pa_nil))) (pe_one (pe_callB (cr_all rfl) (by rfl) T.m_all (by decide +kernel) (pa_cons (pe_lc (own := [("_law_k", 1)]) (g := gName 1) (by rfl) sc__law_is_place.nd (pi_tup (pv 0)) (blkOk_by (own := [("_law_k", 1)]) (N := ["_law_v", "_law_k"]) (sc := defScope s__law_is_place) (by decide +kernel)) (fun _ _ _ _ _ => (pg_name (i := 1) sc__law_is_place.nd rfl (Or.inl rfl))) (fun _ _ _ _ _ => pts_nil) (fun _ _ _ _ _ => (pe_and (pe_c (c_whole) hr (by omega) (by rfl) (pa_cons (pv 1) pa_nil)) (pe_one (pe_chain op_le op_le pe_int (pv 1) pe_int))))) pa_nil))))))
), ?_⟩
    rcases hv with ⟨a, xs, rfl, hx, hz, hA, q⟩ | ⟨⟨t, ty, kt⟩, q⟩
    · refine s_ret (ev_andV (ev_is1 (ev_var rfl) (.ofT hx) rfl) fun _ => ev_allL (bs := xs.map (numV 1 4)) ?_) fun H1 e1 => ?_
      · rw [List.map_map]
        refine el_mapT _ (ev_var rfl) hx hz (fun _ => rfl) fun x H1 e1 hi => ?_
        refine ev_is (ev_andV (a := iV x && !bV x) (b := numV 1 4 x) (ev_call (ea_cons (ev_var rfl) ea_nil) fun H2 e2 Q q E => ⟨x, rfl, (hA x hi).mono (e1.trans e2), q⟩) fun h => ?_) ?_
        · obtain ⟨h1, h2⟩ := Bool.and_eq_true_iff.mp h
          obtain ⟨n, rfl⟩ := iV_int h1 h2
          exact ev_chain (g := fun i j => decide (i ≤ j)) (g' := fun i j => decide (i ≤ j)) ev_c (ev_var rfl) ev_c
        · show V.bl ((iV x && !bV x) && numV 1 4 x) = V.bl (numV 1 4 x)
          cases x <;> simp [iV, bV, numV]
      · rw [Bool.true_and, List.all_map]
        exact q H1 e1
    · exact s_ret (ev_is (ev_andV (a := false) (b := false) (ev_is1 (ev_var rfl) ty kt) fun h => nomatch h) rfl) fun H1 e1 => q H1 e1
theorem ok__law_is_place {f : Addr} {fd : FuncData} (F : FunD K "_law_is_place" "_law_is_place" (defArgs s__law_is_place) (defBody s__law_is_place) (defScope s__law_is_place) [] [] f fd) (g : mg "_law_is_place" = some (.ref f)) (T : Bi mg) (c_whole : Cal P w K mg base 1 "_law_whole" (spB1 K (fun v => iV v && !bV v)) []) :
    Cal P w K mg base 2 "_law_is_place" (spPlc K) [] :=
  ⟨f, fd, ["_law_v"], [], fok__law_is_place F T c_whole, g, F.kp, FunD.bindsN F fun _ _ _ _ _ _ us hl => match us, hl with | [_], _ => rfl, .nil⟩
theorem fok_is_beneath {f : Addr} {fd : FuncData} (F : FunD K "is_beneath" "is_beneath" (defArgs s_is_beneath) (defBody s_is_beneath) (defScope s_is_beneath) [] [] f fd) (T : Bi mg) :
    FnOk P w K mg base C8.CX0 1 f fd ["place", "other"] (spBen K) := by
  refine F.ok sc_is_beneath (fun vs H Q E h => ?_) (fun cdv A outer s H vs Q E hr h => ?_)
  · obtain ⟨a, b, ns, ms, rfl, _⟩ := h
    rfl
  · obtain ⟨a, b, ns, ms, rfl, ha, hb, zn, zm, q⟩ := h
    refine ⟨_, PSs.nox (
(pss_one (ps_ret (pe_and (pe_cmpR op_gt (pe_callB call_len_seq (by rfl) T.m_len (by decide +kernel) (pa_cons (pv 0) pa_nil)) (pe_callB call_len_seq (by rfl) T.m_len (by decide +kernel) (pa_cons (pv 1) pa_nil)) (nomark _)) (pe_one (pe_cmpR (op_eqD hr.units) (pe_slice sl_tupA (pv 0) po_none (po_some (pe_callB call_len_seq (by rfl) T.m_len (by decide +kernel) (pa_cons (pv 1) pa_nil)))) (pv 1) (nomark _))))))
), ?_⟩
    refine s_ret (ev_is (w := .bl (benB ns ms)) (ev_andV (ev_op (ev_lenT (ev_var rfl) (.inr ha)) (ev_lenT (ev_var rfl) (.inr hb)) rv_I0) fun _ => ev_eqS (ns := ns.take ms.length) ?_ (es_of (ev_var rfl) hb)) ?_) fun H1 e1 => q H1 e1
    · have e : (ns.take ms.length).map V.int = cutV (ns.map V.int) none (some (((ms.map V.int).length : Nat) : Int)) := by
        rw [cut_to, List.map_take, List.length_map]
      rw [e]
      exact es_sl (es_of (ev_var rfl) ha) eo_none (eo_some (ev_lenT (ev_var rfl) (.inr hb)))
    · unfold benB
      rw [List.length_map, List.length_map, decide_eq_decide.mpr (show (ns.length : Int) > (ms.length : Int) ↔ ms.length < ns.length by omega)]
theorem ok_is_beneath {f : Addr} {fd : FuncData} (F : FunD K "is_beneath" "is_beneath" (defArgs s_is_beneath) (defBody s_is_beneath) (defScope s_is_beneath) [] [] f fd) (g : mg "is_beneath" = some (.ref f)) (T : Bi mg) :
    Cal P w K mg base 1 "is_beneath" (spBen K) [] :=
  ⟨f, fd, ["place", "other"], [], fok_is_beneath F T, g, F.kp, FunD.bindsN F fun _ _ _ _ _ _ us hl => match us, hl with | [_, _], _ => rfl, .nil⟩
theorem okw_is_beneath {f : Addr} {fd : FuncData} (F : FunD K "is_beneath" "is_beneath" (defArgs s_is_beneath) (defBody s_is_beneath) (defScope s_is_beneath) [] [] f fd) (g : mg "is_beneath" = some (.ref f)) (T : Bi mg) :
    CalW P w K mg base 1 "is_beneath" (spBen K) ["other", "place"] :=
  ⟨f, fd, ["place", "other"], fok_is_beneath F T, g, F.kp, kb_z F ["other", "place"] 2 rfl (by decide) fun _ _ _ _ _ _ us hl => match us, hl with | [_, _], _ => rfl⟩
end
end K01

namespace K01
open PySem PySem.Spec PyProof.Rows L2 Evl XV C8 He RZ
/-- the module's constants -/
structure Bc (K : PySem.W.Frag) (mg : Str → Option Value) (aT aD : Addr) : Prop extends Bi mg where
  k_TOP : ∃ u, mg "TOP" = some u ∧ RelV (.ref aT) u
  k_DIGITS : ∃ u, mg "DIGITS" = some u ∧ RelV (.ref aD) u
  k_BLANK : ∃ u, mg "BLANK" = some u ∧ RelV (.str "_") u
  t_TOP : ∀ H, SqT K H aT []
  t_DIGITS : ∀ H, SqT K H aD digsV
def spTxt (K : PySem.W.Frag) : Sp := fun vs H Q _ => ∃ (a : Addr) (ns : List Int), vs = [.ref a] ∧ SqT K H a (ns.map V.int) ∧ Num4 ns ∧ ns.length ≤ 10000 ∧ RetV (.str (dotsS ns)) H Q
def spScan (K : PySem.W.Frag) : Sp := fun vs H Q _ => ∃ z : Str, vs = [.str z, .int 0] ∧ z.length ≤ 40000 ∧ ∀ (e : Int) (pv : V) (p : Addr) (H' : Hp), Ex H H' → H' p = some (.tup [.int e, pv]) →
  ((pv = .non ∧ readL z.cps.toList = none) ∨ ∃ t ns, pv = .ref t ∧ SqT K H' t (ns.map V.int) ∧ (e = (z.length : Int) → readL z.cps.toList = some ns) ∧ (e ≠ (z.length : Int) → readL z.cps.toList = none)) → Q (.ref p) H'
def rdV : V → Option (List Int)
  | .str z => readL z.cps.toList
  | _ => none
def spRd (K : PySem.W.Frag) : Sp := fun vs H Q _ => ∃ v, vs = [v] ∧ QV K H v ∧ (rdV v = none → RetV .non H Q) ∧ ∀ ns, rdV v = some ns → ∀ p H', Ex H H' → SqT K H' p (ns.map V.int) → Q (.ref p) H'
theorem sc_place_text : FnScope ["place", "number"] ["place"] (defScope s_place_text) := ⟨rfl, rfl, rfl, by decide +kernel, rfl, by decide +kernel, by decide +kernel⟩
theorem sc_scan_place : FnScope ["text", "at", "numbers"] ["text", "at"] (defScope s_scan_place) := ⟨rfl, rfl, rfl, by decide +kernel, rfl, by decide +kernel, by decide +kernel⟩
theorem sc_read_place : FnScope ["text", "end", "place"] ["text"] (defScope s_read_place) := ⟨rfl, rfl, rfl, by decide +kernel, rfl, by decide +kernel, by decide +kernel⟩
theorem sc__law_dots : FnScope ["_law_p", "_law_w", "_law_k"] ["_law_p"] (defScope s__law_dots) := ⟨rfl, rfl, rfl, by decide +kernel, rfl, by decide +kernel, by decide +kernel⟩
theorem sc__law_place_of : FnScope ["_law_w", "_law_k"] ["_law_w"] (defScope s__law_place_of) := ⟨rfl, rfl, rfl, by decide +kernel, rfl, by decide +kernel, by decide +kernel⟩
section
variable {P : Program} {w : World} {K : PySem.W.Frag} {mg : Str → Option Value} {base : Heap} {aT aD : Addr}
theorem fok_place_text {f : Addr} {fd : FuncData} (F : FunD K "place_text" "place_text" (defArgs s_place_text) (defBody s_place_text) (defScope s_place_text) [] [] f fd) (T : Bi mg) :
    FnOk P w K mg base C8.CX0 1 f fd ["place"] (spTxt K) := by
  refine F.ok sc_place_text (fun vs H Q E h => ?_) (fun cdv A outer s H vs Q E hr h => ?_)
  · obtain ⟨a, ns, rfl, _⟩ := h
    rfl
  · obtain ⟨a, ns, rfl, ha, hn, hz, q⟩ := h
    refine ⟨_, PSs.nox (
(pss_one (ps_ret (pe_orT (pe_join pe_str (pe_lc (own := [("number", 1)]) (g := gName 1) (by rfl) sc_place_text.nd (pi_tup (pv 0)) (blkOk_by (own := [("number", 1)]) (N := ["place", "number"]) (sc := defScope s_place_text) (by decide +kernel)) (fun _ _ _ _ _ => (pg_name (i := 1) sc_place_text.nd rfl (Or.inl rfl))) (fun _ _ _ _ _ => pts_nil) (fun _ _ _ _ _ => (pe_callTy call_str_int (by rfl) T.m_str (by decide +kernel) (pa_cons (pv 1) pa_nil))))) (pe_one pe_str))))
), ?_⟩
    refine s_ret (ev_orS (z := Txt.join (Str.ofString ".") (ns.map fun n => (⟨(dig n).toArray⟩ : Str))) (ev_join ev_c ?_ ?_) ?_ (fun h => ?_) fun h => ?_) fun H1 e1 => q H1 e1
    · rw [List.map_map]
      have e : List.map (V.str ∘ fun n => (⟨(dig n).toArray⟩ : Str)) ns = (ns.map V.int).map fun v => match v with | .int n => V.str ⟨(dig n).toArray⟩ | _ => .non := by
        rw [List.map_map]
        rfl
      rw [e]
      refine el_mapT _ (ev_var rfl) ha (by rw [List.length_map]; omega) (fun _ => rfl) fun x H1 e1 hx => ?_
      obtain ⟨n, hm, rfl⟩ := List.mem_map.mp hx
      have h4 := hn n hm
      refine ev_is (ev_strI (ev_var rfl) ?_) ?_
      · have c : n = 1 ∨ n = 2 ∨ n = 3 ∨ n = 4 := by omega
        rcases c with rfl | rfl | rfl | rfl <;> decide +kernel
      · show V.str (Str.ofString (toString n)) = _
        rw [tos n h4]
    · rw [lens_dig, List.length_map]
      show ns.length + ns.length * 1 ≤ _
      omega
    · rw [join_dots]
      show ((TL.joinL [46] (ns.map dig)).toArray).size ≤ _
      rw [List.size_toArray]
      have := join_len 46 ns
      omega
    · rw [join_dots] at h ⊢
      unfold dotsS dotsL
      rw [if_neg]
      intro e
      rw [e] at h
      exact h rfl
    · rw [join_dots] at h
      match ns, h with
      | [], _ => exact ev_c
      | n :: r, h =>
        have h1 : ((TL.joinL [46] ((n :: r).map dig)).toArray).size = 0 := h
        rw [List.size_toArray] at h1
        exact absurd (List.eq_nil_of_length_eq_zero h1) (join_ne n r)
theorem ok_place_text {f : Addr} {fd : FuncData} (F : FunD K "place_text" "place_text" (defArgs s_place_text) (defBody s_place_text) (defScope s_place_text) [] [] f fd) (g : mg "place_text" = some (.ref f)) (T : Bi mg) :
    Cal P w K mg base 1 "place_text" (spTxt K) [] :=
  ⟨f, fd, ["place"], [], fok_place_text F T, g, F.kp, FunD.bindsN F fun _ _ _ _ _ _ us hl => match us, hl with | [_], _ => rfl, .nil⟩
theorem okw_place_text {f : Addr} {fd : FuncData} (F : FunD K "place_text" "place_text" (defArgs s_place_text) (defBody s_place_text) (defScope s_place_text) [] [] f fd) (g : mg "place_text" = some (.ref f)) (T : Bi mg) :
    CalW P w K mg base 1 "place_text" (spTxt K) ["place"] :=
  ⟨f, fd, ["place"], fok_place_text F T, g, F.kp, kb_z F ["place"] 1 rfl (by decide) fun _ _ _ _ _ _ us hl => match us, hl with | [_], _ => rfl⟩
theorem fok_scan_place {f : Addr} {fd : FuncData} (F : FunD K "scan_place" "scan_place" (defArgs s_scan_place) (defBody s_scan_place) (defScope s_scan_place) [] [] f fd) (T : Bc K mg aT aD) :
    FnOk P w K mg base C8.CX0 1 f fd ["text", "at"] (spScan K) := by
  refine F.ok sc_scan_place (fun vs H Q E h => ?_) (fun cdv A outer s H vs Q E hr h => ?_)
  · obtain ⟨z, rfl, _⟩ := h
    rfl
  · obtain ⟨z, rfl, hz, q⟩ := h
    refine ⟨_, PSs.nox (
(pss_cons (ps_if (pt_cmpR op_eq (pe_slice sl_str (pv 0) (po_some (pv 1)) (po_some (pe_op op_add (pv 1) pe_int))) pe_str (nomark _))
  (pss_one (ps_ret (pe_tup (pa_cons (pe_op op_add (pv 1) pe_int) (pa_cons (pe_gc (by rfl) T.k_TOP) pa_nil)))))
  pss_nil)
  (pss_cons (ps_set (i := 2) sc_scan_place.nd rfl (.inl rfl) (pe_lst pa_nil))
  (pss_cons (ps_while PassesOwn.never (pt_cmpR op_in_seq (pe_slice sl_str (pv 0) (po_some (pv 1)) (po_some (pe_op op_add (pv 1) pe_int))) (pe_gc (by rfl) T.k_DIGITS) (by rfl))
  (pss_cons (ps_expr (pe_bm PySem.F.plainAttrs_list PySem.F.slot_list_append PySem.F.type_list_append mt_append (pv 2) (pa_cons (pe_callTy call_int_str (by rfl) T.m_int (by decide +kernel) (pa_cons (pe_ix ix_str (pv 0) (pv 1) (fun _ _ => rfl)) pa_nil)) pa_nil)))
  (pss_cons (ps_if (pt_cmpR op_ne (pe_slice sl_str (pv 0) (po_some (pe_op op_add (pv 1) pe_int)) (po_some (pe_op op_add (pv 1) pe_int))) pe_str (nomark _))
  (pss_one (ps_ret (pe_tup (pa_cons (pe_op op_add (pv 1) pe_int) (pa_cons (pe_callTy call_tuple_of (by rfl) T.m_tuple (by decide +kernel) (pa_cons (pv 2) pa_nil)) pa_nil)))))
  pss_nil)
  (pss_one (ps_set (i := 1) sc_scan_place.nd rfl (.inl rfl) (pe_op op_add (pv 1) pe_int))))))
  (pss_one (ps_ret (pe_tup (pa_cons (pv 1) (pa_cons pe_non pa_nil))))))))
), ?_⟩
    have hN : z.length = z.cps.toList.length := (Array.length_toList ..).symm
    generalize hL : z.cps.toList = L at q hN
    have sl : ∀ {σ : L2.St} {H1 : Hp} {tl th : TE} (k : Nat) {i j : Int}, σ[0]? = some (some (.str z)) → Ev tl σ H1 (.int i) → Ev th σ H1 (.int j) → i = (k : Int) → j = (k : Int) + 1 → Ev (tSl rSlS (tVar 0) (tPart tl) (tPart th)) σ H1 (.str ⟨((L.drop k).take 1).toArray⟩) := by
      intro σ H1 tl th k i j h0 h1 h2 e1 e2
      subst e1 e2
      rw [← hL, ← cut1]
      exact ev_slS (ev_var h0) (eo_some h1) (eo_some h2) (by omega)
    refine q_when (et_test (ev_op (sl 0 rfl (ev_var rfl) (ev_op (ev_var rfl) ev_c rv_I0) rfl rfl) ev_c (rv_eq rfl))) (fun hb H1 e1 => ?_) (fun hb H1 e1 => ?_)
    · rw [List.drop_zero] at hb
      have hb2 := (dot_eq L).symm.trans hb
      obtain ⟨r, rfl⟩ := head_dot hb2
      refine s_retU (eu_tup (ea_cons (ev_op (ev_var rfl) ev_c rv_I0) (ea_cons ev_c ea_nil)) (show 2 ≤ 100000 by decide)) fun p H2 hp e2 h2 => ?_
      refine q _ _ p H2 (e1.trans e2) h2 (.inr ⟨aT, [], rfl, T.t_TOP H2, fun h => ?_, fun h => ?_⟩)
      · rw [read_dot, if_pos]
        rw [List.length_cons] at hN
        have h' : (0 : Int) + 1 = (z.length : Int) := h
        exact List.eq_nil_of_length_eq_zero (by omega)
      · rw [read_dot, if_neg]
        intro e
        subst e
        rw [List.length_singleton] at hN
        exact h (by rw [hN] <;> rfl)
    · rw [List.drop_zero] at hb
      have hb2 := (dot_eq L).symm.trans hb
      have hR : readL L = altL L := read_alt fun r e => by
        rw [e] at hb2
        exact absurd (show true = false from hb2) (fun h => nomatch h)
      refine q_asgL (el_lst ea_nil (show 0 ≤ 100000 by decide)) fun l0 H2 hl0 e2 h2 => ?_
      refine q_while (fun m σ' H' => ∃ (k : Nat) (ns : List Int) (l : Addr), σ' = [some (.str z), some (.int ((2 * k : Nat) : Int)), some (.ref l)] ∧ Ex H H' ∧ H l = none ∧ H' l = some (.lst (ns.map V.int)) ∧ 2 * k ≤ L.length ∧ ns.length ≤ k ∧ readL L = (altL (L.drop (2 * k))).map (fun ms => ns ++ ms) ∧ m = L.length - 2 * k)
        L.length ⟨0, [], l0, rfl, e1.trans e2, fresh_back e1 hl0, h2, Nat.zero_le _, Nat.le_refl _, ?_, rfl⟩ fun m σ' H' hw => ?_
      · rw [Nat.mul_zero, List.drop_zero, hR]
        cases altL L <;> rfl
      · obtain ⟨k, ns, l, rfl, e3, hl, h3, hk, hns, hr, rfl⟩ := hw
        refine ⟨_, et_test (ev_op (sl (2 * k) rfl (ev_var rfl) (ev_op (ev_var rfl) ev_c rv_I0) rfl rfl) ev_c (rv_isT (T.t_DIGITS _) rfl (by decide +kernel))), fun hb H4 e4 => ?_, fun hb H4 e4 => ?_⟩
        · have hb2 := (in_digs (L.drop (2 * k))).symm.trans hb
          obtain ⟨d, r, hX, hd⟩ := head_dig hb2
          have hlt : 2 * k < L.length := by
            have := congrArg List.length hX
            rw [List.length_drop, List.length_cons] at this
            omega
          have hr1 : L.drop (2 * k + 1) = r := by
            have := congrArg (List.drop 1) hX
            rw [List.drop_drop] at this
            exact this
          have hLk : L[2 * k]? = some d := by
            have := congrArg (fun y => y[0]?) hX
            simp only [List.getElem?_drop, Nat.add_zero] at this
            exact this
          refine ⟨fun σ2 H2 => ∃ m', m' < L.length - 2 * k ∧ ∃ (k : Nat) (ns : List Int) (l : Addr), σ2 = [some (.str z), some (.int ((2 * k : Nat) : Int)), some (.ref l)] ∧ Ex H H2 ∧ H l = none ∧ H2 l = some (.lst (ns.map V.int)) ∧ 2 * k ≤ L.length ∧ ns.length ≤ k ∧ readL L = (altL (L.drop (2 * k))).map (fun ms => ns ++ ms) ∧ m' = L.length - 2 * k, fun σ2 H2 h => h, ?_⟩
          refine q_app (e4 _ _ h3) (ev_var rfl) (ev_intS (ev_op (ev_var rfl) (ev_var rfl) (rv_ixS (c := d) (by omega) ?_)) (toi d hd) (show 1 ≤ 640 by decide)) (by rw [List.length_map]; omega) fun H5 e5 => ?_
          · rw [hL]
            show (ixN L.length ((2 * k : Nat) : Int)).bind (fun i => L[i]?) = some d
            rw [ixN_nat hlt]
            exact hLk
          have e6 : Ex H (upd H5 l (.lst (ns.map V.int ++ [V.int ((d : Int) - 48)]))) := Ex.mut ((e3.trans e4).trans e5) hl
          have en : ns.map V.int ++ [V.int ((d : Int) - 48)] = (ns ++ [(d : Int) - 48]).map V.int := by
            rw [List.map_append]
            rfl
          rw [en] at e6 ⊢
          refine q_when (et_test (ev_op (sl (2 * k + 1) rfl (ev_op (ev_var rfl) ev_c rv_I0) (ev_op (ev_var rfl) ev_c rv_I0) (by push_cast; rfl) (by push_cast; omega)) ev_c (rv_ne rfl))) (fun hc H7 e7 => ?_) (fun hc H7 e7 => ?_)
          · rw [hr1] at hc
            have hc2 : hDot r = false := by
              rw [← dot_eq]
              exact bnot_t hc
            have ha := alt_end hd hc2
            rw [hX, ha] at hr
            refine s_ret2U (ev_op (ev_var rfl) ev_c rv_I0) (eu_tupOfL (ev_var rfl) (sq_of (e7 _ _ upd_same))) fun t p H8 e8 ht hp => ?_
            refine q _ _ p H8 ((e6.trans e7).trans e8) hp (.inr ⟨t, ns ++ [(d : Int) - 48], rfl, st_of ht, fun h => ?_, fun h => ?_⟩)
            · rw [hr, if_pos]
              · rfl
              · have h' : ((2 * k : Nat) : Int) + 1 = (z.length : Int) := h
                have := congrArg List.length hr1
                rw [List.length_drop] at this
                exact List.eq_nil_of_length_eq_zero (by omega)
            · rw [hr, if_neg]
              · rfl
              · intro e
                subst e
                have := congrArg List.length hr1
                rw [List.length_drop, List.length_nil] at this
                exact h (by show ((2 * k : Nat) : Int) + 1 = (z.length : Int); omega)
          · rw [hr1] at hc
            have hc2 : hDot r = true := by
              rw [← dot_eq]
              exact bnot_f hc
            obtain ⟨r, rfl⟩ := head_dot hc2
            have hr2 : L.drop (2 * (k + 1)) = r := by
              have := congrArg (List.drop 2) hX
              rw [List.drop_drop] at this
              exact this
            have hlen := congrArg List.length hX
            rw [List.length_drop, List.length_cons, List.length_cons] at hlen
            refine s_asg (ev_op (ev_var rfl) ev_c rv_I0) fun H8 e8 => ⟨L.length - 2 * (k + 1), by omega, k + 1, ns ++ [(d : Int) - 48], l, ?_, (e6.trans e7).trans e8, hl, (e7.trans e8) _ _ upd_same, by omega, by rw [List.length_append, List.length_singleton]; omega, ?_, rfl⟩
            · show [some (V.str z), some (V.int (((2 * k : Nat) : Int) + 2)), some (V.ref l)] = _
              rw [show ((2 * k : Nat) : Int) + 2 = ((2 * (k + 1) : Nat) : Int) by omega]
            · rw [hr, hX, alt_on hd, hr2]
              cases altL r with
              | none => rfl
              | some ms => simp
        · have hb2 := (in_digs (L.drop (2 * k))).symm.trans hb
          refine s_retU (eu_tup (ea_cons (ev_var rfl) (ea_cons ev_c ea_nil)) (show 2 ≤ 100000 by decide)) fun p H5 hp e5 h5 => ?_
          refine q _ _ p H5 ((e3.trans e4).trans e5) h5 (.inl ⟨rfl, ?_⟩)
          rw [hr, alt_no hb2]
          rfl
theorem ok_scan_place {f : Addr} {fd : FuncData} (F : FunD K "scan_place" "scan_place" (defArgs s_scan_place) (defBody s_scan_place) (defScope s_scan_place) [] [] f fd) (g : mg "scan_place" = some (.ref f)) (T : Bc K mg aT aD) :
    Cal P w K mg base 1 "scan_place" (spScan K) [] :=
  ⟨f, fd, ["text", "at"], [], fok_scan_place F T, g, F.kp, FunD.bindsN F fun _ _ _ _ _ _ us hl => match us, hl with | [_, _], _ => rfl, .nil⟩
theorem okw_scan_place {f : Addr} {fd : FuncData} (F : FunD K "scan_place" "scan_place" (defArgs s_scan_place) (defBody s_scan_place) (defScope s_scan_place) [] [] f fd) (g : mg "scan_place" = some (.ref f)) (T : Bc K mg aT aD) :
    CalW P w K mg base 1 "scan_place" (spScan K) ["at", "text"] :=
  ⟨f, fd, ["text", "at"], fok_scan_place F T, g, F.kp, kb_z F ["at", "text"] 2 rfl (by decide) fun _ _ _ _ _ _ us hl => match us, hl with | [_, _], _ => rfl⟩
end
end K01

namespace K01
open PySem PySem.Spec PyProof.Rows L2 Evl XV C8 He RZ
section
variable {P : Program} {w : World} {K : PySem.W.Frag} {mg : Str → Option Value} {base : Heap} {aT aD : Addr}
theorem rd_no {v : V} (h : sV v = false) : rdV v = none := by
  cases v <;> first | rfl | cases h
theorem fok_read_place {f : Addr} {fd : FuncData} (F : FunD K "read_place" "read_place" (defArgs s_read_place) (defBody s_read_place) (defScope s_read_place) [] [] f fd) (T : Bi mg) (cscan_place : Cal P w K mg base 1 "scan_place" (spScan K) []) :
    FnOk P w K mg base C8.CX0 2 f fd ["text"] (spRd K) := by
  refine F.ok sc_read_place (fun vs H Q E h => ?_) (fun cdv A outer s H vs Q E hr h => ?_)
  · obtain ⟨v, rfl, _⟩ := h
    rfl
  · obtain ⟨v, rfl, hv, q0, q1⟩ := h
    refine ⟨_, PSs.nox (
(pss_cons (ps_if (pt_not (pt_val (pe_callB call_is1 (by rfl) T.m_isinstance (by decide +kernel) (pa_cons (pv 0) (pa_cons (pe_bltn (v := .ty "str") (by rfl) T.m_str (by decide +kernel) rfl) pa_nil)))))
  (pss_one (ps_ret pe_non))
  pss_nil)
  (pss_cons (ps_asg (pe_c (cscan_place) hr (by omega) (by rfl) (pa_cons (pv 0) (pa_cons pe_int pa_nil))) (pg_tup (by rfl) (pgs_cons (pg_name (i := 1) sc_read_place.nd rfl (.inl rfl)) (pgs_cons (pg_name (i := 2) sc_read_place.nd rfl (.inl rfl)) pgs_nil))))
  (pss_one (ps_ret (pe_ifExp (pt_cmpR op_eq (pv 1) (pe_callB call_len_str (by rfl) T.m_len (by decide +kernel) (pa_cons (pv 0) pa_nil)) (nomark _)) (pv 2) pe_non)))))
), ?_⟩
    obtain ⟨t, b, ty, ks, ki, kb, kt, ht, hl⟩ := hv.av
    refine q_when (et_not (et_B (ev_is1 (ev_var rfl) ty ks))) (fun hb H1 e1 => s_ret ev_c fun H2 e2 => q0 (rd_no (bnot_t hb)) H2 (e1.trans e2)) (fun hb H1 e1 => ?_)
    obtain ⟨z, rfl⟩ := sV_str (bnot_f hb)
    have hz := hl z rfl
    refine ⟨_, rfl, ?_⟩
    refine ⟨z, rfl, hz, fun e pv p H2 e2 h2 hc => ⟨p, [.int e, pv], rfl, st_of h2, rfl, _, _, rfl, _, _, rfl, rfl, ?_⟩⟩
    have lenE : ∀ {σ : L2.St} {H3 : Hp}, σ[0]? = some (some (.str z)) → Ev (tCB (fun xs H Q => ∃ z : Str, xs = [.str z] ∧ z.length ≤ sizeLine ∧ Q (.int z.length) H) (tCons (tVar 0) tNil)) σ H3 (.int (z.length : Int)) := fun h0 => ev_lenS (ev_var h0) (by omega)
    rcases hc with ⟨rfl, hr⟩ | ⟨t2, ns, rfl, hT, c1, c2⟩
    · refine s_ret (ev_if (et_test (ev_op (ev_var rfl) (lenE rfl) (rv_eq rfl))) (fun _ => ev_var rfl) fun _ => ev_c) fun H3 e3 => q0 hr H3 ((e1.trans e2).trans e3)
    · by_cases c : e = (z.length : Int)
      · refine s_ret (ev_if (b := true) (et_test (ev_is (ev_op (ev_var rfl) (lenE rfl) (rv_eq rfl)) (by rw [c, decide_eq_true rfl]))) (fun _ => ev_var rfl) fun h => nomatch h) fun H3 e3 => q1 ns (c1 c) t2 H3 ((e1.trans e2).trans e3) (ex_t e3 hT)
      · refine s_ret (ev_if (b := false) (et_test (ev_is (ev_op (ev_var rfl) (lenE rfl) (rv_eq rfl)) (by rw [decide_eq_false (fun h => c (by injection h))]))) (fun h => nomatch h) fun _ => ev_c) fun H3 e3 => q0 (c2 c) H3 ((e1.trans e2).trans e3)
theorem ok_read_place {f : Addr} {fd : FuncData} (F : FunD K "read_place" "read_place" (defArgs s_read_place) (defBody s_read_place) (defScope s_read_place) [] [] f fd) (g : mg "read_place" = some (.ref f)) (T : Bi mg) (cscan_place : Cal P w K mg base 1 "scan_place" (spScan K) []) :
    Cal P w K mg base 2 "read_place" (spRd K) [] :=
  ⟨f, fd, ["text"], [], fok_read_place F T cscan_place, g, F.kp, FunD.bindsN F fun _ _ _ _ _ _ us hl => match us, hl with | [_], _ => rfl, .nil⟩
theorem okw_read_place {f : Addr} {fd : FuncData} (F : FunD K "read_place" "read_place" (defArgs s_read_place) (defBody s_read_place) (defScope s_read_place) [] [] f fd) (g : mg "read_place" = some (.ref f)) (T : Bi mg) (cscan_place : Cal P w K mg base 1 "scan_place" (spScan K) []) :
    CalW P w K mg base 2 "read_place" (spRd K) ["text"] :=
  ⟨f, fd, ["text"], fok_read_place F T cscan_place, g, F.kp, kb_z F ["text"] 1 rfl (by decide) fun _ _ _ _ _ _ us hl => match us, hl with | [_], _ => rfl⟩
theorem fok__law_dots {f : Addr} {fd : FuncData} (F : FunD K "_law_dots" "_law_dots" (defArgs s__law_dots) (defBody s__law_dots) (defScope s__law_dots) [] [] f fd) (T : Bi mg) :
    FnOk P w K mg base C8.CX0 1 f fd ["_law_p"] (spTxt K) := by
  refine F.ok sc__law_dots (fun vs H Q E h => ?_) (fun cdv A outer s H vs Q E hr h => ?_)
  · obtain ⟨a, ns, rfl, _⟩ := h
    rfl
  · obtain ⟨a, ns, rfl, ha, hn, hz, q⟩ := h
    refine ⟨_, PSs.nox (
(pss_cons (ps_set (i := 1) sc__law_dots.nd rfl (.inl rfl) pe_str)
  (pss_cons (ps_for PassesOwn.never rfl (pi_tup (pv 0)) (pg_name (i := 2) sc__law_dots.nd rfl (.inl rfl))
  (pss_one (ps_set (i := 1) sc__law_dots.nd rfl (.inl rfl) (pe_op op_add_str (pe_op op_add_str (pv 1) (pe_ix ix_str pe_str (pe_op op_sub (pv 2) pe_int) (fun _ _ => rfl))) pe_str))))
  (pss_one (ps_ret (pe_ifExp (pt_cmpR op_gt (pe_callB call_len_seq (by rfl) T.m_len (by decide +kernel) (pa_cons (pv 0) pa_nil)) pe_int (nomark _)) (pe_slice sl_str (pv 1) po_none (po_some (pe_un un_neg pe_int))) pe_str)))))
), ?_⟩
    refine q_asg ev_c fun H1 e1 => ?_
    have hlen : (ns.map V.int).length = ns.length := List.length_map ..
    refine q_forT (ev_var rfl) (ex_t e1 ha) (fun i σ' H' => Ex H H' ∧ ∃ x, σ' = [some (.ref a), some (.str (SX.S (dotted (ns.take i)))), x]) (fun H2 e2 => ⟨e1.trans e2, _, rfl⟩) (fun i σ' H' _ h => ex_t h.1 ha) (fun i x σ' H' hx h => ?_) (fun σ' H' h => ?_)
    · obtain ⟨e2, y, rfl⟩ := h
      rw [List.getElem?_map] at hx
      obtain ⟨n, hi, rfl⟩ := Option.map_eq_some_iff.mp hx
      have hn4 := hn n (List.mem_of_getElem? hi)
      have hlt : i < ns.length := (List.getElem?_eq_some_iff.mp hi).1
      have hdl := dotted_len (ns.take i)
      have htl : (ns.take i).length ≤ ns.length := by rw [List.length_take]; omega
      refine s_asg (σ := [some (V.ref a), some (V.str (SX.S (dotted (ns.take i)))), some (V.int n)]) (ev_op (ev_op (ev_var rfl) (ev_op ev_c (ev_op (ev_var rfl) ev_c rv_I0) (rv_ixS (c := (48 + n).toNat) (by decide) ?_)) (rv_addS ?_)) ev_c (rv_addS ?_)) fun H3 e3 => ⟨e2.trans e3, some (V.int n), ?_⟩
      · have c : n = 1 ∨ n = 2 ∨ n = 3 ∨ n = 4 := by omega
        rcases c with rfl | rfl | rfl | rfl <;> decide +kernel
      · show (SX.S (dotted (ns.take i))).length + 1 ≤ _
        rw [SX.S_len]
        omega
      · show (SX.S (dotted (ns.take i)) ++ SX.S [(48 + n).toNat]).length + 1 ≤ _
        rw [SX.S_cat, SX.S_len, List.length_append, List.length_singleton]
        omega
      · have ht : ns.take (i + 1) = ns.take i ++ [n] := by
          rw [List.take_succ, hi]
          rfl
        show [some (V.ref a), some (V.str ((SX.S (dotted (ns.take i)) ++ SX.S [(48 + n).toNat]) ++ SX.S [46])), some (V.int n)] = _
        rw [ht, dotted_snoc, SX.S_cat, SX.S_cat, List.append_assoc]
        rfl
    · obtain ⟨e2, y, rfl⟩ := h
      rw [hlen, List.take_length]
      refine s_ret (ev_if (b := decide (ns.length > 0)) (et_test (ev_is (ev_op (ev_lenT (ev_var rfl) (.inr (ex_t e2 ha))) ev_c rv_I0) ?_)) (fun hb => ?_) (fun hb => ?_)) fun H3 e3 => q H3 (e2.trans e3)
      · rw [hlen, decide_eq_decide.mpr (show (ns.length : Int) > 0 ↔ ns.length > 0 by omega)]
      · have hp := of_decide_eq_true hb
        match ns, hp with
        | n :: r, _ =>
          refine ev_is (ev_slS (z := SX.S (dotted (n :: r))) (ev_var rfl) eo_none (eo_some (ev_un ev_c ru_neg)) ?_) ?_
          · rw [SX.S_len, dotted_len]
            omega
          · rw [dotted_join]
            show V.str (cutS ⟨(TL.joinL [46] ((n :: r).map dig) ++ [46]).toArray⟩ none (some (-1))) = _
            rw [cut_last]
            unfold dotsS dotsL
            rw [if_neg (List.cons_ne_nil _ _)]
      · have hp := of_decide_eq_false hb
        match ns, hp with
        | [], _ => exact ev_c
        | n :: r, hp => exact absurd (Nat.succ_pos _) hp
theorem ok__law_dots {f : Addr} {fd : FuncData} (F : FunD K "_law_dots" "_law_dots" (defArgs s__law_dots) (defBody s__law_dots) (defScope s__law_dots) [] [] f fd) (g : mg "_law_dots" = some (.ref f)) (T : Bi mg) :
    Cal P w K mg base 1 "_law_dots" (spTxt K) [] :=
  ⟨f, fd, ["_law_p"], [], fok__law_dots F T, g, F.kp, FunD.bindsN F fun _ _ _ _ _ _ us hl => match us, hl with | [_], _ => rfl, .nil⟩
theorem fok__law_place_of {f : Addr} {fd : FuncData} (F : FunD K "_law_place_of" "_law_place_of" (defArgs s__law_place_of) (defBody s__law_place_of) (defScope s__law_place_of) [] [] f fd) (T : Bi mg) :
    FnOk P w K mg base C8.CX0 1 f fd ["_law_w"] (spRd K) := by
  refine F.ok sc__law_place_of (fun vs H Q E h => ?_) (fun cdv A outer s H vs Q E hr h => ?_)
  · obtain ⟨v, rfl, _⟩ := h
    rfl
  · obtain ⟨v, rfl, hv, q0, q1⟩ := h
    refine ⟨_, PSs.nox (
(pss_cons (ps_if (pt_cmpR (op_eqQ hr.units0) (pv 0) pe_str (nomark _))
  (pss_one (ps_ret (pe_tup pa_nil)))
  pss_nil)
  (pss_cons (ps_if (PW.pt (pw_or (pt_not (pt_val (pe_callB call_is1 (by rfl) T.m_isinstance (by decide +kernel) (pa_cons (pv 0) (pa_cons (pe_bltn (v := .ty "str") (by rfl) T.m_str (by decide +kernel) rfl) pa_nil))))) (pw_or (pt_cmpR op_lt (pe_callB call_len_str (by rfl) T.m_len (by decide +kernel) (pa_cons (pv 0) pa_nil)) pe_int (nomark _)) (pw_or1 (pt_cmpR op_eq (pe_op op_mod (pe_callTy call_int1 (by rfl) T.m_int (by decide +kernel) (pa_cons (pe_callB call_len_str (by rfl) T.m_len (by decide +kernel) (pa_cons (pv 0) pa_nil)) pa_nil)) pe_int) pe_int (nomark _))))))
  (pss_one (ps_ret pe_non))
  pss_nil)
  (pss_cons (ps_if (pt_cmpR (op_neD hr.units) (pe_lc (own := [("_law_k", 1)]) (g := gName 1) (by rfl) sc__law_place_of.nd (pi_range1 (by rfl) T.m_range (pa_cons (pe_callB call_len_str (by rfl) T.m_len (by decide +kernel) (pa_cons (pv 0) pa_nil)) pa_nil)) (blkOk_by (own := [("_law_k", 1)]) (N := ["_law_w", "_law_k"]) (sc := defScope s__law_place_of) (by decide +kernel)) (fun _ _ _ _ _ => (pg_name (i := 1) sc__law_place_of.nd rfl (Or.inl rfl))) (fun _ _ _ _ _ => (pts_one (pt_cmpR op_notIn_sign (pe_ix ix_str (pv 0) (pv 1) (fun _ _ => rfl)) (pe_ifExp (pt_cmpR op_eq (pe_op op_mod (pe_callTy call_int1 (by rfl) T.m_int (by decide +kernel) (pa_cons (pv 1) pa_nil)) pe_int) pe_int (nomark _)) pe_str pe_str) (by rfl)))) (fun _ _ _ _ _ => pe_int)) (pe_lst pa_nil) (nomark _))
  (pss_one (ps_ret pe_non))
  pss_nil)
  (pss_one (ps_ret (pe_callTy call_tuple_of (by rfl) T.m_tuple (by decide +kernel) (pa_cons (pe_lc (own := [("_law_k", 1)]) (g := gName 1) (by rfl) sc__law_place_of.nd (pi_range3 (by rfl) T.m_range (pa_cons pe_int (pa_cons (pe_callB call_len_str (by rfl) T.m_len (by decide +kernel) (pa_cons (pv 0) pa_nil)) (pa_cons pe_int pa_nil)))) (blkOk_by (own := [("_law_k", 1)]) (N := ["_law_w", "_law_k"]) (sc := defScope s__law_place_of) (by decide +kernel)) (fun _ _ _ _ _ => (pg_name (i := 1) sc__law_place_of.nd rfl (Or.inl rfl))) (fun _ _ _ _ _ => pts_nil) (fun _ _ _ _ _ => (pe_m1 PySem.F.slot_str_find PySem.F.type_str_find mt_find pe_str (pe_ix ix_str (pv 0) (pv 1) (fun _ _ => rfl))))) pa_nil)))))))
), ?_⟩
    obtain ⟨t, b, ty, ks, ki, kb, kt, ht, hl⟩ := hv.av
    refine q_when (et_test (ev_op (ev_var rfl) ev_c (rv_eqQ hv))) (fun hb H1 e1 => ?_) (fun hb H1 e1 => ?_)
    · have e := of_decide_eq_true hb
      subst e
      refine s_retU (eu_tup ea_nil (show 0 ≤ 100000 by decide)) fun p H2 hp e2 h2 => q1 [] ?_ p H2 (e1.trans e2) (st_of h2)
      decide +kernel
    · have hne := of_decide_eq_false hb
      by_cases hs : sV v = true
      · obtain ⟨z, rfl⟩ := sV_str hs
        have hz := hl z rfl
        have hN : z.length = z.cps.toList.length := (Array.length_toList ..).symm
        have lenE : ∀ {σ : L2.St} {H3 : Hp}, σ[0]? = some (some (.str z)) → Ev (tCB (fun xs H Q => ∃ z : Str, xs = [.str z] ∧ z.length ≤ sizeLine ∧ Q (.int z.length) H) (tCons (tVar 0) tNil)) σ H3 (.int (z.length : Int)) := fun h0 => ev_lenS (ev_var h0) (by omega)
        have hR : readL z.cps.toList = altL z.cps.toList := by
          unfold readL
          rw [if_neg]
          intro e
          refine hne ?_
          have e2 : z = SX.S [46] := by rw [← SX.S_tl z, e]
          rw [e2]
          rfl
        have cell : ∀ {i : Nat}, i < z.length → z.cps.toList[i]? = some (z.cps.toList.getD i 0) := fun {i} hi => by
          rw [List.getD_eq_getElem?_getD, List.getElem?_eq_getElem (by omega)] <;> rfl
        have atE : ∀ {i : Nat}, i < z.length → atI z.cps.toList (i : Int) = some (z.cps.toList.getD i 0) := fun {i} hi => by
          show (ixN z.cps.toList.length (i : Int)).bind (fun i => z.cps.toList[i]?) = _
          rw [ixN_nat (by omega)]
          exact cell hi
        generalize hL : z.cps.toList = L at hN hR cell atE
        have hrd : rdV (.str z) = altL L := by
          rw [← hR, ← hL]
          rfl
        refine q_when (et_or (b := decide (z.length < 1) || decide (z.length % 2 = 0)) (et_not (et_B (ev_is1 (ev_var rfl) (ty.mono e1) ks))) fun _ => et_or (et_test (ev_is (ev_op (lenE rfl) ev_c rv_I0) ?_)) fun _ => et_test (ev_is (ev_op (ev_op (ev_int1 (lenE rfl)) ev_c (rv_I (show (0 : Int) < 2 by decide))) ev_c (rv_eq rfl)) ?_)) (fun hc H2 e2 => ?_) (fun hc H2 e2 => ?_)
        · rw [decide_eq_decide.mpr (show (z.length : Int) < 1 ↔ z.length < 1 by omega)]
        · rw [decide_eq_decide.mpr]
          refine ⟨fun h => ?_, fun h => ?_⟩
          · injection h with h
            omega
          · rw [show (z.length : Int) % 2 = 0 by omega]
        · refine s_ret ev_c fun H3 e3 => q0 ?_ H3 ((e1.trans e2).trans e3)
          rw [hrd, alt_ok, if_neg]
          intro ho
          have ho := ok_odd L ho
          have hc2 : (decide (z.length < 1) || decide (z.length % 2 = 0)) = true := hc
          rw [Bool.or_eq_true, decide_eq_true_iff, decide_eq_true_iff] at hc2
          omega
        · have hc2 : (decide (z.length < 1) || decide (z.length % 2 = 0)) = false := hc
          rw [Bool.or_eq_false_iff, decide_eq_false_iff_not, decide_eq_false_iff_not] at hc2
          have hodd : L.length % 2 = 1 := by omega
          have gi : Evl.given ((z.length : Int)).toNat (badB L) (fun _ => V.int 1) = (((List.range L.length).filter (badB L)).map fun _ => (1 : Int)).map V.int := by
            unfold Evl.given
            rw [Int.toNat_natCast, hN, List.map_map]
            rfl
          have em : decide ((((List.range L.length).filter (badB L)).map fun _ => (1 : Int)) = ([] : List Int)) = okL L := by
            rw [← Bool.not_not (b := okL L), ← any_bad L hodd, Bool.eq_iff_iff, decide_eq_true_iff, List.map_eq_nil_iff, List.filter_eq_nil_iff, Bool.not_eq_true', List.any_eq_false]
          refine q_when (et_test (ev_opLL (xs := (((List.range L.length).filter (badB L)).map fun _ => (1 : Int)).map V.int) (ys := ([] : List Int).map V.int) ?_ (el_lst ea_nil (show 0 ≤ 100000 by decide)) fun p r H3 hp hr _ => rv_neL (sq_of hp) (sq_of hr))) (fun hd H3 e3 => ?_) (fun hd H3 e3 => ?_)
          · rw [← gi]
            refine el_lcR1 (badB L) _ (ea_cons (lenE rfl) ea_nil) ⟨by omega, by omega⟩ (fun _ => rfl) (fun k H3 e3 hk => ?_) fun k H3 e3 hk hf => ev_c
            have hk2 : k < z.length := by omega
            refine et_test (ev_is (ev_op (y := V.str (if k % 2 = 0 then Str.ofString "1234" else Str.ofString ".")) (z := .bl (!decide (L.getD k 0 ∈ (if k % 2 = 0 then Str.ofString "1234" else Str.ofString ".").cps.toList))) (ev_op (ev_var rfl) (ev_var rfl) (rv_ixS (by omega) (hL ▸ atE hk2))) (ev_if (b := decide (k % 2 = 0)) (et_test (ev_is (ev_op (ev_op (ev_int1 (ev_var rfl)) ev_c (rv_I (show (0 : Int) < 2 by decide))) ev_c (rv_eq rfl)) ?_)) (fun h => ?_) fun h => ?_) fun H4 e4 Q q => ⟨_, _, rfl, rfl, q H4 (Ex.refl H4)⟩) ?_)
            · rw [decide_eq_decide.mpr]
              refine ⟨fun h => ?_, fun h => ?_⟩
              · injection h with h
                omega
              · rw [show (k : Int) % 2 = 0 by omega]
            · rw [if_pos (of_decide_eq_true h)]
              exact ev_c
            · rw [if_neg (of_decide_eq_false h)]
              exact ev_c
            · unfold badB
              by_cases h : k % 2 = 0
              · rw [if_pos h, if_pos h, in_1234]
              · rw [if_neg h, if_neg h, in_dot]
          · rw [em] at hd
            refine s_ret ev_c fun H4 e4 => q0 ?_ H4 (((e1.trans e2).trans e3).trans e4)
            rw [hrd, alt_ok, if_neg (by rw [bnot_t hd]; exact Bool.false_ne_true)]
          · rw [em] at hd
            have hok := bnot_f hd
            refine s_retU (eu_tupOf (xs := (evL L).map V.int) ?_) fun p H4 hp e4 h4 => q1 (evL L) ?_ p H4 (((e1.trans e2).trans e3).trans e4) (st_of h4)
            · have ge : (evL L).map V.int = Evl.given ((L.length + 1) / 2) (fun _ => true) (fun i => V.int (((L.getD (2 * i) 0 : Nat) : Int) - 48)) := by
                unfold Evl.given
                rw [List.filter_eq_self.mpr (fun _ _ => rfl), ← evens L hodd, List.map_map]
                rfl
              rw [ge, ← hN]
              refine el_lcR3 (fun _ => true) _ (ea_cons ev_c (ea_cons (lenE rfl) (ea_cons ev_c ea_nil))) (rg_two (by omega) (by omega)) (by omega) (fun _ => rfl) (fun _ _ _ _ => et_yes) fun k H4 e4 hk _ => ?_
              have hk2 : 2 * k < z.length := by omega
              have hd := ok_at L k hok (by omega)
              refine fun H5 e5 Q q => ⟨⟨_, rfl⟩, ?_⟩
              refine ev_op (ev_var rfl) (ev_var rfl) (rv_ixS (c := L.getD (2 * k) 0) (by omega) ?_) H5 e5 _ fun H6 e6 => ⟨_, _, rfl, rfl, ?_⟩
              · rw [hL, show (0 : Int) + (k : Int) * 2 = ((2 * k : Nat) : Int) by omega]
                exact atE hk2
              · rw [find_dig _ hd]
                exact q H6 e6
            · rw [hrd, alt_ok, if_pos hok]
      · have hs : sV v = false := by
          cases h : sV v
          · rfl
          · exact absurd h hs
        refine q_when (b := true) (et_or (a := true) (b := false) (et_is (et_not (et_B (ev_is1 (ev_var rfl) (ty.mono e1) ks))) (by rw [hs]; rfl)) fun h => nomatch h) (fun hc H2 e2 => s_ret ev_c fun H3 e3 => q0 (rd_no hs) H3 ((e1.trans e2).trans e3)) fun h => nomatch h
theorem ok__law_place_of {f : Addr} {fd : FuncData} (F : FunD K "_law_place_of" "_law_place_of" (defArgs s__law_place_of) (defBody s__law_place_of) (defScope s__law_place_of) [] [] f fd) (g : mg "_law_place_of" = some (.ref f)) (T : Bi mg) :
    Cal P w K mg base 1 "_law_place_of" (spRd K) [] :=
  ⟨f, fd, ["_law_w"], [], fok__law_place_of F T, g, F.kp, FunD.bindsN F fun _ _ _ _ _ _ us hl => match us, hl with | [_], _ => rfl, .nil⟩
end
end K01

namespace K01
open PySem PySem.Spec PyProof.Rows L2 Evl XV C8 He RZ
def spLot (K : PySem.W.Frag) : Sp := fun vs H Q _ => ∃ (a : Addr) (L : AL), vs = [.ref a] ∧ (SqL K H a (refsL L) ∨ SqT K H a (refsL L)) ∧ Plcs K H 40 L ∧ L.length < 64 ∧ ∀ nss, SS nss (L.map (·.2)) → RetV (.str (lotS nss)) H Q
/-- the same items in some order: a new list -/
def spMix (K : PySem.W.Frag) : Sp := fun vs H Q _ => ∃ (B a : Addr) (xs : List V), vs = [.ref B, .ref a] ∧ Bag H B ∧ SqL K H a xs ∧ xs.length ≤ 1000 ∧ ∀ ys p H', ys.Perm xs → Ex H H' → H p = none → H' p = some (.lst ys) → Q (.ref p) H'
/-- a list or a tuple, new, with just these items -/
def spGiv (K : PySem.W.Frag) : Sp := fun vs H Q _ => ∃ (B a : Addr) (xs : List V), vs = [.ref B, .ref a] ∧ Bag H B ∧ SqL K H a xs ∧ xs.length ≤ 500 ∧ ∀ ys p H', ys.length ≤ 2 * xs.length → (∀ y, y ∈ ys ↔ y ∈ xs) → Ex H H' → H p = none → (H' p = some (.lst ys) ∨ H' p = some (.tup ys)) → Q (.ref p) H'
def PN (m : Nat) : Pd := fun H0 v H => ∃ p ns, v = .ref p ∧ H0 p = none ∧ H p = some (.tup (ns.map V.int)) ∧ Num4 ns ∧ ns.length ≤ m
theorem fs_n {m : Nat} : Fs (PN m) := ⟨fun k ⟨p, ns, e1, e2, e3, e4⟩ => ⟨p, ns, e1, e2, k p _ e2 e3, e4⟩, fun k ⟨p, ns, e1, e2, e3, e4⟩ => ⟨p, ns, e1, k p e2, e3, e4⟩⟩
def spNums : Sp := fun vs H Q _ => ∃ (B : Addr) (m : Nat), vs = [.ref B, .int (m : Int)] ∧ Bag H B ∧ m ≤ 1000 ∧ ∀ v H', Ex H H' → PN m H v H' → Q v H'
def spOdd (K : PySem.W.Frag) : Sp := fun vs H Q _ => ∃ B, vs = [.ref B] ∧ Bag H B ∧ ∀ v H', Ex H H' → GV K H H' 2 v → Q v H'
theorem sc_lot_text : FnScope ["lot", "place"] ["lot"] (defScope s_lot_text) := ⟨rfl, rfl, rfl, by decide +kernel, rfl, by decide +kernel, by decide +kernel⟩
theorem sc__law_mixed : FnScope ["_law_bag_here", "_law_some", "_law_rest", "_law_found", "_law_k"] ["_law_bag_here", "_law_some"] (defScope s__law_mixed) := ⟨rfl, rfl, rfl, by decide +kernel, rfl, by decide +kernel, by decide +kernel⟩
theorem sc__law_given : FnScope ["_law_bag_here", "_law_picked", "_law_some", "_law_p"] ["_law_bag_here", "_law_picked"] (defScope s__law_given) := ⟨rfl, rfl, rfl, by decide +kernel, rfl, by decide +kernel, by decide +kernel⟩
theorem sc__law_numbers : FnScope ["_law_bag_here", "_law_many", "_law_k"] ["_law_bag_here", "_law_many"] (defScope s__law_numbers) := ⟨rfl, rfl, rfl, by decide +kernel, rfl, by decide +kernel, by decide +kernel⟩
theorem sc__law_odd : FnScope ["_law_bag_here"] ["_law_bag_here"] (defScope s__law_odd) := ⟨rfl, rfl, rfl, by decide +kernel, rfl, by decide +kernel, by decide +kernel⟩
section
variable {P : Program} {w : World} {K : PySem.W.Frag} {mg : Str → Option Value} {base : Heap} {aT aD : Addr}
theorem lens_dots {L : AL} (h : ∀ p, p ∈ L → p.2.length ≤ 40) : ((L.map fun p => dotsS p.2).map (·.length)).sum ≤ 81 * L.length := by
  induction L with
  | nil => exact Nat.le_refl _
  | cons p L ih =>
    rw [List.map_cons, List.map_cons, List.sum_cons, List.length_cons]
    have h1 := dots_len p.2
    have h2 := h p (List.mem_cons_self ..)
    have h3 := ih fun q m => h q (List.mem_cons_of_mem _ m)
    omega
theorem join_bd (sep : Str) : ∀ ys : List Str, (Txt.join sep ys).length ≤ (ys.map (·.length)).sum + ys.length * sep.length := fun ys => by
  rw [TL.join_eq]
  induction ys with
  | nil => exact Nat.zero_le _
  | cons y r ih =>
    cases r with
    | nil =>
      show y.length ≤ _
      simp only [List.map_cons, List.map_nil, List.sum_cons, List.sum_nil, List.length_cons]
      omega
    | cons u r =>
      show (y ++ sep ++ Str.join sep (u :: r)).length ≤ _
      have e : (y ++ sep ++ Str.join sep (u :: r)).length = y.length + sep.length + (Str.join sep (u :: r)).length := by
        rw [← SX.S_tl y, ← SX.S_tl sep, ← SX.S_tl (Str.join sep (u :: r)), SX.S_cat, SX.S_cat, SX.S_len, SX.S_len, SX.S_len, SX.S_len, List.length_append, List.length_append]
      rw [e, List.map_cons, List.sum_cons, List.length_cons, Nat.succ_mul]
      omega
theorem join_some {sep : Str} {L : AL} (h : L ≠ []) : (Txt.join sep (L.map fun p => dotsS p.2)).length ≠ 0 := by
  have ne : ∀ ns : List Int, 1 ≤ (dotsS ns).length := fun ns => by
    show 1 ≤ ((dotsL ns).toArray).size
    rw [List.size_toArray]
    unfold dotsL
    split
    · simp
    · match ns with
      | [] => contradiction
      | n :: r =>
        have := List.length_pos_iff.mpr (join_ne n r)
        omega
  rw [TL.join_eq]
  match L, h with
  | [p], _ =>
    have := ne p.2
    show (dotsS p.2).length ≠ 0
    omega
  | p :: q :: r, _ =>
    show (dotsS p.2 ++ sep ++ Str.join sep ((q :: r).map fun p => dotsS p.2)).length ≠ 0
    have := ne p.2
    rw [← SX.S_tl (dotsS p.2), ← SX.S_tl sep, ← SX.S_tl (Str.join sep _), SX.S_cat, SX.S_cat, SX.S_len, List.length_append, List.length_append, Array.length_toList]
    have e : (dotsS p.2).cps.size = (dotsS p.2).length := rfl
    omega
theorem fok_lot_text {f : Addr} {fd : FuncData} (F : FunD K "lot_text" "lot_text" (defArgs s_lot_text) (defBody s_lot_text) (defScope s_lot_text) [] [] f fd) (T : Bi mg) (cplace_text : Cal P w K mg base 1 "place_text" (spTxt K) []) :
    FnOk P w K mg base C8.CX0 2 f fd ["lot"] (spLot K) := by
  refine F.ok sc_lot_text (fun vs H Q E h => ?_) (fun cdv A outer s H vs Q E hr h => ?_)
  · obtain ⟨a, L, rfl, _⟩ := h
    rfl
  · obtain ⟨a, L, rfl, hl, pl, few, q⟩ := h
    refine ⟨_, PSs.nox (
(pss_one (ps_ret (pe_orT (pe_join pe_str (pe_lc (own := [("place", 1)]) (g := gName 1) (by rfl) sc_lot_text.nd (pi_list (pe_callB (cr_sortedM (D := 40) rfl hr.units) (by rfl) T.m_sorted (by decide +kernel) (pa_cons (pe_callTy (cr_setM (D := 40) rfl hr.units) (by rfl) T.m_set (by decide +kernel) (pa_cons (pv 0) pa_nil)) pa_nil))) (blkOk_by (own := [("place", 1)]) (N := ["lot", "place"]) (sc := defScope s_lot_text) (by decide +kernel)) (fun _ _ _ _ _ => (pg_name (i := 1) sc_lot_text.nd rfl (Or.inl rfl))) (fun _ _ _ _ _ => pts_nil) (fun _ _ _ _ _ => (pe_c (cplace_text) hr (by omega) (by rfl) (pa_cons (pv 1) pa_nil))))) (pe_one pe_str))))
), ?_⟩
    refine ⟨⟨_, rfl⟩, lcL_src ?_⟩
    refine ⟨_, rfl, a, L, rfl, hl, pl, few, fun s L1 hs sub all nd few1 => ?_⟩
    have pl1 : Plcs K H 40 L1 := fun p m => pl p (sub p m)
    have e1 : Ex H (upd H s (SetTO P w s L1)) := Ex.new hs
    refine ⟨s, L1, rfl, .inr upd_same, pl1.mono e1, few1, fun Ls t pm pw ht => ?_⟩
    have e2 := e1.trans (Ex.new (o := .lst (refsL Ls)) ht)
    have pl2 : Plcs K H 40 Ls := fun p m => pl1 p (pm.mem_iff.mp m)
    have few2 : Ls.length < 64 := by rw [pm.length_eq]; exact few1
    have ss : SS (Ls.map (·.2)) (L.map (·.2)) := by
      refine ⟨strict_of (fun p m => ⟨(pl2 p m).2.1, (pl2 p m).2.2⟩) ((pm.map (·.2)).nodup_iff.mpr nd) pw, fun x => ?_⟩
      rw [(pm.map (·.2)).mem_iff]
      constructor
      · intro hx
        obtain ⟨p, hp, rfl⟩ := List.mem_map.mp hx
        exact List.mem_map.mpr ⟨p, sub p hp, rfl⟩
      · intro hx
        obtain ⟨p, hp, rfl⟩ := List.mem_map.mp hx
        exact all p hp
    have ev := el_mapA (K := K) (σ := L2.start ["lot", "place"] [V.ref a]) (te := tCall (spTxt K) [] C8.E0 (tCons (tVar 1) tNil)) (tl := tC (V.ref t)) (j := 1) (vs := List.map (fun x => x.snd) [(("place" : Str), 1)]) (a := t) (f := fun p : Addr × List Int => V.ref p.1) (0, []) (fun p => V.str (dotsS p.2)) ev_c (sq_of (upd_same (H := upd H s (SetTO P w s L1)) (a := t) (o := .lst (refsL Ls)))) (by omega) (fun _ => rfl) fun p H3 e3 hp => ev_call (ea_cons (ev_var rfl) ea_nil) fun H4 e4 Q q E => ⟨p.1, p.2, rfl, ex_t ((e2.trans e3).trans e4) (pl2 p hp).1, (pl2 p hp).2.1, by have := (pl2 p hp).2.2; omega, q⟩
    refine ⟨t, rfl, ev _ (Ex.refl _) _ fun r H3 _ e3 h3 => ?_⟩
    refine ⟨_, r, Ls.map fun p => dotsS p.2, rfl, rfl, .inl (sq_of ?_), ?_, ?_⟩
    · rw [h3, List.map_map]
      rfl
    · have h1 := lens_dots (L := Ls) fun p m => (pl2 p m).2.2
      rw [List.length_map]
      show _ + Ls.length * 1 ≤ _
      omega
    · have hz : (Txt.join (Str.ofString "+") (Ls.map fun p => dotsS p.2)).length ≤ sizeLine := by
        refine sz_of (Nat.le_trans (join_bd _ _) ?_)
        have h1 := lens_dots (L := Ls) fun p m => (pl2 p m).2.2
        rw [List.length_map]
        show _ + Ls.length * 1 ≤ _
        omega
      refine ⟨_, ⟨hz, rfl⟩, ?_⟩
      by_cases c : Ls = []
      · subst c
        rw [if_neg (by decide)]
        exact q [] ss _ (e2.trans e3)
      · rw [if_pos]
        · have q2 := q _ ss _ (e2.trans e3)
          unfold lotS at q2
          rw [if_neg (by intro h; exact c (List.map_eq_nil_iff.mp h)), List.map_map] at q2
          exact q2
        · have := join_some (sep := Str.ofString "+") c
          rw [bne_iff_ne]
          omega
theorem ok_lot_text {f : Addr} {fd : FuncData} (F : FunD K "lot_text" "lot_text" (defArgs s_lot_text) (defBody s_lot_text) (defScope s_lot_text) [] [] f fd) (g : mg "lot_text" = some (.ref f)) (T : Bi mg) (cplace_text : Cal P w K mg base 1 "place_text" (spTxt K) []) :
    Cal P w K mg base 2 "lot_text" (spLot K) [] :=
  ⟨f, fd, ["lot"], [], fok_lot_text F T cplace_text, g, F.kp, FunD.bindsN F fun _ _ _ _ _ _ us hl => match us, hl with | [_], _ => rfl, .nil⟩
theorem okw_lot_text {f : Addr} {fd : FuncData} (F : FunD K "lot_text" "lot_text" (defArgs s_lot_text) (defBody s_lot_text) (defScope s_lot_text) [] [] f fd) (g : mg "lot_text" = some (.ref f)) (T : Bi mg) (cplace_text : Cal P w K mg base 1 "place_text" (spTxt K) []) :
    CalW P w K mg base 2 "lot_text" (spLot K) ["lot"] :=
  ⟨f, fd, ["lot"], fok_lot_text F T cplace_text, g, F.kp, kb_z F ["lot"] 1 rfl (by decide) fun _ _ _ _ _ _ us hl => match us, hl with | [_], _ => rfl⟩
theorem cons_erase : ∀ (l : List V) (i : Nat) (h : i < l.length), (l[i] :: l.eraseIdx i).Perm l
  | x :: l, 0, _ => List.Perm.refl _
  | x :: l, i + 1, h => by
    have h2 : i < l.length := Nat.lt_of_succ_lt_succ h
    exact (List.Perm.swap x l[i] (l.eraseIdx i)).trans ((cons_erase l i h2).cons x)
theorem fok__law_mixed {f : Addr} {fd : FuncData} (F : FunD K "_law_mixed" "_law_mixed" (defArgs s__law_mixed) (defBody s__law_mixed) (defScope s__law_mixed) [] [] f fd) (T : Bi mg) (c_draw : Cal P w K mg base 1 "_law_draw" spDraw []) :
    FnOk P w K mg base C8.CX0 2 f fd ["_law_bag_here", "_law_some"] (spMix K) := by
  refine F.ok sc__law_mixed (fun vs H Q E h => ?_) (fun cdv A outer s H vs Q E hr h => ?_)
  · obtain ⟨B, a, xs, rfl, _⟩ := h
    rfl
  · obtain ⟨B, a, xs, rfl, hb, hx, hz, q⟩ := h
    refine ⟨_, PSs.nox (
(pss_cons (ps_par (i := 2) (j := 3) (by rfl) sc__law_mixed.nd rfl rfl (by decide) rfl rfl (pa_cons (pe_callTy call_list_of (by rfl) T.m_list (by decide +kernel) (pa_cons (pv 1) pa_nil)) (pa_cons (pe_lst pa_nil) pa_nil)) (by rfl))
  (pss_cons (ps_for PassesOwn.never rfl (pi_range1 (by rfl) T.m_range (pa_cons (pe_callB call_len_seq (by rfl) T.m_len (by decide +kernel) (pa_cons (pv 1) pa_nil)) pa_nil)) (pg_name (i := 4) sc__law_mixed.nd rfl (.inl rfl))
  (pss_one (ps_expr (pe_bm PySem.F.plainAttrs_list PySem.F.slot_list_append PySem.F.type_list_append mt_append (pv 3) (pa_cons (pe_bm PySem.F.plainAttrs_list PySem.F.slot_list_pop PySem.F.type_list_pop mt_popAt (pv 2) (pa_cons (pe_c (c_draw) hr (by omega) (by rfl) (pa_cons (pv 0) (pa_cons (pe_callB call_len_seq (by rfl) T.m_len (by decide +kernel) (pa_cons (pv 2) pa_nil)) pa_nil))) pa_nil)) pa_nil)))))
  (pss_one (ps_ret (pv 3)))))
), ?_⟩
    refine q_parLL (el_list (ev_var rfl) hx) (el_lst ea_nil (show 0 ≤ 100000 by decide)) fun r t H2 hr ht0 hrt e2 h1 h2 => ?_
    refine q_forR1 (n := (xs.length : Int)) (ea_cons (ev_lenT (ev_var rfl) (.inl (ex_l e2 hx))) ea_nil) ⟨by omega, by omega⟩ (fun i σ' H' => ∃ rs ts y, σ' = [some (.ref B), some (.ref a), some (.ref r), some (.ref t), y] ∧ Ex H H' ∧ H' r = some (.lst rs) ∧ H' t = some (.lst ts) ∧ (ts ++ rs).Perm xs ∧ ts.length = i)
      (fun H3 e3 => ⟨xs, [], _, rfl, e2.trans e3, e3 _ _ h1, e3 _ _ h2, List.Perm.refl _, rfl⟩) (fun i σ' H' hi h => ?_) (fun σ' H' h => ?_)
    · obtain ⟨rs, ts, y, rfl, e3, g1, g2, pm, hl⟩ := h
      have hlen := pm.length_eq
      rw [List.length_append] at hlen
      have hpos : 0 < rs.length := by omega
      refine ⟨_, rfl, .inl ⟨rfl, ts, sq_of g2⟩, _, rfl, .inl ⟨rfl, rs, sq_of g1⟩, ?_⟩
      refine en_draw (hb.mono e3) (ev_var rfl) (ev_lenT (ev_var rfl) (.inl (sq_of g1))) (by omega) (by omega) H' (Ex.refl H') _ fun v H3 e4 hv => ?_
      obtain ⟨d, rfl, d0, d1⟩ := hv
      have hd : d.toNat < rs.length := by omega
      have si : seqIndex? d rs.length = some d.toNat := by
        have e : (if d < 0 then d + (rs.length : Int) else d) = d := if_neg (by omega)
        simp only [seqIndex?, e]
        rw [if_pos]
        rw [Bool.and_eq_true, decide_eq_true_iff, decide_eq_true_iff]
        omega
      refine ⟨r, rs, d, d.toNat, rs[d.toNat], rfl, rfl, e4 _ _ g1, by omega, by omega, si, List.getElem?_eq_getElem hd, ?_⟩
      refine ⟨t, ts, rs[d.toNat], rfl, rfl, by rw [upd_ne (Ne.symm hrt)]; exact e4 _ _ g2, sz_lt (by omega), rs.eraseIdx d.toNat, ts ++ [rs[d.toNat]], _, rfl, Ex.mut (Ex.mut (e3.trans e4) hr) ht0, by rw [upd_ne hrt, upd_same], upd_same, ?_, by rw [List.length_append, List.length_singleton, hl]⟩
      refine List.Perm.trans ?_ pm
      rw [List.append_assoc]
      exact List.Perm.append_left ts (cons_erase rs d.toNat hd)
    · obtain ⟨rs, ts, y, rfl, e3, g1, g2, pm, hl⟩ := h
      have hlen := pm.length_eq
      rw [List.length_append, hl, Int.toNat_natCast] at hlen
      have : rs = [] := List.eq_nil_of_length_eq_zero (by omega)
      subst this
      rw [List.append_nil] at pm
      exact s_ret (ev_var rfl) fun H3 e4 => q ts t H3 pm (e3.trans e4) ht0 (e4 _ _ g2)
theorem ok__law_mixed {f : Addr} {fd : FuncData} (F : FunD K "_law_mixed" "_law_mixed" (defArgs s__law_mixed) (defBody s__law_mixed) (defScope s__law_mixed) [] [] f fd) (g : mg "_law_mixed" = some (.ref f)) (T : Bi mg) (c_draw : Cal P w K mg base 1 "_law_draw" spDraw []) :
    Cal P w K mg base 2 "_law_mixed" (spMix K) [] :=
  ⟨f, fd, ["_law_bag_here", "_law_some"], [], fok__law_mixed F T c_draw, g, F.kp, FunD.bindsN F fun _ _ _ _ _ _ us hl => match us, hl with | [_, _], _ => rfl, .nil⟩
theorem fok__law_given {f : Addr} {fd : FuncData} (F : FunD K "_law_given" "_law_given" (defArgs s__law_given) (defBody s__law_given) (defScope s__law_given) [] [] f fd) (T : Bi mg) (c_draw : Cal P w K mg base 1 "_law_draw" spDraw []) (c_mixed : Cal P w K mg base 2 "_law_mixed" (spMix K) []) :
    FnOk P w K mg base C8.CX0 3 f fd ["_law_bag_here", "_law_picked"] (spGiv K) := by
  refine F.ok sc__law_given (fun vs H Q E h => ?_) (fun cdv A outer s H vs Q E hr h => ?_)
  · obtain ⟨B, a, xs, rfl, _⟩ := h
    rfl
  · obtain ⟨B, a, xs, rfl, hb, hx, hz, q⟩ := h
    refine ⟨_, PSs.nox (
(pss_cons (ps_set (i := 2) sc__law_given.nd rfl (.inl rfl) (pe_c (c_mixed) hr (by omega) (by rfl) (pa_cons (pv 0) (pa_cons (pe_op op_cat (pe_callTy call_list_of (by rfl) T.m_list (by decide +kernel) (pa_cons (pv 1) pa_nil)) (pe_lc (own := [("_law_p", 3)]) (g := gName 3) (by rfl) sc__law_given.nd (pi_list (pv 1)) (blkOk_by (own := [("_law_p", 3)]) (N := ["_law_bag_here", "_law_picked", "_law_some", "_law_p"]) (sc := defScope s__law_given) (by decide +kernel)) (fun _ _ _ _ _ => (pg_name (i := 3) sc__law_given.nd rfl (Or.inl rfl))) (fun _ _ _ _ _ => (pts_one (pt_cmpR op_eq (pe_c (c_draw) hr (by omega) (by rfl) (pa_cons (pv 0) (pa_cons pe_int pa_nil))) pe_int (nomark _)))) (fun _ _ _ _ _ => (pv 3)))) pa_nil))))
  (pss_one (ps_ret (pe_ifExp (pt_cmpR op_eq (pe_c (c_draw) hr (by omega) (by rfl) (pa_cons (pv 0) (pa_cons pe_int pa_nil))) pe_int (nomark _)) (pe_callTy call_tuple_of (by rfl) T.m_tuple (by decide +kernel) (pa_cons (pv 2) pa_nil)) (pv 2)))))
), ?_⟩
    refine ⟨_, rfl, ?_⟩
    show tOp rCat (tCB _ (tCons (tVar 1) tNil)) (tLc _ _ _ _ _) _ H _
    refine el_list (σ := L2.start ["_law_bag_here", "_law_picked", "_law_some", "_law_p"] [V.ref B, V.ref a]) (ev_var (i := 1) rfl) hx H (Ex.refl H) _ fun r H1 hr e1 h1 => ?_
    refine en_some (ev_var rfl) (ex_l e1 hx) (by omega) (fun _ => rfl) (fun x H2 e2 => eb_eq (en_drawI (hb.mono (e1.trans e2)) (ev_var rfl) ev_c (by decide) (by decide)) ev_c) (fun x H2 e2 => ev_var rfl) H1 (Ex.refl H1) _ fun t ys H2 ht e2 h2 hs hl => ?_
    refine ⟨r, t, xs, ys, rfl, rfl, e2 _ _ h1, h2, sz_of (by omega), fun p hp => ?_⟩
    refine ⟨B, p, xs ++ ys, rfl, hb.mono ((e1.trans e2).trans (Ex.new hp)), sq_of upd_same, by rw [List.length_append]; omega, fun zs u H3 pm e3 hu h3 => ?_⟩
    have e4 : Ex H H3 := ((e1.trans e2).trans (Ex.new hp)).trans e3
    have hu0 : H u = none := fresh_back ((e1.trans e2).trans (Ex.new hp)) hu
    have hm : ∀ y, y ∈ zs ↔ y ∈ xs := fun y => by
      rw [pm.mem_iff, List.mem_append]
      exact ⟨fun h => h.elim id (hs y), .inl⟩
    have hlz : zs.length ≤ 2 * xs.length := by
      rw [pm.length_eq, List.length_append]
      omega
    refine eb_eq (en_drawI (hb.mono e4) (ev_var rfl) ev_c (by decide) (by decide)) ev_c H3 (Ex.refl H3) _ fun b H4 e5 => ?_
    cases b with
    | true => exact eu_tupOfL (ev_var rfl) (sq_of (e5 _ _ h3)) H4 (Ex.refl H4) _ fun v H5 hv e6 h5 => q zs v H5 hlz hm ((e4.trans e5).trans e6) (fresh_back (e4.trans e5) hv) (.inr h5)
    | false => exact ev_var rfl H4 (Ex.refl H4) _ fun H5 e6 => q zs u H5 hlz hm ((e4.trans e5).trans e6) hu0 (.inl (e6 _ _ (e5 _ _ h3)))
theorem ok__law_given {f : Addr} {fd : FuncData} (F : FunD K "_law_given" "_law_given" (defArgs s__law_given) (defBody s__law_given) (defScope s__law_given) [] [] f fd) (g : mg "_law_given" = some (.ref f)) (T : Bi mg) (c_draw : Cal P w K mg base 1 "_law_draw" spDraw []) (c_mixed : Cal P w K mg base 2 "_law_mixed" (spMix K) []) :
    Cal P w K mg base 3 "_law_given" (spGiv K) [] :=
  ⟨f, fd, ["_law_bag_here", "_law_picked"], [], fok__law_given F T c_draw c_mixed, g, F.kp, FunD.bindsN F fun _ _ _ _ _ _ us hl => match us, hl with | [_, _], _ => rfl, .nil⟩
theorem fok__law_numbers {f : Addr} {fd : FuncData} (F : FunD K "_law_numbers" "_law_numbers" (defArgs s__law_numbers) (defBody s__law_numbers) (defScope s__law_numbers) [] [] f fd) (T : Bi mg) (c_draw : Cal P w K mg base 1 "_law_draw" spDraw []) :
    FnOk P w K mg base C8.CX0 2 f fd ["_law_bag_here", "_law_many"] spNums := by
  refine F.ok sc__law_numbers (fun vs H Q E h => ?_) (fun cdv A outer s H vs Q E hr h => ?_)
  · obtain ⟨B, m, rfl, _⟩ := h
    rfl
  · obtain ⟨B, m, rfl, hb, hm, q⟩ := h
    refine ⟨_, PSs.nox (
(pss_one (ps_ret (pe_callTy call_tuple_of (by rfl) T.m_tuple (by decide +kernel) (pa_cons (pe_lc (own := [("_law_k", 2)]) (g := gName 2) (by rfl) sc__law_numbers.nd (pi_range1 (by rfl) T.m_range (pa_cons (pe_c (c_draw) hr (by omega) (by rfl) (pa_cons (pv 0) (pa_cons (pe_op op_add (pv 1) pe_int) pa_nil))) pa_nil)) (blkOk_by (own := [("_law_k", 2)]) (N := ["_law_bag_here", "_law_many", "_law_k"]) (sc := defScope s__law_numbers) (by decide +kernel)) (fun _ _ _ _ _ => (pg_name (i := 2) sc__law_numbers.nd rfl (Or.inl rfl))) (fun _ _ _ _ _ => pts_nil) (fun _ _ _ _ _ => (pe_op op_add pe_int (pe_c (c_draw) hr (by omega) (by rfl) (pa_cons (pv 0) (pa_cons pe_int pa_nil)))))) pa_nil))))
), ?_⟩
    refine s_retN (P := PN m) ((en_tupG (G := fun xs => ∃ ns : List Int, xs = ns.map V.int ∧ Num4 ns ∧ ns.length ≤ m) ((en_rngZ (m := m) (P := fun _ v _ => ∃ n : Int, v = .int n ∧ 1 ≤ n ∧ n ≤ 4) ⟨fun _ h => h, fun _ h => h⟩ (by omega) ?ha (fun _ => rfl) fun k H1 e1 hk => ?he).to fun H0 v H' _ _ hv => ?to)).to fun H0 v H' _ _ hv => ?to2) fun v H1 e1 p => q v H1 e1 p
    case ha =>
      refine fun H1 e1 Q1 q1 => en_draw (hb.mono e1) (ev_var rfl) (ev_op (ev_var rfl) ev_c rv_I0) (by omega) (by omega) H1 (Ex.refl H1) _ fun v H2 e2 p => ?_
      obtain ⟨r, rfl, r0, r1⟩ := p
      exact q1 _ H2 e2 ⟨r.toNat, by omega, by rw [Int.toNat_of_nonneg r0]⟩
    case he =>
      exact (en_opI (C := fun r => 0 ≤ r ∧ r < 4) ev_c (en_draw (hb.mono e1) (ev_var rfl) ev_c (by decide) (by decide))).to fun _ v _ _ _ ⟨r, e, r0, r1⟩ => ⟨1 + r, e, by omega, by omega⟩
    case to =>
      obtain ⟨n, hn, l, xs, rfl, hl0, hl, hE⟩ := hv
      obtain ⟨ns, rfl, hns, h4⟩ := each_num hE
      exact ⟨l, _, rfl, hl0, hl, ns, rfl, h4, by omega⟩
    case to2 =>
      obtain ⟨p, xs, rfl, hp0, hp, ns, rfl, h4, hl⟩ := hv
      exact ⟨p, ns, rfl, hp0, hp, h4, hl⟩
theorem ok__law_numbers {f : Addr} {fd : FuncData} (F : FunD K "_law_numbers" "_law_numbers" (defArgs s__law_numbers) (defBody s__law_numbers) (defScope s__law_numbers) [] [] f fd) (g : mg "_law_numbers" = some (.ref f)) (T : Bi mg) (c_draw : Cal P w K mg base 1 "_law_draw" spDraw []) :
    Cal P w K mg base 2 "_law_numbers" spNums [] :=
  ⟨f, fd, ["_law_bag_here", "_law_many"], [], fok__law_numbers F T c_draw, g, F.kp, FunD.bindsN F fun _ _ _ _ _ _ us hl => match us, hl with | [_, _], _ => rfl, .nil⟩
theorem fok__law_odd {f : Addr} {fd : FuncData} (F : FunD K "_law_odd" "_law_odd" (defArgs s__law_odd) (defBody s__law_odd) (defScope s__law_odd) [] [] f fd) (T : Bi mg) (c_of : Cal P w K mg base 2 "_law_of" (spOf K) []) {CT : Addr} (x_TooGreat : MkX P w K mg base 1 "TooGreat" CT "TooGreat" []) (xv : XV0 K CT) :
    FnOk P w K mg base C8.CX0 3 f fd ["_law_bag_here"] (spOdd K) := by
  refine F.ok sc__law_odd (fun vs H Q E h => ?_) (fun cdv A outer s H vs Q E hr h => ?_)
  · obtain ⟨B, rfl, _⟩ := h
    rfl
  · obtain ⟨B, rfl, hb, q⟩ := h
    refine ⟨_, PSs.nox (
(pss_one (ps_ret (pe_c (c_of) hr (by omega) (by rfl) (pa_cons (pv 0) (pa_cons (pe_lst (pa_cons pe_non (pa_cons pe_bl (pa_cons pe_bl (pa_cons pe_int (pa_cons pe_int (pa_cons (pe_un un_neg pe_int) (pa_cons pe_int (pa_cons pe_str (pa_cons pe_str (pa_cons pe_str (pa_cons pe_str (pa_cons pe_str (pa_cons pe_str (pa_cons pe_str (pa_cons (pe_lst pa_nil) (pa_cons (pe_lst (pa_cons pe_int pa_nil)) (pa_cons (pe_lst (pa_cons (pe_tup pa_nil) pa_nil)) (pa_cons (pe_tup (pa_cons (pe_tup pa_nil) pa_nil)) (pa_cons (pe_tup (pa_cons (pe_tup (pa_cons pe_int pa_nil)) pa_nil)) (pa_cons (pe_tup (pa_cons pe_int pa_nil)) (pa_cons (pe_tup (pa_cons pe_int pa_nil)) (pa_cons (pe_tup (pa_cons pe_bl pa_nil)) (pa_cons (pe_tup (pa_cons pe_int (pa_cons pe_bl pa_nil))) (pa_cons (pe_tup (pa_cons pe_bl pa_nil)) (pa_cons (pe_tup (pa_cons pe_str pa_nil)) (pa_cons (pe_tup (pa_cons pe_non pa_nil)) (pa_cons (pe_tup (pa_cons pe_int (pa_cons pe_int pa_nil))) (pa_cons (pe_tup (pa_cons (pe_un un_neg pe_int) pa_nil)) (pa_cons (pe_tup (pa_cons pe_int (pa_cons (pe_tup (pa_cons pe_int pa_nil)) pa_nil))) (pa_cons (pe_tup (pa_cons pe_int (pa_cons (pe_lst (pa_cons pe_int pa_nil)) pa_nil))) (pa_cons (pe_tup (pa_cons (pe_lst pa_nil) pa_nil)) (pa_cons (pe_xmk0 x_TooGreat hr (by omega) (by rfl)) (pa_cons (pe_tup (pa_cons pe_int (pa_cons (pe_xmk0 x_TooGreat hr (by omega) (by rfl)) pa_nil))) (pa_cons (pe_tup (pa_cons pe_int (pa_cons pe_int (pa_cons pe_int (pa_cons pe_int (pa_cons pe_int (pa_cons pe_int (pa_cons pe_int (pa_cons pe_int (pa_cons pe_int (pa_cons pe_int (pa_cons pe_int (pa_cons pe_int pa_nil))))))))))))) (pa_cons (pe_tup (pa_cons pe_int pa_nil)) (pa_cons (pe_tup (pa_cons pe_int (pa_cons pe_int pa_nil))) (pa_cons (pe_lst (pa_cons pe_non pa_nil)) pa_nil)))))))))))))))))))))))))))))))))))))) pa_nil)))))
), ?_⟩
    refine s_retN (P := PG K 2) (en_gof (k := 37) hb (ev_var rfl) ?_ (by decide) (by decide)) (fun v H2 e2 p => q v H2 e2 p)
    repeat (first
      | exact ag_nil
      | apply ag_cons
      | exact en_is ev_c fun _ _ _ _ => .int _ _
      | exact en_is ev_c fun _ _ _ _ => .bl _ _
      | exact en_is ev_c fun _ _ _ _ => .non _
      | exact en_is ev_c fun _ _ _ _ => .str _ _ (by decide)
      | exact en_is (ev_un ev_c ru_neg) fun _ _ _ _ => .int _ _
      | exact en_gx xv
      | apply en_gt
      | apply en_gl
      | decide)
theorem ok__law_odd {f : Addr} {fd : FuncData} (F : FunD K "_law_odd" "_law_odd" (defArgs s__law_odd) (defBody s__law_odd) (defScope s__law_odd) [] [] f fd) (g : mg "_law_odd" = some (.ref f)) (T : Bi mg) (c_of : Cal P w K mg base 2 "_law_of" (spOf K) []) {CT : Addr} (x_TooGreat : MkX P w K mg base 1 "TooGreat" CT "TooGreat" []) (xv : XV0 K CT) :
    Cal P w K mg base 3 "_law_odd" (spOdd K) [] :=
  ⟨f, fd, ["_law_bag_here"], [], fok__law_odd F T c_of x_TooGreat xv, g, F.kp, FunD.bindsN F fun _ _ _ _ _ _ us hl => match us, hl with | [_], _ => rfl, .nil⟩
end
end K01

namespace K01
open PySem PySem.Spec PyProof.Rows L2 Evl XV C8 He RZ
def spWord : Sp := fun vs H Q _ => ∃ B, vs = [.ref B] ∧ Bag H B ∧ ∀ z H', Ex H H' → z.length ≤ 100 → Q (.str z) H'
def spBent : Sp := fun vs H Q _ => ∃ (B : Addr) (z : Str), vs = [.ref B, .str z] ∧ Bag H B ∧ z.length ≤ 100 ∧ ∀ y H', Ex H H' → y.length ≤ 1000 → Q (.str y) H'
def spMay (K : PySem.W.Frag) : Sp := fun vs H Q _ => ∃ B, vs = [.ref B] ∧ Bag H B ∧ ∀ v H', Ex H H' → GV K H H' 3 v → Q v H'
theorem sc__law_word : FnScope ["_law_bag_here", "_law_kind", "_law_w", "_law_k"] ["_law_bag_here"] (defScope s__law_word) := ⟨rfl, rfl, rfl, by decide +kernel, rfl, by decide +kernel, by decide +kernel⟩
theorem sc__law_maybe : FnScope ["_law_bag_here", "_law_p", "_law_k", "_law_wrong"] ["_law_bag_here"] (defScope s__law_maybe) := ⟨rfl, rfl, rfl, by decide +kernel, rfl, by decide +kernel, by decide +kernel⟩
theorem sc__law_bent : FnScope ["_law_bag_here", "_law_w", "_law_k", "_law_part"] ["_law_bag_here", "_law_w"] (defScope s__law_bent) := ⟨rfl, rfl, rfl, by decide +kernel, rfl, by decide +kernel, by decide +kernel⟩
section
variable {P : Program} {w : World} {K : PySem.W.Frag} {mg : Str → Option Value} {base : Heap}
theorem fok__law_word {f : Addr} {fd : FuncData} (F : FunD K "_law_word" "_law_word" (defArgs s__law_word) (defBody s__law_word) (defScope s__law_word) [] [] f fd) (T : Bi mg) (c_draw : Cal P w K mg base 1 "_law_draw" spDraw []) (c_of : Cal P w K mg base 2 "_law_of" (spOf K) []) :
    FnOk P w K mg base C8.CX0 3 f fd ["_law_bag_here"] spWord := by
  refine F.ok sc__law_word (fun vs H Q E h => ?_) (fun cdv A outer s H vs Q E hr h => ?_)
  · obtain ⟨B, rfl, _⟩ := h
    rfl
  · obtain ⟨B, rfl, hb, q⟩ := h
    refine ⟨_, PSs.nox (
(pss_cons (ps_set (i := 1) sc__law_word.nd rfl (.inr rfl) (pe_c (c_of) hr (by omega) (by rfl) (pa_cons (pv 0) (pa_cons (pe_lst (pa_cons pe_str (pa_cons pe_str (pa_cons pe_str (pa_cons pe_str (pa_cons pe_str pa_nil)))))) pa_nil))))
  (pss_cons (ps_set (i := 2) sc__law_word.nd rfl (.inl rfl) (pe_join pe_str (pe_lc (own := [("_law_k", 3)]) (g := gName 3) (by rfl) sc__law_word.nd (pi_range1 (by rfl) T.m_range (pa_cons (pe_c (c_draw) hr (by omega) (by rfl) (pa_cons (pv 0) (pa_cons pe_int pa_nil))) pa_nil)) (blkOk_by (own := [("_law_k", 3)]) (N := ["_law_bag_here", "_law_kind", "_law_w", "_law_k"]) (sc := defScope s__law_word) (by decide +kernel)) (fun _ _ _ _ _ => (pg_name (i := 3) sc__law_word.nd rfl (Or.inl rfl))) (fun _ _ _ _ _ => pts_nil) (fun _ _ _ _ _ => (pe_c (c_of) hr (by omega) (by rfl) (pa_cons (pv 0) (pa_cons (pv 1) pa_nil)))))))
  (pss_cons (ps_if (pt_cmpR op_eq (pe_c (c_draw) hr (by omega) (by rfl) (pa_cons (pv 0) (pa_cons pe_int pa_nil))) pe_int (nomark _))
  (pss_cons (ps_set (i := 3) sc__law_word.nd rfl (.inl rfl) (pe_c (c_draw) hr (by omega) (by rfl) (pa_cons (pv 0) (pa_cons (pe_op op_add (pe_callB call_len_str (by rfl) T.m_len (by decide +kernel) (pa_cons (pv 2) pa_nil)) pe_int) pa_nil))))
  (pss_one (ps_set (i := 2) sc__law_word.nd rfl (.inl rfl) (pe_op op_add_str (pe_op op_add_str (pe_slice sl_str (pv 2) po_none (po_some (pv 3))) (pe_c (c_of) hr (by omega) (by rfl) (pa_cons (pv 0) (pa_cons (pe_op op_add_str pe_str pe_str) pa_nil)))) (pe_slice sl_str (pv 2) (po_some (pe_op op_add (pv 3) (pe_c (c_draw) hr (by omega) (by rfl) (pa_cons (pv 0) (pa_cons pe_int pa_nil))))) po_none)))))
  pss_nil)
  (pss_one (ps_ret (pv 2))))))
), ?_⟩
    refine q_asgN (P := PZ1 26) (en_ofQ (k := 5) fs_z1 hb (ev_var rfl) ?_ (by decide) (by decide)) fun v H1 e1 p => ?_
    · repeat (first
        | exact aq_nil
        | apply aq_cons fs_z1 (en_is ev_c fun _ _ _ _ => ⟨_, rfl, by decide, by decide⟩))
    obtain ⟨z, rfl, z1, z2⟩ := p
    refine q_asgN (P := PZ 9) (ez_join (m := 9) (by decide) (en_rngZ (m := 9) fs_c1 (by decide) (an_one (en_draw (hb.mono e1) (ev_var rfl) ev_c (by decide) (by decide)) (by decide)) (fun _ => rfl) fun k H2 e2 hk => en_ofS (hb.mono (e1.trans e2)) (ev_var rfl) (ev_var rfl) z1 (by omega))) fun v H2 e2 p => ?_
    obtain ⟨y, rfl, hy⟩ := p
    have hb2 := hb.mono (e1.trans e2)
    refine q_any (eb_eq (en_drawI hb2 (ev_var rfl) ev_c (by decide) (by decide)) ev_c) (fun H3 e3 => ?_) (fun H3 e3 => ?_)
    · have hb3 := hb2.mono e3
      refine q_asgN (en_draw hb3 (ev_var rfl) (ev_op (ev_lenS (ev_var rfl) (by omega)) ev_c rv_I0) (by omega) (by omega)) fun v H4 e4 p => ?_
      obtain ⟨k, rfl, k0, k1⟩ := p
      have hb4 := hb3.mono e4
      refine s_asgN (ez_add (a := 10) (b := 9) (n := 100) (ez_add (a := 9) (b := 1) (n := 10) (ez_up (ez_sl (ev_var rfl) (eoa_ev eo_none) (eoa_ev (eo_some (ev_var rfl))) (by omega)) hy) (ez_c1 (en_ofS hb4 (ev_var rfl) (ev_op ev_c ev_c (rv_addS (by decide))) (by decide) (by decide))) (by decide) (by decide)) (ez_up (ez_sl (ev_var rfl) (eoa_some ?_) (eoa_ev eo_none) (by omega)) hy) (by decide) (by decide)) fun v H5 e5 p => ?_
      · exact (en_opI (C := fun _ => True) (ev_var rfl) ((en_drawI hb4 (ev_var rfl) ev_c (by decide) (by decide)).to fun _ v _ _ _ ⟨r, e⟩ => ⟨r, e, trivial⟩)).to fun _ v _ _ _ ⟨r, e, _⟩ => ⟨k + r, e⟩
      obtain ⟨x, rfl, hx⟩ := p
      exact s_ret (ev_var rfl) fun H6 e6 => q x H6 (((((e1.trans e2).trans e3).trans e4).trans e5).trans e6) hx
    · exact s_ret (ev_var rfl) fun H6 e6 => q y H6 (((e1.trans e2).trans e3).trans e6) (by omega)
theorem ok__law_word {f : Addr} {fd : FuncData} (F : FunD K "_law_word" "_law_word" (defArgs s__law_word) (defBody s__law_word) (defScope s__law_word) [] [] f fd) (g : mg "_law_word" = some (.ref f)) (T : Bi mg) (c_draw : Cal P w K mg base 1 "_law_draw" spDraw []) (c_of : Cal P w K mg base 2 "_law_of" (spOf K) []) :
    Cal P w K mg base 3 "_law_word" spWord [] :=
  ⟨f, fd, ["_law_bag_here"], [], fok__law_word F T c_draw c_of, g, F.kp, FunD.bindsN F fun _ _ _ _ _ _ us hl => match us, hl with | [_], _ => rfl, .nil⟩
theorem fok__law_bent {f : Addr} {fd : FuncData} (F : FunD K "_law_bent" "_law_bent" (defArgs s__law_bent) (defBody s__law_bent) (defScope s__law_bent) [] [] f fd) (T : Bi mg) (c_draw : Cal P w K mg base 1 "_law_draw" spDraw []) (c_of : Cal P w K mg base 2 "_law_of" (spOf K) []) :
    FnOk P w K mg base C8.CX0 3 f fd ["_law_bag_here", "_law_w"] spBent := by
  refine F.ok sc__law_bent (fun vs H Q E h => ?_) (fun cdv A outer s H vs Q E hr h => ?_)
  · obtain ⟨B, z, rfl, _⟩ := h
    rfl
  · obtain ⟨B, z, rfl, hb, hz, q⟩ := h
    refine ⟨_, PSs.nox (
(pss_cons (ps_set (i := 2) sc__law_bent.nd rfl (.inl rfl) (pe_c (c_draw) hr (by omega) (by rfl) (pa_cons (pv 0) (pa_cons (pe_op op_add (pe_callB call_len_str (by rfl) T.m_len (by decide +kernel) (pa_cons (pv 1) pa_nil)) pe_int) pa_nil))))
  (pss_cons (ps_set (i := 3) sc__law_bent.nd rfl (.inl rfl) (pe_c (c_of) hr (by omega) (by rfl) (pa_cons (pv 0) (pa_cons (pe_lst (pa_cons pe_str (pa_cons pe_str (pa_cons pe_str (pa_cons pe_str (pa_cons pe_str (pa_cons pe_str (pa_cons pe_str (pa_cons pe_str (pa_cons pe_str (pa_cons pe_str (pa_cons pe_str (pa_cons pe_str (pa_cons pe_str (pa_cons pe_str (pa_cons pe_str (pa_cons pe_str pa_nil))))))))))))))))) pa_nil))))
  (pss_one (ps_ret (pe_c (c_of) hr (by omega) (by rfl) (pa_cons (pv 0) (pa_cons (pe_lst (pa_cons (pe_op op_add_str (pe_op op_add_str (pe_slice sl_str (pv 1) po_none (po_some (pv 2))) (pv 3)) (pe_slice sl_str (pv 1) (po_some (pv 2)) po_none)) (pa_cons (pe_op op_add_str (pe_op op_add_str (pe_slice sl_str (pv 1) po_none (po_some (pv 2))) (pv 3)) (pe_slice sl_str (pv 1) (po_some (pe_op op_add (pv 2) pe_int)) po_none)) (pa_cons (pe_op op_add_str (pe_slice sl_str (pv 1) po_none (po_some (pv 2))) (pe_slice sl_str (pv 1) (po_some (pe_op op_add (pv 2) pe_int)) po_none)) (pa_cons (pe_op op_add_str (pv 1) (pv 3)) (pa_cons (pe_op op_add_str (pv 3) (pv 1)) pa_nil)))))) pa_nil)))))))
), ?_⟩
    refine q_asgN (en_draw hb (ev_var rfl) (ev_op (ev_lenS (ev_var rfl) (by omega)) ev_c rv_I0) (by omega) (by omega)) fun v H1 e1 p => ?_
    obtain ⟨k, rfl, k0, k1⟩ := p
    have hb1 := hb.mono e1
    refine q_asgN (P := PZ 2) (en_ofQ (k := 16) fs_z hb1 (ev_var rfl) ?_ (by decide) (by decide)) fun v H2 e2 p => ?_
    · repeat (first
        | exact aq_nil
        | apply aq_cons fs_z (en_is ev_c fun _ _ _ _ => ⟨_, rfl, by decide⟩))
    obtain ⟨y, rfl, hy⟩ := p
    have hb2 := hb1.mono e2
    have hw : ∀ {σ : L2.St} {H3 : Hp}, σ[1]? = some (some (.str z)) → EN (tVar 1) σ H3 (PZ 100) := fun h0 => ez_up (ez_ev (ev_var h0) (Nat.le_refl _)) hz
    refine s_retN (P := PZ 1000) (en_ofQ (k := 5) fs_z hb2 (ev_var rfl) ?_ (by decide) (by decide)) fun v H3 e3 p => ?_
    · refine aq_cons fs_z ?_ (aq_cons fs_z ?_ (aq_cons fs_z ?_ (aq_cons fs_z ?_ (aq_cons fs_z ?_ aq_nil))))
      · exact ez_add (a := 102) (b := 100) (ez_add (a := 100) (b := 2) (ez_up (ez_sl (ev_var rfl) (eoa_ev eo_none) (eoa_ev (eo_some (ev_var rfl))) (by omega)) hz) (ez_ev (ev_var rfl) hy) (by decide) (by decide)) (ez_up (ez_sl (ev_var rfl) (eoa_ev (eo_some (ev_var rfl))) (eoa_ev eo_none) (by omega)) hz) (by decide) (by decide)
      · exact ez_add (a := 102) (b := 100) (ez_add (a := 100) (b := 2) (ez_up (ez_sl (ev_var rfl) (eoa_ev eo_none) (eoa_ev (eo_some (ev_var rfl))) (by omega)) hz) (ez_ev (ev_var rfl) hy) (by decide) (by decide)) (ez_up (ez_sl (ev_var rfl) (eoa_ev (eo_some (ev_op (ev_var rfl) ev_c rv_I0))) (eoa_ev eo_none) (by omega)) hz) (by decide) (by decide)
      · exact ez_add (a := 100) (b := 100) (ez_up (ez_sl (ev_var rfl) (eoa_ev eo_none) (eoa_ev (eo_some (ev_var rfl))) (by omega)) hz) (ez_up (ez_sl (ev_var rfl) (eoa_ev (eo_some (ev_op (ev_var rfl) ev_c rv_I0))) (eoa_ev eo_none) (by omega)) hz) (by decide) (by decide)
      · exact ez_add (a := 100) (b := 2) (hw rfl) (ez_ev (ev_var rfl) hy) (by decide) (by decide)
      · exact ez_add (a := 2) (b := 100) (ez_ev (ev_var rfl) hy) (hw rfl) (by decide) (by decide)
    obtain ⟨x, rfl, hx⟩ := p
    exact q x H3 ((e1.trans e2).trans e3) hx
theorem ok__law_bent {f : Addr} {fd : FuncData} (F : FunD K "_law_bent" "_law_bent" (defArgs s__law_bent) (defBody s__law_bent) (defScope s__law_bent) [] [] f fd) (g : mg "_law_bent" = some (.ref f)) (T : Bi mg) (c_draw : Cal P w K mg base 1 "_law_draw" spDraw []) (c_of : Cal P w K mg base 2 "_law_of" (spOf K) []) :
    Cal P w K mg base 3 "_law_bent" spBent [] :=
  ⟨f, fd, ["_law_bag_here", "_law_w"], [], fok__law_bent F T c_draw c_of, g, F.kp, FunD.bindsN F fun _ _ _ _ _ _ us hl => match us, hl with | [_, _], _ => rfl, .nil⟩
theorem fok__law_maybe {f : Addr} {fd : FuncData} (F : FunD K "_law_maybe" "_law_maybe" (defArgs s__law_maybe) (defBody s__law_maybe) (defScope s__law_maybe) [] [] f fd) (T : Bi mg) (c_draw : Cal P w K mg base 1 "_law_draw" spDraw []) (c_of : Cal P w K mg base 2 "_law_of" (spOf K) []) (c_numbers : Cal P w K mg base 2 "_law_numbers" spNums []) (c_odd : Cal P w K mg base 3 "_law_odd" (spOdd K) []) :
    FnOk P w K mg base C8.CX0 4 f fd ["_law_bag_here"] (spMay K) := by
  refine F.ok sc__law_maybe (fun vs H Q E h => ?_) (fun cdv A outer s H vs Q E hr h => ?_)
  · obtain ⟨B, rfl, _⟩ := h
    rfl
  · obtain ⟨B, rfl, hb, q⟩ := h
    refine ⟨_, PSs.nox (
(pss_cons (ps_set (i := 1) sc__law_maybe.nd rfl (.inl rfl) (pe_c (c_numbers) hr (by omega) (by rfl) (pa_cons (pv 0) (pa_cons (pe_c (c_of) hr (by omega) (by rfl) (pa_cons (pv 0) (pa_cons (pe_lst (pa_cons pe_int (pa_cons pe_int (pa_cons pe_int pa_nil)))) pa_nil))) pa_nil))))
  (pss_cons (ps_set (i := 2) sc__law_maybe.nd rfl (.inl rfl) (pe_c (c_draw) hr (by omega) (by rfl) (pa_cons (pv 0) (pa_cons (pe_op op_add (pe_callB call_len_seq (by rfl) T.m_len (by decide +kernel) (pa_cons (pv 1) pa_nil)) pe_int) pa_nil))))
  (pss_cons (ps_set (i := 3) sc__law_maybe.nd rfl (.inl rfl) (pe_c (c_of) hr (by omega) (by rfl) (pa_cons (pv 0) (pa_cons (pe_lst (pa_cons pe_int (pa_cons pe_int (pa_cons (pe_un un_neg pe_int) (pa_cons pe_bl (pa_cons pe_bl (pa_cons pe_non (pa_cons pe_str (pa_cons (pe_tup (pa_cons pe_int pa_nil)) (pa_cons (pe_lst (pa_cons pe_int pa_nil)) (pa_cons pe_int (pa_cons pe_int (pa_cons pe_str pa_nil))))))))))))) pa_nil))))
  (pss_one (ps_ret (pe_c (c_of) hr (by omega) (by rfl) (pa_cons (pv 0) (pa_cons (pe_lst (pa_cons (pv 1) (pa_cons (pv 1) (pa_cons (pe_op op_catA (pe_op op_catA (pe_slice sl_tupA (pv 1) po_none (po_some (pv 2))) (pe_tup (pa_cons (pv 3) pa_nil))) (pe_slice sl_tupA (pv 1) (po_some (pe_op op_add (pv 2) pe_int)) po_none)) (pa_cons (pe_op op_catA (pe_op op_catA (pe_slice sl_tupA (pv 1) po_none (po_some (pv 2))) (pe_tup (pa_cons (pv 3) pa_nil))) (pe_slice sl_tupA (pv 1) (po_some (pv 2)) po_none)) (pa_cons (pe_callTy call_list_of (by rfl) T.m_list (by decide +kernel) (pa_cons (pv 1) pa_nil)) (pa_cons (pe_c (c_odd) hr (by omega) (by rfl) (pa_cons (pv 0) pa_nil)) pa_nil))))))) pa_nil))))))))
), ?_⟩
    refine q_asgN (P := PN 30) (en_call2 (P := fun _ v _ => ∃ m : Nat, v = .int (m : Int) ∧ m ≤ 30) fs_n (ev_var rfl) (en_ofQ (k := 3) ⟨fun _ h => h, fun _ h => h⟩ hb (ev_var rfl) ?_ (by decide) (by decide)) ?_) fun v H1 e1 p => ?_
    · exact aq_cons ⟨fun _ h => h, fun _ h => h⟩ (en_is ev_c fun _ _ _ _ => ⟨3, rfl, by decide⟩) (aq_cons ⟨fun _ h => h, fun _ h => h⟩ (en_is ev_c fun _ _ _ _ => ⟨5, rfl, by decide⟩) (aq_cons ⟨fun _ h => h, fun _ h => h⟩ (en_is ev_c fun _ _ _ _ => ⟨30, rfl, by decide⟩) aq_nil))
    · rintro v H0 H' e0 ⟨m, rfl, hm⟩ e1 H2 e2 Q q2 E
      exact ⟨B, m, rfl, hb.mono ((e0.trans e1).trans e2), by omega, fun v H3 e3 p => by
        obtain ⟨a, ns, h1, h2, h3, h4, h5⟩ := p
        exact q2 v H3 e3 ⟨a, ns, h1, h2, h3, h4, by omega⟩⟩
    obtain ⟨p, ns, rfl, p0, hp, hn, hz⟩ := p
    have hb1 := hb.mono e1
    have hlen : (ns.map V.int).length = ns.length := List.length_map ..
    refine q_asgN (en_draw hb1 (ev_var rfl) (ev_op (ev_lenT (ev_var rfl) (.inr (st_of hp))) ev_c rv_I0) (by omega) (by omega)) fun v H2 e2 r => ?_
    obtain ⟨k, rfl, k0, k1⟩ := r
    have hb2 := hb1.mono e2
    refine q_asgN (P := PG K 1) (en_gof (k := 12) hb2 (ev_var rfl) ?_ (by decide) (by decide)) fun x H3 e3 gx => ?_
    · repeat (first
        | exact ag_nil
        | apply ag_cons
        | exact en_is ev_c fun _ _ _ _ => .int _ _
        | exact en_is ev_c fun _ _ _ _ => .bl _ _
        | exact en_is ev_c fun _ _ _ _ => .non _
        | exact en_is ev_c fun _ _ _ _ => .str _ _ (by decide)
        | exact en_is (ev_un ev_c ru_neg) fun _ _ _ _ => .int _ _
        | apply en_gt
        | apply en_gl
        | decide)
    have hb3 := hb2.mono e3
    have e12 : Ex H H2 := e1.trans e2
    have e13 : Ex H H3 := e12.trans e3
    have hp3 := (e2.trans e3) _ _ hp
    have gx0 : GV K H H3 1 x := fs_g.back e12 gx
    have gi : ∀ v, v ∈ ns.map V.int → GV K H H3 2 v := fun v m => by
      obtain ⟨n, _, rfl⟩ := List.mem_map.mp m
      exact .int _ _
    have bit : ∀ {lo hi : Option Int} v, v ∈ cutV (ns.map V.int) lo hi → GV K H H3 2 v := fun v m => gi v (List.mem_of_mem_drop (List.mem_of_mem_take m))
    have eP : ∀ {σ : L2.St}, σ[1]? = some (some (.ref p)) → EvN H (tVar 1) σ H3 (ns.map V.int) := fun h0 => ev0_of (ev_var h0) p0 hp3
    have eX : ∀ {σ : L2.St}, σ[3]? = some (some x) → EvN H (tTup (tCons (tVar 3) tNil)) σ H3 [x] := fun h0 => ev0_u e13 (eu_tup (ea_cons (ev_var h0) ea_nil) (Nat.le_of_ble_eq_true rfl))
    have kL : ∀ {lo hi : Option Int}, (cutV (ns.map V.int) lo hi).length ≤ 30 := fun {lo hi} => by
      have := cutV_length (ns.map V.int) lo hi
      omega
    have cat : ∀ {lo hi lo2 hi2 : Option Int}, (cutV (ns.map V.int) lo hi).length + [x].length ≤ 100000 ∧ (cutV (ns.map V.int) lo hi ++ [x]).length + (cutV (ns.map V.int) lo2 hi2).length ≤ 100000 ∧ (cutV (ns.map V.int) lo hi ++ [x] ++ cutV (ns.map V.int) lo2 hi2).length ≤ 1000 ∧ ∀ v, v ∈ cutV (ns.map V.int) lo hi ++ [x] ++ cutV (ns.map V.int) lo2 hi2 → GV K H H3 2 v := fun {lo hi lo2 hi2} => by
      have h1 := @kL lo hi
      have h2 := @kL lo2 hi2
      refine ⟨?_, ?_, ?_, fun v m => ?_⟩
      · rw [List.length_singleton]; omega
      · rw [List.length_append, List.length_singleton]; omega
      · rw [List.length_append, List.length_append, List.length_singleton]; omega
      · rcases List.mem_append.mp m with m | m
        · rcases List.mem_append.mp m with m | m
          · exact bit v m
          · rw [List.mem_singleton.mp m]
            exact gx0.up (by decide)
        · exact bit v m
    refine s_retG (eg_of (K := K) (n := 3) (k := 6) hb3 (ev_var rfl) ?_ (by decide) (by decide)) fun v H4 e4 g => q v H4 (e13.trans e4) g
    refine aga_cons ?_ (aga_cons ?_ (aga_cons ?_ (aga_cons ?_ (aga_cons ?_ (aga_cons ?_ aga_nil)))))
    · exact eg_n (eP rfl) (by omega) gi
    · exact eg_n (eP rfl) (by omega) gi
    · exact eg_n (ev0_cat e13 (ev0_cat e13 (ev0_sl e13 (eP rfl) eo_none (eo_some (ev_var rfl))) (eX rfl) (cat (lo2 := none) (hi2 := none)).1) (ev0_sl e13 (eP rfl) (eo_some (ev_op (ev_var rfl) ev_c rv_I0)) eo_none) cat.2.1) cat.2.2.1 cat.2.2.2
    · exact eg_n (ev0_cat e13 (ev0_cat e13 (ev0_sl e13 (eP rfl) eo_none (eo_some (ev_var rfl))) (eX rfl) (cat (lo2 := none) (hi2 := none)).1) (ev0_sl e13 (eP rfl) (eo_some (ev_var rfl)) eo_none) cat.2.1) cat.2.2.1 cat.2.2.2
    · refine fun H4 e4 Q4 q4 => el_listT (ev_var rfl) (st_of hp3) H4 e4 Q4 fun l H5 hl e5 h5 => q4 _ H5 e5 (.lst 2 (fresh_back (e13.trans e4) hl) h5 (by omega) fun v m => fs_g.ex (e4.trans e5) (gi v m))
    · exact eg_en e13 ((en_call1 (P := fun H0 v H' => v = .ref B) (P2 := PG K 2) fs_g (en_is (ev_var rfl) fun _ _ _ _ => rfl) fun v H0 H' e0 h e1 H2 e2 Q q2 E => by
        cases h
        exact ⟨B, rfl, hb3.mono ((e0.trans e1).trans e2), q2⟩).to fun _ v _ _ _ g => g.up (by decide))
theorem ok__law_maybe {f : Addr} {fd : FuncData} (F : FunD K "_law_maybe" "_law_maybe" (defArgs s__law_maybe) (defBody s__law_maybe) (defScope s__law_maybe) [] [] f fd) (g : mg "_law_maybe" = some (.ref f)) (T : Bi mg) (c_draw : Cal P w K mg base 1 "_law_draw" spDraw []) (c_of : Cal P w K mg base 2 "_law_of" (spOf K) []) (c_numbers : Cal P w K mg base 2 "_law_numbers" spNums []) (c_odd : Cal P w K mg base 3 "_law_odd" (spOdd K) []) :
    Cal P w K mg base 4 "_law_maybe" (spMay K) [] :=
  ⟨f, fd, ["_law_bag_here"], [], fok__law_maybe F T c_draw c_of c_numbers c_odd, g, F.kp, FunD.bindsN F fun _ _ _ _ _ _ us hl => match us, hl with | [_], _ => rfl, .nil⟩
end
end K01

namespace K01
open PySem PySem.Spec PyProof.Rows L2 Evl XV C8 He RZ
def spLaw (K : PySem.W.Frag) : Sp := fun vs H Q _ => ∃ (a : Addr) (ns : List Int), vs = [.ref a] ∧ SqL K H a (ns.map V.int) ∧ ∀ H', Q (.bl true) H'
/-- what is read -/
def rdD (v : V) : Dat := match rdV v with
  | some ns => .t ns
  | none => .v .non
theorem rdD_some {v : V} {ns : List Int} (h : rdV v = some ns) : rdD v = .t ns := by unfold rdD; rw [h]
theorem rdD_none {v : V} (h : rdV v = none) : rdD v = .v .non := by unfold rdD; rw [h]
theorem rd_sp {K : PySem.W.Frag} {H : Hp} {v : V} {Q : VK} {E : XK} (hq : QV K H v) (k : ∀ u H2, Ex H H2 → Tl K (rdD v) u H2 → Q u H2) : spRd K [v] H Q E := by
  suffices lz : ∀ ns, rdV v = some ns → ns.length ≤ 40000 by
    exact ⟨v, rfl, hq, fun h H2 e => k _ H2 e (by rw [rdD_none h]; exact ⟨rfl, .inl rfl⟩), fun ns h p H2 e hp => k _ H2 e (by rw [rdD_some h]; exact ⟨p, rfl, hp, lz ns h⟩)⟩
  intro ns h
  cases v with
  | str z =>
    obtain ⟨t, b, ty, ks, ki, kb, kt, ht, hl⟩ := hq.av
    have h1 := (read_len (show readL z.cps.toList = some ns from h)).1
    have h2 := hl z rfl
    have e : z.cps.toList.length = z.length := by rw [Array.length_toList]; rfl
    omega
  | _ => cases h
theorem nums_of {xs : List V} (h : xs.all (numV 1 4) = true) : ∃ ns : List Int, xs = ns.map V.int ∧ Num4 ns := by
  induction xs with
  | nil => exact ⟨[], rfl, fun _ m => nomatch m⟩
  | cons x xs ih =>
    rw [List.all_cons, Bool.and_eq_true] at h
    obtain ⟨ns, rfl, h4⟩ := ih h.2
    cases x with
    | int i =>
      have h1 := h.1
      unfold numV at h1
      rw [Bool.and_eq_true, decide_eq_true_iff, decide_eq_true_iff] at h1
      refine ⟨i :: ns, rfl, fun n m => ?_⟩
      rcases List.mem_cons.mp m with m | m
      · exact m ▸ h1
      · exact h4 n m
    | _ => exact absurd (show false = true from h.1) Bool.false_ne_true
theorem gv_plc {K : PySem.W.Frag} {H0 H : Hp} {v : V} (h : GV K H0 H 3 v) : ∃ b : Bool, (∀ H2, Ex H H2 → ∀ (Q : VK) (E : XK), RetV (.bl b) H2 Q → spPlc K [v] H2 Q E) ∧ (b = true → ∃ a ns, v = .ref a ∧ SqT K H a (ns.map V.int) ∧ Num4 ns ∧ ns.length ≤ 1000) := by
  have no : ∀ t, Ty0 K H v t → PySem.W.kitOne K t (.type "tuple") = some false → ∃ b : Bool, (∀ H2, Ex H H2 → ∀ (Q : VK) (E : XK), RetV (.bl b) H2 Q → spPlc K [v] H2 Q E) ∧ (b = true → ∃ a ns, v = .ref a ∧ SqT K H a (ns.map V.int) ∧ Num4 ns ∧ ns.length ≤ 1000) := fun t ht kt =>
    ⟨false, fun H2 e Q E q => ⟨v, rfl, .inr ⟨⟨t, ht.mono e, kt⟩, q⟩⟩, fun h => nomatch h⟩
  cases h with
  | non n => exact no _ .non rfl
  | bl n b => exact no _ (.bl b) rfl
  | int n i => exact no _ (.int i) rfl
  | str n z hz => exact no _ (.str z) rfl
  | err n h0 h1 hx hd x => exact no _ (.err ⟨_, hx, hd⟩ x.x) x.t
  | lst n h0 hx hz hs => exact no _ (.ofL (sq_of hx)) rfl
  | @tup n a xs h0 hx hz hs =>
    refine ⟨xs.all (numV 1 4), fun H2 e Q E q => ⟨_, rfl, .inl ⟨a, xs, rfl, ex_t e (st_of hx), by omega, fun x m => (GV.av (hs x m)).mono e, q⟩⟩, fun hb => ?_⟩
    obtain ⟨ns, rfl, h4⟩ := nums_of hb
    exact ⟨a, ns, rfl, st_of hx, h4, by rw [List.length_map] at hz; exact hz⟩
/-- the least number that is drawn -/
def lowOk (i : Int) : Prop := (∃ n : Nat, i = (n : Int) ∧ n < 10 ^ 31) ∨ i = -5
theorem low_log {i : Int} (h : lowOk i) : i.natAbs.log2 < 1920 := by
  rcases h with ⟨n, rfl, h⟩ | rfl
  · by_cases c : n = 0
    · subst c; decide
    · rw [Int.natAbs_natCast]
      refine (Nat.log2_lt c).mpr (Nat.lt_of_lt_of_le h (Nat.le_trans (show 10 ^ 31 ≤ 2 ^ 200 by decide) (Nat.pow_le_pow_right (by decide) (by decide))))
  · decide
theorem low_len {i : Int} (h : lowOk i) : (Str.ofString (toString i)).length ≤ 40000 := by
  rcases h with ⟨n, rfl, h⟩ | rfl
  · have h1 := TL.numL_len (k := 31) (by decide) h
    have e := TL.tl_num n
    have e2 : (Str.ofString (toString (n : Int))).length = (TL.numL n).length := by
      rw [← e]
      exact TL.len_tl _
    omega
  · decide +kernel
def PLow : Pd := fun _ v _ => ∃ i, v = .int i ∧ lowOk i
theorem fs_low : Fs PLow := ⟨fun _ h => h, fun _ h => h⟩
def PInt : Pd := fun _ v _ => ∃ i : Int, v = .int i ∧ True
theorem fs_int : Fs PInt := ⟨fun _ h => h, fun _ h => h⟩
theorem ten9 {σ : L2.St} {H : Hp} : Ev (tOp (rI CPow fun i j => .int (i ^ j.toNat)) (tC (.int 10)) (tC (.int 9))) σ H (.int 1000000000) := ev_op ev_c ev_c (rv_I ⟨by decide, by decide, by decide⟩)
/-- a place that was made -/
def PT7 : V → Hp → Prop := fun v H => ∃ p ns, v = .ref p ∧ H p = some (.tup (ns.map V.int)) ∧ Num4 ns ∧ ns.length ≤ 7
theorem mo_pt7 : Mo PT7 := fun v H H' e ⟨p, ns, h0, h1, h2⟩ => ⟨p, ns, h0, e _ _ h1, h2⟩
theorem pn_pt7 {m : Nat} (hm : m ≤ 7) {H0 H : Hp} {v : V} (h : PN m H0 v H) : PT7 v H := by
  obtain ⟨p, ns, h0, _, h2, h3, h4⟩ := h
  exact ⟨p, ns, h0, h2, h3, by omega⟩
theorem num4_app {a b : List Int} (h : Num4 a) (g : Num4 b) : Num4 (a ++ b) := fun n m => (List.mem_append.mp m).elim (h n) (g n)
/-- the same members: the same sorted list -/
theorem lot_same {H : Hp} {L Lg : AL} {ys : List V} (hL : ∀ q, q ∈ L → H q.1 = some (.tup (q.2.map V.int))) (hy : ys = refsL Lg) (sub : ∀ q, q ∈ Lg → q ∈ L) (hm : ∀ y, y ∈ ys ↔ y ∈ refsL L) : ∀ x, x ∈ Lg.map (·.2) ↔ x ∈ L.map (·.2) := fun x => by
  constructor
  · intro hx
    obtain ⟨q, hq, rfl⟩ := List.mem_map.mp hx
    exact List.mem_map.mpr ⟨q, sub q hq, rfl⟩
  · intro hx
    obtain ⟨q, hq, rfl⟩ := List.mem_map.mp hx
    have h1 : V.ref q.1 ∈ ys := (hm _).mpr (List.mem_map.mpr ⟨q, hq, rfl⟩)
    rw [hy] at h1
    obtain ⟨r, hr, e⟩ := List.mem_map.mp h1
    injection e with e
    have h2 := hL r (sub r hr)
    rw [e, hL q hq] at h2
    injection h2 with h2
    injection h2 with h2
    exact List.mem_map.mpr ⟨r, hr, (ints_inj h2).symm⟩
theorem sc_law : FnScope ["_law_script", "_law_bag_here", "_law_some", "_law_v", "_law_low", "_law_high", "_law_want", "_law_p", "_law_q", "_law_a", "_law_b", "_law_turn", "_law_given_here", "_law_found", "_law_kept", "_law_k", "_law_x", "_law_y"] ["_law_script"] (defScope s_law) := ⟨rfl, rfl, rfl, by decide +kernel, rfl, by decide +kernel, by decide +kernel⟩
section
variable {P : Program} {w : World} {K : PySem.W.Frag} {mg : Str → Option Value} {base : Heap} {aT aD CT : Addr}
theorem fok_law {f : Addr} {fd : FuncData} (F : FunD K "law" "law" (defArgs s_law) (defBody s_law) (defScope s_law) [] [] f fd) (T : Bc K mg aT aD) (c_bag : Cal P w K mg base 1 "_law_bag" (spBag K) []) (c_draw : Cal P w K mg base 1 "_law_draw" spDraw []) (c_of : Cal P w K mg base 2 "_law_of" (spOf K) []) (c_same : Cal P w K mg base 7 "_law_same" (spSame K 5) []) (c_word : Cal P w K mg base 3 "_law_word" spWord []) (c_odd : Cal P w K mg base 3 "_law_odd" (spOdd K) []) (c_is_name : Cal P w K mg base 1 "_law_is_name" (spB1 K nameV) []) (c_is_hole : Cal P w K mg base 1 "_law_is_hole" (spB1 K holeV) []) (c_within : Cal P w K mg base 1 "_law_within" (spB3 K) []) (c_maybe : Cal P w K mg base 4 "_law_maybe" (spMay K) []) (c_is_place : Cal P w K mg base 2 "_law_is_place" (spPlc K) []) (c_dots : Cal P w K mg base 1 "_law_dots" (spTxt K) []) (c_numbers : Cal P w K mg base 2 "_law_numbers" spNums []) (c_bent : Cal P w K mg base 3 "_law_bent" spBent []) (c_place_of : Cal P w K mg base 1 "_law_place_of" (spRd K) []) (c_given : Cal P w K mg base 3 "_law_given" (spGiv K) []) (cis_name : Cal P w K mg base 2 "is_name" (spB1 K nameV) []) (cis_hole : Cal P w K mg base 2 "is_hole" (spB1 K holeV) []) (cis_number : Cal P w K mg base 1 "is_number" (spB3 K) []) (cis_place : Cal P w K mg base 2 "is_place" (spPlc K) []) (cplace_text : Cal P w K mg base 1 "place_text" (spTxt K) []) (cread_place : Cal P w K mg base 2 "read_place" (spRd K) []) (cis_beneath : Cal P w K mg base 1 "is_beneath" (spBen K) []) (clot_text : Cal P w K mg base 2 "lot_text" (spLot K) []) (w_is_name : CalW P w K mg base 2 "is_name" (spB1 K nameV) ["value"]) (w_is_hole : CalW P w K mg base 2 "is_hole" (spB1 K holeV) ["value"]) (w_is_number : CalW P w K mg base 1 "is_number" (spB3 K) ["most", "least", "value"]) (w_is_place : CalW P w K mg base 2 "is_place" (spPlc K) ["value"]) (w_place_text : CalW P w K mg base 1 "place_text" (spTxt K) ["place"]) (w_read_place : CalW P w K mg base 2 "read_place" (spRd K) ["text"]) (w_is_beneath : CalW P w K mg base 1 "is_beneath" (spBen K) ["other", "place"]) (w_lot_text : CalW P w K mg base 2 "lot_text" (spLot K) ["lot"]) :
    FnOk P w K mg base C8.CX0 9 f fd ["_law_script"] (spLaw K) := by
  refine F.ok sc_law (fun vs H Q E h => ?_) (fun cdv A outer s H vs Q E hr h => ?_)
  · obtain ⟨a, ns, rfl, _⟩ := h
    rfl
  · obtain ⟨a, ns, rfl, hS, q⟩ := h
    have hr65 : (A.deeper (envOfC "law" (defScope s_law) s.heap.objs.size f cdv)).units + 65 < cLine := by
      have := hr.un
      omega
    refine ⟨_, PSs.nox (
(pss_cons (ps_set (i := 1) sc_law.nd rfl (.inr rfl) (pe_c (c_bag) hr (by omega) (by rfl) (pa_cons (pv 0) pa_nil)))
  (pss_cons (ps_if (pt_not (pt_val (pe_c (c_same) hr (by omega) (by rfl) (pa_cons (pe_lst (pa_cons (pe_gc (by rfl) T.k_BLANK) (pa_cons (pe_gc (by rfl) T.k_TOP) pa_nil))) (pa_cons (pe_lst (pa_cons pe_str (pa_cons (pe_tup pa_nil) pa_nil))) pa_nil)))))
  (pss_one (ps_ret pe_bl))
  pss_nil)
  (pss_cons (ps_set (i := 2) sc_law.nd rfl (.inl rfl) (pe_op op_cat (pe_op op_cat (pe_lc (own := [("_law_k", 15)]) (g := gName 15) (by rfl) sc_law.nd (pi_range1 (by rfl) T.m_range (pa_cons pe_int pa_nil)) (blkOk_by (own := [("_law_k", 15)]) (N := ["_law_script", "_law_bag_here", "_law_some", "_law_v", "_law_low", "_law_high", "_law_want", "_law_p", "_law_q", "_law_a", "_law_b", "_law_turn", "_law_given_here", "_law_found", "_law_kept", "_law_k", "_law_x", "_law_y"]) (sc := defScope s_law) (by decide +kernel)) (fun _ _ _ _ _ => (pg_name (i := 15) sc_law.nd rfl (Or.inl rfl))) (fun _ _ _ _ _ => pts_nil) (fun _ _ _ _ _ => (pe_c (c_word) hr (by omega) (by rfl) (pa_cons (pv 1) pa_nil)))) (pe_lc (own := [("_law_k", 15)]) (g := gName 15) (by rfl) sc_law.nd (pi_range1 (by rfl) T.m_range (pa_cons pe_int pa_nil)) (blkOk_by (own := [("_law_k", 15)]) (N := ["_law_script", "_law_bag_here", "_law_some", "_law_v", "_law_low", "_law_high", "_law_want", "_law_p", "_law_q", "_law_a", "_law_b", "_law_turn", "_law_given_here", "_law_found", "_law_kept", "_law_k", "_law_x", "_law_y"]) (sc := defScope s_law) (by decide +kernel)) (fun _ _ _ _ _ => (pg_name (i := 15) sc_law.nd rfl (Or.inl rfl))) (fun _ _ _ _ _ => pts_nil) (fun _ _ _ _ _ => (pe_c (c_odd) hr (by omega) (by rfl) (pa_cons (pv 1) pa_nil))))) (pe_lst (pa_cons pe_str (pa_cons pe_str (pa_cons pe_str (pa_cons pe_str (pa_cons pe_str (pa_cons pe_str (pa_cons pe_str pa_nil))))))))))
  (pss_cons (ps_for PassesOwn.never rfl (pi_list (pv 2)) (pg_name (i := 3) sc_law.nd rfl (.inl rfl))
  (pss_one (ps_if (pt_not (pt_val (pe_c (c_same) hr (by omega) (by rfl) (pa_cons (pe_lst (pa_cons (pe_c (cis_name) hr (by omega) (by rfl) (pa_cons (pv 3) pa_nil)) (pa_cons (pe_c (cis_hole) hr (by omega) (by rfl) (pa_cons (pv 3) pa_nil)) (pa_cons (pe_ckw w_is_name hr (by omega) (by rfl) (pk_cons (pv 3) pk_nil)) (pa_cons (pe_ckw w_is_hole hr (by omega) (by rfl) (pk_cons (pv 3) pk_nil)) pa_nil))))) (pa_cons (pe_op op_rep (pe_lst (pa_cons (pe_c (c_is_name) hr (by omega) (by rfl) (pa_cons (pv 3) pa_nil)) (pa_cons (pe_c (c_is_hole) hr (by omega) (by rfl) (pa_cons (pv 3) pa_nil)) pa_nil))) pe_int) pa_nil)))))
  (pss_one (ps_ret pe_bl))
  pss_nil)))
  (pss_cons (ps_set (i := 4) sc_law.nd rfl (.inl rfl) (pe_c (c_of) hr (by omega) (by rfl) (pa_cons (pv 1) (pa_cons (pe_lst (pa_cons pe_int (pa_cons pe_int (pa_cons (pe_un un_neg pe_int) (pa_cons pe_int (pa_cons (pe_op op_pow pe_int pe_int) (pa_cons (pe_c (c_draw) hr (by omega) (by rfl) (pa_cons (pv 1) (pa_cons (pe_op op_pow pe_int pe_int) pa_nil))) pa_nil))))))) pa_nil))))
  (pss_cons (ps_set (i := 5) sc_law.nd rfl (.inl rfl) (pe_op op_add (pv 4) (pe_c (c_of) hr (by omega) (by rfl) (pa_cons (pv 1) (pa_cons (pe_lst (pa_cons (pe_un un_neg pe_int) (pa_cons pe_int (pa_cons pe_int (pa_cons pe_int (pa_cons (pe_c (c_draw) hr (by omega) (by rfl) (pa_cons (pv 1) (pa_cons (pe_op op_pow pe_int pe_int) pa_nil))) pa_nil)))))) pa_nil)))))
  (pss_cons (ps_for PassesOwn.never rfl (pi_list (pe_lst (pa_cons (pe_op op_sub (pv 4) pe_int) (pa_cons (pv 4) (pa_cons (pv 5) (pa_cons (pe_op op_add (pv 5) pe_int) (pa_cons pe_bl (pa_cons pe_bl (pa_cons pe_non (pa_cons (pe_callTy call_str_int (by rfl) T.m_str (by decide +kernel) (pa_cons (pv 4) pa_nil)) (pa_cons (pe_tup (pa_cons (pv 4) pa_nil)) (pa_cons (pe_lst (pa_cons (pv 4) pa_nil)) (pa_cons (pe_c (c_odd) hr (by omega) (by rfl) (pa_cons (pv 1) pa_nil)) (pa_cons (pe_c (c_draw) hr (by omega) (by rfl) (pa_cons (pv 1) (pa_cons (pe_op op_pow pe_int pe_int) pa_nil))) (pa_cons pe_str (pa_cons (pe_un un_neg (pv 4)) pa_nil)))))))))))))))) (pg_name (i := 3) sc_law.nd rfl (.inl rfl))
  (pss_one (ps_if (pt_not (pt_val (pe_c (c_same) hr (by omega) (by rfl) (pa_cons (pe_lst (pa_cons (pe_c (cis_number) hr (by omega) (by rfl) (pa_cons (pv 3) (pa_cons (pv 4) (pa_cons (pv 5) pa_nil)))) (pa_cons (pe_ckw w_is_number hr (by omega) (by rfl) (pk_cons (pv 5) (pk_cons (pv 4) (pk_cons (pv 3) pk_nil)))) pa_nil))) (pa_cons (pe_op op_rep (pe_lst (pa_cons (pe_c (c_within) hr (by omega) (by rfl) (pa_cons (pv 3) (pa_cons (pv 4) (pa_cons (pv 5) pa_nil)))) pa_nil)) pe_int) pa_nil)))))
  (pss_one (ps_ret pe_bl))
  pss_nil)))
  (pss_cons (ps_for PassesOwn.never rfl (pi_list (pe_op op_cat (pe_lc (own := [("_law_k", 15)]) (g := gName 15) (by rfl) sc_law.nd (pi_range1 (by rfl) T.m_range (pa_cons pe_int pa_nil)) (blkOk_by (own := [("_law_k", 15)]) (N := ["_law_script", "_law_bag_here", "_law_some", "_law_v", "_law_low", "_law_high", "_law_want", "_law_p", "_law_q", "_law_a", "_law_b", "_law_turn", "_law_given_here", "_law_found", "_law_kept", "_law_k", "_law_x", "_law_y"]) (sc := defScope s_law) (by decide +kernel)) (fun _ _ _ _ _ => (pg_name (i := 15) sc_law.nd rfl (Or.inl rfl))) (fun _ _ _ _ _ => pts_nil) (fun _ _ _ _ _ => (pe_c (c_maybe) hr (by omega) (by rfl) (pa_cons (pv 1) pa_nil)))) (pe_lst (pa_cons (pe_tup (pa_cons pe_bl pa_nil)) (pa_cons (pe_tup (pa_cons pe_int (pa_cons pe_bl pa_nil))) (pa_cons (pe_tup (pa_cons pe_int (pa_cons pe_int pa_nil))) (pa_cons (pe_tup (pa_cons pe_int (pa_cons pe_int pa_nil))) pa_nil))))))) (pg_name (i := 3) sc_law.nd rfl (.inl rfl))
  (pss_cons (ps_set (i := 6) sc_law.nd rfl (.inl rfl) (pe_c (c_is_place) hr (by omega) (by rfl) (pa_cons (pv 3) pa_nil)))
  (pss_cons (ps_if (pt_not (pt_val (pe_c (c_same) hr (by omega) (by rfl) (pa_cons (pe_lst (pa_cons (pe_c (cis_place) hr (by omega) (by rfl) (pa_cons (pv 3) pa_nil)) (pa_cons (pe_ckw w_is_place hr (by omega) (by rfl) (pk_cons (pv 3) pk_nil)) pa_nil))) (pa_cons (pe_lst (pa_cons (pv 6) (pa_cons (pv 6) pa_nil))) pa_nil)))))
  (pss_one (ps_ret pe_bl))
  pss_nil)
  (pss_one (ps_if (PW.pt (pw_and (pt_val (pv 6)) (pw_and1 (pt_not (pt_val (pe_c (c_same) hr (by omega) (by rfl) (pa_cons (pe_lst (pa_cons (pe_c (cplace_text) hr (by omega) (by rfl) (pa_cons (pv 3) pa_nil)) (pa_cons (pe_ckw w_place_text hr (by omega) (by rfl) (pk_cons (pv 3) pk_nil)) (pa_cons (pe_c (cread_place) hr (by omega) (by rfl) (pa_cons (pe_c (c_dots) hr (by omega) (by rfl) (pa_cons (pv 3) pa_nil)) pa_nil)) pa_nil)))) (pa_cons (pe_lst (pa_cons (pe_c (c_dots) hr (by omega) (by rfl) (pa_cons (pv 3) pa_nil)) (pa_cons (pe_c (c_dots) hr (by omega) (by rfl) (pa_cons (pv 3) pa_nil)) (pa_cons (pv 3) pa_nil)))) pa_nil))))))))
  (pss_one (ps_ret pe_bl))
  pss_nil)))))
  (pss_cons (ps_par (i := 7) (j := 8) (by rfl) sc_law.nd rfl rfl (by decide) rfl rfl (pa_cons (pe_c (c_numbers) hr (by omega) (by rfl) (pa_cons (pv 1) (pa_cons pe_int pa_nil))) (pa_cons (pe_c (c_numbers) hr (by omega) (by rfl) (pa_cons (pv 1) (pa_cons pe_int pa_nil))) pa_nil)) (by rfl))
  (pss_cons (ps_for PassesOwn.never rfl (pi_list (pe_lst (pa_cons (pe_tup (pa_cons (pv 7) (pa_cons (pv 8) pa_nil))) (pa_cons (pe_tup (pa_cons (pv 8) (pa_cons (pv 7) pa_nil))) (pa_cons (pe_tup (pa_cons (pv 7) (pa_cons (pv 7) pa_nil))) (pa_cons (pe_tup (pa_cons (pe_op op_catA (pv 7) (pv 8)) (pa_cons (pv 7) pa_nil))) (pa_cons (pe_tup (pa_cons (pv 7) (pa_cons (pe_op op_catA (pv 7) (pv 8)) pa_nil))) (pa_cons (pe_tup (pa_cons (pe_op op_catA (pv 7) (pe_tup (pa_cons pe_int pa_nil))) (pa_cons (pv 7) pa_nil))) (pa_cons (pe_tup (pa_cons (pe_op op_catA (pv 7) (pv 8)) (pa_cons (pv 8) pa_nil))) (pa_cons (pe_tup (pa_cons (pe_tup pa_nil) (pa_cons (pv 7) pa_nil))) (pa_cons (pe_tup (pa_cons (pv 7) (pa_cons (pe_tup pa_nil) pa_nil))) pa_nil))))))))))) (pg_tup (by rfl) (pgs_cons (pg_name (i := 9) sc_law.nd rfl (.inl rfl)) (pgs_cons (pg_name (i := 10) sc_law.nd rfl (.inl rfl)) pgs_nil)))
  (pss_cons (ps_set (i := 6) sc_law.nd rfl (.inl rfl) (pe_and (pe_cmpR op_gt (pe_callB call_len_seq (by rfl) T.m_len (by decide +kernel) (pa_cons (pv 9) pa_nil)) (pe_callB call_len_seq (by rfl) T.m_len (by decide +kernel) (pa_cons (pv 10) pa_nil)) (nomark _)) (pe_one (pe_cmpR (op_eqD hr.units) (pe_lc (own := [("_law_x", 16), ("_law_y", 17)]) (g := gTup K 2 (gCons (gName 16) (gCons (gName 17) gNil))) (by rfl) sc_law.nd (pi_zipA (by rfl) T.m_zip (pa_cons (pv 9) (pa_cons (pv 10) pa_nil))) (blkOk_by (own := [("_law_x", 16), ("_law_y", 17)]) (N := ["_law_script", "_law_bag_here", "_law_some", "_law_v", "_law_low", "_law_high", "_law_want", "_law_p", "_law_q", "_law_a", "_law_b", "_law_turn", "_law_given_here", "_law_found", "_law_kept", "_law_k", "_law_x", "_law_y"]) (sc := defScope s_law) (by decide +kernel)) (fun _ _ _ _ _ => (pg_tup (by rfl) (pgs_cons (pg_name (i := 16) sc_law.nd rfl (.inl rfl)) (pgs_cons (pg_name (i := 17) sc_law.nd rfl (.inl rfl)) pgs_nil)))) (fun _ _ _ _ _ => (pts_one (pt_cmpR op_ne (pv 16) (pv 17) (nomark _)))) (fun _ _ _ _ _ => pe_int)) (pe_lst pa_nil) (nomark _)))))
  (pss_one (ps_if (pt_not (pt_val (pe_c (c_same) hr (by omega) (by rfl) (pa_cons (pe_lst (pa_cons (pe_c (cis_beneath) hr (by omega) (by rfl) (pa_cons (pv 9) (pa_cons (pv 10) pa_nil))) (pa_cons (pe_ckw w_is_beneath hr (by omega) (by rfl) (pk_cons (pv 10) (pk_cons (pv 9) pk_nil))) pa_nil))) (pa_cons (pe_lst (pa_cons (pv 6) (pa_cons (pv 6) pa_nil))) pa_nil)))))
  (pss_one (ps_ret pe_bl))
  pss_nil))))
  (pss_cons (ps_for PassesOwn.never rfl (pi_list (pe_op op_cat (pe_lc (own := [("_law_k", 15)]) (g := gName 15) (by rfl) sc_law.nd (pi_range1 (by rfl) T.m_range (pa_cons pe_int pa_nil)) (blkOk_by (own := [("_law_k", 15)]) (N := ["_law_script", "_law_bag_here", "_law_some", "_law_v", "_law_low", "_law_high", "_law_want", "_law_p", "_law_q", "_law_a", "_law_b", "_law_turn", "_law_given_here", "_law_found", "_law_kept", "_law_k", "_law_x", "_law_y"]) (sc := defScope s_law) (by decide +kernel)) (fun _ _ _ _ _ => (pg_name (i := 15) sc_law.nd rfl (Or.inl rfl))) (fun _ _ _ _ _ => pts_nil) (fun _ _ _ _ _ => (pe_c (c_bent) hr (by omega) (by rfl) (pa_cons (pv 1) (pa_cons (pe_c (c_dots) hr (by omega) (by rfl) (pa_cons (pe_c (c_numbers) hr (by omega) (by rfl) (pa_cons (pv 1) (pa_cons pe_int pa_nil))) pa_nil)) pa_nil))))) (pe_lst (pa_cons pe_str (pa_cons pe_str (pa_cons pe_str (pa_cons pe_str (pa_cons pe_str (pa_cons pe_str (pa_cons pe_str (pa_cons pe_str (pa_cons (pe_c (c_odd) hr (by omega) (by rfl) (pa_cons (pv 1) pa_nil)) pa_nil)))))))))))) (pg_name (i := 3) sc_law.nd rfl (.inl rfl))
  (pss_one (ps_if (pt_not (pt_val (pe_c (c_same) hr (by omega) (by rfl) (pa_cons (pe_lst (pa_cons (pe_c (cread_place) hr (by omega) (by rfl) (pa_cons (pv 3) pa_nil)) (pa_cons (pe_ckw w_read_place hr (by omega) (by rfl) (pk_cons (pv 3) pk_nil)) pa_nil))) (pa_cons (pe_op op_rep (pe_lst (pa_cons (pe_c (c_place_of) hr (by omega) (by rfl) (pa_cons (pv 3) pa_nil)) pa_nil)) pe_int) pa_nil)))))
  (pss_one (ps_ret pe_bl))
  pss_nil)))
  (pss_cons (ps_setLc (i := 2) (own := [("_law_k", 15)]) (g := gName 15) (by rfl) sc_law.nd rfl rfl (sw_true rfl rfl rfl (by decide +kernel)) (pi_range1 (by rfl) T.m_range (pa_cons (pe_c (c_draw) hr (by omega) (by rfl) (pa_cons (pv 1) (pa_cons pe_int pa_nil))) pa_nil)) (blkOk_by (own := [("_law_k", 15)]) (N := ["_law_script", "_law_bag_here", "_law_some", "_law_v", "_law_low", "_law_high", "_law_want", "_law_p", "_law_q", "_law_a", "_law_b", "_law_turn", "_law_given_here", "_law_found", "_law_kept", "_law_k", "_law_x", "_law_y"]) (sc := defScope s_law) (by decide +kernel)) (fun _ _ _ _ _ => (pg_name (i := 15) sc_law.nd rfl (Or.inl rfl))) (fun _ _ _ _ _ => pts_nil) (fun _ _ _ _ _ => (pe_c (c_numbers) hr (by omega) (by rfl) (pa_cons (pv 1) (pa_cons pe_int pa_nil)))))
  (pss_cons (ps_for PassesOwn.never rfl (pi_range1 (by rfl) T.m_range (pa_cons pe_int pa_nil)) (pg_name (i := 11) sc_law.nd rfl (.inl rfl))
  (pss_cons (ps_par (i := 12) (j := 13) (by rfl) sc_law.nd rfl rfl (by decide) rfl rfl (pa_cons (pe_c (c_given) hr (by omega) (by rfl) (pa_cons (pv 1) (pa_cons (pv 2) pa_nil))) (pa_cons (pe_lst pa_nil) pa_nil)) (by rfl))
  (pss_cons (ps_set (i := 14) sc_law.nd rfl (.inl rfl) (pe_callTy call_list_of (by rfl) T.m_list (by decide +kernel) (pa_cons (pv 12) pa_nil)))
  (pss_cons (ps_for PassesOwn.never rfl (pi_list (pe_callB (cr_sortedM (D := 40) rfl hr.units) (by rfl) T.m_sorted (by decide +kernel) (pa_cons (pv 2) pa_nil))) (pg_name (i := 3) sc_law.nd rfl (.inl rfl))
  (pss_one (ps_if (pt_cmpR (op_notInD hr65) (pv 3) (pv 13) (by rfl))
  (pss_one (ps_expr (pe_bm PySem.F.plainAttrs_list PySem.F.slot_list_append PySem.F.type_list_append mt_append (pv 13) (pa_cons (pv 3) pa_nil))))
  pss_nil)))
  (pss_cons (ps_set (i := 6) sc_law.nd rfl (.inl rfl) (pe_ifExp (pt_cmpR op_gt (pe_callB call_len_seq (by rfl) T.m_len (by decide +kernel) (pa_cons (pv 13) pa_nil)) pe_int (nomark _)) (pe_join pe_str (pe_lc (own := [("_law_v", 3)]) (g := gName 3) (by rfl) sc_law.nd (pi_list (pv 13)) (blkOk_by (own := [("_law_v", 3)]) (N := ["_law_script", "_law_bag_here", "_law_some", "_law_v", "_law_low", "_law_high", "_law_want", "_law_p", "_law_q", "_law_a", "_law_b", "_law_turn", "_law_given_here", "_law_found", "_law_kept", "_law_k", "_law_x", "_law_y"]) (sc := defScope s_law) (by decide +kernel)) (fun _ _ _ _ _ => (pg_name (i := 3) sc_law.nd rfl (Or.inl rfl))) (fun _ _ _ _ _ => pts_nil) (fun _ _ _ _ _ => (pe_c (c_dots) hr (by omega) (by rfl) (pa_cons (pv 3) pa_nil))))) pe_str))
  (pss_cons (ps_if (PW.pt (pw_or (pt_not (pt_val (pe_c (c_same) hr (by omega) (by rfl) (pa_cons (pe_lst (pa_cons (pe_c (clot_text) hr (by omega) (by rfl) (pa_cons (pv 12) pa_nil)) (pa_cons (pe_ckw w_lot_text hr (by omega) (by rfl) (pk_cons (pv 12) pk_nil)) pa_nil))) (pa_cons (pe_lst (pa_cons (pv 6) (pa_cons (pv 6) pa_nil))) pa_nil))))) (pw_or1 (pt_not (pt_val (pe_c (c_same) hr (by omega) (by rfl) (pa_cons (pe_callTy call_list_of (by rfl) T.m_list (by decide +kernel) (pa_cons (pv 12) pa_nil)) (pa_cons (pv 14) pa_nil))))))))
  (pss_one (ps_ret pe_bl))
  pss_nil)
  (pss_one (ps_set (i := 2) sc_law.nd rfl (.inl rfl) (pe_op op_cat (pv 2) (pe_lst (pa_cons (pv 7) (pa_cons (pv 8) (pa_cons (pe_op op_catA (pv 7) (pv 8)) pa_nil)))))))))))))
  (pss_one (ps_ret pe_bl)))))))))))))))
), ?_⟩
    refine q_asgM (P := fun v H' => ∃ B, v = .ref B ∧ Bag H' B) (vm_call (ea_cons (ev_var rfl) ea_nil) fun H' e Q E k => ⟨a, ns, rfl, ex_l e hS, fun B H2 e2 hb => k _ H2 e2 ⟨B, rfl, hb⟩⟩) fun v H1 e1 hb => ?_
    obtain ⟨B, rfl, hb⟩ := hb
    refine q_same (ds := [.v (.str "_"), .t []]) (ld_lst (ad_cons (td_s ev_c (by decide)) (ad_cons (td_t (ns := []) ev_c (T.t_TOP _) (by decide)) ad_nil)) (by decide)) (ld_lst (ad_cons (td_s ev_c (by decide)) (ad_cons (td_u (ns := []) (eu_tup ea_nil (by decide)) (by decide)) ad_nil)) (by decide)) (by decide) fun H2 e2 => ?_
    have hb2 := hb.mono e2
    have odd : ∀ {σ : L2.St} {H3 : Hp} {E : XK} {n : Nat}, 2 ≤ n → Bag H3 B → σ[1]? = some (some (.ref B)) → EN (tCall (spOdd K) [] E (tCons (tVar 1) tNil)) σ H3 (PG K n) := fun hn hb3 h0 => (en_sp (P2 := PG K 2) (ea_cons (ev_var h0) ea_nil) fs_g fun H4 e4 H5 e5 Q q E => ⟨B, rfl, hb3.mono (e4.trans e5), q⟩).to fun _ v _ _ _ g => g.up hn
    -- names and holes
    refine q_asgY (R := Many (fun v H' => GV K H2 H' 2 v) (8 + 4 + 7)) (lx_cat mo_g (lx_cat mo_g (lx_PL (P' := PG K 2) (en_rng (n := 8) fs_g (by decide) (ea_cons ev_c ea_nil) (fun _ => rfl) fun k H3 e3 _ => ?_) fun v H3 H4 e3 _ g => fs_g.back e3 g) (lx_PL (P' := PG K 2) (en_rng (n := 4) fs_g (by decide) (ea_cons ev_c ea_nil) (fun _ => rfl) fun k H3 e3 _ => odd (Nat.le_refl _) (hb2.mono e3) rfl) fun v H3 H4 e3 _ g => fs_g.back e3 g) (by decide)) (lx_many ?_ mo_g (by decide)) (by decide)) fun l xs H3 e3 hl hx => ?_
    · exact en_sp (P2 := PG K 2) (ea_cons (ev_var rfl) ea_nil) fs_g fun H4 e4 H5 e5 Q q E => ⟨B, rfl, hb2.mono ((e3.trans e4).trans e5), fun z H6 e6 hz => q _ H6 e6 (.str 2 z (by omega))⟩
    · repeat (first
        | exact am_nil
        | apply am_cons mo_g (vm_ev ev_c fun _ _ => .str _ _ (by decide)))
    refine q_forM (m := 8 + 4 + 7) (P := fun v H' => GV K H2 H' 2 v) (ly_var (ev_var rfl) hl (mo_many mo_g) hx) mo_g (fun σ' => ∃ y, σ' = [some (.ref a), some (.ref B), some (.ref l), y, none, none, none, none, none, none, none, none, none, none, none, none, none, none]) ⟨_, rfl⟩ (fun H4 e4 x σ' H5 e5 gx h => ?_) (fun σ' H4 e4 h => ?_)
    · obtain ⟨y, rfl⟩ := h
      have av := GV.av gx
      refine s_same (ds := [.v (.bl (nameV x)), .v (.bl (holeV x)), .v (.bl (nameV x)), .v (.bl (holeV x))]) (ld_lst (ad_cons (td_b (ev_call (ea_cons (ev_var rfl) ea_nil) fun H6 e6 Q q E => ⟨x, rfl, av.mono e6, q⟩)) (ad_cons (td_b (ev_call (ea_cons (ev_var rfl) ea_nil) fun H6 e6 Q q E => ⟨x, rfl, av.mono e6, q⟩)) (ad_cons (td_b (ev_callW (ea_cons (ev_var rfl) ea_nil) rfl fun H6 e6 Q q E => ⟨x, rfl, av.mono e6, q⟩)) (ad_cons (td_b (ev_callW (ea_cons (ev_var rfl) ea_nil) rfl fun H6 e6 Q q E => ⟨x, rfl, av.mono e6, q⟩)) ad_nil)))) (Nat.le_of_ble_eq_true rfl))
        (ld_rep (ds := [.v (.bl (nameV x)), .v (.bl (holeV x))]) (ld_lst (ad_cons (td_b (ev_call (ea_cons (ev_var rfl) ea_nil) fun H6 e6 Q q E => ⟨x, rfl, av.mono e6, q⟩)) (ad_cons (td_b (ev_call (ea_cons (ev_var rfl) ea_nil) fun H6 e6 Q q E => ⟨x, rfl, av.mono e6, q⟩)) ad_nil)) (Nat.le_of_ble_eq_true rfl)) ev_c (Nat.le_of_ble_eq_true rfl)) (Nat.le_of_ble_eq_true rfl) fun H6 e6 => ⟨e5.trans e6, _, rfl⟩
    obtain ⟨y3, rfl⟩ := h
    have hb4 := hb2.mono (e3.trans e4)
    -- numbers
    refine q_asgM (P := fun v _ => ∃ i, v = .int i ∧ lowOk i) (vm_en (P' := PLow) (en_ofQ (k := 6) fs_low hb4 (ev_var rfl) ?_ (by decide) (by decide)) fun v _ _ _ _ h => h) fun v H5 e5 hlow => ?_
    · refine aq_cons fs_low (en_is ev_c fun _ _ _ _ => ⟨0, rfl, .inl ⟨0, rfl, by decide⟩⟩) (aq_cons fs_low (en_is ev_c fun _ _ _ _ => ⟨1, rfl, .inl ⟨1, rfl, by decide⟩⟩) (aq_cons fs_low (en_is (ev_un ev_c ru_neg) fun _ _ _ _ => ⟨-5, rfl, .inr rfl⟩) (aq_cons fs_low (en_is ev_c fun _ _ _ _ => ⟨400, rfl, .inl ⟨400, rfl, by decide⟩⟩) (aq_cons fs_low (en_is (ev_op ev_c ev_c (rv_I ⟨by decide, by decide, by decide⟩)) fun _ _ _ _ => ⟨_, rfl, .inl ⟨10 ^ 30, by decide, by decide⟩⟩) (aq_cons fs_low ((en_draw hb4 (ev_var rfl) ten9 (by decide) (by decide)).to fun _ v _ _ _ ⟨r, e, r0, r1⟩ => ⟨r, e, .inl ⟨r.toNat, by omega, ?_⟩⟩) aq_nil)))))
      exact Nat.lt_of_lt_of_le (show r.toNat < 1000000000 by omega) (by decide)
    obtain ⟨low, rfl, hlow⟩ := hlow
    have hb5 := hb4.mono e5
    refine q_asgM (P := fun v _ => ∃ i : Int, v = .int i) (vm_en (en_opI (C := fun _ => True) (ev_var rfl) (en_ofQ (P := PInt) (k := 5) fs_int hb5 (ev_var rfl) ?_ (by decide) (by decide))) fun v _ _ _ _ ⟨r, e, _⟩ => ⟨low + r, e⟩) fun v H6 e6 hhigh => ?_
    · exact aq_cons fs_int (en_is (ev_un ev_c ru_neg) fun _ _ _ _ => ⟨_, rfl, trivial⟩) (aq_cons fs_int (en_is ev_c fun _ _ _ _ => ⟨_, rfl, trivial⟩) (aq_cons fs_int (en_is ev_c fun _ _ _ _ => ⟨_, rfl, trivial⟩) (aq_cons fs_int (en_is ev_c fun _ _ _ _ => ⟨_, rfl, trivial⟩) (aq_cons fs_int ((en_draw hb5 (ev_var rfl) ten9 (by decide) (by decide)).to fun _ v _ _ _ ⟨r, e, _, _⟩ => ⟨r, e, trivial⟩) aq_nil))))
    obtain ⟨high, rfl⟩ := hhigh
    have hb6 := hb5.mono e6
    refine q_forM (m := 14) (P := fun v H' => GV K H6 H' 3 v) (lx_many ?_ mo_g (by decide)) mo_g (fun σ' => ∃ y, σ' = [some (.ref a), some (.ref B), some (.ref l), y, some (.int low), some (.int high), none, none, none, none, none, none, none, none, none, none, none, none]) ⟨_, rfl⟩ (fun H7 e7 x σ' H8 e8 gx h => ?_) (fun σ' H7 e7 h => ?_)
    · refine am_cons mo_g (vm_ev (ev_op (ev_var rfl) ev_c rv_I0) fun _ _ => .int 3 _) (am_cons mo_g (vm_ev (ev_var rfl) fun _ _ => .int 3 _) (am_cons mo_g (vm_ev (ev_var rfl) fun _ _ => .int 3 _) (am_cons mo_g (vm_ev (ev_op (ev_var rfl) ev_c rv_I0) fun _ _ => .int 3 _) (am_cons mo_g (vm_ev ev_c fun _ _ => .bl 3 _) (am_cons mo_g (vm_ev ev_c fun _ _ => .bl 3 _) (am_cons mo_g (vm_ev ev_c fun _ _ => .non 3) (am_cons mo_g (vm_ev (ev_strI (ev_var rfl) (low_log hlow)) fun _ _ => .str 3 _ (low_len hlow)) (am_cons mo_g (vm_g (Ex.refl _) (en_gt (n := 2) (ag_cons (en_is (ev_var rfl) fun _ _ _ _ => .int _ _) ag_nil) (by decide))) (am_cons mo_g (vm_g (Ex.refl _) (en_gl (n := 2) (ag_cons (en_is (ev_var rfl) fun _ _ _ _ => .int _ _) ag_nil) (by decide))) (am_cons mo_g (vm_g (Ex.refl _) (odd (by decide) hb6 rfl)) (am_cons mo_g (vm_en (en_draw hb6 (ev_var rfl) ten9 (by decide) (by decide)) fun v _ _ _ _ ⟨r, e, _, _⟩ => e ▸ .int 3 r) (am_cons mo_g (vm_ev ev_c fun _ _ => .str 3 _ (by decide)) (am_cons mo_g (vm_ev (ev_un (ev_var rfl) ru_neg) fun _ _ => .int 3 _) am_nil)))))))))))))
    · obtain ⟨y, rfl⟩ := h
      have av := GV.av gx
      refine s_same (ds := [.v (.bl (numV low high x)), .v (.bl (numV low high x))]) (ld_lst (ad_cons (td_b (ev_call (ea_cons (ev_var rfl) (ea_cons (ev_var rfl) (ea_cons (ev_var rfl) ea_nil))) fun H9 e9 Q q E => ⟨x, low, high, rfl, av.mono e9, q⟩)) (ad_cons (td_b (ev_callW (ea_cons (ev_var rfl) (ea_cons (ev_var rfl) (ea_cons (ev_var rfl) ea_nil))) rfl fun H9 e9 Q q E => ⟨x, low, high, rfl, av.mono e9, q⟩)) ad_nil)) (Nat.le_of_ble_eq_true rfl))
        (ld_rep (ds := [.v (.bl (numV low high x))]) (ld_lst (ad_cons (td_b (ev_call (ea_cons (ev_var rfl) (ea_cons (ev_var rfl) (ea_cons (ev_var rfl) ea_nil))) fun H9 e9 Q q E => ⟨x, low, high, rfl, av.mono e9, q⟩)) ad_nil) (Nat.le_of_ble_eq_true rfl)) ev_c (Nat.le_of_ble_eq_true rfl)) (Nat.le_of_ble_eq_true rfl) fun H9 e9 => ⟨e8.trans e9, _, rfl⟩
    obtain ⟨y3, rfl⟩ := h
    have hb7 := hb6.mono e7
    -- places
    refine q_forM (m := 10 + 4) (P := fun v H' => GV K H7 H' 3 v) (lx_cat mo_g (lx_PL (P' := PG K 3) (en_rng (n := 10) fs_g (by decide) (ea_cons ev_c ea_nil) (fun _ => rfl) fun k H8 e8 _ => ?_) fun v H8 H9 e8 _ g => fs_g.back e8 g) (lx_many ?_ mo_g (by decide)) (by decide)) mo_g (fun σ' => ∃ y z, σ' = [some (.ref a), some (.ref B), some (.ref l), y, some (.int low), some (.int high), z, none, none, none, none, none, none, none, none, none, none, none]) ⟨_, _, rfl⟩ (fun H8 e8 x σ' H9 e9 gx h => ?_) (fun σ' H8 e8 h => ?_)
    · exact en_sp (P2 := PG K 3) (ea_cons (ev_var rfl) ea_nil) fs_g fun H9 e9 H10 e10 Q q E => ⟨B, rfl, hb7.mono ((e8.trans e9).trans e10), q⟩
    · refine am_cons mo_g (vm_g (Ex.refl _) (en_gt (n := 2) (k := 1) ?_ (by decide))) (am_cons mo_g (vm_g (Ex.refl _) (en_gt (n := 2) (k := 2) ?_ (by decide))) (am_cons mo_g (vm_g (Ex.refl _) (en_gt (n := 2) (k := 2) ?_ (by decide))) (am_cons mo_g (vm_g (Ex.refl _) (en_gt (n := 2) (k := 2) ?_ (by decide))) am_nil)))
      all_goals
        repeat (first
          | exact ag_nil
          | apply ag_cons
          | exact en_is ev_c fun _ _ _ _ => .int _ _
          | exact en_is ev_c fun _ _ _ _ => .bl _ _)
    · obtain ⟨y, z, rfl⟩ := h
      obtain ⟨b, hp, hpt⟩ := gv_plc gx
      refine q_asg (ev_call (ea_cons (ev_var rfl) ea_nil) fun H10 e10 Q q E => hp H10 e10 Q E q) fun H10 e10 => ?_
      refine q_same (ds := [.v (.bl b), .v (.bl b)]) (ld_lst (ad_cons (td_b (ev_call (ea_cons (ev_var rfl) ea_nil) fun H11 e11 Q q E => hp H11 (e10.trans e11) Q E q)) (ad_cons (td_b (ev_callW (ea_cons (ev_var rfl) ea_nil) rfl fun H11 e11 Q q E => hp H11 (e10.trans e11) Q E q)) ad_nil)) (Nat.le_of_ble_eq_true rfl)) (ld_lst (ad_cons (td_b (ev_var rfl)) (ad_cons (td_b (ev_var rfl)) ad_nil)) (Nat.le_of_ble_eq_true rfl)) (Nat.le_of_ble_eq_true rfl) fun H11 e11 => ?_
      refine s_if (b := b && !true) (et_and (et_B (ev_var rfl)) fun hb => et_not (et_B ?_)) (fun h => ?_) (fun _ H12 e12 => ⟨((e9.trans e10).trans e11).trans e12, _, _, rfl⟩)
      · obtain ⟨p, ns, rfl, ht, h4, hz⟩ := hpt hb
        have ht11 := ex_t (e10.trans e11) ht
        have hdl := dots_len ns
        have dot : ∀ {σ : L2.St} {E : XK}, σ[3]? = some (some (.ref p)) → Ev (tCall (spTxt K) [] E (tCons (tVar 3) tNil)) σ H11 (.str (dotsS ns)) := fun h0 => ev_call (ea_cons (ev_var h0) ea_nil) fun H12 e12 Q q E => ⟨p, ns, rfl, ex_t e12 ht11, h4, by omega, q⟩
        refine ev_same (ds := [.v (.str (dotsS ns)), .v (.str (dotsS ns)), .t ns]) (ld_lst (ad_cons (td_s (dot rfl) (by omega)) (ad_cons (td_s (ev_callW (ea_cons (ev_var rfl) ea_nil) rfl fun H12 e12 Q q E => ⟨p, ns, rfl, ex_t e12 ht11, h4, by omega, q⟩) (by omega)) (ad_cons (vm_call (ea_cons (dot rfl) ea_nil) fun H12 e12 Q E k => rd_sp (.str (dotsS ns) (by omega)) fun u H13 e13 hu => k u H13 e13 ?_) ad_nil))) (Nat.le_of_ble_eq_true rfl)) (ld_lst (ad_cons (td_s (dot rfl) (by omega)) (ad_cons (td_s (dot rfl) (by omega)) (ad_cons (td_t (ev_var rfl) ht11 (by omega)) ad_nil))) (Nat.le_of_ble_eq_true rfl)) (Nat.le_of_ble_eq_true rfl)
        rw [rdD_some (show rdV (.str (dotsS ns)) = some ns from read_dots h4)] at hu
        exact hu
      · cases b <;> cases h
    obtain ⟨y3, y6, rfl⟩ := h
    have hb8 := hb7.mono e8
    -- beneath
    refine q_parNN (P := PN 4) (P' := PN 3) (en_sp (ea_cons (ev_var rfl) (ea_cons ev_c ea_nil)) fs_n fun H9 e9 H10 e10 Q q E => ⟨B, 4, rfl, hb8.mono (e9.trans e10), by decide, q⟩) (en_sp (ea_cons (ev_var rfl) (ea_cons ev_c ea_nil)) fs_n fun H9 e9 H10 e10 Q q E => ⟨B, 3, rfl, hb8.mono (e9.trans e10), by decide, q⟩) fs_n fs_n fun v u H9 e9 hp hr => ?_
    obtain ⟨p, ps, rfl, p0, hp, p4, pz⟩ := hp
    obtain ⟨r, qs, rfl, r0, hr, r4, rz⟩ := hr
    have hb9 := hb8.mono e9
    have eP : ∀ {σ : L2.St}, σ[7]? = some (some (.ref p)) → EvN H8 (tVar 7) σ H9 (ps.map V.int) := fun h0 => ev0_of (ev_var h0) p0 hp
    have eQ : ∀ {σ : L2.St}, σ[8]? = some (some (.ref r)) → EvN H8 (tVar 8) σ H9 (qs.map V.int) := fun h0 => ev0_of (ev_var h0) r0 hr
    have ePQ : ∀ {σ : L2.St}, σ[7]? = some (some (.ref p)) → σ[8]? = some (some (.ref r)) → EvN H8 (tOp (rCatA K) (tVar 7) (tVar 8)) σ H9 ((ps ++ qs).map V.int) := fun h0 h1 => by
      rw [List.map_append]
      exact ev0_cat e9 (eP h0) (eQ h1) (by rw [List.length_map, List.length_map]; omega)
    have eP1 : ∀ {σ : L2.St}, σ[7]? = some (some (.ref p)) → EvN H8 (tOp (rCatA K) (tVar 7) (tTup (tCons (tC (.int 1)) tNil))) σ H9 ((ps ++ [1]).map V.int) := fun h0 => by
      rw [List.map_append]
      exact ev0_cat e9 (eP h0) (ev0_u e9 (eu_tup (ea_cons ev_c ea_nil) (by decide))) (by rw [List.length_map, List.length_map]; exact Nat.le_trans (Nat.add_le_add pz (Nat.le_refl 1)) (by decide))
    have e00 : ∀ {σ : L2.St}, EvN H8 (tTup tNil) σ H9 (([] : List Int).map V.int) := fun {σ} => ev0_u e9 (eu_tup ea_nil (by decide))
    have zPQ : (ps ++ qs).length ≤ 1000 := by rw [List.length_append]; omega
    have zP1 : (ps ++ [(1 : Int)]).length ≤ 1000 := by rw [List.length_append, List.length_singleton]; omega
    have zP : ps.length ≤ 1000 := by omega
    have zQ : qs.length ≤ 1000 := by omega
    have z00 : ([] : List Int).length ≤ 1000 := by decide
    refine q_forM (m := 9) (P := PP K) (lx_many (k := 9) (am_cons mo_pp (vm_pair (eP rfl) (eQ rfl) zP zQ) (am_cons mo_pp (vm_pair (eQ rfl) (eP rfl) zQ zP) (am_cons mo_pp (vm_pair (eP rfl) (eP rfl) zP zP) (am_cons mo_pp (vm_pair (ePQ rfl rfl) (eP rfl) zPQ zP) (am_cons mo_pp (vm_pair (eP rfl) (ePQ rfl rfl) zP zPQ) (am_cons mo_pp (vm_pair (eP1 rfl) (eP rfl) zP1 zP) (am_cons mo_pp (vm_pair (ePQ rfl rfl) (eQ rfl) zPQ zQ) (am_cons mo_pp (vm_pair e00 (eP rfl) z00 zP) (am_cons mo_pp (vm_pair (eP rfl) e00 zP z00) am_nil))))))))) mo_pp (by decide)) mo_pp
      (fun σ' => ∃ y z c d, σ' = [some (.ref a), some (.ref B), some (.ref l), y, some (.int low), some (.int high), z, some (.ref p), some (.ref r), c, d, none, none, none, none, none, none, none]) ⟨_, _, _, _, rfl⟩ (fun H10 e10 x σ' H11 e11 gx h => ?_) (fun σ' H10 e10 h => ?_)
    · obtain ⟨y, z, c, d, rfl⟩ := h
      obtain ⟨t, c, d, ns, ms, rfl, ht, hc, hd, zn, zm⟩ := gx
      refine ⟨t, [.ref c, .ref d], rfl, ht, rfl, .ref c, [.ref d], rfl, .ref d, [], rfl, rfl, ?_⟩
      refine q_asg (ev_is (w := .bl (benB ns ms)) (ev_andV (a := decide (ms.length < ns.length)) (b := decide (ns.take ms.length = ms)) (ev_is (ev_op (ev_lenT (ev_var rfl) (.inr hc)) (ev_lenT (ev_var rfl) (.inr hd)) rv_I0) ?_) fun hlt => ?_) rfl) fun H12 e12 => ?_
      · rw [List.length_map, List.length_map, decide_eq_decide.mpr (show (ns.length : Int) > (ms.length : Int) ↔ ms.length < ns.length by omega)]
      · refine ev_is (ev_opLL (xs := (apart ns ms).map V.int) (ys := ([] : List Int).map V.int) ?_ (el_lst ea_nil (show 0 ≤ 100000 by decide)) fun p r H3 hp hr _ => rv_eqL (sq_of hp) (sq_of hr)) (by rw [apart_nil (of_decide_eq_true hlt)])
        rw [← apart_given]
        refine el_zipF (fun k => !decide (ns.getD k 0 = ms.getD k 0)) _ (ea_cons (ev_var rfl) (ea_cons (ev_var rfl) ea_nil)) hc hd (by rw [List.length_map, List.length_map]) (by omega) (fun _ _ => rfl) (fun k x y H12 e12 hx hy => ?_) fun k x y H12 e12 hx hy hf => ev_c
        rw [List.getElem?_map] at hx hy
        obtain ⟨n, hn, rfl⟩ := Option.map_eq_some_iff.mp hx
        obtain ⟨m, hm, rfl⟩ := Option.map_eq_some_iff.mp hy
        refine et_test (ev_is (ev_op (ev_var rfl) (ev_var rfl) (rv_ne rfl)) ?_)
        rw [dec_int, List.getD_eq_getElem?_getD, List.getD_eq_getElem?_getD, hn, hm]
        rfl
      · have hc2 := ex_t e12 hc
        have hd2 := ex_t e12 hd
        refine s_same (ds := [.v (.bl (benB ns ms)), .v (.bl (benB ns ms))]) (ld_lst (ad_cons (td_b (ev_call (ea_cons (ev_var rfl) (ea_cons (ev_var rfl) ea_nil)) fun H13 e13 Q q E => ⟨c, d, ns, ms, rfl, ex_t e13 hc2, ex_t e13 hd2, by omega, by omega, q⟩)) (ad_cons (td_b (ev_callW (ea_cons (ev_var rfl) (ea_cons (ev_var rfl) ea_nil)) rfl fun H13 e13 Q q E => ⟨c, d, ns, ms, rfl, ex_t e13 hc2, ex_t e13 hd2, by omega, by omega, q⟩)) ad_nil)) (Nat.le_of_ble_eq_true rfl))
          (ld_lst (ad_cons (td_b (ev_var rfl)) (ad_cons (td_b (ev_var rfl)) ad_nil)) (Nat.le_of_ble_eq_true rfl)) (Nat.le_of_ble_eq_true rfl) fun H13 e13 => ⟨(e11.trans e12).trans e13, _, _, _, _, rfl⟩
    obtain ⟨y3, y6, y9, y10, rfl⟩ := h
    have hb10 := hb9.mono e10
    -- read
    refine q_forM (m := 6 + 9) (P := fun v H' => GV K H10 H' 2 v) (lx_cat mo_g (lx_PL (P' := PG K 2) (en_rng (n := 6) fs_g (by decide) (ea_cons ev_c ea_nil) (fun _ => rfl) fun k H11 e11 _ => ?_) fun v H11 H12 e11 _ g => fs_g.back e11 g) (lx_many (k := 9) ?_ mo_g (by decide)) (by decide)) mo_g
      (fun σ' => ∃ y z c d, σ' = [some (.ref a), some (.ref B), some (.ref l), y, some (.int low), some (.int high), z, some (.ref p), some (.ref r), c, d, none, none, none, none, none, none, none]) ⟨_, _, _, _, rfl⟩ (fun H11 e11 x σ' H12 e12 gx h => ?_) (fun σ' H11 e11 h => ?_)
    · have hb11 := hb10.mono e11
      refine en_call2 (P := PZ 13) fs_g (ev_var rfl) (en_call1 (P := PN 6) fs_z (en_sp (ea_cons (ev_var rfl) (ea_cons ev_c ea_nil)) fs_n fun H12 e12 H13 e13 Q q E => ⟨B, 6, rfl, hb11.mono (e12.trans e13), by decide, q⟩) ?_) ?_
      · rintro v H0 H12 e12 ⟨t, ns, rfl, t0, ht, h4, hz⟩ e13 H13 e14 Q q2 E
        have hdl := dots_len ns
        exact ⟨t, ns, rfl, st_of (e14 _ _ ht), h4, by omega, fun H14 e15 => q2 _ H14 e15 ⟨_, rfl, by omega⟩⟩
      · rintro v H0 H12 e12 ⟨z, rfl, hz⟩ e13 H13 e14 Q q2 E
        exact ⟨B, z, rfl, hb11.mono ((e12.trans e13).trans e14), by omega, fun y H14 e15 hy => q2 _ H14 e15 (.str 2 y (by omega))⟩
    · repeat (first
        | exact am_nil
        | apply am_cons mo_g (vm_ev ev_c fun _ _ => .str _ _ (by decide))
        | apply am_cons mo_g (vm_g (Ex.refl _) (odd (Nat.le_refl _) hb10 rfl)))
    · obtain ⟨y, z, c, d, rfl⟩ := h
      have qv := GV.qv gx
      have rd : ∀ {σ : L2.St} {E : XK}, σ[3]? = some (some x) → VM (tCall (spRd K) [] E (tCons (tVar 3) tNil)) σ H12 (Tl K (rdD x)) := fun h0 => vm_call (ea_cons (ev_var h0) ea_nil) fun H13 e13 Q E k => rd_sp (qv.mono e13) k
      refine s_same (ds := [rdD x, rdD x]) (ld_lst (ad_cons (rd rfl) (ad_cons (vm_callW (ea_cons (ev_var rfl) ea_nil) rfl fun H13 e13 Q E k => rd_sp (qv.mono e13) k) ad_nil)) (Nat.le_of_ble_eq_true rfl)) (ld_rep (ds := [rdD x]) (ld_lst (ad_cons (rd rfl) ad_nil) (Nat.le_of_ble_eq_true rfl)) ev_c (Nat.le_of_ble_eq_true rfl)) (Nat.le_of_ble_eq_true rfl) fun H13 e13 => ⟨e12.trans e13, _, _, _, _, rfl⟩
    obtain ⟨z3, z6, z9, z10, rfl⟩ := h
    have hb11 := hb10.mono e11
    -- lots
    refine q_asgY (R := Many PT7 5) (lx_PLz (P' := PN 3) (en_rngZ (m := 5) fs_n (by decide) (an_one (en_draw hb11 (ev_var rfl) ev_c (by decide) (by decide)) (by decide)) (fun _ => rfl) fun k H12 e12 _ => en_sp (ea_cons (ev_var rfl) (ea_cons ev_c ea_nil)) fs_n fun H13 e13 H14 e14 Q q E => ⟨B, 3, rfl, hb11.mono ((e12.trans e13).trans e14), by decide, q⟩) fun v H12 H13 _ _ g => pn_pt7 (by decide) g) fun l6 xs6 H12 e12 hl6 hx6 => ?_
    have hb12 := hb11.mono e12
    have hp12 := ((e10.trans e11).trans e12) _ _ hp
    have hr12 := ((e10.trans e11).trans e12) _ _ hr
    refine q_forR1 (n := 2) (ea_cons ev_c ea_nil) ⟨by decide, by decide⟩ (fun i σ' H' => ∃ l xs y3 y6 y11 y12 y13 y14, σ' = [some (.ref a), some (.ref B), some (.ref l), y3, some (.int low), some (.int high), y6, some (.ref p), some (.ref r), z9, z10, y11, y12, y13, y14, none, none, none] ∧ Ex H12 H' ∧ H' l = some (.lst xs) ∧ Many PT7 (5 + 3 * i) xs H')
      (fun H13 e13 => ⟨l6, xs6, _, _, _, _, _, _, rfl, e13, e13 _ _ hl6, mo_many mo_pt7 _ _ _ e13 hx6⟩) (fun i0 σ' H13 hi h => ?_) (fun σ' H13 h => ?_)
    · obtain ⟨l, xs, y3, y6, y11, y12, y13, y14, rfl, e13, hl, hz, hx⟩ := h
      have hx7 : Many PT7 (5 + 3 * i0) xs H13 := ⟨hz, hx⟩
      obtain ⟨L, rfl, hL⟩ := refs_of (C := fun p ns => H13 p = some (.tup (ns.map V.int)) ∧ Num4 ns ∧ ns.length ≤ 7) fun x m => hx x m
      rw [show (refsL L).length = L.length from List.length_map ..] at hz
      have hb13 := hb12.mono e13
      have few : L.length ≤ 8 := by omega
      have pl : Plcs K H13 40 L := fun q m => ⟨st_of (hL q m).1, (hL q m).2.1, Nat.le_trans (hL q m).2.2 (by decide)⟩
      refine q_parVL (P := fun v H' => ∃ g ys, v = .ref g ∧ (SqL K H' g ys ∨ SqT K H' g ys) ∧ ys.length ≤ 2 * L.length ∧ ∀ y, y ∈ ys ↔ y ∈ refsL L) (ys := [])
        (vm_call (ea_cons (ev_var rfl) (ea_cons (ev_var rfl) ea_nil)) fun H14 e14 Q E k => ⟨B, l, refsL L, rfl, hb13.mono e14, sq_of (e14 _ _ hl), by rw [show (refsL L).length = L.length from List.length_map ..]; omega, fun ys g H15 hlen hm e15 g0 hs => k _ H15 e15 ⟨g, ys, rfl, hs.elim (fun h => .inl (sq_of h)) fun h => .inr (st_of h), by rw [show (refsL L).length = L.length from List.length_map ..] at hlen; exact hlen, hm⟩⟩)
        (el_lst ea_nil (by decide)) fun v fo Hb H14 eb hv fo0 e14 hfo => ?_
      obtain ⟨g, ys, rfl, hs, hlen, hm⟩ := hv
      obtain ⟨Lg, hys, sub⟩ := refs_of (xs := ys) (C := fun p ns => (p, ns) ∈ L) fun y m => by
        obtain ⟨q, hq, e⟩ := List.mem_map.mp ((hm y).mp m)
        exact ⟨q.1, q.2, e.symm, hq⟩
      have sub : ∀ q, q ∈ Lg → q ∈ L := fun q m => sub q m
      have plb : Plcs K Hb 40 L := pl.mono eb
      have lg : Lg.length ≤ 16 := by
        rw [hys, show (refsL Lg).length = Lg.length from List.length_map ..] at hlen
        omega
      have plg : Plcs K Hb 40 Lg := fun q m => plb q (sub q m)
      have same := lot_same (fun q m => (hL q m).1) hys sub hm
      have el : ∀ {σ : L2.St} {H' : Hp}, Ex Hb H' → σ[12]? = some (some (.ref g)) → EvL (tCB (rListS K) (tCons (tVar 12) tNil)) σ H' ys := fun e h0 => hs.elim (fun h => el_list (ev_var h0) (ex_l e h)) fun h => el_listT (ev_var h0) (ex_t e h)
      refine q_asgL (el e14 rfl) fun t H15 ht e15 h15 => ?_
      have ft : fo ≠ t := fun e => by rw [← e, hfo] at ht; cases ht
      have hfo15 := e15 _ _ hfo
      have eb15 := e14.trans e15
      have hl15 : H15 l = some (.lst (refsL L)) := eb15 _ _ (eb _ _ hl)
      refine q_forS (R := fun us _ => ∃ Ls : AL, us = refsL Ls ∧ Ls.Perm L ∧ Ls.Pairwise (fun q r => YS.rk 40 q.2 ≤ YS.rk 40 r.2)) (fun H16 e16 Q k => ev_var rfl H16 (e16) _ fun H17 e17 => ⟨l, L, rfl, .inl (sq_of ((e16.trans e17) _ _ hl15)), plb.mono ((eb15.trans e16).trans e17), by omega, fun Ls u pm pw hu => k u _ _ (e17.trans (Ex.new hu)) (fresh_back e17 hu) upd_same ⟨Ls, rfl, pm, pw⟩⟩) fun u us H16 e16 hu hus ⟨Ls, hLs, pm, pw⟩ => ?_
      subst hLs
      have fu : fo ≠ u := fun e => by rw [← e, hfo15] at hu; cases hu
      refine ⟨fun i σ' H' => ∃ (acc : AL) (w3 : Option V), σ' = [some (.ref a), some (.ref B), some (.ref l), w3, some (.int low), some (.int high), y6, some (.ref p), some (.ref r), z9, z10, some (.int (i0 : Int)), some (.ref g), some (.ref fo), some (.ref t), none, none, none] ∧ Ex Hb H' ∧ H' t = some (.lst ys) ∧ H' u = some (.lst (refsL Ls)) ∧ H' fo = some (.lst (refsL acc)) ∧ (∀ q, q ∈ acc → q ∈ L) ∧ acc.length ≤ i ∧ once (acc.map (·.2)) ((Ls.drop i).map (·.2)) = once [] (Ls.map (·.2)), ?_, ?_, ?_, ?_⟩
      · exact ⟨[], _, rfl, eb15.trans e16, e16 _ _ h15, hus, e16 _ _ hfo15, (fun _ m => nomatch m), Nat.le_refl _, rfl⟩
      · rintro k σ' H' hk ⟨acc, w3, rfl, eH, h1, h2, h3, h4, h5, h6⟩
        exact sq_of h2
      · rintro k x σ' H' hk ⟨acc, w3, rfl, eH, h1, h2, h3, h4, h5, h6⟩
        rw [show refsL Ls = Ls.map fun p => V.ref p.1 from rfl, List.getElem?_map] at hk
        obtain ⟨q, hq, rfl⟩ := Option.map_eq_some_iff.mp hk
        have hkl : k < Ls.length := (List.getElem?_eq_some_iff.mp hq).1
        have hLl := pm.length_eq
        have hqL : q ∈ L := pm.mem_iff.mp (List.mem_of_getElem? hq)
        have hd : Ls.drop k = q :: Ls.drop (k + 1) := by
          rw [List.drop_eq_getElem_cons hkl, (List.getElem?_eq_some_iff.mp hq).2]
        rw [hd, List.map_cons, once] at h6
        have plH : Plcs K H' 40 L := plb.mono eH
        refine s_if (et_test (ev_op (ev_var rfl) (ev_var rfl) (rv_notIn (plH q hqL).1 (sq_of h3) fun q2 m => (plH q2 (h4 q2 m)).1))) (fun hb H17 e17 => ?_) (fun hb H17 e17 => ?_)
        · have hn : q.2 ∉ acc.map (·.2) := of_decide_eq_false (bnot_t hb)
          rw [if_neg hn] at h6
          refine s_app (e17 _ _ h3) (ev_var rfl) (ev_var rfl) (by rw [show (refsL acc).length = acc.length from List.length_map ..]; omega) fun H18 e18 => ⟨acc ++ [q], _, rfl, Ex.mut ((eH.trans e17).trans e18) fo0, by rw [upd_ne ft.symm]; exact (e17.trans e18) _ _ h1, by rw [upd_ne fu.symm]; exact (e17.trans e18) _ _ h2, ?_, fun q2 m => ?_, by rw [List.length_append, List.length_singleton]; omega, ?_⟩
          · rw [upd_same, show refsL (acc ++ [q]) = refsL acc ++ [V.ref q.1] from List.map_append ..]
          · rcases List.mem_append.mp m with m | m
            · exact h4 q2 m
            · exact List.mem_singleton.mp m ▸ hqL
          · rw [List.map_append]
            exact h6
        · have hn : q.2 ∈ acc.map (·.2) := of_decide_eq_true (bnot_f hb)
          rw [if_pos hn] at h6
          exact ⟨acc, _, rfl, eH.trans e17, e17 _ _ h1, e17 _ _ h2, e17 _ _ h3, h4, by omega, h6⟩
      · rintro σ' H17 ⟨acc, w3, rfl, eH, h1, h2, h3, h4, h5, h6⟩
        have h7 : acc.map (·.2) = once [] (Ls.map (·.2)) := by
          rw [show (refsL Ls).length = Ls.length from List.length_map .., List.drop_length] at h6
          exact h6
        have ss : SS (acc.map (·.2)) (L.map (·.2)) := h7 ▸ once_ss (fun q m => (pl q m).2) pm pw
        have plH : Plcs K H17 40 acc := fun q m => (plb.mono eH) q (h4 q m)
        have hLl := pm.length_eq
        have hac : acc.length ≤ 8 := by
          rw [show (refsL Ls).length = Ls.length from List.length_map ..] at h5
          omega
        refine q_asg (v := .str (lotS (acc.map (·.2)))) (ev_if (b := decide (acc ≠ [])) (et_test (ev_is (ev_op (ev_lenT (ev_var rfl) (.inl (sq_of h3))) ev_c rv_I0) ?_)) (fun hb => ?_) (fun hb => ?_)) fun H18 e18 => ?_
        · rw [show (refsL acc).length = acc.length from List.length_map ..]
          refine congrArg V.bl (decide_eq_decide.mpr ?_)
          cases acc with
          | nil => exact ⟨fun h => absurd h (by decide), fun h => absurd rfl h⟩
          | cons q acc => exact ⟨fun _ => List.cons_ne_nil q acc, fun _ => by rw [List.length_cons]; omega⟩
        · have hne : acc ≠ [] := of_decide_eq_true hb
          have e0 : lotS (acc.map (·.2)) = Txt.join (Str.ofString "+") (acc.map fun q => dotsS q.2) := by
            unfold lotS
            rw [if_neg (fun h => hne (List.map_eq_nil_iff.mp h)), List.map_map]
            rfl
          rw [e0]
          refine ev_join ev_c (by
            rw [List.map_map]
            exact el_mapA (L := acc) (f := fun q => V.ref q.1) (0, []) (fun q => V.str (dotsS q.2)) (ev_var rfl) (sq_of h3) (by omega) (fun _ => rfl) fun q H18 e18 hq => ev_call (ea_cons (ev_var rfl) ea_nil) fun H19 e19 Q qk E => ⟨q.1, q.2, rfl, ex_t (e18.trans e19) (plH q hq).1, (plH q hq).2.1, Nat.le_trans (plH q hq).2.2 (by decide), qk⟩) ?_
          have h8 := lens_dots (L := acc) fun q m => (plH q m).2.2
          rw [List.length_map]
          show _ + acc.length * 1 ≤ _
          omega
        · have hne : acc = [] := Classical.byContradiction fun h => (of_decide_eq_false hb) h
          subst hne
          exact ev_c
        · have zz : (lotS (acc.map (·.2))).length ≤ 100000 := by
            unfold lotS
            split
            · decide
            · have h8 := lens_dots (L := acc) fun q m => (plH q m).2.2
              have h9 := join_bd (Str.ofString "+") ((acc.map (·.2)).map dotsS)
              rw [List.length_map, List.length_map, show (Str.ofString "+").length = 1 by decide, List.map_map] at h9
              have e9 : (acc.map (dotsS ∘ fun x => x.2)) = acc.map fun q => dotsS q.2 := rfl
              rw [e9] at h9
              rw [List.map_map, e9]
              omega
          have lotp : ∀ {H' : Hp}, Ex H18 H' → ∀ (Q : VK) (E : XK), RetV (.str (lotS (acc.map (·.2)))) H' Q → spLot K [.ref g] H' Q E := fun {H'} e Q E qk => ⟨g, Lg, rfl, by
            have eg := (eH.trans e18).trans e
            rw [hys] at hs
            exact hs.elim (fun h => .inl (ex_l eg h)) fun h => .inr (ex_t eg h), plg.mono ((eH.trans e18).trans e), by omega, fun nss hn => by
            rw [SS.eq hn ss same]
            exact qk⟩
          have tl : Tells K (Lg.map fun q => Dat.t q.2) ys Hb := by
            rw [hys]
            exact tells_refs fun q m => ⟨(plg q m).1, Nat.le_trans (plg q m).2.2 (by decide)⟩
          have zl : (Lg.map fun q => Dat.t q.2).length ≤ 40000 := by rw [List.length_map]; omega
          refine q_when (b := (!true) || (!true)) (et_or (et_not (et_B (ev_same (ds := [.v (.str (lotS (acc.map (fun q : Addr × List Int => q.2)))), .v (.str (lotS (acc.map (fun q : Addr × List Int => q.2))))]) (ld_lst (ad_cons (td_s (ev_call (ea_cons (ev_var rfl) ea_nil) fun H19 e19 Q qk E => lotp e19 Q E qk) zz) (ad_cons (td_s (ev_callW (ea_cons (ev_var rfl) ea_nil) rfl fun H19 e19 Q qk E => lotp e19 Q E qk) zz) ad_nil)) (Nat.le_of_ble_eq_true rfl)) (ld_lst (ad_cons (td_s (ev_var rfl) zz) (ad_cons (td_s (ev_var rfl) zz) ad_nil)) (Nat.le_of_ble_eq_true rfl)) (Nat.le_of_ble_eq_true rfl))))
            fun _ => et_not (et_B (ev_same (ds := Lg.map fun q => Dat.t q.2) (ly_el (el (eH.trans e18) rfl) fun H19 e19 => mo_tells _ _ _ ((eH.trans e18).trans e19) tl) (ly_var (ev_var rfl) (e18 _ _ h1) mo_tells (mo_tells _ _ _ (eH.trans e18) tl)) zl))) (fun h => nomatch h) fun _ H19 e19 => ?_
          have e1319 : Ex H13 H19 := ((eb.trans eH).trans e18).trans e19
          have hp19 := (e13.trans e1319) _ _ hp12
          have hr19 := (e13.trans e1319) _ _ hr12
          have hl19 := e1319 _ _ hl
          have x19 : Many PT7 (5 + 3 * i0) (refsL L) H19 := mo_many mo_pt7 _ _ _ e1319 hx7
          have f0 : ∀ {σ : L2.St}, σ[7]? = some (some (.ref p)) → EvN H8 (tVar 7) σ H19 (ps.map V.int) := fun h0 => ev0_of (ev_var h0) p0 hp19
          have f1 : ∀ {σ : L2.St}, σ[8]? = some (some (.ref r)) → EvN H8 (tVar 8) σ H19 (qs.map V.int) := fun h0 => ev0_of (ev_var h0) r0 hr19
          have e819 : Ex H8 H19 := ((((e9.trans e10).trans e11).trans e12).trans e13).trans e1319
          have f2 : ∀ {σ : L2.St}, σ[7]? = some (some (.ref p)) → σ[8]? = some (some (.ref r)) → EvN H8 (tOp (rCatA K) (tVar 7) (tVar 8)) σ H19 ((ps ++ qs).map V.int) := fun h0 h1 => by
            rw [List.map_append]
            exact ev0_cat e819 (f0 h0) (f1 h1) (by rw [List.length_map, List.length_map]; omega)
          refine s_asgY (R := Many PT7 ((5 + 3 * i0) + 3)) (lx_cat mo_pt7 (ly_var (ev_var rfl) hl19 (mo_many mo_pt7) x19) (lx_many (am_cons mo_pt7 (vm_ev (ev_var rfl) fun H20 e20 => ⟨p, ps, rfl, e20 _ _ hp19, p4, by omega⟩) (am_cons mo_pt7 (vm_ev (ev_var rfl) fun H20 e20 => ⟨r, qs, rfl, e20 _ _ hr19, r4, by omega⟩) (am_cons mo_pt7 (fun H20 e20 Q k => f2 rfl rfl H20 e20 Q fun u H21 e21 _ hu => k _ H21 e21 ⟨u, ps ++ qs, rfl, hu, num4_app p4 r4, by rw [List.length_append]; omega⟩) am_nil))) mo_pt7 (by decide)) (by omega)) fun l2 xs2 H20 e20 hl2 hx2 => ⟨l2, xs2, _, _, _, _, _, _, rfl, (e13.trans e1319).trans e20, hl2, hx2⟩
    · obtain ⟨l, xs, y3, y6, y11, y12, y13, y14, rfl, e13, hl, hx⟩ := h
      exact s_ret ev_c fun H14 _ => q H14
theorem ok_law {f : Addr} {fd : FuncData} (F : FunD K "law" "law" (defArgs s_law) (defBody s_law) (defScope s_law) [] [] f fd) (g : mg "law" = some (.ref f)) (T : Bc K mg aT aD) (c_bag : Cal P w K mg base 1 "_law_bag" (spBag K) []) (c_draw : Cal P w K mg base 1 "_law_draw" spDraw []) (c_of : Cal P w K mg base 2 "_law_of" (spOf K) []) (c_same : Cal P w K mg base 7 "_law_same" (spSame K 5) []) (c_word : Cal P w K mg base 3 "_law_word" spWord []) (c_odd : Cal P w K mg base 3 "_law_odd" (spOdd K) []) (c_is_name : Cal P w K mg base 1 "_law_is_name" (spB1 K nameV) []) (c_is_hole : Cal P w K mg base 1 "_law_is_hole" (spB1 K holeV) []) (c_within : Cal P w K mg base 1 "_law_within" (spB3 K) []) (c_maybe : Cal P w K mg base 4 "_law_maybe" (spMay K) []) (c_is_place : Cal P w K mg base 2 "_law_is_place" (spPlc K) []) (c_dots : Cal P w K mg base 1 "_law_dots" (spTxt K) []) (c_numbers : Cal P w K mg base 2 "_law_numbers" spNums []) (c_bent : Cal P w K mg base 3 "_law_bent" spBent []) (c_place_of : Cal P w K mg base 1 "_law_place_of" (spRd K) []) (c_given : Cal P w K mg base 3 "_law_given" (spGiv K) []) (cis_name : Cal P w K mg base 2 "is_name" (spB1 K nameV) []) (cis_hole : Cal P w K mg base 2 "is_hole" (spB1 K holeV) []) (cis_number : Cal P w K mg base 1 "is_number" (spB3 K) []) (cis_place : Cal P w K mg base 2 "is_place" (spPlc K) []) (cplace_text : Cal P w K mg base 1 "place_text" (spTxt K) []) (cread_place : Cal P w K mg base 2 "read_place" (spRd K) []) (cis_beneath : Cal P w K mg base 1 "is_beneath" (spBen K) []) (clot_text : Cal P w K mg base 2 "lot_text" (spLot K) []) (w_is_name : CalW P w K mg base 2 "is_name" (spB1 K nameV) ["value"]) (w_is_hole : CalW P w K mg base 2 "is_hole" (spB1 K holeV) ["value"]) (w_is_number : CalW P w K mg base 1 "is_number" (spB3 K) ["most", "least", "value"]) (w_is_place : CalW P w K mg base 2 "is_place" (spPlc K) ["value"]) (w_place_text : CalW P w K mg base 1 "place_text" (spTxt K) ["place"]) (w_read_place : CalW P w K mg base 2 "read_place" (spRd K) ["text"]) (w_is_beneath : CalW P w K mg base 1 "is_beneath" (spBen K) ["other", "place"]) (w_lot_text : CalW P w K mg base 2 "lot_text" (spLot K) ["lot"]) :
    Cal P w K mg base 9 "law" (spLaw K) [] :=
  ⟨f, fd, ["_law_script"], [], fok_law F T c_bag c_draw c_of c_same c_word c_odd c_is_name c_is_hole c_within c_maybe c_is_place c_dots c_numbers c_bent c_place_of c_given cis_name cis_hole cis_number cis_place cplace_text cread_place cis_beneath clot_text w_is_name w_is_hole w_is_number w_is_place w_place_text w_read_place w_is_beneath w_lot_text, g, F.kp, FunD.bindsN F fun _ _ _ _ _ _ us hl => match us, hl with | [_], _ => rfl, .nil⟩
theorem okw_law {f : Addr} {fd : FuncData} (F : FunD K "law" "law" (defArgs s_law) (defBody s_law) (defScope s_law) [] [] f fd) (g : mg "law" = some (.ref f)) (T : Bc K mg aT aD) (c_bag : Cal P w K mg base 1 "_law_bag" (spBag K) []) (c_draw : Cal P w K mg base 1 "_law_draw" spDraw []) (c_of : Cal P w K mg base 2 "_law_of" (spOf K) []) (c_same : Cal P w K mg base 7 "_law_same" (spSame K 5) []) (c_word : Cal P w K mg base 3 "_law_word" spWord []) (c_odd : Cal P w K mg base 3 "_law_odd" (spOdd K) []) (c_is_name : Cal P w K mg base 1 "_law_is_name" (spB1 K nameV) []) (c_is_hole : Cal P w K mg base 1 "_law_is_hole" (spB1 K holeV) []) (c_within : Cal P w K mg base 1 "_law_within" (spB3 K) []) (c_maybe : Cal P w K mg base 4 "_law_maybe" (spMay K) []) (c_is_place : Cal P w K mg base 2 "_law_is_place" (spPlc K) []) (c_dots : Cal P w K mg base 1 "_law_dots" (spTxt K) []) (c_numbers : Cal P w K mg base 2 "_law_numbers" spNums []) (c_bent : Cal P w K mg base 3 "_law_bent" spBent []) (c_place_of : Cal P w K mg base 1 "_law_place_of" (spRd K) []) (c_given : Cal P w K mg base 3 "_law_given" (spGiv K) []) (cis_name : Cal P w K mg base 2 "is_name" (spB1 K nameV) []) (cis_hole : Cal P w K mg base 2 "is_hole" (spB1 K holeV) []) (cis_number : Cal P w K mg base 1 "is_number" (spB3 K) []) (cis_place : Cal P w K mg base 2 "is_place" (spPlc K) []) (cplace_text : Cal P w K mg base 1 "place_text" (spTxt K) []) (cread_place : Cal P w K mg base 2 "read_place" (spRd K) []) (cis_beneath : Cal P w K mg base 1 "is_beneath" (spBen K) []) (clot_text : Cal P w K mg base 2 "lot_text" (spLot K) []) (w_is_name : CalW P w K mg base 2 "is_name" (spB1 K nameV) ["value"]) (w_is_hole : CalW P w K mg base 2 "is_hole" (spB1 K holeV) ["value"]) (w_is_number : CalW P w K mg base 1 "is_number" (spB3 K) ["most", "least", "value"]) (w_is_place : CalW P w K mg base 2 "is_place" (spPlc K) ["value"]) (w_place_text : CalW P w K mg base 1 "place_text" (spTxt K) ["place"]) (w_read_place : CalW P w K mg base 2 "read_place" (spRd K) ["text"]) (w_is_beneath : CalW P w K mg base 1 "is_beneath" (spBen K) ["other", "place"]) (w_lot_text : CalW P w K mg base 2 "lot_text" (spLot K) ["lot"]) :
    CalW P w K mg base 9 "law" (spLaw K) ["_law_script"] :=
  ⟨f, fd, ["_law_script"], fok_law F T c_bag c_draw c_of c_same c_word c_odd c_is_name c_is_hole c_within c_maybe c_is_place c_dots c_numbers c_bent c_place_of c_given cis_name cis_hole cis_number cis_place cplace_text cread_place cis_beneath clot_text w_is_name w_is_hole w_is_number w_is_place w_place_text w_read_place w_is_beneath w_lot_text, g, F.kp, kb_z F ["_law_script"] 1 rfl (by decide) fun _ _ _ _ _ _ us hl => match us, hl with | [_], _ => rfl⟩
end
end K01

namespace K01
open PySem PySem.Spec PyProof.Rows L2 Evl XV C8 He
/-- a class of the text whose __init__ is its own -/
structure CF (K : PySem.W.Frag) (mg : Str → Option Value) (x : Str) (C fI : Addr) (fs : List Str) : Prop where
  xc : XC K C
  g : mg x = some (.ref C)
  i : PySem.W.findIn K (.ref C) "__init__" = some (some (.ref fI))
  t : PySem.W.typeIn K (.ref fI) = some (.type "function")
  nf : Free K C ("code" :: fs)
theorem init_len {C : Addr} {code : Str} {fs : List Str} {vs : List V} {H : Hp} {Q : VK} {E : XK} (h : spInit C code fs vs H Q E) : vs.length = fs.length + 1 := by
  obtain ⟨a, ys, rfl, hl, _⟩ := h
  rw [List.length_cons, hl]
theorem sci_TooGreat : FnScope ["self"] ["self"] (defScope si_TooGreat) := ⟨rfl, rfl, rfl, by decide +kernel, rfl, by decide +kernel, by decide +kernel⟩
section
variable {P : Program} {w : World} {K : PySem.W.Frag} {mg : Str → Option Value} {base : Heap} {C fI : Addr} {fd : FuncData}
theorem mk_TooGreat (F : FunD K "__init__" "TooGreat.__init__" (defArgs si_TooGreat) (defBody si_TooGreat) (defScope si_TooGreat) [] [] fI fd) (c : CF K mg "TooGreat" C fI []) : MkX P w K mg base 1 "TooGreat" C "TooGreat" [] :=
  ⟨c.xc, c.g, fI, fd, ["self"], c.i, c.t, F.ok sci_TooGreat (fun _ _ _ _ h => init_len h) (fun _ _ _ _ _ _ _ _ _ h => ⟨_, PSs.nox (pss_one (ps_fl (pv 0) pe_str)), rd0 c.xc c.nf h⟩), FunD.bindsN F fun _ _ _ _ _ _ us hl => match us, hl with | [_], _ => rfl,
    kb_rev F _ 0 rfl fun _ _ _ _ _ _ _ ws hl => match ws, hl with | [], _ => rfl⟩
end
section
variable {K : PySem.W.Frag}
theorem cfB_ok {p : Str × List Str} (h : cfB K p = true) : XC K (ga K p.1) ∧ PySem.W.findIn K (.ref (ga K p.1)) "__init__" = some (some (.ref (ma K (ga K p.1) "__init__"))) ∧ PySem.W.typeIn K (.ref (ma K (ga K p.1) "__init__")) = some (.type "function") ∧ Free K (ga K p.1) ("code" :: p.2) := by
  obtain ⟨h1, h⟩ := He.ba h
  obtain ⟨h2, h⟩ := He.ba h
  obtain ⟨h3, h4⟩ := He.ba h
  exact ⟨xcB_ok h1, of_decide_eq_true h2, of_decide_eq_true h3, fun f m => of_decide_eq_true (List.all_eq_true.mp h4 f m)⟩
theorem xvB_ok {C : Addr} (xc : XC K C) (h : xvB K C = true) : XV0 K C := by
  obtain ⟨h1, h⟩ := He.ba h
  obtain ⟨h2, h⟩ := He.ba h
  obtain ⟨h3, h⟩ := He.ba h
  obtain ⟨h4, h⟩ := He.ba h
  obtain ⟨h5, h6⟩ := He.ba h
  exact ⟨xc, of_decide_eq_true h1, of_decide_eq_true h2, of_decide_eq_true h3, of_decide_eq_true h4, of_decide_eq_true h5, of_decide_eq_true h6⟩
end
section
variable {P : Program} {w : World} {K : PySem.W.Frag} {h : Heap} {mg : Str → Option Value} {base : Heap}
theorem bc (X : K.In h) (G : h.Ns mainGlobals mg) (c : SaysD faL fnL K) (t1 : tupB K "TOP" [] = true) (t2 : tupB K "DIGITS" [.str "1", .str "2", .str "3", .str "4"] = true) : Bc K mg (ga K "TOP") (ga K "DIGITS") := by
  obtain ⟨t, ht⟩ := str_ok X G (c.fact 45 (f := .str "BLANK" "_") rfl)
  exact ⟨⟨(free_ok X G (c.fact 32 (f := .free "int") rfl)), (free_ok X G (c.fact 33 (f := .free "len") rfl)), (free_ok X G (c.fact 34 (f := .free "abs") rfl)), (free_ok X G (c.fact 35 (f := .free "list") rfl)), (free_ok X G (c.fact 36 (f := .free "tuple") rfl)), (free_ok X G (c.fact 37 (f := .free "range") rfl)), (free_ok X G (c.fact 38 (f := .free "zip") rfl)), (free_ok X G (c.fact 39 (f := .free "all") rfl)), (free_ok X G (c.fact 40 (f := .free "isinstance") rfl)), (free_ok X G (c.fact 41 (f := .free "bool") rfl)), (free_ok X G (c.fact 42 (f := .free "str") rfl)), (free_ok X G (c.fact 43 (f := .free "set") rfl)), (free_ok X G (c.fact 44 (f := .free "sorted") rfl))⟩, ⟨_, (glo_ok X G (c.fact 1 (f := .glo "TOP") rfl)), rfl⟩, ⟨_, (glo_ok X G (c.fact 2 (f := .glo "DIGITS") rfl)), rfl⟩, ⟨_, ht, t, rfl⟩, fun H => tupB_ok t1 H, fun H => tupB_ok t2 H⟩
theorem facts {f : Addr} (X : K.In h) (G : h.Ns mainGlobals mg) (hfa : mg ("law" : Str) = some (.ref f)) (c : SaysD faL fnL K) (ex : exB K = true) :
    ∃ fd : FuncData, (∀ (s : Shared) (v : Value), BindsTo s fd ⟨[v], []⟩ [("_law_script", v)]) ∧ ∀ base : Heap, K.In base → base.Ns mainGlobals mg → FnOk P w K mg base C8.CX0 9 f fd ["_law_script"] (spLaw K) := by
  obtain ⟨x1, ex⟩ := He.ba ex
  obtain ⟨x2, ex⟩ := He.ba ex
  obtain ⟨x3, x4⟩ := He.ba ex
  obtain ⟨xc, xi, xt, nf⟩ := cfB_ok x1
  have xv : XV0 K (ga K "TooGreat") := xvB_ok xc x2
  have T := bc X G c x3 x4
  obtain ⟨fd_TooGreat, F_TooGreat⟩ := c.def_ 29 (d := di_TooGreat) rfl
  obtain ⟨fd_is_name, F_is_name⟩ := c.def_ 0 (d := dd_is_name) rfl
  have g_is_name := (glo_ok X G (c.fact 3 (f := .glo "is_name") rfl))
  obtain ⟨fd_is_hole, F_is_hole⟩ := c.def_ 1 (d := dd_is_hole) rfl
  have g_is_hole := (glo_ok X G (c.fact 4 (f := .glo "is_hole") rfl))
  obtain ⟨fd_is_letters, F_is_letters⟩ := c.def_ 2 (d := dd_is_letters) rfl
  have g_is_letters := (glo_ok X G (c.fact 5 (f := .glo "is_letters") rfl))
  obtain ⟨fd_is_number, F_is_number⟩ := c.def_ 3 (d := dd_is_number) rfl
  have g_is_number := (glo_ok X G (c.fact 6 (f := .glo "is_number") rfl))
  obtain ⟨fd_is_place, F_is_place⟩ := c.def_ 4 (d := dd_is_place) rfl
  have g_is_place := (glo_ok X G (c.fact 7 (f := .glo "is_place") rfl))
  obtain ⟨fd_is_beneath, F_is_beneath⟩ := c.def_ 5 (d := dd_is_beneath) rfl
  have g_is_beneath := (glo_ok X G (c.fact 8 (f := .glo "is_beneath") rfl))
  obtain ⟨fd_place_text, F_place_text⟩ := c.def_ 6 (d := dd_place_text) rfl
  have g_place_text := (glo_ok X G (c.fact 9 (f := .glo "place_text") rfl))
  obtain ⟨fd_read_place, F_read_place⟩ := c.def_ 7 (d := dd_read_place) rfl
  have g_read_place := (glo_ok X G (c.fact 10 (f := .glo "read_place") rfl))
  obtain ⟨fd_scan_place, F_scan_place⟩ := c.def_ 8 (d := dd_scan_place) rfl
  have g_scan_place := (glo_ok X G (c.fact 11 (f := .glo "scan_place") rfl))
  obtain ⟨fd_lot_text, F_lot_text⟩ := c.def_ 9 (d := dd_lot_text) rfl
  have g_lot_text := (glo_ok X G (c.fact 12 (f := .glo "lot_text") rfl))
  obtain ⟨fd__law_bag, F__law_bag⟩ := c.def_ 10 (d := dd__law_bag) rfl
  have g__law_bag := (glo_ok X G (c.fact 13 (f := .glo "_law_bag") rfl))
  obtain ⟨fd__law_draw, F__law_draw⟩ := c.def_ 11 (d := dd__law_draw) rfl
  have g__law_draw := (glo_ok X G (c.fact 14 (f := .glo "_law_draw") rfl))
  obtain ⟨fd__law_of, F__law_of⟩ := c.def_ 12 (d := dd__law_of) rfl
  have g__law_of := (glo_ok X G (c.fact 15 (f := .glo "_law_of") rfl))
  obtain ⟨fd__law_mixed, F__law_mixed⟩ := c.def_ 13 (d := dd__law_mixed) rfl
  have g__law_mixed := (glo_ok X G (c.fact 16 (f := .glo "_law_mixed") rfl))
  obtain ⟨fd__law_same, F__law_same⟩ := c.def_ 14 (d := dd__law_same) rfl
  have g__law_same := (glo_ok X G (c.fact 17 (f := .glo "_law_same") rfl))
  obtain ⟨fd__law_is_name, F__law_is_name⟩ := c.def_ 15 (d := dd__law_is_name) rfl
  have g__law_is_name := (glo_ok X G (c.fact 18 (f := .glo "_law_is_name") rfl))
  obtain ⟨fd__law_is_hole, F__law_is_hole⟩ := c.def_ 16 (d := dd__law_is_hole) rfl
  have g__law_is_hole := (glo_ok X G (c.fact 19 (f := .glo "_law_is_hole") rfl))
  obtain ⟨fd__law_whole, F__law_whole⟩ := c.def_ 17 (d := dd__law_whole) rfl
  have g__law_whole := (glo_ok X G (c.fact 20 (f := .glo "_law_whole") rfl))
  obtain ⟨fd__law_is_place, F__law_is_place⟩ := c.def_ 18 (d := dd__law_is_place) rfl
  have g__law_is_place := (glo_ok X G (c.fact 21 (f := .glo "_law_is_place") rfl))
  obtain ⟨fd__law_given, F__law_given⟩ := c.def_ 19 (d := dd__law_given) rfl
  have g__law_given := (glo_ok X G (c.fact 22 (f := .glo "_law_given") rfl))
  obtain ⟨fd__law_odd, F__law_odd⟩ := c.def_ 20 (d := dd__law_odd) rfl
  have g__law_odd := (glo_ok X G (c.fact 23 (f := .glo "_law_odd") rfl))
  obtain ⟨fd__law_word, F__law_word⟩ := c.def_ 21 (d := dd__law_word) rfl
  have g__law_word := (glo_ok X G (c.fact 24 (f := .glo "_law_word") rfl))
  obtain ⟨fd__law_numbers, F__law_numbers⟩ := c.def_ 22 (d := dd__law_numbers) rfl
  have g__law_numbers := (glo_ok X G (c.fact 25 (f := .glo "_law_numbers") rfl))
  obtain ⟨fd__law_maybe, F__law_maybe⟩ := c.def_ 23 (d := dd__law_maybe) rfl
  have g__law_maybe := (glo_ok X G (c.fact 26 (f := .glo "_law_maybe") rfl))
  obtain ⟨fd__law_dots, F__law_dots⟩ := c.def_ 24 (d := dd__law_dots) rfl
  have g__law_dots := (glo_ok X G (c.fact 27 (f := .glo "_law_dots") rfl))
  obtain ⟨fd__law_bent, F__law_bent⟩ := c.def_ 25 (d := dd__law_bent) rfl
  have g__law_bent := (glo_ok X G (c.fact 28 (f := .glo "_law_bent") rfl))
  obtain ⟨fd__law_place_of, F__law_place_of⟩ := c.def_ 26 (d := dd__law_place_of) rfl
  have g__law_place_of := (glo_ok X G (c.fact 29 (f := .glo "_law_place_of") rfl))
  obtain ⟨fd__law_within, F__law_within⟩ := c.def_ 27 (d := dd__law_within) rfl
  have g__law_within := (glo_ok X G (c.fact 30 (f := .glo "_law_within") rfl))
  obtain ⟨fd_law, F_law⟩ := c.def_ 28 (d := dd_law) rfl
  have g_law := (glo_ok X G (c.fact 31 (f := .glo "law") rfl))
  have e := hfa.symm.trans g_law
  cases e
  have b := FunD.bindsA (ps := ["_law_script"]) F_law fun _ _ _ _ _ _ us hl => match us, hl with | [_], _ => rfl
  refine ⟨fd_law, fun s v => b s [v] rfl, fun base _ _ => ?_⟩
  have MX : MkX P w K mg base 1 "TooGreat" (ga K "TooGreat") "TooGreat" [] := mk_TooGreat F_TooGreat ⟨xc, (glo_ok X G (c.fact 0 (f := .glo "TooGreat") rfl)), xi, xt, nf⟩
  have c_draw := ok__law_draw (P := P) (w := w) (base := base) F__law_draw g__law_draw T.toBi
  have c_of := ok__law_of F__law_of g__law_of T.toBi c_draw
  have c_mixed := ok__law_mixed F__law_mixed g__law_mixed T.toBi c_draw
  have c_whole := ok__law_whole (P := P) (w := w) (base := base) F__law_whole g__law_whole T.toBi
  have c_numbers := ok__law_numbers F__law_numbers g__law_numbers T.toBi c_draw
  have c_odd := ok__law_odd F__law_odd g__law_odd T.toBi c_of MX xv
  have cis_letters := ok_is_letters (P := P) (w := w) (base := base) F_is_letters g_is_letters T.toBi
  have cis_number := ok_is_number (P := P) (w := w) (base := base) F_is_number g_is_number T.toBi
  have cplace_text := ok_place_text (P := P) (w := w) (base := base) F_place_text g_place_text T.toBi
  have cscan_place := ok_scan_place (P := P) (w := w) (base := base) F_scan_place g_scan_place T
  exact fok_law F_law T (ok__law_bag F__law_bag g__law_bag T.toBi) c_draw c_of (cal_same F__law_same g__law_same T.toBi 5) (ok__law_word F__law_word g__law_word T.toBi c_draw c_of) c_odd (ok__law_is_name F__law_is_name g__law_is_name T.toBi) (ok__law_is_hole F__law_is_hole g__law_is_hole T.toBi) (ok__law_within F__law_within g__law_within T.toBi)
    (ok__law_maybe F__law_maybe g__law_maybe T.toBi c_draw c_of c_numbers c_odd) (ok__law_is_place F__law_is_place g__law_is_place T.toBi c_whole) (ok__law_dots F__law_dots g__law_dots T.toBi) c_numbers (ok__law_bent F__law_bent g__law_bent T.toBi c_draw c_of) (ok__law_place_of F__law_place_of g__law_place_of T.toBi) (ok__law_given F__law_given g__law_given T.toBi c_draw c_mixed)
    (ok_is_name F_is_name g_is_name T.toBi cis_letters) (ok_is_hole F_is_hole g_is_hole T.toBi cis_letters) cis_number (ok_is_place F_is_place g_is_place T.toBi cis_number) cplace_text (ok_read_place F_read_place g_read_place T.toBi cscan_place) (ok_is_beneath F_is_beneath g_is_beneath T.toBi) (ok_lot_text F_lot_text g_lot_text T.toBi cplace_text)
    (okw_is_name F_is_name g_is_name T.toBi cis_letters) (okw_is_hole F_is_hole g_is_hole T.toBi cis_letters) (okw_is_number F_is_number g_is_number T.toBi) (okw_is_place F_is_place g_is_place T.toBi cis_number) (okw_place_text F_place_text g_place_text T.toBi) (okw_read_place F_read_place g_read_place T.toBi cscan_place) (okw_is_beneath F_is_beneath g_is_beneath T.toBi) (okw_lot_text F_lot_text g_lot_text T.toBi cplace_text)
end
end K01

open PySem PySem.W PySem.Calls PyProof.Rows
theorem PySem.Challenge.cw_remainways_k01_words_places_judged_holds : PySem.Challenge.rw_remainways_k01_words_places_judged.Holds := by
  w_on; o_law
  refine HandSHeadRun.head_any (r := K01.R) (q := view K01.R.prog [37]) (H := K01.hookK) (ob := K01.obK) (M := 30000) (loose := K01.looseL) (d := HandSHeadRun.topDef K01.R.prog 37) (kwd := []) K01.obK_eq
    (by kernel_rfl) (fun s => by kernel_rfl) K01.run (by kernel_rfl) (by kernel_rfl) (by kernel_rfl) (by rfl) (by first | assumption | decide +kernel) (by decide +kernel) ⟨rfl, rfl, rfl, rfl, rfl, by decide +kernel⟩ ?hw ?hc
  case hw => w_witness2
  case hc =>
    refine L2.walk_ofE (l := PySem.Challenge.rw_remainways_k01_words_places_judged) (n := 63) (k := 9) (x := "_law_script") (CX := C8.CX0) rfl (by decide) (by kernel_rfl) ⟨rfl, by decide, by decide⟩ ?F (fun _ _ _ _ z => z)
    intro w mg fa h Y G hmg0
    obtain ⟨K, KX, c, ex⟩ := Y
    have hmg : mg ("law" : PySem.Str) = some (.ref fa) := by
      have e : (HandSHeadRun.topDef K01.R.prog 37).name = ("law" : PySem.Str) := by kernel_rfl
      rw [← e]
      exact hmg0
    obtain ⟨fd, hb, hF⟩ := K01.facts (P := (PySem.Challenge.rw_remainways_k01_words_places_judged).prog) (w := w) KX G hmg c ex
    exact ⟨K, fd, K01.spLaw K, KX, hb, fun H a ns hl _ hS => ⟨a, ns, rfl, hS, fun _ => rfl⟩, hF⟩
