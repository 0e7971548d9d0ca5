import PyProof.Rows.All
import Wide.All
import OpenK.AllK
import Wide.FinOn
import KE.KStateDown
import Open.SpecLaws
import KE.OsGo
import HandS.Base
import HandS.Call
import HandS.List
import HandS.Comp
import HandS.Ends
import HandS.Iter
import HandS.Zip
import HandS.Words
import HandS.WordsList
import HandS.Spec
import HandS.HeadHook1
import HandS.HeadHook2
import HandS.HeadHook4
import KE.KMinKey
import HandS.SortKw
import HandS.Nested
import HandS.EndTab
import HandS.Head4
import PySem.Challenge.RW_wetwalk_s01_answers
set_option Elab.async false
set_option linter.all false
set_option maxRecDepth 100000
set_option maxHeartbeats 4000000
namespace Ww
open PySem PySem.Spec PyProof.Rows L2

/-! ### additions to the layer -/
section
variable {X : Cx}
/-- reading xs[i] (i not negative), for xs[i] op= e -/
def rGetL (K : PySem.W.Frag) : V → V → Hp → VK → Prop := fun o i H Q =>
  ∃ (p : Addr) (xs : List V) (j : Nat) (v : V), o = .ref p ∧ i = .int (j : Int) ∧ SqL K H p xs ∧ xs[j]? = some v ∧ Q v H
theorem get_list : PGet X (rGetL X.K) := by
  intro pins s σ H o i ov iv Q I ro ri h
  obtain ⟨p, xs, j, z, rfl, rfl, hq, hz, q⟩ := h
  cases ro
  obtain ⟨t, rfl⟩ := ri
  obtain ⟨its, r, pl, hsz⟩ := I.list hq
  obtain ⟨u, eu, ru⟩ := r.get hz
  have hj : j < xs.length := by
    rcases Nat.lt_or_ge j xs.length with a | a
    · exact a
    · rw [List.getElem?_eq_none a] at hz
      cases hz
  have hl := r.length
  have hn := line63
  refine wpAny_getItem_list (x := u) pl.isList (by omega) (by omega) ?_ ⟨z, H, I, ru, q⟩
  simpa using eu
/-- a module's whole number -/
theorem pe_num {x : Str} {i : Int} {pos : Pos} (hg : Gl X x) (h : ∃ t, X.mg x = some (.int i t))
    (hd : (x == ("__debug__" : Str)) = false := by decide) : PE X (.Name x pos) (tC (.int i)) := by
  obtain ⟨t, e⟩ := h
  exact pe_glob hg e ⟨t, rfl⟩ hd
/-- a module's object -/
theorem pe_obj {x : Str} {a : Addr} {pos : Pos} (hg : Gl X x) (h : X.mg x = some (.ref a))
    (hd : (x == ("__debug__" : Str)) = false := by decide) : PE X (.Name x pos) (tC (.ref a)) := pe_glob (v := .ref a) hg h rfl hd
end

/-- a def that lets no error out, as its callers know it -/
structure Def (P : Program) (w : World) (K : PySem.W.Frag) (mg : Str → Option Value) (base : Heap) (k : Nat) (f : Addr) (ps : List Str) (sp : Sp) : Prop where
  ex : ∃ fd, FnOk P w K mg base CX0 k f fd ps sp ∧ Binds K fd ps []
  kp : PySem.W.keepIn K (.ref f) = true

end Ww
namespace Ww
open PySem PySem.Spec PyProof.Rows L2
/-! ### the text -/
/-- the i-th statement of the program -/
def top (i : Nat) : Stmt := PySem.Challenge.pw_wetwalk_s01_answers.main.body.getD i (.Pass ⟨0, 0, 0, 0⟩)
abbrev s_is_route : Stmt := top 3
abbrev s_is_weather : Stmt := top 4
abbrev s_gets_wet : Stmt := top 5
abbrev s_after_way : Stmt := top 6
abbrev s_wet_ways : Stmt := top 7
abbrev s_least_needed : Stmt := top 8
abbrev s_all_put : Stmt := top 9
abbrev s_best_put : Stmt := top 10
abbrev s_dry_choices : Stmt := top 11
abbrev s_weigh_weathers : Stmt := top 12
abbrev s_lowest_terms : Stmt := top 13
abbrev s_Walker_init : Stmt := inClass (top 34) 0
abbrev s_Walker_has_begun : Stmt := inClass (top 34) 1
abbrev s_Walker_has_place : Stmt := inClass (top 34) 2
abbrev s_Walker_begin : Stmt := inClass (top 34) 3
abbrev s_Walker_go : Stmt := inClass (top 34) 4
abbrev s_Walker_bring : Stmt := inClass (top 34) 5
abbrev s_Walker_lose : Stmt := inClass (top 34) 6
abbrev s_Walker_try_ways : Stmt := inClass (top 34) 7
abbrev s_Walker_least : Stmt := inClass (top 34) 8
abbrev s_Walker_best : Stmt := inClass (top 34) 9
abbrev s_Walker_carried : Stmt := inClass (top 34) 10
abbrev s_Walker_chance : Stmt := inClass (top 34) 11
abbrev s_Walker_look : Stmt := inClass (top 34) 12
abbrev s_Reader_init : Stmt := inClass (top 35) 0
abbrev s_Reader_is_done : Stmt := inClass (top 35) 1
abbrev s_Reader_take : Stmt := inClass (top 35) 2
abbrev s_Reader_take_numbers : Stmt := inClass (top 35) 3
abbrev s_Reader_take_rows : Stmt := inClass (top 35) 4
abbrev s_takes_route : Stmt := top 36
abbrev s_are_route_rows : Stmt := top 37
abbrev s_answer_call : Stmt := top 38
abbrev s_answers : Stmt := top 39
theorem sc_is_route : FnScope ["route", "places", "place"] ["route", "places"] (defScope s_is_route) := ⟨rfl, rfl, rfl, by decide +kernel, rfl, by decide +kernel, by decide +kernel⟩
theorem sc_is_weather : FnScope ["weather", "route", "rains"] ["weather", "route"] (defScope s_is_weather) := ⟨rfl, rfl, rfl, by decide +kernel, rfl, by decide +kernel, by decide +kernel⟩
theorem sc_gets_wet : FnScope ["umbrellas", "here", "rains"] ["umbrellas", "here", "rains"] (defScope s_gets_wet) := ⟨rfl, rfl, rfl, by decide +kernel, rfl, by decide +kernel, by decide +kernel⟩
theorem sc_after_way : FnScope ["umbrellas", "here", "place", "rains", "carried", "after"] ["umbrellas", "here", "place", "rains", "carried"] (defScope s_after_way) := ⟨rfl, rfl, rfl, by decide +kernel, rfl, by decide +kernel, by decide +kernel⟩
theorem sc_wet_ways : FnScope ["umbrellas", "here", "route", "weather", "wet", "place", "rains"] ["umbrellas", "here", "route", "weather"] (defScope s_wet_ways) := ⟨rfl, rfl, rfl, by decide +kernel, rfl, by decide +kernel, by decide +kernel⟩
theorem sc_least_needed : FnScope ["places", "here", "route", "weather", "needed", "umbrellas", "place", "rains"] ["places", "here", "route", "weather"] (defScope s_least_needed) := ⟨rfl, rfl, rfl, by decide +kernel, rfl, by decide +kernel, by decide +kernel⟩
theorem sc_all_put : FnScope ["n", "places", "started", "longer", "first", "left", "kept"] ["n", "places"] (defScope s_all_put) := ⟨rfl, rfl, rfl, by decide +kernel, rfl, by decide +kernel, by decide +kernel⟩
theorem sc_best_put : FnScope ["n", "places", "here", "route", "weather", "how_often"] ["n", "places", "here", "route", "weather"] (defScope s_best_put) := ⟨rfl, rfl, rfl, by decide +kernel, rfl, by decide +kernel, by decide +kernel⟩
theorem sc_dry_choices : FnScope ["umbrellas", "here", "route", "weather", "started", "place", "rains", "longer", "lying", "choice"] ["umbrellas", "here", "route", "weather"] (defScope s_dry_choices) := ⟨rfl, rfl, rfl, by decide +kernel, rfl, by decide +kernel, by decide +kernel⟩
theorem sc_weigh_weathers : FnScope ["umbrellas", "here", "route", "a", "b", "started", "place", "longer", "lying", "weight", "wet"] ["umbrellas", "here", "route", "a", "b"] (defScope s_weigh_weathers) := ⟨rfl, rfl, rfl, by decide +kernel, rfl, by decide +kernel, by decide +kernel⟩
theorem sc_lowest_terms : FnScope ["divided", "by", "common", "rest", "smaller"] ["divided", "by"] (defScope s_lowest_terms) := ⟨rfl, rfl, rfl, by decide +kernel, rfl, by decide +kernel, by decide +kernel⟩
theorem sc_Walker_init : FnScope ["self"] ["self"] (defScope s_Walker_init) := ⟨rfl, rfl, rfl, by decide +kernel, rfl, by decide +kernel, by decide +kernel⟩
theorem sc_Walker_has_begun : FnScope ["self"] ["self"] (defScope s_Walker_has_begun) := ⟨rfl, rfl, rfl, by decide +kernel, rfl, by decide +kernel, by decide +kernel⟩
theorem sc_Walker_has_place : FnScope ["self", "place"] ["self", "place"] (defScope s_Walker_has_place) := ⟨rfl, rfl, rfl, by decide +kernel, rfl, by decide +kernel, by decide +kernel⟩
theorem sc_Walker_begin : FnScope ["self", "place", "umbrellas", "places"] ["self", "place", "umbrellas"] (defScope s_Walker_begin) := ⟨rfl, rfl, rfl, by decide +kernel, rfl, by decide +kernel, by decide +kernel⟩
theorem sc_Walker_go : FnScope ["self", "place", "rains", "carried", "wet"] ["self", "place", "rains", "carried"] (defScope s_Walker_go) := ⟨rfl, rfl, rfl, by decide +kernel, rfl, by decide +kernel, by decide +kernel⟩
theorem sc_Walker_bring : FnScope ["self", "place"] ["self", "place"] (defScope s_Walker_bring) := ⟨rfl, rfl, rfl, by decide +kernel, rfl, by decide +kernel, by decide +kernel⟩
theorem sc_Walker_lose : FnScope ["self", "place"] ["self", "place"] (defScope s_Walker_lose) := ⟨rfl, rfl, rfl, by decide +kernel, rfl, by decide +kernel, by decide +kernel⟩
theorem sc_Walker_try_ways : FnScope ["self", "route", "weather", "wet"] ["self", "route", "weather"] (defScope s_Walker_try_ways) := ⟨rfl, rfl, rfl, by decide +kernel, rfl, by decide +kernel, by decide +kernel⟩
theorem sc_Walker_least : FnScope ["self", "route", "weather", "needed"] ["self", "route", "weather"] (defScope s_Walker_least) := ⟨rfl, rfl, rfl, by decide +kernel, rfl, by decide +kernel, by decide +kernel⟩
theorem sc_Walker_best : FnScope ["self", "n", "route", "weather", "put"] ["self", "n", "route", "weather"] (defScope s_Walker_best) := ⟨rfl, rfl, rfl, by decide +kernel, rfl, by decide +kernel, by decide +kernel⟩
theorem sc_Walker_carried : FnScope ["self", "route", "weather", "choices", "fewest"] ["self", "route", "weather"] (defScope s_Walker_carried) := ⟨rfl, rfl, rfl, by decide +kernel, rfl, by decide +kernel, by decide +kernel⟩
theorem sc_Walker_chance : FnScope ["self", "a", "b", "route", "weathers", "whole", "dry", "wet_in_all", "weight", "wet"] ["self", "a", "b", "route"] (defScope s_Walker_chance) := ⟨rfl, rfl, rfl, by decide +kernel, rfl, by decide +kernel, by decide +kernel⟩
theorem sc_Walker_look : FnScope ["self"] ["self"] (defScope s_Walker_look) := ⟨rfl, rfl, rfl, by decide +kernel, rfl, by decide +kernel, by decide +kernel⟩
theorem sc_Reader_init : FnScope ["self", "calls"] ["self", "calls"] (defScope s_Reader_init) := ⟨rfl, rfl, rfl, by decide +kernel, rfl, by decide +kernel, by decide +kernel⟩
theorem sc_Reader_is_done : FnScope ["self"] ["self"] (defScope s_Reader_is_done) := ⟨rfl, rfl, rfl, by decide +kernel, rfl, by decide +kernel, by decide +kernel⟩
theorem sc_Reader_take : FnScope ["self", "number"] ["self"] (defScope s_Reader_take) := ⟨rfl, rfl, rfl, by decide +kernel, rfl, by decide +kernel, by decide +kernel⟩
theorem sc_Reader_take_numbers : FnScope ["self", "how_many", "start"] ["self", "how_many"] (defScope s_Reader_take_numbers) := ⟨rfl, rfl, rfl, by decide +kernel, rfl, by decide +kernel, by decide +kernel⟩
theorem sc_Reader_take_rows : FnScope ["self", "how_many", "rows"] ["self", "how_many"] (defScope s_Reader_take_rows) := ⟨rfl, rfl, rfl, by decide +kernel, rfl, by decide +kernel, by decide +kernel⟩
theorem sc_takes_route : FnScope ["call"] ["call"] (defScope s_takes_route) := ⟨rfl, rfl, rfl, by decide +kernel, rfl, by decide +kernel, by decide +kernel⟩
theorem sc_are_route_rows : FnScope ["rows", "places"] ["rows", "places"] (defScope s_are_route_rows) := ⟨rfl, rfl, rfl, by decide +kernel, rfl, by decide +kernel, by decide +kernel⟩
theorem sc_answer_call : FnScope ["walker", "call", "numbers", "rows"] ["walker", "call", "numbers", "rows"] (defScope s_answer_call) := ⟨rfl, rfl, rfl, by decide +kernel, rfl, by decide +kernel, by decide +kernel⟩
theorem sc_answers : FnScope ["calls", "walker", "reader", "answered", "call", "numbers", "rows", "answer"] ["calls"] (defScope s_answers) := ⟨rfl, rfl, rfl, by decide +kernel, rfl, by decide +kernel, by decide +kernel⟩
/-! ### what the top leaves -/
/-- an item of a written tuple, an object -/
def itAt (K : PySem.W.Frag) (x : Str) (i : Nat) : Addr := match K.lookup (He.ga K x) with
  | some ⟨_, _, .seq its _, _⟩ => (match its.toList[i]? with
    | some (.ref a) => a
    | _ => 0)
  | _ => 0
/-- a written tuple of these values stands at a -/
def tupAt (K : PySem.W.Frag) (a : Addr) (vs : List V) : Bool := match K.lookup a with
  | some o => decide (o.cls = .type "tuple") && (match o.data with
    | .seq its _ => decide (its.size ≤ sizeLine) && He.relAll vs its.toList
    | _ => false)
  | none => false
theorem tupAt_ok {K : PySem.W.Frag} {a : Addr} {vs : List V} (h : tupAt K a vs = true) (H : Hp) : SqT K H a vs := by
  unfold tupAt at h
  cases q : K.lookup a with
  | none => rw [q] at h; cases h
  | some o =>
    rw [q] at h
    obtain ⟨h1, h2⟩ := He.ba h
    cases e : o.data with
    | seq its n =>
      rw [e] at h2
      obtain ⟨h3, h4⟩ := He.ba h2
      exact .inr ⟨o, its, n, q, of_decide_eq_true h1, e, of_decide_eq_true h3, He.relAll_ok h4⟩
    | _ => rw [e] at h2; cases h2
def tabB_SHAPES (K : PySem.W.Frag) : Bool := tupAt K (He.ga K "SHAPES") [.ref (itAt K "SHAPES" 0), .ref (itAt K "SHAPES" 1), .ref (itAt K "SHAPES" 2), .ref (itAt K "SHAPES" 3), .ref (itAt K "SHAPES" 4), .ref (itAt K "SHAPES" 5), .ref (itAt K "SHAPES" 6), .ref (itAt K "SHAPES" 7), .ref (itAt K "SHAPES" 8), .ref (itAt K "SHAPES" 9)] &&
  tupAt K (itAt K "SHAPES" 0) [.int 1, .int 1] &&
  tupAt K (itAt K "SHAPES" 1) [.int 3, .int 0] &&
  tupAt K (itAt K "SHAPES" 2) [.int 1, .int 0] &&
  tupAt K (itAt K "SHAPES" 3) [.int 1, .int 0] &&
  tupAt K (itAt K "SHAPES" 4) [.int 0, .int 2] &&
  tupAt K (itAt K "SHAPES" 5) [.int 0, .int 2] &&
  tupAt K (itAt K "SHAPES" 6) [.int 1, .int 2] &&
  tupAt K (itAt K "SHAPES" 7) [.int 0, .int 2] &&
  tupAt K (itAt K "SHAPES" 8) [.int 2, .int 1] &&
  tupAt K (itAt K "SHAPES" 9) [.int 0, .int 0]
structure Txt (K : PySem.W.Frag) (mg : Str → Option Value) : Prop where
  g_is_route : mg "is_route" = some (.ref (He.ga K "is_route"))
  k_is_route : PySem.W.keepIn K (.ref (He.ga K "is_route")) = true
  g_is_weather : mg "is_weather" = some (.ref (He.ga K "is_weather"))
  k_is_weather : PySem.W.keepIn K (.ref (He.ga K "is_weather")) = true
  g_gets_wet : mg "gets_wet" = some (.ref (He.ga K "gets_wet"))
  k_gets_wet : PySem.W.keepIn K (.ref (He.ga K "gets_wet")) = true
  g_after_way : mg "after_way" = some (.ref (He.ga K "after_way"))
  k_after_way : PySem.W.keepIn K (.ref (He.ga K "after_way")) = true
  g_wet_ways : mg "wet_ways" = some (.ref (He.ga K "wet_ways"))
  k_wet_ways : PySem.W.keepIn K (.ref (He.ga K "wet_ways")) = true
  g_least_needed : mg "least_needed" = some (.ref (He.ga K "least_needed"))
  k_least_needed : PySem.W.keepIn K (.ref (He.ga K "least_needed")) = true
  g_all_put : mg "all_put" = some (.ref (He.ga K "all_put"))
  k_all_put : PySem.W.keepIn K (.ref (He.ga K "all_put")) = true
  g_best_put : mg "best_put" = some (.ref (He.ga K "best_put"))
  k_best_put : PySem.W.keepIn K (.ref (He.ga K "best_put")) = true
  g_dry_choices : mg "dry_choices" = some (.ref (He.ga K "dry_choices"))
  k_dry_choices : PySem.W.keepIn K (.ref (He.ga K "dry_choices")) = true
  g_weigh_weathers : mg "weigh_weathers" = some (.ref (He.ga K "weigh_weathers"))
  k_weigh_weathers : PySem.W.keepIn K (.ref (He.ga K "weigh_weathers")) = true
  g_lowest_terms : mg "lowest_terms" = some (.ref (He.ga K "lowest_terms"))
  k_lowest_terms : PySem.W.keepIn K (.ref (He.ga K "lowest_terms")) = true
  g_takes_route : mg "takes_route" = some (.ref (He.ga K "takes_route"))
  k_takes_route : PySem.W.keepIn K (.ref (He.ga K "takes_route")) = true
  g_are_route_rows : mg "are_route_rows" = some (.ref (He.ga K "are_route_rows"))
  k_are_route_rows : PySem.W.keepIn K (.ref (He.ga K "are_route_rows")) = true
  g_answer_call : mg "answer_call" = some (.ref (He.ga K "answer_call"))
  k_answer_call : PySem.W.keepIn K (.ref (He.ga K "answer_call")) = true
  g_answers : mg "answers" = some (.ref (He.ga K "answers"))
  k_answers : PySem.W.keepIn K (.ref (He.ga K "answers")) = true
  g_Walker : mg "Walker" = some (.ref (He.ga K "Walker"))
  cl_Walker : Cls K (He.ga K "Walker")
  mk_Walker : Mk K (He.ga K "Walker") (He.ma K (He.ga K "Walker") "__init__")
  n_Walker_umbrellas : NoAttr K (He.ga K "Walker") "umbrellas"
  n_Walker_here : NoAttr K (He.ga K "Walker") "here"
  n_Walker_gone : NoAttr K (He.ga K "Walker") "gone"
  n_Walker_wet : NoAttr K (He.ga K "Walker") "wet"
  n_Walker_come : NoAttr K (He.ga K "Walker") "come"
  n_Walker_lost : NoAttr K (He.ga K "Walker") "lost"
  m_Walker_init : Meth K (He.ga K "Walker") "__init__" (He.ma K (He.ga K "Walker") "__init__")
  m_Walker_has_begun : Meth K (He.ga K "Walker") "has_begun" (He.ma K (He.ga K "Walker") "has_begun")
  m_Walker_has_place : Meth K (He.ga K "Walker") "has_place" (He.ma K (He.ga K "Walker") "has_place")
  m_Walker_begin : Meth K (He.ga K "Walker") "begin" (He.ma K (He.ga K "Walker") "begin")
  m_Walker_go : Meth K (He.ga K "Walker") "go" (He.ma K (He.ga K "Walker") "go")
  m_Walker_bring : Meth K (He.ga K "Walker") "bring" (He.ma K (He.ga K "Walker") "bring")
  m_Walker_lose : Meth K (He.ga K "Walker") "lose" (He.ma K (He.ga K "Walker") "lose")
  m_Walker_try_ways : Meth K (He.ga K "Walker") "try_ways" (He.ma K (He.ga K "Walker") "try_ways")
  m_Walker_least : Meth K (He.ga K "Walker") "least" (He.ma K (He.ga K "Walker") "least")
  m_Walker_best : Meth K (He.ga K "Walker") "best" (He.ma K (He.ga K "Walker") "best")
  m_Walker_carried : Meth K (He.ga K "Walker") "carried" (He.ma K (He.ga K "Walker") "carried")
  m_Walker_chance : Meth K (He.ga K "Walker") "chance" (He.ma K (He.ga K "Walker") "chance")
  m_Walker_look : Meth K (He.ga K "Walker") "look" (He.ma K (He.ga K "Walker") "look")
  g_Reader : mg "Reader" = some (.ref (He.ga K "Reader"))
  cl_Reader : Cls K (He.ga K "Reader")
  mk_Reader : Mk K (He.ga K "Reader") (He.ma K (He.ga K "Reader") "__init__")
  n_Reader_calls : NoAttr K (He.ga K "Reader") "calls"
  n_Reader_at : NoAttr K (He.ga K "Reader") "at"
  m_Reader_init : Meth K (He.ga K "Reader") "__init__" (He.ma K (He.ga K "Reader") "__init__")
  m_Reader_is_done : Meth K (He.ga K "Reader") "is_done" (He.ma K (He.ga K "Reader") "is_done")
  m_Reader_take : Meth K (He.ga K "Reader") "take" (He.ma K (He.ga K "Reader") "take")
  m_Reader_take_numbers : Meth K (He.ga K "Reader") "take_numbers" (He.ma K (He.ga K "Reader") "take_numbers")
  m_Reader_take_rows : Meth K (He.ga K "Reader") "take_rows" (He.ma K (He.ga K "Reader") "take_rows")
  c_FEWEST_WAYS : ∃ t, mg "FEWEST_WAYS" = some (.int (1) t)
  c_MOST_WAYS : ∃ t, mg "MOST_WAYS" = some (.int (8) t)
  c_FEWEST_PLACES : ∃ t, mg "FEWEST_PLACES" = some (.int (2) t)
  c_MOST_PLACES : ∃ t, mg "MOST_PLACES" = some (.int (4) t)
  c_MOST_UMBRELLAS : ∃ t, mg "MOST_UMBRELLAS" = some (.int (6) t)
  c_NOT_GRANTED : ∃ t, mg "NOT_GRANTED" = some (.int (-1) t)
  c_NO_SUCH_PLACE : ∃ t, mg "NO_SUCH_PLACE" = some (.int (-2) t)
  c_TOO_MANY : ∃ t, mg "TOO_MANY" = some (.int (-5) t)
  c_NONE_THERE : ∃ t, mg "NONE_THERE" = some (.int (-6) t)
  c_WET_ANYWAY : ∃ t, mg "WET_ANYWAY" = some (.int (-6) t)
  c_NOBODY_THERE : ∃ t, mg "NOBODY_THERE" = some (.int (-9) t)
  c_BEGIN : ∃ t, mg "BEGIN" = some (.int (0) t)
  c_GO : ∃ t, mg "GO" = some (.int (1) t)
  c_BRING : ∃ t, mg "BRING" = some (.int (2) t)
  c_LOSE : ∃ t, mg "LOSE" = some (.int (3) t)
  c_TRY_WAYS : ∃ t, mg "TRY_WAYS" = some (.int (4) t)
  c_LEAST : ∃ t, mg "LEAST" = some (.int (5) t)
  c_BEST : ∃ t, mg "BEST" = some (.int (6) t)
  c_CARRIED : ∃ t, mg "CARRIED" = some (.int (7) t)
  c_CHANCE : ∃ t, mg "CHANCE" = some (.int (8) t)
  g_SHAPES : mg "SHAPES" = some (.ref (He.ga K "SHAPES"))
  b_all : mg "all" = none
  b_len : mg "len" = none
  b_list : mg "list" = none
  b_min : mg "min" = none
  b_range : mg "range" = none
  b_sum : mg "sum" = none
  b_zip : mg "zip" = none
  F_is_route : ∃ fd, Fun K "is_route" "is_route" s_is_route (He.ga K "is_route") fd
  F_is_weather : ∃ fd, Fun K "is_weather" "is_weather" s_is_weather (He.ga K "is_weather") fd
  F_gets_wet : ∃ fd, Fun K "gets_wet" "gets_wet" s_gets_wet (He.ga K "gets_wet") fd
  F_after_way : ∃ fd, Fun K "after_way" "after_way" s_after_way (He.ga K "after_way") fd
  F_wet_ways : ∃ fd, Fun K "wet_ways" "wet_ways" s_wet_ways (He.ga K "wet_ways") fd
  F_least_needed : ∃ fd, Fun K "least_needed" "least_needed" s_least_needed (He.ga K "least_needed") fd
  F_all_put : ∃ fd, Fun K "all_put" "all_put" s_all_put (He.ga K "all_put") fd
  F_best_put : ∃ fd, Fun K "best_put" "best_put" s_best_put (He.ga K "best_put") fd
  F_dry_choices : ∃ fd, Fun K "dry_choices" "dry_choices" s_dry_choices (He.ga K "dry_choices") fd
  F_weigh_weathers : ∃ fd, Fun K "weigh_weathers" "weigh_weathers" s_weigh_weathers (He.ga K "weigh_weathers") fd
  F_lowest_terms : ∃ fd, Fun K "lowest_terms" "lowest_terms" s_lowest_terms (He.ga K "lowest_terms") fd
  F_Walker_init : ∃ fd, Fun K "__init__" "Walker.__init__" s_Walker_init (He.ma K (He.ga K "Walker") "__init__") fd
  F_Walker_has_begun : ∃ fd, Fun K "has_begun" "Walker.has_begun" s_Walker_has_begun (He.ma K (He.ga K "Walker") "has_begun") fd
  F_Walker_has_place : ∃ fd, Fun K "has_place" "Walker.has_place" s_Walker_has_place (He.ma K (He.ga K "Walker") "has_place") fd
  F_Walker_begin : ∃ fd, Fun K "begin" "Walker.begin" s_Walker_begin (He.ma K (He.ga K "Walker") "begin") fd
  F_Walker_go : ∃ fd, Fun K "go" "Walker.go" s_Walker_go (He.ma K (He.ga K "Walker") "go") fd
  F_Walker_bring : ∃ fd, Fun K "bring" "Walker.bring" s_Walker_bring (He.ma K (He.ga K "Walker") "bring") fd
  F_Walker_lose : ∃ fd, Fun K "lose" "Walker.lose" s_Walker_lose (He.ma K (He.ga K "Walker") "lose") fd
  F_Walker_try_ways : ∃ fd, Fun K "try_ways" "Walker.try_ways" s_Walker_try_ways (He.ma K (He.ga K "Walker") "try_ways") fd
  F_Walker_least : ∃ fd, Fun K "least" "Walker.least" s_Walker_least (He.ma K (He.ga K "Walker") "least") fd
  F_Walker_best : ∃ fd, Fun K "best" "Walker.best" s_Walker_best (He.ma K (He.ga K "Walker") "best") fd
  F_Walker_carried : ∃ fd, Fun K "carried" "Walker.carried" s_Walker_carried (He.ma K (He.ga K "Walker") "carried") fd
  F_Walker_chance : ∃ fd, Fun K "chance" "Walker.chance" s_Walker_chance (He.ma K (He.ga K "Walker") "chance") fd
  F_Walker_look : ∃ fd, Fun K "look" "Walker.look" s_Walker_look (He.ma K (He.ga K "Walker") "look") fd
  F_Reader_init : ∃ fd, Fun K "__init__" "Reader.__init__" s_Reader_init (He.ma K (He.ga K "Reader") "__init__") fd
  F_Reader_is_done : ∃ fd, Fun K "is_done" "Reader.is_done" s_Reader_is_done (He.ma K (He.ga K "Reader") "is_done") fd
  F_Reader_take : ∃ fd, Fun K "take" "Reader.take" s_Reader_take (He.ma K (He.ga K "Reader") "take") fd
  F_Reader_take_numbers : ∃ fd, Fun K "take_numbers" "Reader.take_numbers" s_Reader_take_numbers (He.ma K (He.ga K "Reader") "take_numbers") fd
  F_Reader_take_rows : ∃ fd, Fun K "take_rows" "Reader.take_rows" s_Reader_take_rows (He.ma K (He.ga K "Reader") "take_rows") fd
  F_takes_route : ∃ fd, Fun K "takes_route" "takes_route" s_takes_route (He.ga K "takes_route") fd
  F_are_route_rows : ∃ fd, Fun K "are_route_rows" "are_route_rows" s_are_route_rows (He.ga K "are_route_rows") fd
  F_answer_call : ∃ fd, Fun K "answer_call" "answer_call" s_answer_call (He.ga K "answer_call") fd
  F_answers : ∃ fd, Fun K "answers" "answers" s_answers (He.ga K "answers") fd
  q_SHAPES : tabB_SHAPES K = true
/-- the def within best_put -/
abbrev s_how_often : Stmt := (defBody s_best_put).getD 0 (.Pass ⟨0, 0, 0, 0⟩)
/-- best_put's code object, the table of what is made in it -/
def cb (K : PySem.W.Frag) : Addr := (He.cT K ("best_put", none)).1
def tb (K : PySem.W.Frag) : Addr := (He.cT K ("best_put", none)).2
structure TabSays (K : PySem.W.Frag) (h : Heap) : Prop where
  hd : PySem.W.codeHdIn K (cb K) (tb K) = true
  out : K.lookup (tb K) = none
  empty : h.get? (tb K) = some { cls := .none, data := .fields #[] }
end Ww
/-! the mathematics: plain Lean over the specification -/
namespace Ww
open Mu44
def b2n (b : Bool) : Nat := if b = true then 1 else 0
def mk (t x c : Nat) : Way := ⟨t, x == 1, c == 1⟩
theorem goes_here (s : Stand) (w : Way) : (goes s w).1.here = w.to := by
  unfold goes
  split <;> rfl
theorem moved_len (l : List Nat) (i j : Nat) : (moved l i j).length = l.length := by
  unfold moved
  simp
theorem goes_len (s : Stand) (w : Way) : (goes s w).1.at_.length = s.at_.length := by
  unfold goes
  split
  · exact moved_len _ _ _
  · rfl
/-- wet or not hangs on the rain and the stock alone -/
theorem goes_wet (l : List Nat) (h t x c : Nat) : (goes ⟨l, h⟩ (mk t x c)).2 = (decide (x = 1) && decide (l.getD h 0 = 0)) := by
  have e : (x == 1) = decide (x = 1) := by
    by_cases q : x = 1
    · subst q; rfl
    · rw [decide_eq_false q]; exact beq_eq_false_iff_ne.mpr q
  unfold goes mk stock
  rw [e]
  by_cases q : x = 1
  · by_cases z : l.getD h 0 = 0
    · rw [if_neg (by rw [z]; omega), decide_eq_true z, decide_eq_true q]
      rfl
    · rw [if_pos ⟨by rw [decide_eq_true q]; rfl, show 0 < l.getD h 0 by omega⟩, decide_eq_false z, Bool.and_false]
  · simp only [q, decide_false, Bool.false_and]
    split <;> rfl
theorem goes_after (l : List Nat) (h t x c : Nat) : (goes ⟨l, h⟩ (mk t x c)).1.at_ = if 0 < l.getD h 0 ∧ (x = 1 ∨ c = 1) then moved l h t else l := by
  unfold goes mk stock
  by_cases q : 0 < l.getD h 0
  · by_cases a : x = 1
    · subst a; simp only [q]; rfl
    · by_cases b : c = 1
      · subst b
        have : (x == 1) = false := beq_eq_false_iff_ne.mpr a
        simp only [q, a, this]
        rfl
      · have e1 : (x == 1) = false := beq_eq_false_iff_ne.mpr a
        have e2 : (c == 1) = false := beq_eq_false_iff_ne.mpr b
        rw [if_neg (by rw [e1, e2]; simp), if_neg (by omega)]
  · rw [if_neg (fun z => q z.2), if_neg (fun z => q z.1)]
theorem goes_eq (l : List Nat) (h t x c : Nat) : (goes ⟨l, h⟩ (mk t x c)).1 = ⟨if 0 < l.getD h 0 ∧ (x = 1 ∨ c = 1) then moved l h t else l, t⟩ := by
  have a := goes_after l h t x c
  have b := goes_here ⟨l, h⟩ (mk t x c)
  revert a b
  generalize (goes ⟨l, h⟩ (mk t x c)).1 = s
  intro a b
  cases s with
  | mk u v =>
    have a' : u = _ := a
    have b' : v = t := b
    rw [a', b']
theorem wet_len : ∀ (l : List Way) (s : Stand), (wet s l).length = l.length
  | [], _ => rfl
  | w :: l, s => congrArg (· + 1) (wet_len l (goes s w).1)
/-- how things stand behind some ways -/
def gone (s : Stand) : List Way → Stand
  | [] => s
  | w :: l => gone (goes s w).1 l
theorem gone_append : ∀ (a b : List Way) (s : Stand), gone s (a ++ b) = gone (gone s a) b
  | [], _, _ => rfl
  | w :: a, b, s => gone_append a b (goes s w).1
theorem wet_append : ∀ (a b : List Way) (s : Stand), wet s (a ++ b) = wet s a ++ wet (gone s a) b
  | [], _, _ => rfl
  | w :: a, b, s => congrArg ((goes s w).2 :: ·) (wet_append a b (goes s w).1)
theorem gone_len : ∀ (a : List Way) (s : Stand), (gone s a).at_.length = s.at_.length
  | [], _ => rfl
  | w :: a, s => (gone_len a (goes s w).1).trans (goes_len s w)
/-- the ways of a route in some weather -/
def ways (r w : List Nat) : List Way := List.zipWith (fun (j x : Nat) => (⟨j, x == 1, false⟩ : Way)) r w
theorem ways_take {r w : List Nat} {i t x : Nat} (hr : r[i]? = some t) (hw : w[i]? = some x) : ways (r.take (i + 1)) (w.take (i + 1)) = ways (r.take i) (w.take i) ++ [mk t x 0] := by
  induction i generalizing r w with
  | zero =>
    cases r with
    | nil => cases hr
    | cons a r =>
      cases w with
      | nil => cases hw
      | cons b w =>
        cases hr
        cases hw
        rfl
  | succ i ih =>
    cases r with
    | nil => cases hr
    | cons a r =>
      cases w with
      | nil => cases hw
      | cons b w =>
        have := ih (r := r) (w := w) hr hw
        show _ :: ways (r.take (i + 1)) (w.take (i + 1)) = _ :: ways (r.take i) (w.take i) ++ [mk t x 0]
        rw [this]
        rfl
theorem wet_more {s : Stand} {r w : List Nat} {i t x : Nat} (hr : r[i]? = some t) (hw : w[i]? = some x) :
    wet s (ways (r.take (i + 1)) (w.take (i + 1))) = wet s (ways (r.take i) (w.take i)) ++ [(goes (gone s (ways (r.take i) (w.take i))) (mk t x 0)).2] := by
  rw [ways_take hr hw, wet_append]
  rfl
theorem gone_more {s : Stand} {r w : List Nat} {i t x : Nat} (hr : r[i]? = some t) (hw : w[i]? = some x) :
    gone s (ways (r.take (i + 1)) (w.take (i + 1))) = (goes (gone s (ways (r.take i) (w.take i))) (mk t x 0)).1 := by
  rw [ways_take hr hw, gone_append]
  rfl
theorem ways_len (r w : List Nat) (h : w.length = r.length) : (ways r w).length = r.length := by
  unfold ways
  rw [List.length_zipWith, h, Nat.min_self]
theorem here_lt {s : Stand} {n : Nat} : ∀ (a : List Way), (∀ v ∈ a, v.to < n) → s.here < n → (gone s a).here < n := by
  intro a
  induction a generalizing s with
  | nil => intro _ h; exact h
  | cons w a ih =>
    intro h _
    refine ih (s := (goes s w).1) (fun v hv => h v (List.mem_cons_of_mem _ hv)) ?_
    rw [goes_here]
    exact h w (List.mem_cons_self ..)
theorem ways_to : ∀ {r w : List Nat} {v : Way}, v ∈ ways r w → v.to ∈ r
  | [], _, v, h => by cases h
  | a :: r, [], v, h => by cases h
  | a :: r, b :: w, v, h => by
    rcases List.mem_cons.mp (show v ∈ (⟨a, b == 1, false⟩ : Way) :: ways r w from h) with e | e
    · rw [e]
      exact List.mem_cons_self ..
    · exact List.mem_cons_of_mem _ (ways_to e)
theorem sum_b2n : ∀ (l : List Bool), ((l.map b2n).sum) = (l.filter fun b => b).length
  | [] => rfl
  | true :: l => by
    show b2n true + (l.map b2n).sum = _
    rw [sum_b2n l]
    simp [b2n, Nat.add_comm]
  | false :: l => by
    show b2n false + (l.map b2n).sum = _
    rw [sum_b2n l]
    simp [b2n]
theorem total_sum (l : List Nat) : total l = l.sum := by
  unfold total
  rw [List.sum_eq_foldl]
/-! ### rows -/
theorem row_inv {l x s : List Int} (h : PyFlat.row l = some (x, s)) : ∃ n : Nat, l = (n : Int) :: (x ++ s) ∧ x.length = n := by
  cases l with
  | nil => cases h
  | cons z r =>
    have h2 : (if 0 ≤ z ∧ z.toNat ≤ r.length then some (r.take z.toNat, r.drop z.toNat) else none) = some (x, s) := h
    by_cases c : 0 ≤ z ∧ z.toNat ≤ r.length
    · rw [if_pos c] at h2
      injection h2 with h3
      injection h3 with h4 h5
      subst h4 h5
      refine ⟨z.toNat, ?_, ?_⟩
      · rw [List.take_append_drop]
        exact congrArg (· :: r) (by omega)
      · rw [List.length_take]
        omega
    · rw [if_neg c] at h2
      cases h2
theorem rows_inv {k : Nat} {l t : List Int} {xs : List (List Int)} (h : PyFlat.rows (k + 1) l = some (xs, t)) :
    ∃ (x : List Int) (xs' : List (List Int)) (s : List Int), xs = x :: xs' ∧ l = (x.length : Int) :: (x ++ s) ∧ PyFlat.rows k s = some (xs', t) := by
  have h2 : (match PyFlat.row l with
    | none => none
    | some (x, s) => match PyFlat.rows k s with
      | none => none
      | some (ys, t) => some (x :: ys, t)) = some (xs, t) := h
  cases e : PyFlat.row l with
  | none => rw [e] at h2; cases h2
  | some p =>
    obtain ⟨x, s⟩ := p
    rw [e] at h2
    cases e2 : PyFlat.rows k s with
    | none => simp only [e2] at h2; cases h2
    | some q =>
      obtain ⟨ys, u⟩ := q
      simp only [e2] at h2
      injection h2 with h3
      injection h3 with h4 h5
      subst h4 h5
      obtain ⟨n, h6, h7⟩ := row_inv e
      exact ⟨x, ys, s, rfl, by rw [h7]; exact h6, e2⟩
theorem rows_zero {l t : List Int} {xs : List (List Int)} (h : PyFlat.rows 0 l = some (xs, t)) : xs = [] ∧ t = l := by
  have h2 : (some ([], l) : Option (List (List Int) × List Int)) = some (xs, t) := h
  injection h2 with h3
  injection h3 with h4 h5
  exact ⟨h4.symm, h5.symm⟩
theorem rows_len : ∀ {k : Nat} {l t : List Int} {xs : List (List Int)}, PyFlat.rows k l = some (xs, t) → xs.length = k
  | 0, _, _, _, h => by rw [(rows_zero h).1]; rfl
  | k + 1, _, _, _, h => by
    obtain ⟨x, xs', s, rfl, _, h2⟩ := rows_inv h
    rw [List.length_cons, rows_len h2]
theorem drop_here {l : List Int} {i : Nat} {z : Int} {r : List Int} (h : l.drop i = z :: r) : l[i]? = some z ∧ l.drop (i + 1) = r := by
  have a : (l.drop i)[0]? = l[i + 0]? := List.getElem?_drop
  rw [h] at a
  refine ⟨a.symm, ?_⟩
  rw [← List.drop_drop, h]
  rfl
end Ww
namespace Ww
open Mu44
/-! ### the calls of a list -/
theorem call_inv {p : Int} {l t : List Int} {c : List (List Int)} (h : PyFlat.call PyMu44.shape (p :: l) = some (c, t)) :
    ∃ (n k : Nat) (xs : List (List Int)), PyMu44.shape p = some (n, k) ∧ n ≤ l.length ∧ PyFlat.rows k (l.drop n) = some (xs, t) ∧ c = (p :: l.take n) :: xs := by
  have h2 : (match PyMu44.shape p with
    | none => none
    | some (n, k) => if l.length < n then none else match PyFlat.rows k (l.drop n) with
      | none => none
      | some (xs, t) => some ((p :: l.take n) :: xs, t)) = some (c, t) := h
  cases e : PyMu44.shape p with
  | none => rw [e] at h2; cases h2
  | some q =>
    obtain ⟨n, k⟩ := q
    rw [e] at h2
    dsimp only at h2
    by_cases z : l.length < n
    · rw [if_pos z] at h2
      cases h2
    · rw [if_neg z] at h2
      cases e2 : PyFlat.rows k (l.drop n) with
      | none => rw [e2] at h2; cases h2
      | some q =>
        obtain ⟨xs, u⟩ := q
        rw [e2] at h2
        injection h2 with h3
        injection h3 with h4 h5
        subst h4 h5
        exact ⟨n, k, xs, rfl, by omega, e2, rfl⟩
theorem calls_inv {f : Nat} {p : Int} {l : List Int} {cs : List (List (List Int))} (h : PyFlat.calls PyMu44.shape f (p :: l) = some cs) :
    ∃ (f' : Nat) (c : List (List Int)) (t : List Int) (cs' : List (List (List Int))), PyFlat.call PyMu44.shape (p :: l) = some (c, t) ∧ PyFlat.calls PyMu44.shape f' t = some cs' ∧ cs = c :: cs' := by
  cases f with
  | zero => cases h
  | succ f =>
    have h2 : (match PyFlat.call PyMu44.shape (p :: l) with
      | none => none
      | some (c, t) => match PyFlat.calls PyMu44.shape f t with
        | none => none
        | some cs => some (c :: cs)) = some cs := h
    cases e : PyFlat.call PyMu44.shape (p :: l) with
    | none => rw [e] at h2; cases h2
    | some q =>
      obtain ⟨c, t⟩ := q
      rw [e] at h2
      dsimp only at h2
      cases e2 : PyFlat.calls PyMu44.shape f t with
      | none => rw [e2] at h2; cases h2
      | some cs' =>
        rw [e2] at h2
        injection h2 with h3
        exact ⟨f, c, t, cs', rfl, e2, h3.symm⟩
theorem calls_nil {f : Nat} {cs : List (List (List Int))} (h : PyFlat.calls PyMu44.shape f [] = some cs) : cs = [] := by
  cases f <;> exact (Option.some.inj h).symm
theorem whole_id (c : List (List Int)) : PyMu44.whole c = c := by
  unfold PyMu44.whole
  split <;> rfl
theorem map_whole : ∀ cs : List (List (List Int)), cs.map PyMu44.whole = cs
  | [] => rfl
  | c :: cs => by rw [List.map_cons, whole_id, map_whole cs]
/-- what is asked, opened -/
theorem asked_inv {l : List Int} (h : PyMu44.answers_asked l = true) : ∃ cs, PyFlat.calls PyMu44.shape l.length l = some cs ∧ (∀ c ∈ cs, Mu44Neutral.asked1 c = true) ∧
    PyMu44.answers l = PyFlat.told (PyFlat.played Mu44Neutral.step Mu44Neutral.start cs) ∧ (PyMu44.answers l).length ≤ 10000000 := by
  unfold PyMu44.answers_asked at h
  cases e : PyFlat.calls PyMu44.shape l.length l with
  | none => rw [e] at h; cases h
  | some raw =>
    rw [e] at h
    dsimp only at h
    rw [Bool.and_eq_true, Bool.and_eq_true] at h
    obtain ⟨⟨_, h1⟩, h2⟩ := h
    rw [map_whole] at h1
    unfold Mu44Neutral.asked at h1
    rw [Bool.and_eq_true, Bool.and_eq_true] at h1
    refine ⟨raw, rfl, List.all_eq_true.mp h1.2.2, ?_, of_decide_eq_true h2⟩
    unfold PyMu44.answers PyMu44.calls
    rw [e]
    dsimp only
    rw [map_whole]
theorem shape_le {p : Int} {n k : Nat} (h : PyMu44.shape p = some (n, k)) : n ≤ 3 ∧ k ≤ 2 := by
  unfold PyMu44.shape at h
  repeat' (split at h)
  all_goals first
    | (cases h; exact ⟨by decide, by decide⟩)
    | cases h
theorem rows_short : ∀ {k : Nat} {l t : List Int} {xs : List (List Int)}, PyFlat.rows k l = some (xs, t) → t.length ≤ l.length
  | 0, _, _, _, h => by rw [(rows_zero h).2]; exact Nat.le_refl _
  | k + 1, _, _, _, h => by
    obtain ⟨x, xs', s, _, e, h2⟩ := rows_inv h
    have := rows_short h2
    rw [e, List.length_cons, List.length_append]
    omega
theorem rows_suffix : ∀ {k : Nat} {l t : List Int} {xs : List (List Int)}, PyFlat.rows k l = some (xs, t) → ∃ pre, l = pre ++ t
  | 0, l, _, _, h => by rw [(rows_zero h).2]; exact ⟨[], rfl⟩
  | k + 1, _, _, _, h => by
    obtain ⟨x, xs', s, _, e, h2⟩ := rows_inv h
    obtain ⟨pre, e2⟩ := rows_suffix h2
    exact ⟨(x.length : Int) :: (x ++ pre), by rw [e, e2, List.cons_append, List.append_assoc]⟩
/-- behind the rows stands what is left -/
theorem rows_drop {k i : Nat} {l t : List Int} {xs : List (List Int)} (h : PyFlat.rows k (l.drop i) = some (xs, t)) (hi : i ≤ l.length) : l.drop (l.length - t.length) = t := by
  obtain ⟨pre, e⟩ := rows_suffix h
  have e3 : l = (l.take i ++ pre) ++ t := by rw [List.append_assoc, ← e, List.take_append_drop]
  revert e3
  generalize l.take i ++ pre = m
  intro e3
  have hl : l.length - t.length = m.length := by
    have := congrArg List.length e3
    rw [List.length_append] at this
    omega
  rw [hl, e3]
  exact List.drop_left
theorem told_cons (a : List Int) (l : List (List Int)) : PyFlat.told (a :: l) = (a.length : Int) :: (a ++ PyFlat.told l) := by
  unfold PyFlat.told
  rw [List.flatMap_cons]
  rfl
theorem played_cons (s : Abs) (c : List (List Int)) (cs : List (List (List Int))) : PyFlat.played Mu44Neutral.step s (c :: cs) = (Mu44Neutral.step s c).2 :: PyFlat.played Mu44Neutral.step (Mu44Neutral.step s c).1 cs := rfl
/-! ### how things stand, always -/
def Wf : Abs → Prop
  | none => True
  | some s => 2 ≤ s.stand.at_.length ∧ s.stand.at_.length ≤ 4 ∧ s.stand.here < s.stand.at_.length
theorem step_wf (o : Abs) (c : Call) (h : Wf o) : Wf (Mu44.step o c).1 := by
  cases c with
  | begin_ p l =>
    unfold Mu44.step
    dsimp only
    split
    · exact h
    · rename_i z
      refine ⟨?_, ?_, ?_⟩ <;> dsimp only <;> omega
  | go j r c =>
    cases o with
    | none => exact trivial
    | some s =>
      obtain ⟨h1, h2, h3⟩ := h
      unfold Mu44.step
      dsimp only
      split
      · exact ⟨h1, h2, h3⟩
      · rename_i z
        unfold places at z
        refine ⟨?_, ?_, ?_⟩ <;> dsimp only
        · rw [goes_len]; exact h1
        · rw [goes_len]; exact h2
        · rw [goes_len, goes_here]; dsimp only; omega
  | bring i =>
    cases o with
    | none => exact trivial
    | some s =>
      obtain ⟨h1, h2, h3⟩ := h
      unfold Mu44.step
      dsimp only
      split
      · exact ⟨h1, h2, h3⟩
      · split
        · exact ⟨h1, h2, h3⟩
        · refine ⟨?_, ?_, ?_⟩ <;> dsimp only <;> rw [List.length_set] <;> assumption
  | lose i =>
    cases o with
    | none => exact trivial
    | some s =>
      obtain ⟨h1, h2, h3⟩ := h
      unfold Mu44.step
      dsimp only
      split
      · exact ⟨h1, h2, h3⟩
      · split
        · exact ⟨h1, h2, h3⟩
        · refine ⟨?_, ?_, ?_⟩ <;> dsimp only <;> rw [List.length_set] <;> assumption
  | try_ r w => cases o <;> exact h
  | least r w => cases o <;> exact h
  | best n r w => cases o <;> exact h
  | carried r w => cases o <;> exact h
  | chance a b r => cases o <;> exact h
  | look => cases o <;> exact h
theorem nstep_wf (o : Abs) (c : List (List Int)) (h : Wf o) : Wf (Mu44Neutral.step o c).1 := by
  unfold Mu44Neutral.step
  split
  · exact step_wf _ _ h
  · exact h
end Ww
namespace Ww
open Mu44
/-! ### a call as it is asked -/
def il (l : List Nat) : List Int := l.map fun (n : Nat) => (n : Int)
theorem nats_il : ∀ l : List Nat, Mu44Neutral.nats (il l) = l
  | [] => rfl
  | n :: l => by
    show (n : Int).toNat :: Mu44Neutral.nats (il l) = n :: l
    rw [nats_il l]
    rfl
theorem il_nats : ∀ l : List Int, l.all Mu44Neutral.nine = true → il (Mu44Neutral.nats l) = l
  | [], _ => rfl
  | z :: l, h => by
    rw [List.all_cons, Bool.and_eq_true] at h
    show ((z.toNat : Nat) : Int) :: il (Mu44Neutral.nats l) = z :: l
    rw [il_nats l h.2]
    have h1 : (decide (0 ≤ z) && decide (z ≤ 9)) = true := h.1
    rw [Bool.and_eq_true] at h1
    have := of_decide_eq_true h1.1
    rw [Int.toNat_of_nonneg this]
theorem nine_inv {z : Int} (h : Mu44Neutral.nine z = true) : ∃ n : Nat, z = (n : Int) ∧ n ≤ 9 := by
  have h1 : (decide (0 ≤ z) && decide (z ≤ 9)) = true := h
  rw [Bool.and_eq_true] at h1
  have a := of_decide_eq_true h1.1
  have b := of_decide_eq_true h1.2
  exact ⟨z.toNat, by omega, by omega⟩
theorem row_inv10 {l : List Int} (h : Mu44Neutral.row l = true) : ∃ r : List Nat, l = il r ∧ r.length ≤ 10 := by
  unfold Mu44Neutral.row at h
  rw [Bool.and_eq_true] at h
  refine ⟨Mu44Neutral.nats l, (il_nats l h.2).symm, ?_⟩
  unfold Mu44Neutral.nats
  rw [List.length_map]
  exact of_decide_eq_true h.1
inductive IsCall : Int → List Int → List (List Int) → Call → Prop
  | begin_ (h : Nat) (l : List Nat) : l.length ≤ 10 → IsCall 0 [(h : Int)] [il l] (.begin_ h l)
  | go (j r c : Nat) : IsCall 1 [(j : Int), (r : Int), (c : Int)] [] (.go j r c)
  | bring (i : Nat) : IsCall 2 [(i : Int)] [] (.bring i)
  | lose (i : Nat) : IsCall 3 [(i : Int)] [] (.lose i)
  | try_ (r w : List Nat) : r.length ≤ 10 → w.length ≤ 10 → IsCall 4 [] [il r, il w] (.try_ r w)
  | least (r w : List Nat) : r.length ≤ 10 → w.length ≤ 10 → IsCall 5 [] [il r, il w] (.least r w)
  | best (n : Nat) (r w : List Nat) : n ≤ 9 → r.length ≤ 10 → w.length ≤ 10 → IsCall 6 [(n : Int)] [il r, il w] (.best n r w)
  | carried (r w : List Nat) : r.length ≤ 10 → w.length ≤ 10 → IsCall 7 [] [il r, il w] (.carried r w)
  | chance (a b : Nat) (r : List Nat) : a ≤ 9 → b ≤ 9 → r.length ≤ 10 → IsCall 8 [(a : Int), (b : Int)] [il r] (.chance a b r)
  | look : IsCall 9 [] [] .look
theorem isCall_of {c : Int} {ns : List Int} {xs : List (List Int)} (h : Mu44Neutral.asked1 ((c :: ns) :: xs) = true) :
    ∃ x, IsCall c ns xs x ∧ ∀ st, Mu44Neutral.step st ((c :: ns) :: xs) = Mu44.step st x := by
  unfold Mu44Neutral.asked1 at h
  split at h
  all_goals (rename_i e; try (injection e with e1 e2; injection e1 with e3 e4; subst e2 e3 e4))
  · rw [Bool.and_eq_true] at h
    obtain ⟨p, rfl, _⟩ := nine_inv h.1
    obtain ⟨l, rfl, hl⟩ := row_inv10 h.2
    refine ⟨_, .begin_ p l hl, fun st => ?_⟩
    show Mu44.step st (.begin_ _ (Mu44Neutral.nats (il l))) = _
    rw [nats_il]
    rfl
  · rw [Bool.and_eq_true, Bool.and_eq_true] at h
    obtain ⟨j, rfl, _⟩ := nine_inv h.1
    obtain ⟨r, rfl, _⟩ := nine_inv h.2.1
    obtain ⟨k, rfl, _⟩ := nine_inv h.2.2
    exact ⟨_, .go j r k, fun st => rfl⟩
  · obtain ⟨i, rfl, _⟩ := nine_inv h
    exact ⟨_, .bring i, fun st => rfl⟩
  · obtain ⟨i, rfl, _⟩ := nine_inv h
    exact ⟨_, .lose i, fun st => rfl⟩
  · rw [Bool.and_eq_true] at h
    obtain ⟨r, rfl, hr⟩ := row_inv10 h.1
    obtain ⟨w, rfl, hw⟩ := row_inv10 h.2
    refine ⟨_, .try_ r w hr hw, fun st => ?_⟩
    show Mu44.step st (.try_ (Mu44Neutral.nats (il r)) (Mu44Neutral.nats (il w))) = _
    rw [nats_il, nats_il]
  · rw [Bool.and_eq_true] at h
    obtain ⟨r, rfl, hr⟩ := row_inv10 h.1
    obtain ⟨w, rfl, hw⟩ := row_inv10 h.2
    refine ⟨_, .least r w hr hw, fun st => ?_⟩
    show Mu44.step st (.least (Mu44Neutral.nats (il r)) (Mu44Neutral.nats (il w))) = _
    rw [nats_il, nats_il]
  · rw [Bool.and_eq_true, Bool.and_eq_true] at h
    obtain ⟨n, rfl, hn⟩ := nine_inv h.1
    obtain ⟨r, rfl, hr⟩ := row_inv10 h.2.1
    obtain ⟨w, rfl, hw⟩ := row_inv10 h.2.2
    refine ⟨_, .best n r w hn hr hw, fun st => ?_⟩
    show Mu44.step st (.best _ (Mu44Neutral.nats (il r)) (Mu44Neutral.nats (il w))) = _
    rw [nats_il, nats_il]
    rfl
  · rw [Bool.and_eq_true] at h
    obtain ⟨r, rfl, hr⟩ := row_inv10 h.1
    obtain ⟨w, rfl, hw⟩ := row_inv10 h.2
    refine ⟨_, .carried r w hr hw, fun st => ?_⟩
    show Mu44.step st (.carried (Mu44Neutral.nats (il r)) (Mu44Neutral.nats (il w))) = _
    rw [nats_il, nats_il]
  · rw [Bool.and_eq_true, Bool.and_eq_true] at h
    obtain ⟨a, rfl, ha⟩ := nine_inv h.1
    obtain ⟨b, rfl, hb⟩ := nine_inv h.2.1
    obtain ⟨r, rfl, hr⟩ := row_inv10 h.2.2
    refine ⟨_, .chance a b r ha hb hr, fun st => ?_⟩
    show Mu44.step st (.chance _ _ (Mu44Neutral.nats (il r))) = _
    rw [nats_il]
    rfl
  · exact ⟨_, .look, fun st => rfl⟩
  · cases h
/-- routes and their weather -/
def okR (n : Nat) (r : List Nat) : Bool := decide (1 ≤ r.length) && (decide (r.length ≤ 8) && r.all fun (j : Nat) => decide (j < n))
def okW (r w : List Nat) : Bool := decide (w.length = r.length) && w.all fun (x : Nat) => decide (x < 2)
theorem isRoute_eq (s : State) (r : List Nat) : isRoute s r = okR s.stand.at_.length r := rfl
theorem waysOf_some {s : State} {r w : List Nat} (h1 : okR s.stand.at_.length r = true) (h2 : okW r w = true) : waysOf s r w = some (ways r w) := by
  unfold okW at h2
  rw [Bool.and_eq_true] at h2
  exact if_pos ⟨h1, of_decide_eq_true h2.1, h2.2⟩
theorem waysOf_none {s : State} {r w : List Nat} (h : (okR s.stand.at_.length r && okW r w) = false) : waysOf s r w = none := by
  refine if_neg (fun z => ?_)
  have : (okR s.stand.at_.length r && okW r w) = true := by
    unfold okW
    rw [Bool.and_eq_true, Bool.and_eq_true]
    exact ⟨z.1, decide_eq_true z.2.1, z.2.2⟩
  rw [this] at h
  cases h
theorem okR_inv {n : Nat} {r : List Nat} (h : okR n r = true) : 1 ≤ r.length ∧ r.length ≤ 8 ∧ ∀ t ∈ r, t < n := by
  unfold okR at h
  rw [Bool.and_eq_true, Bool.and_eq_true] at h
  refine ⟨of_decide_eq_true h.1, of_decide_eq_true h.2.1, fun t ht => ?_⟩
  exact of_decide_eq_true (List.all_eq_true.mp h.2.2 t ht)
theorem okW_inv {r w : List Nat} (h : okW r w = true) : w.length = r.length ∧ ∀ x ∈ w, x < 2 := by
  unfold okW at h
  rw [Bool.and_eq_true] at h
  exact ⟨of_decide_eq_true h.1, fun x hx => of_decide_eq_true (List.all_eq_true.mp h.2 x hx)⟩
end Ww
namespace Ww
open Mu44
/-! ### least -/
theorem gset (l : List Nat) (i j x : Nat) (h : i < l.length) : (l.set i x).getD j 0 = if i = j then x else l.getD j 0 := by
  rw [List.getD_eq_getElem?_getD, List.getD_eq_getElem?_getD, List.getElem?_set]
  by_cases e : i = j
  · rw [if_pos e, if_pos h, if_pos e]
    rfl
  · rw [if_neg e, if_neg e]
theorem moved_at {l : List Nat} {i j k : Nat} (h1 : i < l.length) (h2 : j < l.length) : (moved l i j).getD k 0 = (if j = k then 1 else 0) + if i = k then l.getD k 0 - 1 else l.getD k 0 := by
  unfold moved
  dsimp only
  rw [gset _ _ _ _ (by rw [List.length_set]; exact h2), gset _ _ _ _ h1, gset _ _ _ _ h1]
  by_cases e1 : j = k
  · subst e1
    rw [if_pos rfl, if_pos rfl]
    by_cases e2 : i = j
    · subst e2
      rw [if_pos rfl]
      omega
    · rw [if_neg e2, if_neg e2]
      omega
  · rw [if_neg e1, if_neg e1]
    by_cases e2 : i = k
    · subst e2
      rw [if_pos rfl]
      omega
    · rw [if_neg e2, if_neg e2]
      omega
def lsim : List Nat → List Nat → Nat → List Way → List Nat
  | d, _, _, [] => d
  | d, u, h, w :: l => if w.rain = true ∧ u.getD h 0 = 0 then lsim (d.set h (d.getD h 0 + 1)) ((goes ⟨u.set h (u.getD h 0 + 1), h⟩ w).1.at_) w.to l else lsim d ((goes ⟨u, h⟩ w).1.at_) w.to l
theorem lsim_len : ∀ (l : List Way) (d u : List Nat) (h : Nat), (lsim d u h l).length = d.length
  | [], _, _, _ => rfl
  | w :: l, d, u, h => by
    unfold lsim
    split
    · rw [lsim_len l, List.length_set]
    · rw [lsim_len l]
theorem lsim_need {n i : Nat} (hi : i < n) : ∀ (l : List Way) (d u : List Nat) (h : Nat), d.length = n → u.length = n → h < n → (∀ w ∈ l, w.to < n ∧ w.carry = false) → (lsim d u h l).getD i 0 = d.getD i 0 + need i h (u.getD i 0) l
  | [], d, u, h, _, _, _, _ => rfl
  | w :: l, d, u, h, hd, hu, hh, hw => by
    obtain ⟨ht, hc⟩ := hw w (List.mem_cons_self ..)
    have hw' : ∀ v ∈ l, v.to < n ∧ v.carry = false := fun v hv => hw v (List.mem_cons_of_mem _ hv)
    have key : ∀ (d' u' : List Nat), d'.length = n → u'.length = n → (lsim d' u' w.to l).getD i 0 = d'.getD i 0 + need i w.to (u'.getD i 0) l := fun d' u' e1 e2 => lsim_need hi l d' u' w.to e1 e2 ht hw'
    obtain ⟨to, rain, carry⟩ := w
    dsimp only at ht hc key
    subst hc
    unfold lsim need
    cases rain with
    | false =>
      rw [if_neg (fun z => Bool.false_ne_true z.1), if_pos rfl]
      have e : (goes ⟨u, h⟩ ⟨to, false, false⟩).1.at_ = u := by
        unfold goes
        rw [if_neg (fun z => Bool.false_ne_true z.1)]
      rw [e]
      exact key d u hd hu
    | true =>
      rw [if_neg (fun z : true = false => by cases z)]
      by_cases k0 : u.getD h 0 = 0
      · rw [if_pos ⟨rfl, k0⟩]
        have e : (goes ⟨u.set h (u.getD h 0 + 1), h⟩ ⟨to, true, false⟩).1.at_ = moved (u.set h (u.getD h 0 + 1)) h to := by
          unfold goes stock
          rw [if_pos ⟨rfl, by dsimp only; rw [gset _ _ _ _ (by omega), if_pos rfl]; omega⟩]
        rw [e, key _ _ (by rw [List.length_set]; exact hd) (by rw [moved_len, List.length_set]; exact hu)]
        rw [moved_at (by rw [List.length_set]; omega) (by rw [List.length_set]; omega), gset _ _ _ _ (by omega), gset _ _ _ _ (by omega), k0]
        by_cases e1 : h = i
        · subst e1
          rw [if_pos rfl, if_pos rfl, if_pos rfl, if_neg (fun z : h ≠ h => z rfl), if_pos k0]
          have e3 : (if to = h then 1 else 0) + (0 + 1 - 1) = if to = h then 1 else 0 := by omega
          rw [e3]
          dsimp only
          omega
        · rw [if_neg e1, if_neg e1, if_neg e1, if_pos e1]
          have e3 : (if to = i then 1 else 0) + u.getD i 0 = if to = i then u.getD i 0 + 1 else u.getD i 0 := by split <;> omega
          rw [e3]
      · rw [if_neg (fun z => k0 z.2)]
        have e : (goes ⟨u, h⟩ ⟨to, true, false⟩).1.at_ = moved u h to := by
          unfold goes stock
          rw [if_pos ⟨rfl, by dsimp only; omega⟩]
        rw [e, key _ _ hd (by rw [moved_len]; exact hu)]
        rw [moved_at (by omega) (by omega)]
        by_cases e1 : h = i
        · subst e1
          rw [if_pos rfl, if_neg (fun z : h ≠ h => z rfl), if_neg k0]
          have e3 : (if to = h then 1 else 0) + (u.getD h 0 - 1) = if to = h then u.getD h 0 else u.getD h 0 - 1 := by split <;> omega
          rw [e3]
        · rw [if_neg e1, if_pos e1]
          have e3 : (if to = i then 1 else 0) + u.getD i 0 = if to = i then u.getD i 0 + 1 else u.getD i 0 := by split <;> omega
          rw [e3]
theorem getD_rep (n i : Nat) : (List.replicate n 0).getD i 0 = 0 := by
  rw [List.getD_eq_getElem?_getD, List.getElem?_replicate]
  split <;> rfl
theorem lsim_least {n h : Nat} (hh : h < n) (l : List Way) (hw : ∀ w ∈ l, w.to < n ∧ w.carry = false) : lsim (List.replicate n 0) (List.replicate n 0) h l = least n h l := by
  refine List.ext_getElem? fun i => ?_
  unfold least
  rw [List.getElem?_map]
  by_cases hi : i < n
  · have e := lsim_need hi l (List.replicate n 0) (List.replicate n 0) h (List.length_replicate ..) (List.length_replicate ..) hh hw
    have len : (lsim (List.replicate n 0) (List.replicate n 0) h l).length = n := by rw [lsim_len, List.length_replicate]
    rw [getD_rep, Nat.zero_add, List.getD_eq_getElem?_getD, List.getElem?_eq_getElem (by omega)] at e
    rw [List.getElem?_eq_getElem (by omega), List.getElem?_range hi]
    exact congrArg some e
  · rw [List.getElem?_eq_none (by rw [lsim_len, List.length_replicate]; omega), List.getElem?_eq_none (by rw [List.length_range]; omega)]
    rfl
theorem ways_cons {r w : List Nat} {i t x : Nat} (hr : r[i]? = some t) (hw : w[i]? = some x) : ways (r.drop i) (w.drop i) = mk t x 0 :: ways (r.drop (i + 1)) (w.drop (i + 1)) := by
  have e1 : r.drop i = t :: r.drop (i + 1) := by
    obtain ⟨h, e⟩ := List.getElem?_eq_some_iff.mp hr
    rw [List.drop_eq_getElem_cons h, e]
  have e2 : w.drop i = x :: w.drop (i + 1) := by
    obtain ⟨h, e⟩ := List.getElem?_eq_some_iff.mp hw
    rw [List.drop_eq_getElem_cons h, e]
  rw [e1, e2]
  rfl
theorem ways_carry : ∀ {r w : List Nat} {v : Way}, v ∈ ways r w → v.carry = false
  | [], _, v, h => by cases h
  | _ :: _, [], v, h => by cases h
  | t :: r, x :: w, v, h => by
    rcases List.mem_cons.mp (show v ∈ (⟨t, x == 1, false⟩ : Way) :: ways r w from h) with e | e
    · rw [e]
    · exact ways_carry e
theorem ways_ok {r w : List Nat} {n : Nat} (h : ∀ t ∈ r, t < n) : ∀ v ∈ ways r w, v.to < n ∧ v.carry = false := fun v hv => ⟨h _ (ways_to hv), ways_carry hv⟩
end Ww
namespace Ww
open Mu44
theorem flat_congr {α β : Type} {f g : α → List β} : ∀ {l : List α}, (∀ x ∈ l, f x = g x) → l.flatMap f = l.flatMap g
  | [], _ => rfl
  | a :: l, h => by
    rw [List.flatMap_cons, List.flatMap_cons, h a (List.mem_cons_self ..), flat_congr fun x hx => h x (List.mem_cons_of_mem _ hx)]
/-! ### all ways to put n umbrellas -/
/-- a beginning put on: every number that is left for the next place, more first -/
def put1 (n : Nat) (f : List Nat) : List (List Nat) := (List.range (n - f.sum + 1)).map fun k => f ++ [n - f.sum - k]
def pre (n : Nat) : Nat → List (List Nat)
  | 0 => [[]]
  | k + 1 => (pre n k).flatMap (put1 n)
theorem puts_one (m : Nat) : puts 1 m = [[m]] := by
  have aux : ∀ k, k ≤ m → (List.range k).reverse.flatMap (fun (x : Nat) => (puts 0 (m - x)).map fun (l : List Nat) => x :: l) = [] := by
    intro k hk
    rw [List.flatMap_eq_nil_iff]
    intro x hx
    rw [List.mem_reverse, List.mem_range] at hx
    obtain ⟨d, hd⟩ : ∃ d, m - x = d + 1 := ⟨m - x - 1, by omega⟩
    rw [hd]
    rfl
  unfold puts
  rw [List.range_succ, List.reverse_append, List.flatMap_append, aux m (Nat.le_refl m)]
  show ((puts 0 (m - m)).map fun l => m :: l) ++ [] ++ [] = [[m]]
  rw [Nat.sub_self]
  rfl
theorem range_rev : ∀ m : Nat, (List.range (m + 1)).reverse = (List.range (m + 1)).map fun k => m - k := by
  intro m
  refine List.ext_getElem? fun i => ?_
  by_cases h : i < m + 1
  · rw [List.getElem?_reverse (by rw [List.length_range]; exact h), List.length_range, List.getElem?_map, List.getElem?_range h, List.getElem?_range (by omega)]
    show some (m + 1 - 1 - i) = some (m - i)
    congr 1
  · rw [List.getElem?_eq_none (by rw [List.length_reverse, List.length_range]; omega), List.getElem?_eq_none (by rw [List.length_map, List.length_range]; omega)]
theorem pre_sum {n : Nat} : ∀ (k : Nat) (f : List Nat), f ∈ pre n k → f.sum ≤ n ∧ f.length = k
  | 0, f, h => by
    rw [List.mem_singleton.mp (show f ∈ [[]] from h)]
    exact ⟨Nat.zero_le _, rfl⟩
  | k + 1, f, h => by
    obtain ⟨g, hg, hf⟩ := List.mem_flatMap.mp (show f ∈ (pre n k).flatMap (put1 n) from h)
    obtain ⟨x, hx, e⟩ := List.mem_map.mp hf
    obtain ⟨h1, h2⟩ := pre_sum k g hg
    subst e
    refine ⟨?_, by rw [List.length_append, h2]; rfl⟩
    rw [List.sum_append]
    show g.sum + (n - g.sum - x + 0) ≤ n
    omega
/-- what a beginning becomes -/
def fin (n j : Nat) (f : List Nat) : List (List Nat) := (puts j (n - f.sum)).map fun l => f ++ l
theorem fin_step (n j : Nat) (f : List Nat) (hf : f.sum ≤ n) : fin n (j + 1) f = (put1 n f).flatMap (fin n j) := by
  unfold fin
  rw [puts, range_rev, List.flatMap_map, List.map_flatMap]
  unfold put1
  rw [List.flatMap_map]
  refine flat_congr fun x hx => ?_
  rw [List.mem_range] at hx
  rw [List.map_map]
  have e : n - (f ++ [n - f.sum - x]).sum = n - f.sum - (n - f.sum - x) := by
    rw [List.sum_append]
    show n - (f.sum + (n - f.sum - x + 0)) = _
    omega
  rw [e]
  refine List.map_congr_left fun l _ => ?_
  show f ++ (n - f.sum - x) :: l = f ++ [n - f.sum - x] ++ l
  rw [List.append_assoc]
  rfl
theorem puts_pre (n j : Nat) : ∀ k, puts (j + k) n = (pre n k).flatMap (fin n j) 
  | 0 => by
    show puts j n = ([[]] : List (List Nat)).flatMap (fin n j)
    show puts j n = ((puts j (n - 0)).map fun l => l) ++ []
    rw [List.append_nil, List.map_id', Nat.sub_zero]
  | k + 1 => by
    rw [show j + (k + 1) = (j + 1) + k by omega, puts_pre n (j + 1) k]
    show _ = ((pre n k).flatMap (put1 n)).flatMap (fin n j)
    rw [List.flatMap_assoc]
    exact flat_congr fun f hf => fin_step n j f (pre_sum k f hf).1
theorem puts_all (n k : Nat) : puts (k + 1) n = (pre n k).map fun f => f ++ [n - f.sum] := by
  rw [show k + 1 = 1 + k by omega, puts_pre n 1 k]
  have e : fin n 1 = fun f => [f ++ [n - f.sum]] := by
    funext f
    unfold fin
    rw [puts_one]
    rfl
  rw [e]
  induction pre n k with
  | nil => rfl
  | cons a l ih => rw [List.flatMap_cons, ih, List.map_cons]; rfl
theorem flat_put (n : Nat) (l : List (List Nat)) : (l.flatMap (put1 n)).length ≤ l.length * (n + 1) := by
  induction l with
  | nil => exact Nat.zero_le _
  | cons a l ih =>
    rw [List.flatMap_cons, List.length_append, List.length_cons, Nat.add_mul]
    have : (put1 n a).length ≤ n + 1 := by
      unfold put1
      rw [List.length_map, List.length_range]
      omega
    omega
theorem put1_at {n : Nat} {f : List Nat} {m : Nat} (h : m < n - f.sum + 1) : (put1 n f)[m]? = some (f ++ [n - f.sum - m]) := by
  unfold put1
  rw [List.getElem?_map, List.getElem?_range h]
  rfl
theorem put1_len (n : Nat) (f : List Nat) : (put1 n f).length = n - f.sum + 1 := by
  unfold put1
  rw [List.length_map, List.length_range]
theorem pre_len (n : Nat) : ∀ k, (pre n k).length ≤ (n + 1) ^ k
  | 0 => Nat.le_refl 1
  | k + 1 => by
    have aux : ∀ l : List (List Nat), (l.flatMap (put1 n)).length ≤ l.length * (n + 1) := by
      intro l
      induction l with
      | nil => exact Nat.zero_le _
      | cons a l ih =>
        rw [List.flatMap_cons, List.length_append, List.length_cons, Nat.add_mul]
        have : (put1 n a).length ≤ n + 1 := by
          unfold put1
          rw [List.length_map, List.length_range]
          omega
        omega
    refine Nat.le_trans (aux _) ?_
    rw [Nat.pow_succ]
    exact Nat.mul_le_mul_right _ (pre_len n k)
theorem pre_ne (n : Nat) : ∀ k, pre n k ≠ []
  | 0 => fun z => by cases z
  | k + 1 => by
    intro z
    have z : (pre n k).flatMap (put1 n) = [] := z
    rw [List.flatMap_eq_nil_iff] at z
    cases e : pre n k with
    | nil => exact pre_ne n k e
    | cons a l =>
      have := z a (by rw [e]; exact List.mem_cons_self ..)
      unfold put1 at this
      rw [List.range_succ, List.map_append] at this
      have := congrArg List.length this
      rw [List.length_append] at this
      exact absurd this (by show ¬ _ + 1 = 0; omega)
/-! ### the first of the least -/
def FstN (kf : Nat → Nat) (n i : Nat) : Prop := ∀ j, j < n → kf i ≤ kf j ∧ (j < i → kf i < kf j)
def stepB {α : Type} (t : α → Nat) (m : Option (Nat × α)) (p : α) : Option (Nat × α) := match m with
  | none => some (t p, p)
  | some y => if t p < y.1 then some (t p, p) else some y
theorem fold_keep {α : Type} (t : α → Nat) (k : Nat) (q : α) : ∀ l : List α, (∀ p ∈ l, k ≤ t p) → l.foldl (stepB t) (some (k, q)) = some (k, q)
  | [], _ => rfl
  | p :: l, h => by
    rw [List.foldl_cons]
    have e : stepB t (some (k, q)) p = some (k, q) := by
      unfold stepB
      exact if_neg (by have := h p (List.mem_cons_self ..); dsimp only; omega)
    rw [e]
    exact fold_keep t k q l fun p hp => h p (List.mem_cons_of_mem _ hp)
theorem fold_fst {α : Type} (t : α → Nat) (q : α) (b : List α) (hb : ∀ p ∈ b, t q ≤ t p) : ∀ (a : List α) (m : Option (Nat × α)), (∀ p ∈ a, t q < t p) → (∀ y, m = some y → t q < y.1) → (a ++ q :: b).foldl (stepB t) m = some (t q, q)
  | [], m, _, hm => by
    rw [List.nil_append, List.foldl_cons]
    have e : stepB t m q = some (t q, q) := by
      unfold stepB
      cases m with
      | none => rfl
      | some y => exact if_pos (hm y rfl)
    rw [e]
    exact fold_keep t _ q b hb
  | p :: a, m, ha, hm => by
    rw [List.cons_append, List.foldl_cons]
    refine fold_fst t q b hb a _ (fun p hp => ha p (List.mem_cons_of_mem _ hp)) fun y hy => ?_
    have hp := ha p (List.mem_cons_self ..)
    unfold stepB at hy
    cases m with
    | none =>
      cases hy
      exact hp
    | some z =>
      dsimp only at hy
      split at hy
      · cases hy
        exact hp
      · cases hy
        exact hm _ rfl
theorem split_at {α : Type} {l : List α} {i : Nat} {q : α} (h : l[i]? = some q) : l = l.take i ++ q :: l.drop (i + 1) := by
  obtain ⟨hi, e⟩ := List.getElem?_eq_some_iff.mp h
  rw [← e, ← List.drop_eq_getElem_cons hi, List.take_append_drop]
theorem fst_split {α : Type} {t : α → Nat} {l : List α} {i : Nat} {q : α} {kf : Nat → Nat} (h : l[i]? = some q) (hk : ∀ j p, l[j]? = some p → kf j = t p) (hf : FstN kf l.length i) : (∀ p ∈ l.take i, t q < t p) ∧ ∀ p ∈ l.drop (i + 1), t q ≤ t p := by
  have ei := hk i q h
  refine ⟨fun p hp => ?_, fun p hp => ?_⟩
  · obtain ⟨j, hj, e⟩ := List.mem_iff_getElem.mp hp
    have hj' : j < i ∧ j < l.length := by rw [List.length_take] at hj; omega
    have ej : l[j]? = some p := by rw [List.getElem?_eq_getElem hj'.2, ← e, List.getElem_take]
    have := (hf j hj'.2).2 hj'.1
    rw [← hk j p ej, ← ei]
    exact this
  · obtain ⟨j, hj, e⟩ := List.mem_iff_getElem.mp hp
    have hj' : i + 1 + j < l.length := by rw [List.length_drop] at hj; omega
    have ej : l[i + 1 + j]? = some p := by rw [List.getElem?_eq_getElem hj', ← e, List.getElem_drop]
    have := (hf _ hj').1
    rw [← hk _ p ej, ← ei]
    exact this
theorem best_fst {k h n i : Nat} {l : List Way} {q : List Nat} {kf : Nat → Nat} (e : (puts k n)[i]? = some q) (hk : ∀ j p, (puts k n)[j]? = some p → kf j = times ⟨p, h⟩ l) (hf : FstN kf (puts k n).length i) : best k h n l = some (times ⟨q, h⟩ l, q) := by
  obtain ⟨h1, h2⟩ := fst_split (t := fun p => times ⟨p, h⟩ l) e hk hf
  have := fold_fst (fun p => times ⟨p, h⟩ l) q _ h2 _ none h1 (fun y z => by cases z)
  rw [← split_at e] at this
  unfold best
  rw [← this]
  refine congrArg (fun g => List.foldl g none (puts k n)) ?_
  funext m p
  cases m <;> rfl
end Ww
namespace Ww
open Mu44
/-! ### carried -/
def cw (w : Way) (b : Bool) : Way := { w with carry := b }
/-- the choices by which one never gets wet, one carried first -/
def good : Stand → List Way → List (List Way)
  | _, [] => [[]]
  | s, w :: l => (if w.rain = false ∧ 0 < stock s s.here then (good (goes s (cw w true)).1 l).map fun m => cw w true :: m else []) ++
    if (goes s (cw w false)).2 = false then (good (goes s (cw w false)).1 l).map fun m => cw w false :: m else []
def cnt (m : List Way) : Nat := (m.map fun v => b2n v.carry).sum
def okM (s : Stand) (m : List Way) : Bool := able s m && times s m == 0
theorem times_cons (s : Stand) (w : Way) (m : List Way) : times s (w :: m) = b2n (goes s w).2 + times (goes s w).1 m := by
  unfold times
  show (((goes s w).2 :: wet (goes s w).1 m).filter fun (b : Bool) => b).length = _
  rw [List.filter_cons]
  cases (goes s w).2 with
  | true =>
    show (_ :: _ : List Bool).length = 1 + _
    rw [List.length_cons]
    omega
  | false =>
    show _ = 0 + _
    rw [Nat.zero_add]
    rfl
theorem okM_cons (s : Stand) (w : Way) (m : List Way) : okM s (w :: m) = ((!w.carry || decide (0 < stock s s.here)) && !(goes s w).2 && okM (goes s w).1 m) := by
  unfold okM
  rw [times_cons]
  show ((!w.carry || decide (0 < stock s s.here)) && able (goes s w).1 m && (b2n (goes s w).2 + times (goes s w).1 m == 0)) = _
  have e : (b2n (goes s w).2 + times (goes s w).1 m == 0) = (!(goes s w).2 && times (goes s w).1 m == 0) := by
    cases (goes s w).2 with
    | true =>
      show (1 + _ == 0) = (false && _)
      rw [Bool.false_and]
      exact beq_false_of_ne (by omega)
    | false =>
      show (0 + _ == 0) = (true && _)
      rw [Bool.true_and, Nat.zero_add]
  rw [e]
  cases (!w.carry || decide (0 < stock s s.here)) <;> cases able (goes s w).1 m <;> cases (!(goes s w).2) <;> cases (times (goes s w).1 m == 0) <;> rfl
theorem filter_map_cons (c : Way) (P : List Way → Bool) (l : List (List Way)) : (l.map fun m => c :: m).filter P = (l.filter fun m => P (c :: m)).map fun m => c :: m := by
  rw [List.filter_map]
  rfl
theorem filter_false {α : Type} (l : List α) : (l.filter fun _ => false) = [] := by
  induction l with
  | nil => rfl
  | cons a l ih => rw [List.filter_cons]; exact ih
theorem good_cnt (s : Stand) (w : Way) (l : List Way) (b : Bool) (n : Nat) : ((good (goes s (cw w b)).1 l).map fun m => cw w b :: m).filter (fun m => cnt m == n + b2n b) = ((good (goes s (cw w b)).1 l).filter fun m => cnt m == n).map fun m => cw w b :: m := by
  rw [filter_map_cons]
  refine congrArg (List.map _) (congrArg (fun f => List.filter f _) ?_)
  funext m
  show (b2n b + cnt m == n + b2n b) = (cnt m == n)
  rw [Nat.add_comm n]
  by_cases e : cnt m = n
  · rw [e, beq_self_eq_true, beq_self_eq_true]
  · rw [beq_false_of_ne (by omega), beq_false_of_ne e]
theorem good_cnt0 (s : Stand) (w : Way) (l : List Way) : ((good (goes s (cw w true)).1 l).map fun m => cw w true :: m).filter (fun m => cnt m == 0) = [] := by
  rw [filter_map_cons]
  have e : (fun m : List Way => cnt (cw w true :: m) == 0) = fun _ => false := by
    funext m
    show (1 + cnt m == 0) = false
    exact beq_false_of_ne (by omega)
  rw [e, filter_false]
  rfl
theorem wet_carried (s : Stand) (w : Way) (h : 0 < stock s s.here) : (goes s (cw w true)).2 = false := by
  unfold goes
  rw [if_pos ⟨by show (w.rain || true) = true; rw [Bool.or_true], h⟩]
/-- the part with one carried -/
theorem part_true (s : Stand) (w : Way) (l : List Way) (n : Nat) (ih : (choices l n).filter (okM (goes s (cw w true)).1) = (good (goes s (cw w true)).1 l).filter fun m => cnt m == n) :
    ((if w.rain = true then [] else (choices l n).map fun m => cw w true :: m).filter (okM s)) = (if w.rain = false ∧ 0 < stock s s.here then (good (goes s (cw w true)).1 l).map fun m => cw w true :: m else []).filter fun m => cnt m == n + 1 := by
  by_cases hr : w.rain = true
  · rw [if_pos hr, if_neg (fun z => by rw [hr] at z; cases z.1)]
    rfl
  · have hr' : w.rain = false := by simpa using hr
    rw [if_neg hr, filter_map_cons]
    by_cases hs : 0 < stock s s.here
    · rw [if_pos ⟨hr', hs⟩]
      have e : (fun m => okM s (cw w true :: m)) = okM (goes s (cw w true)).1 := by
        funext m
        rw [okM_cons, wet_carried s w hs, decide_eq_true hs, Bool.or_true]
        rfl
      rw [e, ih]
      exact (good_cnt s w l true n).symm
    · rw [if_neg (fun z => hs z.2)]
      have e : (fun m => okM s (cw w true :: m)) = fun _ => false := by
        funext m
        rw [okM_cons, decide_eq_false hs]
        rfl
      rw [e, filter_false]
      rfl
theorem part_false (s : Stand) (w : Way) (l : List Way) (n : Nat) (ih : (choices l n).filter (okM (goes s (cw w false)).1) = (good (goes s (cw w false)).1 l).filter fun m => cnt m == n) :
    (((choices l n).map fun m => cw w false :: m).filter (okM s)) = (if (goes s (cw w false)).2 = false then (good (goes s (cw w false)).1 l).map fun m => cw w false :: m else []).filter fun m => cnt m == n := by
  rw [filter_map_cons]
  cases hg : (goes s (cw w false)).2 with
  | true =>
    rw [if_neg (fun z => by cases z)]
    have e : (fun m => okM s (cw w false :: m)) = fun _ => false := by
      funext m
      rw [okM_cons, hg]
      show ((true && false) && _) = false
      rfl
    rw [e, filter_false]
    rfl
  | false =>
    rw [if_pos rfl]
    have e : (fun m => okM s (cw w false :: m)) = okM (goes s (cw w false)).1 := by
      funext m
      rw [okM_cons, hg]
      rfl
    rw [e, ih]
    exact (good_cnt s w l false n).symm
theorem choices_good : ∀ (l : List Way) (s : Stand) (n : Nat), (choices l n).filter (okM s) = (good s l).filter fun m => cnt m == n
  | [], s, 0 => rfl
  | [], s, n + 1 => rfl
  | w :: l, s, 0 => by
    unfold choices good
    rw [List.filter_append]
    have e : (List.filter (fun m => cnt m == 0) (if w.rain = false ∧ 0 < stock s s.here then (good (goes s (cw w true)).1 l).map fun m => cw w true :: m else [])) = [] := by
      split
      · exact good_cnt0 s w l
      · rfl
    rw [e, List.nil_append]
    exact part_false s w l 0 (choices_good l _ 0)
  | w :: l, s, n + 1 => by
    unfold choices good
    rw [List.filter_append, List.filter_append]
    have e1 := part_true s w l n (choices_good l _ n)
    have e2 := part_false s w l (n + 1) (choices_good l _ (n + 1))
    rw [← e1, ← e2]
    rfl
theorem good_len : ∀ (l : List Way) (s : Stand) (m : List Way), m ∈ good s l → m.length = l.length
  | [], s, m, h => by
    rw [List.mem_singleton.mp (show m ∈ [[]] from h)]
  | w :: l, s, m, h => by
    unfold good at h
    rcases List.mem_append.mp h with h | h
    · split at h
      · obtain ⟨x, hx, e⟩ := List.mem_map.mp h
        rw [← e, List.length_cons, good_len l _ x hx, List.length_cons]
      · cases h
    · split at h
      · obtain ⟨x, hx, e⟩ := List.mem_map.mp h
        rw [← e, List.length_cons, good_len l _ x hx, List.length_cons]
      · cases h
theorem cnt_le : ∀ m : List Way, cnt m ≤ m.length
  | [] => Nat.zero_le _
  | v :: m => by
    show b2n v.carry + cnt m ≤ m.length + 1
    have := cnt_le m
    have : b2n v.carry ≤ 1 := by unfold b2n; split <;> omega
    omega
theorem find_head {α : Type} (P : α → Bool) (l : List α) : l.find? P = (l.filter P).head? := by
  induction l with
  | nil => rfl
  | cons a l ih =>
    rw [List.find?_cons, List.filter_cons]
    cases P a with
    | true => rfl
    | false => exact ih
theorem carried_eq (s : Stand) (l : List Way) : carried s l = (List.range (l.length + 1)).findSome? fun n => ((good s l).filter fun m => cnt m == n).head?.map fun m => (n, m) := by
  unfold carried
  refine congrArg (fun f => List.findSome? f (List.range (l.length + 1))) ?_
  funext n
  rw [find_head]
  have := choices_good l s n
  unfold okM at this
  rw [this]
theorem findSome_none {α β : Type} {f : α → Option β} : ∀ {l : List α}, (∀ x ∈ l, f x = none) → l.findSome? f = none
  | [], _ => rfl
  | a :: l, h => by
    rw [List.findSome?_cons, h a (List.mem_cons_self ..)]
    exact findSome_none fun x hx => h x (List.mem_cons_of_mem _ hx)
theorem carried_none {s : Stand} {l : List Way} (h : good s l = []) : carried s l = none := by
  rw [carried_eq, h]
  exact findSome_none fun x _ => rfl
theorem carried_fst {s : Stand} {l : List Way} {i : Nat} {q : List Way} {kf : Nat → Nat} (e : (good s l)[i]? = some q) (hk : ∀ j p, (good s l)[j]? = some p → kf j = cnt p) (hf : FstN kf (good s l).length i) : carried s l = some (cnt q, q) := by
  obtain ⟨h1, h2⟩ := fst_split (t := cnt) e hk hf
  rw [carried_eq]
  have hq : cnt q < l.length + 1 := by
    have a := cnt_le q
    have b := good_len l s q (List.mem_of_getElem? e)
    omega
  have er : List.range (l.length + 1) = List.range (cnt q) ++ cnt q :: (List.range (l.length + 1)).drop (cnt q + 1) := by
    have := split_at (l := List.range (l.length + 1)) (i := cnt q) (q := cnt q) (List.getElem?_range hq)
    rw [List.take_range, Nat.min_eq_left (by omega)] at this
    exact this
  rw [er, List.findSome?_append, findSome_none (fun n hn => ?_)]
  · rw [Option.none_or, List.findSome?_cons]
    have eh : ((good s l).filter fun m => cnt m == cnt q).head? = some q := by
      rw [split_at e, List.filter_append, List.filter_cons, beq_self_eq_true, if_pos rfl]
      have : ((good s l).take i).filter (fun m => cnt m == cnt q) = [] := by
        rw [List.filter_eq_nil_iff]
        intro m hm
        have := h1 m hm
        rw [beq_false_of_ne (by omega)]
        exact Bool.false_ne_true
      rw [this]
      rfl
    rw [eh]
    rfl
  · rw [List.mem_range] at hn
    have : (good s l).filter (fun m => cnt m == n) = [] := by
      rw [List.filter_eq_nil_iff]
      intro m hm
      have : cnt q ≤ cnt m := by
        rw [split_at e] at hm
        rcases List.mem_append.mp hm with hm | hm
        · exact Nat.le_of_lt (h1 m hm)
        · rcases List.mem_cons.mp hm with hm | hm
          · rw [hm]
            exact Nat.le_refl _
          · exact h2 m hm
      rw [beq_false_of_ne (by omega)]
      exact Bool.false_ne_true
    rw [this]
    rfl
end Ww
namespace Ww
open Mu44
/-! ### the choices as the program makes them -/
abbrev Ch := List Nat × List Nat
def dstep (h t x : Nat) (c : Ch) : List Ch := (if x = 0 ∧ 0 < c.1.getD h 0 then [((goes ⟨c.1, h⟩ (mk t 0 1)).1.at_, c.2 ++ [1])] else []) ++
  if (decide (x = 1) && decide (c.1.getD h 0 = 0)) = false then [((goes ⟨c.1, h⟩ (mk t x 0)).1.at_, c.2 ++ [0])] else []
def flags (m : List Way) : List Nat := m.map fun v => b2n v.carry
def dfin (h : Nat) (l : List Way) (c : Ch) : List (List Nat) := (good ⟨c.1, h⟩ l).map fun m => c.2 ++ flags m
theorem goes_st (s : Stand) (w : Way) : (goes s w).1 = ⟨(goes s w).1.at_, w.to⟩ := by
  rw [← goes_here s w]
theorem good_cons (s : Stand) (w : Way) (l : List Way) : good s (w :: l) = (if w.rain = false ∧ 0 < stock s s.here then (good (goes s (cw w true)).1 l).map fun m => cw w true :: m else []) ++
    if (goes s (cw w false)).2 = false then (good (goes s (cw w false)).1 l).map fun m => cw w false :: m else [] := rfl
theorem dfin_step {h t x : Nat} (hx : x < 2) (l : List Way) (c : Ch) : dfin h (mk t x 0 :: l) c = (dstep h t x c).flatMap (dfin t l) := by
  obtain ⟨a, ch⟩ := c
  unfold dstep
  show (good ⟨a, h⟩ (mk t x 0 :: l)).map (fun m => ch ++ flags m) = _
  rw [good_cons, List.map_append, List.flatMap_append]
  have ef : cw (mk t x 0) false = mk t x 0 := rfl
  congr 1
  · by_cases e : x = 0 ∧ 0 < a.getD h 0
    · obtain ⟨rfl, e2⟩ := e
      rw [if_pos ⟨rfl, e2⟩, if_pos ⟨rfl, e2⟩, List.flatMap_cons, List.flatMap_nil, List.append_nil, List.map_map]
      have et : cw (mk t 0 0) true = mk t 0 1 := rfl
      rw [et]
      have es := goes_st ⟨a, h⟩ (mk t 0 1)
      show _ = (good ⟨(goes ⟨a, h⟩ (mk t 0 1)).1.at_, (mk t 0 1).to⟩ l).map fun m => ch ++ [1] ++ flags m
      rw [← es]
      refine List.map_congr_left fun m _ => ?_
      show ch ++ (1 :: flags m) = ch ++ [1] ++ flags m
      rw [List.append_assoc]
      rfl
    · rw [if_neg e, if_neg (fun z => e ⟨?_, z.2⟩)]
      · rfl
      · have z1 : (x == 1) = false := z.1
        have : x ≠ 1 := fun q => by rw [q] at z1; cases z1
        omega
  · rw [ef, goes_wet]
    by_cases e : (decide (x = 1) && decide (a.getD h 0 = 0)) = false
    · rw [if_pos e, if_pos e, List.flatMap_cons, List.flatMap_nil, List.append_nil, List.map_map]
      have es := goes_st ⟨a, h⟩ (mk t x 0)
      show _ = (good ⟨(goes ⟨a, h⟩ (mk t x 0)).1.at_, (mk t x 0).to⟩ l).map fun m => ch ++ [0] ++ flags m
      rw [← es]
      refine List.map_congr_left fun m _ => ?_
      show ch ++ (0 :: flags m) = ch ++ [0] ++ flags m
      rw [List.append_assoc]
      rfl
    · rw [if_neg e, if_neg e]
      rfl
theorem dstep_len (h t x : Nat) (c : Ch) : (dstep h t x c).length ≤ 2 := by
  unfold dstep
  rw [List.length_append]
  have a : (if x = 0 ∧ 0 < c.1.getD h 0 then [((goes ⟨c.1, h⟩ (mk t 0 1)).1.at_, c.2 ++ [1])] else []).length ≤ 1 := by split <;> simp
  have b : (if (decide (x = 1) && decide (c.1.getD h 0 = 0)) = false then [((goes ⟨c.1, h⟩ (mk t x 0)).1.at_, c.2 ++ [0])] else []).length ≤ 1 := by split <;> simp
  omega
theorem flat_two {α β : Type} {f : α → List β} (hf : ∀ x, (f x).length ≤ 2) : ∀ l : List α, (l.flatMap f).length ≤ 2 * l.length
  | [] => Nat.zero_le _
  | a :: l => by
    rw [List.flatMap_cons, List.length_append, List.length_cons]
    have := hf a
    have := flat_two hf l
    omega
theorem flags_sum (m : List Way) : (flags m).sum = cnt m := rfl
/-! ### the weathers as the program makes them -/
abbrev Wt := List Nat × Nat × Nat
def wstep (h t a b : Nat) (c : Wt) : List Wt := [((goes ⟨c.1, h⟩ (mk t 0 0)).1.at_, c.2.1 * (b - a), c.2.2), ((goes ⟨c.1, h⟩ (mk t 1 0)).1.at_, c.2.1 * a, c.2.2 + b2n (goes ⟨c.1, h⟩ (mk t 1 0)).2)]
def wfin (h a b : Nat) (r : List Nat) (c : Wt) : List (Nat × Nat) := (weathers a b r).map fun x => (c.2.1 * x.2, c.2.2 + times ⟨c.1, h⟩ x.1)
theorem wfin_step (h t a b : Nat) (r : List Nat) (c : Wt) : wfin h a b (t :: r) c = (wstep h t a b c).flatMap (wfin t a b r) := by
  obtain ⟨l, wt, k⟩ := c
  unfold wfin wstep
  rw [List.flatMap_cons, List.flatMap_cons, List.flatMap_nil, List.append_nil, weathers, List.map_append, List.map_map, List.map_map]
  congr 1
  · refine List.map_congr_left fun x _ => ?_
    show (wt * ((b - a) * x.2), k + times ⟨l, h⟩ (mk t 0 0 :: x.1)) = (wt * (b - a) * x.2, k + times ⟨(goes ⟨l, h⟩ (mk t 0 0)).1.at_, t⟩ x.1)
    have es : (goes ⟨l, h⟩ (mk t 0 0)).1 = ⟨(goes ⟨l, h⟩ (mk t 0 0)).1.at_, t⟩ := goes_st ⟨l, h⟩ (mk t 0 0)
    have ew : (goes ⟨l, h⟩ (mk t 0 0)).2 = false := by rw [goes_wet]; rfl
    rw [times_cons, ew, ← es, Nat.mul_assoc]
    show (_, k + (0 + _)) = _
    rw [Nat.zero_add]
  · refine List.map_congr_left fun x _ => ?_
    show (wt * (a * x.2), k + times ⟨l, h⟩ (mk t 1 0 :: x.1)) = (wt * a * x.2, k + b2n (goes ⟨l, h⟩ (mk t 1 0)).2 + times ⟨(goes ⟨l, h⟩ (mk t 1 0)).1.at_, t⟩ x.1)
    have es : (goes ⟨l, h⟩ (mk t 1 0)).1 = ⟨(goes ⟨l, h⟩ (mk t 1 0)).1.at_, t⟩ := goes_st ⟨l, h⟩ (mk t 1 0)
    rw [times_cons, ← es, Nat.mul_assoc, Nat.add_assoc]
theorem wstep_len (h t a b : Nat) (c : Wt) : (wstep h t a b c).length ≤ 2 := Nat.le_refl 2
/-- the pairs that weigh_weathers answers -/
def wts (s : Stand) (a b : Nat) (r : List Nat) : List (Nat × Nat) := (weathers a b r).map fun x => (x.2, times s x.1)
theorem wfin_start (l : List Nat) (h a b : Nat) (r : List Nat) : wfin h a b r (l, 1, 0) = wts ⟨l, h⟩ a b r := by
  unfold wfin wts
  refine List.map_congr_left fun x _ => ?_
  show (1 * x.2, 0 + times ⟨l, h⟩ x.1) = _
  rw [Nat.one_mul, Nat.zero_add]
theorem sum_mul {α : Type} (k : Nat) (f : α → Nat) : ∀ l : List α, (l.map fun x => k * f x).sum = k * (l.map f).sum
  | [] => rfl
  | a :: l => by
    rw [List.map_cons, List.map_cons, List.sum_cons, List.sum_cons, sum_mul k f l, Nat.mul_add]
theorem sum_weathers {a b : Nat} (hab : a ≤ b) : ∀ r : List Nat, ((weathers a b r).map fun x => x.2).sum = b ^ r.length
  | [] => rfl
  | t :: r => by
    rw [weathers, List.map_append, List.sum_append, List.map_map, List.map_map]
    show ((weathers a b r).map fun x => (b - a) * x.2).sum + ((weathers a b r).map fun x => a * x.2).sum = b ^ (r.length + 1)
    rw [sum_mul, sum_mul, sum_weathers hab r, ← Nat.add_mul, Nat.pow_succ, Nat.mul_comm]
    congr 1
    omega
theorem filter_sum {α : Type} (p : α → Bool) (f : α → Nat) : ∀ l : List α, ((l.filter p).map f).sum = (l.map fun x => if p x = true then f x else 0).sum
  | [] => rfl
  | a :: l => by
    rw [List.filter_cons, List.map_cons, List.sum_cons, ← filter_sum p f l]
    cases p a with
    | true => rw [if_pos rfl, if_pos rfl, List.map_cons, List.sum_cons]
    | false => rw [if_neg Bool.false_ne_true, if_neg Bool.false_ne_true, Nat.zero_add]
theorem whole_eq {s : Stand} {a b : Nat} {r : List Nat} (hab : a ≤ b) : ((wts s a b r).map fun x => x.1).sum = b ^ r.length := by
  unfold wts
  rw [List.map_map]
  exact sum_weathers hab r
def dryN (s : Stand) (a b : Nat) (r : List Nat) : Nat := (((wts s a b r).filter fun x => decide (x.2 = 0)).map fun x => x.1).sum
def wetN (s : Stand) (a b : Nat) (r : List Nat) : Nat := ((wts s a b r).map fun x => x.1 * x.2).sum
theorem dry_eq (s : Stand) (a b : Nat) (r : List Nat) : dryChance s a b r = lowest (dryN s a b r) (b ^ r.length) := by
  unfold dryChance dryN
  rw [total_sum, filter_sum]
  unfold wts
  rw [List.map_map]
  refine congrArg (fun z => lowest z _) (congrArg List.sum (List.map_congr_left fun x _ => ?_))
  show (if times s x.1 = 0 then x.2 else 0) = if decide (times s x.1 = 0) = true then x.2 else 0
  by_cases e : times s x.1 = 0
  · rw [if_pos e, if_pos (decide_eq_true e)]
  · rw [if_neg e, if_neg (by rw [decide_eq_false e]; exact Bool.false_ne_true)]
theorem wet_eq (s : Stand) (a b : Nat) (r : List Nat) : average s a b r = lowest (wetN s a b r) (b ^ r.length) := by
  unfold average wetN
  rw [total_sum]
  unfold wts
  rw [List.map_map]
  refine congrArg (fun z => lowest z _) (congrArg List.sum (List.map_congr_left fun x _ => ?_))
  exact Nat.mul_comm ..
theorem lowest_pos {d b : Nat} (h : 0 < b) : lowest d b = (d / Nat.gcd d b, b / Nat.gcd d b) := if_neg (by omega)
theorem dryN_le (s : Stand) {a b : Nat} (hab : a ≤ b) (r : List Nat) : dryN s a b r ≤ b ^ r.length := by
  rw [← whole_eq (s := s) hab]
  unfold dryN
  rw [filter_sum]
  induction wts s a b r with
  | nil => exact Nat.le_refl _
  | cons x l ih =>
    rw [List.map_cons, List.map_cons, List.sum_cons, List.sum_cons]
    have : (if decide (x.2 = 0) = true then x.1 else 0) ≤ x.1 := by split <;> omega
    omega
theorem weathers_len (a b : Nat) : ∀ (r : List Nat) (x : List Way × Nat), x ∈ weathers a b r → x.1.length = r.length
  | [], x, h => by
    rw [List.mem_singleton.mp (show x ∈ [([], 1)] from h)]
    rfl
  | t :: r, x, h => by
    rw [weathers] at h
    rcases List.mem_append.mp h with h | h <;> (obtain ⟨y, hy, e⟩ := List.mem_map.mp h; rw [← e, List.length_cons, List.length_cons, weathers_len a b r y hy])
theorem times_le (s : Stand) (l : List Way) : times s l ≤ l.length := by
  unfold times
  exact Nat.le_trans (List.length_filter_le ..) (Nat.le_of_eq (wet_len l s))
theorem wts_wet {s : Stand} {a b : Nat} {r : List Nat} {x : Nat × Nat} (h : x ∈ wts s a b r) : x.2 ≤ r.length := by
  obtain ⟨y, hy, e⟩ := List.mem_map.mp h
  rw [← e, ← weathers_len a b r y hy]
  exact times_le s y.1
theorem wts_len (s : Stand) (a b : Nat) (r : List Nat) : (wts s a b r).length = 2 ^ r.length := by
  unfold wts
  rw [List.length_map]
  induction r with
  | nil => rfl
  | cons t r ih => rw [weathers, List.length_append, List.length_map, List.length_map, ih, List.length_cons, Nat.pow_succ]; omega
theorem wetN_le (s : Stand) {a b : Nat} (hab : a ≤ b) (r : List Nat) : wetN s a b r ≤ b ^ r.length * r.length := by
  rw [← whole_eq (s := s) hab]
  unfold wetN
  have : ∀ l : List (Nat × Nat), (∀ x ∈ l, x.2 ≤ r.length) → (l.map fun x => x.1 * x.2).sum ≤ (l.map fun x => x.1).sum * r.length := by
    intro l
    induction l with
    | nil => intro _; exact Nat.zero_le _
    | cons x l ih =>
      intro h
      rw [List.map_cons, List.map_cons, List.sum_cons, List.sum_cons, Nat.add_mul]
      exact Nat.add_le_add (Nat.mul_le_mul_left _ (h x (List.mem_cons_self ..))) (ih fun y hy => h y (List.mem_cons_of_mem _ hy))
  exact this _ fun x hx => wts_wet hx
theorem pow_bound {b n : Nat} (hb : b ≤ 9) (hn : n ≤ 8) : b ^ n ≤ 43046721 := by
  have h1 : b ^ n ≤ 9 ^ n := Nat.pow_le_pow_left hb n
  have h2 : 9 ^ n ≤ 9 ^ 8 := Nat.pow_le_pow_right (by decide) hn
  have h3 : (9 : Nat) ^ 8 = 43046721 := by decide
  omega
end Ww
namespace Ww
open PySem PySem.Spec PyProof.Rows L2
/-! ### lists of natural numbers in the heap -/
def nv (n : Nat) : V := .int (n : Int)
def nl (l : List Nat) : List V := l.map nv
theorem nl_len (l : List Nat) : (nl l).length = l.length := List.length_map ..
theorem nl_at {l : List Nat} {i n : Nat} (h : l[i]? = some n) : (nl l)[i]? = some (.int (n : Int)) := by
  unfold nl
  rw [List.getElem?_map, h]
  rfl
theorem at_nl {l : List Nat} {i : Nat} {x : V} (h : (nl l)[i]? = some x) : ∃ n, l[i]? = some n ∧ x = .int (n : Int) := by
  unfold nl at h
  rw [List.getElem?_map] at h
  cases e : l[i]? with
  | none => rw [e] at h; cases h
  | some n => rw [e] at h; exact ⟨n, rfl, (Option.some.inj h).symm⟩
theorem getD_at {l : List Nat} {i : Nat} (h : i < l.length) : l[i]? = some (l.getD i 0) := by
  rw [List.getElem?_eq_getElem h, List.getD_eq_getElem?_getD, List.getElem?_eq_getElem h]
  rfl
theorem getD_set {l : List Nat} {i n : Nat} (h : i < l.length) : (l.set i n).getD i 0 = n := by
  rw [List.getD_eq_getElem?_getD, List.getElem?_set_self h]
  rfl
theorem nl_getD {l : List Nat} {i : Nat} (h : i < l.length) : (nl l)[i]? = some (.int ((l.getD i 0 : Nat) : Int)) := nl_at (getD_at h)
theorem nl_set {l : List Nat} {i n : Nat} {z : Int} (h : z = (n : Int)) : (nl l).set i (.int z) = nl (l.set i n) := by
  subst h
  unfold nl
  rw [List.map_set]
  rfl
theorem nl_app (l : List Nat) (n : Nat) {z : Int} (h : z = (n : Int)) : nl l ++ [V.int z] = nl (l ++ [n]) := by
  subst h
  unfold nl
  rw [List.map_append]
  rfl
theorem ix_of {n i : Nat} (h : i < n) : ixN n (i : Int) = some i := by
  unfold ixN
  rw [if_pos (by omega), if_pos (by omega)]
  rfl
theorem nl_ints (l : List Nat) : nl l = (l.map fun (n : Nat) => (n : Int)).map V.int := by
  unfold nl
  rw [List.map_map]
  rfl
theorem sum_cast : ∀ l : List Nat, (l.map fun (n : Nat) => (n : Int)).sum = ((l.sum : Nat) : Int)
  | [] => rfl
  | n :: l => by
    rw [List.map_cons, List.sum_cons, List.sum_cons, sum_cast l]
    omega
theorem dec_vint {i j : Int} : decide (V.int i = V.int j) = decide (i = j) := by
  by_cases h : i = j
  · subst h; simp
  · rw [decide_eq_false h, decide_eq_false (fun q => h (V.int.inj q))]
theorem dec_vnat {i j : Nat} : decide (V.int (i : Int) = V.int (j : Int)) = decide (i = j) := by
  rw [dec_vint]
  by_cases h : i = j
  · subst h; simp
  · rw [decide_eq_false h, decide_eq_false (fun q => h (by omega))]
theorem if_t {c : Bool} {A B : Prop} (hc : c = true) (h : A) : if c = true then A else B := by
  rw [if_pos hc]
  exact h
theorem if_f {c : Bool} {A B : Prop} (hc : c = false) (h : B) : if c = true then A else B := by
  rw [hc, if_neg Bool.false_ne_true]
  exact h
/-- both ways of an open test -/
theorem if_b {c : Bool} {A B : Prop} (h1 : c = true → A) (h2 : c = false → B) : if c = true then A else B := by
  cases c with
  | true => exact if_t rfl (h1 rfl)
  | false => exact if_f rfl (h2 rfl)
/-- both ways of an open test of a fact -/
theorem if_d {p A B : Prop} [Decidable p] (h1 : p → A) (h2 : ¬ p → B) : if decide p = true then A else B :=
  if_b (fun e => h1 (of_decide_eq_true e)) fun e => h2 (of_decide_eq_false e)
theorem same_upd {H H' : Hp} {p : Addr} {o : HO} (s : Same H H') (n : H p = none) : Same H (upd H' p o) := fun b u e => by
  rw [upd_ne (ne_of_none e n)]
  exact s b u e
theorem same_new {H : Hp} {p : Addr} {o : HO} (n : H p = none) : Same H (upd H p o) := same_upd (Same.refl H) n

theorem upd_id {H : Hp} {a : Addr} {o : HO} (h : H a = some o) : upd H a o = H := by
  funext b
  unfold upd
  split
  · rename_i e
    rw [e, h]
  · rfl
theorem upd_comm {H : Hp} {a b : Addr} {o u : HO} (h : a ≠ b) : upd (upd H b u) a o = upd (upd H a o) b u := by
  funext c
  unfold upd
  by_cases e : c = a
  · subst e
    rw [if_pos rfl, if_neg h, if_pos rfl]
  · rw [if_neg e]
    split <;> rfl
/-- a list stands when an instance changes -/
theorem seq_ins {K : PySem.W.Frag} {H : Hp} {a b C dx : Addr} {fs : List (Str × V)} {xs : List V} {o : HO} (h : SqL K H b xs) (e : H a = some (.ins C dx fs)) : SqL K (upd H a o) b xs := by
  rcases h with (h | ⟨w, h⟩) | h
  · exact .inl (.inl (by rw [upd_ne (ne_of h e (fun z => by cases z))]; exact h))
  · exact .inl (.inr ⟨w, by rw [upd_ne (ne_of h e (fun z => by cases z))]; exact h⟩)
  · exact .inr h
theorem un_none {H : Hp} {a b : Addr} {o : HO} (h : upd H a o b = none) : b ≠ a ∧ H b = none := by
  by_cases e : b = a
  · rw [e, upd_same] at h
    cases h
  · rw [upd_ne e] at h
    exact ⟨e, h⟩
theorem cut_nat (ns : List Int) (i k : Nat) {z : Int} (hz : z = ((i + k : Nat) : Int)) : cutV (ns.map V.int) (some (i : Int)) (some z) = ((ns.drop i).take k).map V.int := by
  subst hz
  unfold cutV
  rw [HT.sIx_nat, HT.sIx_nat, List.length_map, ← List.map_drop, ← List.map_take]
  refine congrArg (List.map V.int) ?_
  by_cases h : i ≤ ns.length
  · rw [Nat.min_eq_left h]
    by_cases h2 : i + k ≤ ns.length
    · rw [Nat.min_eq_left h2, Nat.add_sub_cancel_left]
    · rw [Nat.min_eq_right (by omega), List.take_of_length_le (by rw [List.length_drop]; omega), List.take_of_length_le (by rw [List.length_drop]; omega)]
  · rw [Nat.min_eq_right (a := i) (b := ns.length) (by omega), List.drop_of_length_le (Nat.le_refl _), List.drop_of_length_le (by omega), List.take_nil, List.take_nil]
theorem seq_fr {K : PySem.W.Frag} {H H' : Hp} {a b C dx : Addr} {fs : List (Str × V)} {xs : List V} (h : SqL K H b xs) (e : H a = some (.ins C dx fs)) (f : ∀ c o, H c = some o → c ≠ a → H' c = some o) : SqL K H' b xs := by
  rcases h with (h | ⟨w, h⟩) | h
  · exact .inl (.inl (f _ _ h (ne_of h e (fun z => by cases z))))
  · exact .inl (.inr ⟨w, f _ _ h (ne_of h e (fun z => by cases z))⟩)
  · exact .inr h
/-! ### comprehensions that change nothing -/
theorem take_more {α : Type} : ∀ {l : List α} {i : Nat} {x : α}, l[i]? = some x → l.take (i + 1) = l.take i ++ [x]
  | [], i, x, h => by simp at h
  | a :: l, 0, x, h => by
    cases h
    rfl
  | a :: l, i + 1, x, h => by
    show a :: l.take (i + 1) = a :: l.take i ++ [x]
    rw [take_more (l := l) (i := i) (x := x) h]
    rfl
theorem tlc_pure {K : PySem.W.Frag} {a : Addr} {xs : List V} {tl te : TE} {j : Nat} {σ : L2.St} {H : Hp} {Q : VK} (f : V → V)
    (htl : ∀ R : VK, R (.ref a) H → tl σ H R) (hl : SqL K H a xs) (hz : xs.length ≤ 1000)
    (he : ∀ (x : V) (H' : Hp) (R : VK), x ∈ xs → Same H H' → R (f x) H' → te ((σ.set j none).set j (some x)) H' R)
    (q : ∀ D, H D = none → Q (.ref D) (upd H D (.lst (xs.map f)))) : tLc (iList K tl) (gName j) tYes te [j] σ H Q := by
  refine htl _ ⟨a, rfl, ⟨xs, hl⟩, fun D hD => ?_⟩
  refine lc_list (K := K) (a := a) (xs := xs) (fun i H' => H' = upd H D (.lst ((xs.take i).map f))) rfl (fun i H' _ e => ?_) (fun i x H' hx e => ?_) (fun H' e => ?_)
  · rw [e]
    exact (same_new hD).seq hl
  · have hi : i < xs.length := (List.getElem?_eq_some_iff.mp hx).1
    refine ⟨?_, ?_⟩
    · show ((σ.set j none).set j (some x)).set j none = σ.set j none
      rw [List.set_set, List.set_set]
    · unfold tYes
      refine if_t rfl ?_
      refine he x H' _ (List.mem_of_getElem? hx) (by rw [e]; exact same_new hD) ⟨(xs.take i).map f, by rw [e]; exact upd_same, ?_, ?_⟩
      · rw [List.length_map, List.length_take]
        exact Nat.lt_of_le_of_lt (Nat.min_le_right _ _) (Nat.lt_of_le_of_lt hz (by decide))
      · rw [e, upd_upd, take_more hx, List.map_append]
        rfl
  · rw [e, List.take_length]
    exact q D hD
theorem all_map_nl (r : List Nat) (f : Nat → Bool) : (((nl r).map fun v => match v with | .int i => f i.toNat | _ => true).all id) = r.all f := by
  unfold nl
  induction r with
  | nil => rfl
  | cons n r ih =>
    rw [List.map_cons, List.map_cons, List.all_cons, ih, List.all_cons]
    rfl
/-- all([f(x) for x in r]) -/
def fV (f : Nat → Bool) : V → Bool := fun v => match v with | .int i => f i.toNat | _ => true
theorem fV_all (r : List Nat) (f : Nat → Bool) : (((nl r).map (fV f)).all id) = r.all f := all_map_nl r f
theorem tall_pure {K : PySem.W.Frag} {a : Addr} {r : List Nat} {tl te : TE} {j : Nat} {σ : L2.St} {H : Hp} {Q : VK} (f : Nat → Bool)
    (htl : ∀ R : VK, R (.ref a) H → tl σ H R) (hl : SqL K H a (nl r)) (hz : r.length ≤ 1000)
    (he : ∀ (n : Nat) (H' : Hp) (R : VK), n ∈ r → Same H H' → R (.bl (f n)) H' → te ((σ.set j none).set j (some (.int (n : Int)))) H' R)
    (q : ∀ H', Same H H' → Q (.bl (r.all f)) H') : tCB (rAll K) (tCons (tLc (iList K tl) (gName j) tYes te [j]) tNil) σ H Q := by
  show tLc (iList K tl) (gName j) tYes te [j] σ H (fun x H1 => rAll K [x] H1 Q)
  refine tlc_pure (fun v => .bl (fV f v)) htl hl (by rw [nl_len]; exact hz) (fun x H' R hx s h => ?_) (fun D hD => ?_)
  · obtain ⟨n, hn, rfl⟩ := List.mem_map.mp hx
    exact he n H' R hn s h
  · refine ⟨D, (nl r).map (fV f), rfl, ?_, ?_⟩
    · rw [List.map_map]
      exact SqL.of upd_same
    · rw [fV_all]
      exact q _ (same_new hD)
/-! ### the promises of the ways -/
def sp_is_route (K : PySem.W.Frag) : Sp := fun vs H Q _ => ∃ (a : Addr) (r : List Nat) (n : Nat), vs = [.ref a, .int (n : Int)] ∧ SqL K H a (nl r) ∧ r.length ≤ 1000 ∧
  ∀ H', Same H H' → Q (.bl (decide (1 ≤ r.length) && (decide (r.length ≤ 8) && r.all fun j => decide (j < n)))) H'
def sp_is_weather (K : PySem.W.Frag) : Sp := fun vs H Q _ => ∃ (a b : Addr) (w r : List Nat), vs = [.ref a, .ref b] ∧ SqL K H a (nl w) ∧ SqL K H b (nl r) ∧ w.length ≤ 1000 ∧
  ∀ H', Same H H' → Q (.bl (decide (w.length = r.length) && w.all fun x => decide (x < 2))) H'
def sp_gets_wet (K : PySem.W.Frag) : Sp := fun vs H Q _ => ∃ (a : Addr) (l : List Nat) (h x : Nat), vs = [.ref a, .int (h : Int), .int (x : Int)] ∧ SqL K H a (nl l) ∧ h < l.length ∧
  Q (nv (b2n (decide (x = 1) && decide (l.getD h 0 = 0)))) H
def sp_after_way (K : PySem.W.Frag) : Sp := fun vs H Q _ => ∃ (a : Addr) (l : List Nat) (h t x c : Nat), vs = [.ref a, .int (h : Int), .int (t : Int), .int (x : Int), .int (c : Int)] ∧ SqL K H a (nl l) ∧ h < l.length ∧ t < l.length ∧ l.length ≤ 1000 ∧
  ∀ H' p, Same H H' → H p = none → H' p = some (.lst (nl (Mu44.goes ⟨l, h⟩ (mk t x c)).1.at_)) → Q (.ref p) H'
def sp_wet_ways (K : PySem.W.Frag) : Sp := fun vs H Q _ => ∃ (a b c : Addr) (l r w : List Nat) (h : Nat), vs = [.ref a, .int (h : Int), .ref b, .ref c] ∧ SqL K H a (nl l) ∧ SqL K H b (nl r) ∧ SqL K H c (nl w) ∧
  h < l.length ∧ l.length ≤ 1000 ∧ (∀ t ∈ r, t < l.length) ∧ w.length = r.length ∧ r.length ≤ 1000 ∧
  ∀ H' p, Same H H' → H p = none → H' p = some (.lst (nl ((Mu44.wet ⟨l, h⟩ (ways r w)).map b2n))) → Q (.ref p) H'
end Ww
namespace Ww
open PySem PySem.Spec PyProof.Rows L2
/-! ### min(xs, key=f) over a list of objects: the first of the least -/
section
variable {X : Cx} {pins : List (Addr × Obj)} {σ : L2.St} {H H1 : Hp} {s : Shared}
/-- a pinned record of ours is changed -/
theorem pin_chg {a : Addr} {oa ob : Obj} {g : Heap} {t' : Nat} (I : Inv X ((a, oa) :: pins) σ H s) (k : ∀ b o, b ≠ a → s.heap.get? b = some o → g.get? b = some o) (n : g.get? a = some ob) (nc : ∀ v, ob.data ≠ .cell v)
    (h1 : X.s_0.heap.objs.size ≤ a) (h3 : ∀ p ∈ X.pn ++ pins, p.1 ≠ a) : Inv X ((a, ob) :: pins) σ H { s with heap := g, toks := t' } := by
  have pa := I.pin (a, oa) (List.mem_append_right _ (List.mem_cons_self ..))
  have I0 : Inv X pins σ H s := I.pins_of fun p hp => I.pin p (List.mem_append_right _ (List.mem_cons_of_mem _ hp))
  have I1 : Inv X pins σ H { s with heap := g, toks := t' } := I0.turned k pa.2.1 pa.2.2.1 (.inr h1) (fun x c e z => by
    obtain ⟨v, o, ho, hd⟩ := I.cell x c e
    rw [z, pa.1] at ho
    cases ho
    exact pa.2.2.2.2 v hd) h3
  refine I1.pins_of fun p hp => ?_
  rcases List.mem_cons.mp hp with rfl | hp
  · exact ⟨n, pa.2.1, pa.2.2.1, pa.2.2.2.1, nc⟩
  · exact I1.pin p (List.mem_append_right _ hp)
theorem pin_swap {a b : Addr × Obj} (I : Inv X (a :: b :: pins) σ H s) : Inv X (b :: a :: pins) σ H s := I.pins_of fun p hp => I.pin p (List.mem_append_right _ (by
  rcases List.mem_cons.mp hp with z | z
  · exact List.mem_cons_of_mem _ (by rw [z]; exact List.mem_cons_self ..)
  · rcases List.mem_cons.mp z with z | z
    · rw [z]; exact List.mem_cons_self ..
    · exact List.mem_cons_of_mem _ (List.mem_cons_of_mem _ z)))
theorem refs_of : ∀ {qs : List Addr} {its : List Value}, Vals (qs.map V.ref) its → its = qs.map Value.ref
  | [], _, .nil => rfl
  | q :: qs, _, .cons r t => by
    rw [refs_of t]
    cases r
    rfl
/-- the least of the first ones -/
def Fst (kf : Nat → Int) (n i : Nat) : Prop := ∀ j, j < n → kf i ≤ kf j ∧ (j < i → kf i < kf j)
/-- a turn of the key -/
def KeyTurn (X : Cx) (σ : L2.St) (H : Hp) (f : Value) (qs : List Addr) (kf : Nat → Int) : Prop := ∀ (i : Nat) (q : Addr), qs[i]? = some q → ∀ (pins : List (Addr × Obj)) (H1 : Hp) (s1 : Shared), Inv X pins σ H1 s1 → Same H H1 →
  wpAny (model X.prog X.w) X.A.in1 (call f [.ref q]) (fun v s2 => ∃ t H2, v = .int (kf i) t ∧ Inv X pins σ H2 s2 ∧ Same H H2) (fun _ _ => False) s1
theorem min_loop {l S It : Addr} {f : Value} {qs : List Addr} {R : Result → Shared → Prop} (kf : Nat → Int) (hf : (∃ q, f = .ref q) ∨ ∃ id, f = .builtin id) (hh : X.A.handled = none) (hl : SqL X.K H l (qs.map V.ref)) (hlI : l ≠ It) (hSI : S ≠ It)
    (gS : X.s_0.heap.objs.size ≤ S) (gI : X.s_0.heap.objs.size ≤ It) (nS : ∀ p ∈ X.pn ++ pins, p.1 ≠ S) (nI : ∀ p ∈ X.pn ++ pins, p.1 ≠ It) (turn : KeyTurn X σ H f qs kf)
    (hR : ∀ (i : Nat) (q : Addr) (H' : Hp) (s' : Shared), qs[i]? = some q → Fst kf qs.length i → Same H H' → Inv X pins σ H' s' → R (.ok (.ret (.ref q))) s') :
    ∀ (r j i : Nat) (s : Shared) (H1 : Hp) (q : Addr) (tb : Tok) (c : Nat) (oI : Obj), qs.length - (j + 1) = r → j + 1 ≤ qs.length → Inv X ((S, seqObj "list" #[.ref q, .int (kf i) tb] c) :: (It, oI) :: pins) σ H1 s → Same H H1 →
      s.heap.IsListIter It l (j + 1) → qs[i]? = some q → i ≤ j → Fst kf (j + 1) i → codeAny (model X.prog X.w) X.A (.builtin "min.loop" ⟨[.ref It, f, .ref S], []⟩) R s := by
  have hname : (toString "min" ++ toString ".loop" : String) = "min.loop" := by decide
  have W := Walks.list (prog := X.prog) (w := X.w) (A := X.A.in1) hh It l hlI (qs.map Value.ref).toArray
  have hsz : (qs.map Value.ref).toArray.size = qs.length := by rw [List.size_toArray, List.length_map]
  have isl : ∀ {ps : List (Addr × Obj)} {H2 : Hp} {s2 : Shared}, Inv X ps σ H2 s2 → Same H H2 → s2.heap.IsList l (qs.map Value.ref).toArray := fun I2 m2 => by
    obtain ⟨its, rv, pl, _⟩ := I2.list (m2.seq hl)
    rw [← refs_of rv]
    exact pl.isList
  intro r
  induction r with
  | zero =>
    intro j i s H1 q tb c oI hr hj I m1 hit hq hij hbest
    have hin : j + 1 = qs.length := by omega
    have pS := (I.pin (S, seqObj "list" #[.ref q, .int (kf i) tb] c) (List.mem_append_right _ (.head _))).1
    refine codeAny_builtin PySem.F.entry_min_loop ?_
    rw [Around.under_plainId PySem.F.plain_min_loop _]
    show wpAny _ X.A.in1 (seqItems? (.ref S) >>= _) _ _ _
    refine wpAny_bind (wpAny_seqItems pS rfl ?_)
    show wpAny _ X.A.in1 (tryCatch (pyNext (.ref It)) _ >>= _) _ _ _
    refine wpAny_bind (wpAny_tryCatch (W.done _ _ _ ⟨by rw [hsz, ← hin]; exact hit, isl I m1⟩ fun h' tk' hk' => ?_))
    have pI := I.pin (It, oI) (List.mem_append_right _ (.tail _ (.head _)))
    have J : Inv X ((S, seqObj "list" #[.ref q, .int (kf i) tb] c) :: pins) σ H1 { s with heap := h', toks := tk' } := by
      refine Inv.turned (it := It) (pins := (S, seqObj "list" #[.ref q, .int (kf i) tb] c) :: pins) ((pin_swap I).pins_of fun p hp => (pin_swap I).pin p (List.mem_append_right _ (List.mem_cons_of_mem _ hp))) (fun b o hb e => hk' b o (by simpa using hb) e) pI.2.1 pI.2.2.1 (.inr gI) (fun x c' e z => ?_) fun p hp => ?_
      · obtain ⟨v, o, ho, hd⟩ := I.cell x c' e
        rw [z, pI.1] at ho
        cases ho
        exact pI.2.2.2.2 v hd
      · rcases List.mem_append.mp hp with z | z
        · exact nI p (List.mem_append_left _ z)
        · rcases List.mem_cons.mp z with rfl | z
          · exact hSI
          · exact nI p (List.mem_append_right _ z)
    have pS' := (J.pin (S, seqObj "list" #[.ref q, .int (kf i) tb] c) (List.mem_append_right _ (.head _))).1
    show wpAny _ X.A.in1 (updateSeq S (fun _ => #[]) >>= _) _ _ _
    refine wpAny_bind ?_
    refine wpAny_updateSeq pS' rfl (wpAny_bind (wpAny_letGo (wpAny_pure ?_)))
    obtain ⟨c2, hc2⟩ : ∃ c2, (h'.update S (Obj.mapSeq fun _ => (#[] : Array Value))).get? S = some (seqObj "list" #[] c2) := ⟨_, get?_update_seq pS' fun _ => #[]⟩
    have J2 := pin_chg (t' := tk') J (fun b o hb e => ((Heap.SameBut.update h' S (Obj.mapSeq fun _ => (#[] : Array Value))).2 b hb).trans e) hc2 (fun v z => by cases z) gS nS
    exact hR i q H1 _ hq (by rw [← hin]; exact hbest) m1 (J2.pins_of fun p hp => J2.pin p (List.mem_append_right _ (List.mem_cons_of_mem _ hp)))
  | succ r ih =>
    intro j i s H1 q tb c oI hr hj I m1 hit hq hij hbest
    have hlt : j + 1 < qs.length := by omega
    have pS := (I.pin (S, seqObj "list" #[.ref q, .int (kf i) tb] c) (List.mem_append_right _ (.head _))).1
    refine codeAny_builtin PySem.F.entry_min_loop ?_
    rw [Around.under_plainId PySem.F.plain_min_loop _]
    show wpAny _ X.A.in1 (seqItems? (.ref S) >>= _) _ _ _
    refine wpAny_bind (wpAny_seqItems pS rfl ?_)
    show wpAny _ X.A.in1 (tryCatch (pyNext (.ref It)) _ >>= _) _ _ _
    refine wpAny_bind (wpAny_tryCatch (W.item (j + 1) _ _ _ (by rw [hsz]; exact hlt) ⟨hit, isl I m1⟩ fun v h' tk' hP hst' hk' => ?_))
    obtain ⟨q2, hq2, rfl⟩ : ∃ q2, qs[j + 1]? = some q2 ∧ v = .ref q2 := by
      have hP' : (qs.map Value.ref)[j + 1]? = some v := by simpa using hP
      rw [List.getElem?_map] at hP'
      cases e : qs[j + 1]? with
      | none => rw [e] at hP'; cases hP'
      | some q2 => rw [e] at hP'; exact ⟨q2, rfl, (Option.some.inj hP').symm⟩
    obtain ⟨oJ, hoJ, hoc, hod⟩ := id hst'.1
    have J : Inv X ((S, seqObj "list" #[.ref q, .int (kf i) tb] c) :: (It, oJ) :: pins) σ H1 { s with heap := h', toks := tk' } := by
      refine pin_swap (pin_chg (t' := tk') (pin_swap I) (fun b o hb e => hk' b o (by simpa using hb) e) hoJ (fun v z => by rw [hod] at z; cases z) gI fun p hp => ?_)
      rcases List.mem_append.mp hp with z | z
      · exact nI p (List.mem_append_left _ z)
      · rcases List.mem_cons.mp z with rfl | z
        · exact hSI
        · exact nI p (List.mem_append_right _ z)
    have key := turn (j + 1) q2 hq2 _ H1 _ J m1
    obtain ⟨qf, rfl⟩ | ⟨id, rfl⟩ := hf
    all_goals (
      show wpAny _ X.A.in1 (tryCatch (holding [.ref q2] (call _ [.ref q2])) _ >>= _) _ _ _
      refine wpAny_bind (wpAny_tryCatch (wpAny_holding (wpAny_mono key (fun x s2 he => ?_) fun _ _ hF => hF.elim)))
      obtain ⟨t2, H2, rfl, J2, m2⟩ := he
      have pS2 := (J2.pin (S, seqObj "list" #[.ref q, .int (kf i) tb] c) (List.mem_append_right _ (.head _))).1
      have pI2 := (J2.pin (It, oJ) (List.mem_append_right _ (.tail _ (.head _)))).1
      have hit2 : s2.heap.IsListIter It l (j + 1 + 1) := ⟨oJ, pI2, hoc, hod⟩
      show wpAny _ X.A.in1 (tryCatch (holding [.ref q2, .int (kf (j + 1)) t2] (richCompare .Lt (.int (kf (j + 1)) t2) (.int (kf i) tb) >>= _)) _ >>= _) _ _ _
      refine wpAny_bind (wpAny_tryCatch (wpAny_holding (wpAny_bind (CmpOf.ints_lt (prog := X.prog) (w := X.w) (A := X.A.in1) (P := fun i v => ∃ t, v = .int (kf i) t) kf (fun i v h => h) (j + 1) i _ _ _ _ _ ⟨t2, rfl⟩ ⟨tb, rfl⟩ ?_))))
      refine wpAny_bind (wpAny_holding (wpAny_truthy_bool ?_))
      refine wpAny_bind (wpAny_letGo (wpAny_pure ?_))
      by_cases hb' : kf (j + 1) < kf i
      · have sb := Heap.SameBut.update s2.heap S (Obj.mapSeq fun _ => #[.ref q2, .int (kf (j + 1)) t2])
        obtain ⟨c2, hc2⟩ : ∃ c2, (s2.heap.update S (Obj.mapSeq fun _ => #[.ref q2, .int (kf (j + 1)) t2])).get? S = some (seqObj "list" #[.ref q2, .int (kf (j + 1)) t2] c2) := ⟨_, get?_update_seq pS2 fun _ => #[.ref q2, .int (kf (j + 1)) t2]⟩
        simp only [hb', decide_true, if_true]
        refine wpAny_bind ?_
        refine wpAny_updateSeq pS2 rfl (wpAny_bind (wpAny_letGo ?_))
        rw [hname]
        refine wpAny_pure ⟨plainId_quiet PySem.F.plain_min_loop _, ih (j + 1) (j + 1) _ H2 q2 t2 c2 oJ (by omega) hlt (pin_chg (t' := s2.toks) J2 (fun b o hb e => (sb.2 b hb).trans e) hc2 (fun v z => by cases z) gS fun p hp => ?_) m2 ⟨oJ, (sb.2 It hSI.symm).trans pI2, hoc, hod⟩ hq2 (Nat.le_refl _) fun j' hj' => ?_⟩
        · rcases List.mem_append.mp hp with z | z
          · exact nS p (List.mem_append_left _ z)
          · rcases List.mem_cons.mp z with rfl | z
            · exact hSI.symm
            · exact nS p (List.mem_append_right _ z)
        · by_cases e : j' = j + 1
          · subst e
            exact ⟨by omega, fun _ => by omega⟩
          · have hb1 := hbest j' (by omega)
            have hb2 := hb1.1
            exact ⟨by omega, fun _ => by omega⟩
      · simp only [hb', decide_false, Bool.false_eq_true, if_false]
        refine wpAny_bind (wpAny_letGo ?_)
        rw [hname]
        refine wpAny_pure ⟨plainId_quiet PySem.F.plain_min_loop _, ih (j + 1) i _ H2 q tb c oJ (by omega) hlt J2 m2 hit2 hq (by omega) fun j' hj' => ?_⟩
        by_cases e : j' = j + 1
        · subst e
          exact ⟨by omega, fun _ => by omega⟩
        · exact hbest j' (by omega))
/-- min(l, key=f) -/
theorem min_run {l : Addr} {f : Value} {qs : List Addr} {Q : VK} (kf : Nat → Int) (hf : (∃ q, f = .ref q) ∨ ∃ id, f = .builtin id) (hh : X.A.handled = none) (I : Inv X pins σ H s) (hl : SqL X.K H l (qs.map V.ref)) (hne : 0 < qs.length) (turn : KeyTurn X σ H f qs kf)
    (q : ∀ (i : Nat) (q : Addr) (H' : Hp), qs[i]? = some q → Fst kf qs.length i → Same H H' → Q (.ref q) H') : wpAny (model X.prog X.w) X.A (call (.builtin "min") [.ref l] [(Str.ofString "key", f)]) (EP X pins σ Q) X.xe s := by
  have hname : (toString "min" ++ toString ".loop" : String) = "min.loop" := by decide
  have isl : ∀ {ps : List (Addr × Obj)} {H2 : Hp} {s2 : Shared}, Inv X ps σ H2 s2 → Same H H2 → s2.heap.IsList l (qs.map Value.ref).toArray := fun I2 m2 => by
    obtain ⟨its, rv, pl, _⟩ := I2.list (m2.seq hl)
    rw [← refs_of rv]
    exact pl.isList
  have hls := isl I (Same.refl H)
  obtain ⟨ol, hol, _⟩ := id hls
  have hll : l < s.heap.objs.size := Heap.lt_size hol
  have gE := I.sz
  have L : X.env.locals < s.heap.objs.size := I.lt
  refine kmk_tree PySem.F.kind_min PySem.F.plain_min PySem.F.entry_min (kmk_min_key _ _) ?_
  show wpAny _ X.A.in1 (Builtin.Builtins.bindParams "min" ["key", "default"] 0 ⟨[], [(Str.ofString "key", f)]⟩ >>= _) _ _ s
  refine wpAny_bind (wpAny_of_eq (show Builtin.Builtins.bindParams "min" ["key", "default"] 0 ⟨[], [(Str.ofString "key", f)]⟩ = pure [some f, none] from rfl) ?_)
  refine wpAny_bind (wpAny_pure ?_)
  refine wpAny_bind (wpAny_pyIter_list hls ?_)
  refine wpAny_bind (wpAny_newList ?_ (Nat.zero_le _))
  rw [hname]
  generalize hg : s.heap.push { cls := .type "list_iterator", data := .fields #[.ref l, .int 0 0] } = g1
  have z1 : g1.objs.size = s.heap.objs.size + 1 := by
    rw [← hg]
    exact size_push' ..
  have k1 : ∀ b o, s.heap.get? b = some o → (g1.push (seqObj "list" #[] 0)).get? b = some o := fun b o e => Heap.get?_push_of_some _ (by
    rw [← hg]
    exact Heap.get?_push_of_some _ e)
  have aI : (g1.push (seqObj "list" #[] 0)).get? s.heap.objs.size = some { cls := .type "list_iterator", data := .fields #[.ref l, .int 0 0] } := Heap.get?_push_of_some _ (by
    rw [← hg]
    exact Heap.get?_push_size _ rfl)
  have aS : (g1.push (seqObj "list" #[] 0)).get? g1.objs.size = some (seqObj "list" #[] 0) := Heap.get?_push_size _ rfl
  refine wpAny_pure ⟨plainId_quiet PySem.F.plain_min_loop _, ?_⟩
  have hlI : l ≠ s.heap.objs.size := Nat.ne_of_lt hll
  have hSI : g1.objs.size ≠ s.heap.objs.size := by omega
  have gI : X.s_0.heap.objs.size ≤ s.heap.objs.size := gE
  have gS : X.s_0.heap.objs.size ≤ g1.objs.size := by omega
  have nI : ∀ p ∈ X.pn ++ pins, p.1 ≠ s.heap.objs.size := fun p hp => Nat.ne_of_lt (Heap.lt_size (I.pin p hp).1)
  have nS : ∀ p ∈ X.pn ++ pins, p.1 ≠ g1.objs.size := fun p hp => by
    rw [z1]
    exact Nat.ne_of_lt (Nat.lt_succ_of_lt (Heap.lt_size (I.pin p hp).1))
  have I1 : Inv X pins σ H { s with heap := g1.push (seqObj "list" #[] 0), toks := s.toks } := I.kept k1
  have I2 : Inv X ((g1.objs.size, seqObj "list" #[] 0) :: (s.heap.objs.size, { cls := .type "list_iterator", data := .fields #[.ref l, .int 0 0] }) :: pins) σ H { s with heap := g1.push (seqObj "list" #[] 0), toks := s.toks } := by
    refine I1.pins_of fun p hp => ?_
    rcases List.mem_cons.mp hp with rfl | hp
    · exact ⟨aS, I.hok.fresh (by omega), (by rw [z1]; exact Nat.ne_of_gt (Nat.lt_succ_of_lt L)), I.nofs (by omega), fun v z => by cases z⟩
    · rcases List.mem_cons.mp hp with rfl | hp
      · exact ⟨aI, I.hok.fresh (Nat.le_refl _), Nat.ne_of_gt L, I.nofs (Nat.le_refl _), fun v z => by cases z⟩
      · exact I1.pin p (List.mem_append_right _ hp)
  have W := Walks.list (prog := X.prog) (w := X.w) (A := X.A.in1) hh s.heap.objs.size l hlI (qs.map Value.ref).toArray
  have hsz : (qs.map Value.ref).toArray.size = qs.length := by rw [List.size_toArray, List.length_map]
  refine codeAny_builtin PySem.F.entry_min_loop ?_
  rw [Around.under_plainId PySem.F.plain_min_loop _]
  show wpAny _ X.A.in1 (seqItems? (.ref _) >>= _) _ _ _
  refine wpAny_bind (wpAny_seqItems aS rfl ?_)
  show wpAny _ X.A.in1 (tryCatch (pyNext (.ref s.heap.objs.size)) _ >>= _) _ _ _
  refine wpAny_bind (wpAny_tryCatch (W.item 0 _ _ _ (by rw [hsz]; exact hne) ⟨⟨_, aI, rfl, rfl⟩, isl I1 (Same.refl H)⟩ fun v h' tk' hP hst' hk' => ?_))
  obtain ⟨q2, hq2, rfl⟩ : ∃ q2, qs[0]? = some q2 ∧ v = .ref q2 := by
    have hP' : (qs.map Value.ref)[0]? = some v := by simpa using hP
    rw [List.getElem?_map] at hP'
    cases e : qs[0]? with
    | none => rw [e] at hP'; cases hP'
    | some q2 => rw [e] at hP'; exact ⟨q2, rfl, (Option.some.inj hP').symm⟩
  obtain ⟨oJ, hoJ, hoc, hod⟩ := id hst'.1
  have J : Inv X ((g1.objs.size, seqObj "list" #[] 0) :: (s.heap.objs.size, oJ) :: pins) σ H { s with heap := h', toks := tk' } := by
    refine pin_swap (pin_chg (s := { s with heap := g1.push (seqObj "list" #[] 0), toks := s.toks }) (t' := tk') (pin_swap I2) (fun b o hb e => hk' b o (by simpa using hb) e) hoJ (fun v z => by rw [hod] at z; cases z) gI fun p hp => ?_)
    rcases List.mem_append.mp hp with z | z
    · exact nI p (List.mem_append_left _ z)
    · rcases List.mem_cons.mp z with rfl | z
      · exact hSI
      · exact nI p (List.mem_append_right _ z)
  have key := turn 0 q2 hq2 _ H _ J (Same.refl H)
  have hR : ∀ (i : Nat) (q : Addr) (H' : Hp) (s' : Shared), qs[i]? = some q → Fst kf qs.length i → Same H H' → Inv X pins σ H' s' → EP X pins σ Q (.ref q) s' := fun i a H' s' e1 e2 e3 e4 => ⟨.ref a, H', e4, rfl, q i a H' e1 e2 e3⟩
  have ml := fun hff => min_loop (S := g1.objs.size) (It := s.heap.objs.size) (f := f) (R := fun r s' => match r with | .ok (.ret v) => EP X pins σ Q v s' | .ok _ => False | .error e => X.xe e s') kf hff hh hl hlI hSI gS gI nS nI turn hR
  obtain ⟨qf, rfl⟩ | ⟨id, rfl⟩ := hf
  all_goals (
    show wpAny _ X.A.in1 (tryCatch (holding [.ref q2] (call _ [.ref q2])) _ >>= _) _ _ _
    refine wpAny_bind (wpAny_tryCatch (wpAny_holding (wpAny_mono key (fun x s2 he => ?_) fun _ _ hF => hF.elim)))
    obtain ⟨t2, H2, rfl, J2, m2⟩ := he
    have pS2 := (J2.pin (g1.objs.size, seqObj "list" #[] 0) (List.mem_append_right _ (.head _))).1
    have pI2 := (J2.pin (s.heap.objs.size, oJ) (List.mem_append_right _ (.tail _ (.head _)))).1
    have sb := Heap.SameBut.update s2.heap g1.objs.size (Obj.mapSeq fun _ => #[.ref q2, .int (kf 0) t2])
    obtain ⟨c2, hc2⟩ : ∃ c2, (s2.heap.update g1.objs.size (Obj.mapSeq fun _ => #[.ref q2, .int (kf 0) t2])).get? g1.objs.size = some (seqObj "list" #[.ref q2, .int (kf 0) t2] c2) := ⟨_, get?_update_seq pS2 fun _ => #[.ref q2, .int (kf 0) t2]⟩
    show wpAny _ X.A.in1 (updateSeq g1.objs.size (fun _ => #[.ref q2, .int (kf 0) t2]) >>= _) _ _ _
    refine wpAny_bind ?_
    refine wpAny_updateSeq pS2 rfl ?_
    rw [hname]
    refine wpAny_pure ⟨plainId_quiet PySem.F.plain_min_loop _, ?_⟩
    refine ml (by first | exact .inl ⟨_, rfl⟩ | exact .inr ⟨_, rfl⟩) _ 0 0 _ H2 q2 t2 c2 oJ rfl hne (pin_chg (t' := s2.toks) J2 (fun b o hb e => (sb.2 b hb).trans e) hc2 (fun v z => by cases z) gS fun p hp => ?_) m2 ⟨oJ, (sb.2 _ hSI.symm).trans pI2, hoc, hod⟩ hq2 (Nat.le_refl _) fun j' hj' => ?_
    · rcases List.mem_append.mp hp with z | z
      · exact nS p (List.mem_append_left _ z)
      · rcases List.mem_cons.mp z with rfl | z
        · exact hSI.symm
        · exact nS p (List.mem_append_right _ z)
    · have e : j' = 0 := by omega
      subst e
      exact ⟨by omega, fun h => absurd h (Nat.lt_irrefl _)⟩)
end
end Ww
namespace Ww
open PySem PySem.Spec PyProof.Rows L2 LamX NdefX
/-- the context one built-in deeper; nothing is raised there -/
def inn (X : Cx) : Cx := { X with A := X.A.in1, xe := fun _ _ => False }
section
variable {X : Cx} {pins : List (Addr × Obj)} {σ : L2.St} {H : Hp} {s : Shared}
theorem ok_inn (o : X.Ok) : (inn X).Ok := ⟨o.mod, o.kind, o.glob, o.blt, o.above, o.inj, o.has, o.cab, o.hd, o.frames, o.stk, o.exf, o.bs, o.bsz, o.noex, o.exfs, o.funs, o.frf⟩
theorem to_inn (I : Inv X pins σ H s) : Inv (inn X) pins σ H s := ⟨ok_inn I.ok, I.os, I.bare, I.base, I.loc, I.cell, I.free, I.freeC, I.pin, I.hok, I.len⟩
theorem of_inn (o : X.Ok) (I : Inv (inn X) pins σ H s) : Inv X pins σ H s := ⟨o, I.os, I.bare, I.base, I.loc, I.cell, I.free, I.freeC, I.pin, I.hok, I.len⟩
end
/-- min(xs, key=sum), xs a list of lists of whole numbers -/
def tMinSum (K : PySem.W.Frag) (t : TA) : TE := fun σ H Q => t σ H fun vs H1 => ∃ (l : Addr) (qs : List Addr) (kf : Nat → Int), vs = [.ref l] ∧ SqL K H1 l (qs.map V.ref) ∧ 0 < qs.length ∧
  (∀ (i : Nat) (q : Addr), qs[i]? = some q → ∃ ns : List Int, SqL K H1 q (ns.map V.int) ∧ kf i = ns.sum) ∧ ∀ (i : Nat) (q : Addr) (H' : Hp), qs[i]? = some q → Fst kf qs.length i → Same H1 H' → Q (.ref q) H'
/-- min(xs, key=f), f a local function of the def -/
def tMinN (K : PySem.W.Frag) (mk : Addr → NF) (i : Nat) (js : List Nat) (sp : Addr → Addr → List (Option V) → Sp) (E : XK) (t : TA) : TE := fun σ H Q => t σ H fun vs H1 => ∃ (l : Addr) (qs : List Addr) (kf : Nat → Int) (f c' : Addr), vs = [.ref l] ∧ SqL K H1 l (qs.map V.ref) ∧ 0 < qs.length ∧
  σ[i]? = some (some (.ref f)) ∧ H1 f = some (FnO f (mk c')) ∧ H1 (mk c').c = some (CodeO (mk c').c (mk c').qual) ∧
  (∀ (i : Nat) (q : Addr) (H2 : Hp) (Q' : VK), qs[i]? = some q → Same H1 H2 → (∀ H3, Same H2 H3 → Q' (.int (kf i)) H3) → sp f c' (js.map (slotAt σ)) [.ref q] H2 Q' E) ∧
  ∀ (i : Nat) (q : Addr) (H' : Hp), qs[i]? = some q → Fst kf qs.length i → Same H1 H' → Q (.ref q) H'
theorem same_trans {H H1 H2 : Hp} (a : Same H H1) (b : Same H1 H2) : Same H H2 := fun c o e => b c o (a c o e)
section
variable {X : Cx} {p kp kpos pos : Pos} {e : Expr} {t : TA}
theorem pe_minSum (hc : X.calm = true) (hg : Gl X "min") (hm : X.mg "min" = none) (hg2 : Gl X "sum") (hm2 : X.mg "sum" = none) (ha : PA X [e] t)
    (he : backTo pos (starEach [e] X.env) = (false, eval e X.env) :: backTo pos (starEach [] X.env) := by rfl) (hpl : (backTo pos (starEach [e] X.env)).any (·.1) = false := by rfl) :
    PE X (.Call (.Name "min" p) [e] [⟨some "key", .Name "sum" kp, kpos⟩] pos) (tMinSum X.K t) := by
  refine ⟨fun pins s σ H Q I h => ?_⟩
  refine wpAny_Call_Name_kw (ld_blt (u := .builtin "min") I hg hm (by decide +kernel) ?_ (by decide) (by decide))
  refine PyProof.Rows.callWith_kw (thn (ha.run pos pins s σ H _ I h) fun us s1 ⟨vs, H1, I1, r1, q1⟩ => ?_) he hpl rfl rfl
  show wpAny _ _ (evalAll ((do let v ← eval (.Name "sum" kp) X.env; standAt pos; pure v) :: [])) _ _ s1
  refine wpAny_evalAll_cons (wpAny_bind (ld_blt (u := .builtin "sum") I1 hg2 hm2 (by decide +kernel) (wpAny_bind (wpAny_standAt (wpAny_pure (wpAny_evalAll_nil ?_)))) (by decide) (by decide)))
  obtain ⟨l, qs, kf, rfl, hl, hne, hk, q⟩ := q1
  obtain rfl := Vals.ref1 r1
  refine min_run kf (.inr ⟨_, rfl⟩) (I1.ok.hd hc) I1 hl hne (fun i a ha pins' H2 s2 I2 m2 => ?_) q
  obtain ⟨ns, hns, e⟩ := hk i a ha
  have key := cr_sum (X := inn X) hc pins' s2 σ H2 [.ref a] [.ref a] (fun v H3 => v = .int (kf i) ∧ H3 = H2) (to_inn I2) (.cons rfl .nil) ⟨a, ns, rfl, m2.seq hns, by rw [e], rfl⟩
  refine wpAny_mono key (fun v s3 ⟨x, H3, I3, r3, e1, e2⟩ => ?_) fun _ _ z => z
  subst e1 e2
  obtain ⟨tk, rfl⟩ := r3
  exact ⟨tk, _, rfl, of_inn I2.ok I3, m2⟩
theorem pe_minN {CX : CXT} {mk : Addr → NF} {cl : List (Str × Addr)} {ps fr : List Str} {js : List Nat} {i j k : Nat} {x : Str} {sp : Addr → Addr → List (Option V) → Sp} {E : XK} (hc : X.calm = true) (hg : Gl X "min") (hm : X.mg "min" = none) (ha : PA X [e] t)
    (Fn : ∀ f c', NOk X.prog X.w X.K X.mg X.base CX k f (mk c') ps fr (sp f c')) (hcl : ∀ c', (mk c').cl = cl) (cp : X.Ok → Caps X cl fr js) (hr : Room (j + 1) X.A) (hk : k ≤ j) (hx : Passes CX (inn X) E) (hN : X.N[i]? = some x) (hv : Vis X.env.scope x)
    (hd : (x == ("__debug__" : Str)) = false := by decide) (hcd : (x == ("__classdict__" : Str)) = false := by decide)
    (he : backTo pos (starEach [e] X.env) = (false, eval e X.env) :: backTo pos (starEach [] X.env) := by rfl) (hpl : (backTo pos (starEach [e] X.env)).any (·.1) = false := by rfl) :
    PE X (.Call (.Name "min" p) [e] [⟨some "key", .Name x kp, kpos⟩] pos) (tMinN X.K mk i js sp E t) := by
  refine ⟨fun pins s σ H Q I h => ?_⟩
  refine wpAny_Call_Name_kw (ld_blt (u := .builtin "min") I hg hm (by decide +kernel) ?_ (by decide) (by decide))
  refine PyProof.Rows.callWith_kw (thn (ha.run pos pins s σ H _ I h) fun us s1 ⟨vs, H1, I1, r1, q1⟩ => ?_) he hpl rfl rfl
  show wpAny _ _ (evalAll ((do let v ← eval (.Name x kp) X.env; standAt pos; pure v) :: [])) _ _ s1
  obtain ⟨l, qs, kf, f, c', rfl, hl, hne, hs, hf, hco, hsp, q⟩ := q1
  obtain rfl := Vals.ref1 r1
  refine wpAny_evalAll_cons (wpAny_bind (thn ((pe_var (pos := kp) hN hv hd hcd).run pins s1 σ H1 (fun v H2 => v = .ref f ∧ H2 = H1) I1 ⟨.ref f, hs, rfl, rfl⟩) fun u s2 ⟨v, H2, I2, r2, e1, e2⟩ => ?_))
  subst e1 e2
  obtain rfl : u = Value.ref f := r2
  refine wpAny_bind (wpAny_standAt (wpAny_pure (wpAny_evalAll_nil ?_)))
  refine min_run kf (.inl ⟨_, rfl⟩) (I2.ok.hd hc) I2 hl hne (fun n a ha pins' H3 s3 I3 m3 => ?_) q
  have C := cells_of I3 (cp I3.ok)
  have key := run_n (X := inn X) (mk := mk) (sp := sp) (Q := fun v H4 => v = .int (kf n) ∧ Same H3 H4) (Fn f c') hr.in1 hk hx (to_inn I3) (m3 _ _ hf) (m3 _ _ hco) (by rw [hcl c']; exact C) (us := [.ref a]) (vs := [.ref a]) (.cons rfl .nil) (hsp n a H3 _ ha m3 fun H4 m4 => ⟨rfl, m4⟩)
  refine wpAny_mono key (fun v s4 ⟨x, H4, I4, r4, e1, e2⟩ => ?_) fun _ _ z => z
  subst e1
  obtain ⟨tk, rfl⟩ := r4
  exact ⟨tk, _, rfl, of_inn I3.ok I4, same_trans m3 e2⟩
end
end Ww
namespace Ww
open PySem PySem.Spec PyProof.Rows L2
/-! ### the walker -/
structure M where
  l : List Nat
  here : Nat
  gone : Nat
  wet : Nat
  come : Nat
  lost : Nat
def M0 : M := ⟨[], 0, 0, 0, 0, 0⟩
def wF (u : Addr) (m : M) : List (Str × V) := [("umbrellas", .ref u), ("here", nv m.here), ("gone", nv m.gone), ("wet", nv m.wet), ("come", nv m.come), ("lost", nv m.lost)]
def WAt (K : PySem.W.Frag) (H : Hp) (a u : Addr) (m : M) : Prop := (∃ dx, H a = some (.ins (He.ga K "Walker") dx (wF u m))) ∧ H u = some (.lst (nl m.l))
/-- the table of best_put's code object -/
def nmT : Nat → Nat → Str := fun _ _ => "best_put.<locals>.how_often"
def TB (K : PySem.W.Frag) (H : Hp) : Prop := NdefX.TabN H (tb K) nmT
def Fram (K : PySem.W.Frag) (H H' : Hp) (a u : Addr) : Prop := (∀ b o, H b = some o → b ≠ a → b ≠ u → (∀ ps, o ≠ .tbl ps) → H' b = some o) ∧ (TB K H → TB K H')
/-- what a method of the walker leaves: the walker as m', its answer a new list -/
def Ret (K : PySem.W.Frag) (H : Hp) (a u : Addr) (m' : M) (ans : List Int) (Q : VK) : Prop :=
  ∀ (H' : Hp) (p u' : Addr), WAt K H' a u' m' → (u' = u ∨ H u' = none) → H p = none → p ≠ u' → H' p = some (.lst (ans.map V.int)) → Fram K H H' a u → Q (.ref p) H'
theorem TB.ne {K : PySem.W.Frag} {H : Hp} {a : Addr} {o : HO} (t : TB K H) (e : H a = some o) (n : ∀ ps, o ≠ .tbl ps) : a ≠ tb K := fun z => by
  obtain ⟨ps, h, _⟩ := t
  rw [z, h] at e
  exact n ps (Option.some.inj e).symm
theorem TB.same {K : PySem.W.Frag} {H H' : Hp} (t : TB K H) (s : Same H H') : TB K H' := NdefX.TabN.ext t fun b o e => s b o e
theorem TB.fr {K : PySem.W.Frag} {H H' : Hp} {a u : Addr} {m : M} (t : TB K H) (h : WAt K H a u m) (f : ∀ b o, H b = some o → b ≠ a → b ≠ u → H' b = some o) : TB K H' := by
  obtain ⟨ps, h1, h2, h3⟩ := t
  obtain ⟨⟨dx, ha⟩, hu⟩ := h
  refine ⟨ps, f _ _ h1 (ne_of h1 ha fun z => by cases z) (ne_of h1 hu fun z => by cases z), h2, fun pos cv hc => ?_⟩
  obtain ⟨c, e1, e2⟩ := h3 pos cv hc
  exact ⟨c, e1, f _ _ e2 (ne_of e2 ha fun z => by unfold LamX.CodeO at z; cases z) (ne_of e2 hu fun z => by unfold LamX.CodeO at z; cases z)⟩
theorem Ret.old {K : PySem.W.Frag} {H : Hp} {a u : Addr} {m m' : M} {ans : List Int} {Q : VK} (r : Ret K H a u m' ans Q) (h : WAt K H a u m) (H' : Hp) (p u' : Addr) (h1 : WAt K H' a u' m') (h2 : u' = u ∨ H u' = none) (h3 : H p = none) (h4 : p ≠ u') (h5 : H' p = some (.lst (ans.map V.int)))
    (f : ∀ b o, H b = some o → b ≠ a → b ≠ u → H' b = some o) : Q (.ref p) H' := r H' p u' h1 h2 h3 h4 h5 ⟨fun b o e n1 n2 _ => f b o e n1 n2, fun t => t.fr h f⟩
theorem WAt.same {K : PySem.W.Frag} {H H' : Hp} {a u : Addr} {m : M} (h : WAt K H a u m) (s : Same H H') : WAt K H' a u m := by
  obtain ⟨⟨dx, h1⟩, h2⟩ := h
  exact ⟨⟨dx, s _ _ h1⟩, s _ _ h2⟩
theorem WAt.ne {K : PySem.W.Frag} {H : Hp} {a u : Addr} {m : M} (h : WAt K H a u m) : a ≠ u := by
  obtain ⟨⟨dx, h1⟩, h2⟩ := h
  exact ne_of h1 h2 (fun z => by cases z)
/-- nothing changed but a new answer -/
theorem Ret.still {K : PySem.W.Frag} {H H' : Hp} {a u p : Addr} {m : M} {ans : List Int} {Q : VK} (r : Ret K H a u m ans Q) (h : WAt K H a u m) (s : Same H H') (n : H p = none) (e : H' p = some (.lst (ans.map V.int))) : Q (.ref p) H' :=
  r H' p u (h.same s) (.inl rfl) n (fun z => by rw [z, h.2] at n; cases n) e ⟨fun b o q _ _ _ => s b o q, fun t => t.same s⟩
def sp_Walker_init (K : PySem.W.Frag) : Sp := fun vs H Q _ => ∃ (p dx : Addr), vs = [.ref p] ∧ H p = some (.ins (He.ga K "Walker") dx []) ∧
  ∀ (H' : Hp) (u : Addr), WAt K H' p u M0 → H u = none → (∀ b o, H b = some o → b ≠ p → H' b = some o) → Q .non H'
def sp_Walker_has_begun (K : PySem.W.Frag) : Sp := fun vs H Q _ => ∃ (a u : Addr) (m : M), vs = [.ref a] ∧ WAt K H a u m ∧ Q (.bl (decide (0 < m.l.length))) H
def sp_Walker_has_place (K : PySem.W.Frag) : Sp := fun vs H Q _ => ∃ (a u : Addr) (m : M) (j : Nat), vs = [.ref a, .int (j : Int)] ∧ WAt K H a u m ∧ Q (.bl (decide (j < m.l.length))) H
def mBegin (m : M) (h : Nat) (l : List Nat) : M × List Int := if l.length < 2 ∨ 4 < l.length ∨ l.length ≤ h ∨ 6 < l.sum then (m, [-1]) else (⟨l, h, 0, 0, l.sum, 0⟩, [0])
def mGo (m : M) (j r c : Nat) : M × List Int := if m.l.length ≤ j ∨ 1 < r ∨ 1 < c then (m, [-1]) else
  (⟨(Mu44.goes ⟨m.l, m.here⟩ (mk j r c)).1.at_, j, m.gone + 1, m.wet + b2n (Mu44.goes ⟨m.l, m.here⟩ (mk j r c)).2, m.come, m.lost⟩, [(b2n (Mu44.goes ⟨m.l, m.here⟩ (mk j r c)).2 : Int)])
def mBring (m : M) (i : Nat) : M × List Int := if m.l.length ≤ i then (m, [-2]) else if 6 ≤ m.l.sum then (m, [-5]) else
  (⟨m.l.set i (m.l.getD i 0 + 1), m.here, m.gone, m.wet, m.come + 1, m.lost⟩, [((m.l.getD i 0 + 1 : Nat) : Int)])
def mLose (m : M) (i : Nat) : M × List Int := if m.l.length ≤ i then (m, [-2]) else if m.l.getD i 0 = 0 then (m, [-6]) else
  (⟨m.l.set i (m.l.getD i 0 - 1), m.here, m.gone, m.wet, m.come, m.lost + 1⟩, [((m.l.getD i 0 - 1 : Nat) : Int)])
def mTry (m : M) (r w : List Nat) : List Int := (((Mu44.wet ⟨m.l, m.here⟩ (ways r w)).map b2n).sum : Int) :: ((Mu44.wet ⟨m.l, m.here⟩ (ways r w)).map b2n).map fun (n : Nat) => (n : Int)
def sp_Walker_begin (K : PySem.W.Frag) : Sp := fun vs H Q _ => ∃ (a u b : Addr) (m : M) (h : Nat) (l : List Nat), vs = [.ref a, .int (h : Int), .ref b] ∧ WAt K H a u m ∧ SqL K H b (nl l) ∧
  Ret K H a u (mBegin m h l).1 (mBegin m h l).2 Q
def sp_Walker_go (K : PySem.W.Frag) : Sp := fun vs H Q _ => ∃ (a u : Addr) (m : M) (j r c : Nat), vs = [.ref a, .int (j : Int), .int (r : Int), .int (c : Int)] ∧ WAt K H a u m ∧ m.here < m.l.length ∧ m.l.length ≤ 1000 ∧
  Ret K H a u (mGo m j r c).1 (mGo m j r c).2 Q
def sp_Walker_bring (K : PySem.W.Frag) : Sp := fun vs H Q _ => ∃ (a u : Addr) (m : M) (i : Nat), vs = [.ref a, .int (i : Int)] ∧ WAt K H a u m ∧ Ret K H a u (mBring m i).1 (mBring m i).2 Q
def sp_Walker_lose (K : PySem.W.Frag) : Sp := fun vs H Q _ => ∃ (a u : Addr) (m : M) (i : Nat), vs = [.ref a, .int (i : Int)] ∧ WAt K H a u m ∧ Ret K H a u (mLose m i).1 (mLose m i).2 Q
def sp_Walker_try_ways (K : PySem.W.Frag) : Sp := fun vs H Q _ => ∃ (a u b c : Addr) (m : M) (r w : List Nat), vs = [.ref a, .ref b, .ref c] ∧ WAt K H a u m ∧ SqL K H b (nl r) ∧ SqL K H c (nl w) ∧
  m.here < m.l.length ∧ m.l.length ≤ 1000 ∧ (∀ t ∈ r, t < m.l.length) ∧ w.length = r.length ∧ r.length ≤ 1000 ∧ Ret K H a u m (mTry m r w) Q
/-! ### the reader -/
def rF (c : Addr) (i : Nat) : List (Str × V) := [("calls", .ref c), ("at", nv i)]
def RAt (K : PySem.W.Frag) (H : Hp) (r c : Addr) (i : Nat) : Prop := ∃ dx, H r = some (.ins (He.ga K "Reader") dx (rF c i))
def sp_Reader_init (K : PySem.W.Frag) : Sp := fun vs H Q _ => ∃ (p dx c : Addr), vs = [.ref p, .ref c] ∧ H p = some (.ins (He.ga K "Reader") dx []) ∧
  ∀ (H' : Hp), RAt K H' p c 0 → (∀ b o, H b = some o → b ≠ p → H' b = some o) → Q .non H'
def sp_Reader_is_done (K : PySem.W.Frag) : Sp := fun vs H Q _ => ∃ (r c : Addr) (i : Nat) (ns : List Int), vs = [.ref r] ∧ RAt K H r c i ∧ SqL K H c (ns.map V.int) ∧ Q (.bl (decide (ns.length ≤ i))) H
def sp_Reader_take (K : PySem.W.Frag) : Sp := fun vs H Q _ => ∃ (r c : Addr) (i : Nat) (ns : List Int) (z : Int), vs = [.ref r] ∧ RAt K H r c i ∧ SqL K H c (ns.map V.int) ∧ ns[i]? = some z ∧
  ∀ H' : Hp, RAt K H' r c (i + 1) → (∀ b o, H b = some o → b ≠ r → H' b = some o) → Q (.int z) H'
def sp_Reader_take_numbers (K : PySem.W.Frag) : Sp := fun vs H Q _ => ∃ (r c : Addr) (i k : Nat) (ns : List Int), vs = [.ref r, .int (k : Int)] ∧ RAt K H r c i ∧ SqL K H c (ns.map V.int) ∧ ns.length ≤ 2000 ∧
  ∀ (H' : Hp) (p : Addr), RAt K H' r c (i + k) → (∀ b o, H b = some o → b ≠ r → H' b = some o) → H p = none → H' p = some (.lst (((ns.drop i).take k).map V.int)) → Q (.ref p) H'
/-- rows in the heap -/
def RowsAt (H : Hp) : List V → List (List Int) → Prop := Paired fun v x => ∃ q, v = .ref q ∧ H q = some (.lst (x.map V.int))
theorem RowsAt.mono {H H' : Hp} : ∀ {qs : List V} {xs : List (List Int)}, RowsAt H qs xs → (∀ q o, V.ref q ∈ qs → H q = some (.lst o) → H' q = some (.lst o)) → RowsAt H' qs xs
  | _, _, .nil, _ => .nil
  | _, _, .cons ⟨q, e, h⟩ t, f => .cons ⟨q, e, f q _ (by rw [e]; exact List.mem_cons_self ..) h⟩ (RowsAt.mono t fun q o m h => f q o (List.mem_cons_of_mem _ m) h)
theorem RowsAt.snoc {H : Hp} {q : Addr} {x : List Int} : ∀ {qs : List V} {xs : List (List Int)}, RowsAt H qs xs → H q = some (.lst (x.map V.int)) → RowsAt H (qs ++ [.ref q]) (xs ++ [x])
  | _, _, .nil, h => .cons ⟨q, rfl, h⟩ .nil
  | _, _, .cons a t, h => .cons a (RowsAt.snoc t h)
theorem RowsAt.len {H : Hp} {qs : List V} {xs : List (List Int)} (h : RowsAt H qs xs) : qs.length = xs.length := Paired.length h
def sp_Reader_take_rows (K : PySem.W.Frag) : Sp := fun vs H Q _ => ∃ (r c : Addr) (i k : Nat) (ns : List Int) (xs : List (List Int)) (t : List Int), vs = [.ref r, .int (k : Int)] ∧ RAt K H r c i ∧ SqL K H c (ns.map V.int) ∧ ns.length ≤ 2000 ∧ k ≤ 1000 ∧ i ≤ ns.length ∧
  PyFlat.rows k (ns.drop i) = some (xs, t) ∧
  ∀ (H' : Hp) (p : Addr) (qs : List V), RAt K H' r c (ns.length - t.length) → (∀ b o, H b = some o → b ≠ r → H' b = some o) → H p = none → H' p = some (.lst qs) → RowsAt H' qs xs → Q (.ref p) H'
end Ww
namespace Ww
open PySem PySem.Spec PyProof.Rows L2
theorem dec_b2n (z : Bool) : decide (nv (b2n z) = V.int 1) = z := by
  cases z <;> rfl
theorem dec_b2n0 (z : Bool) : decide (nv (b2n z) = V.int 0) = !z := by
  cases z <;> rfl
theorem rep_nl : ∀ n : Nat, (List.replicate n [V.int 0]).flatten = nl (List.replicate n 0)
  | 0 => rfl
  | n + 1 => by
    rw [List.replicate_succ, List.replicate_succ, List.flatten_cons, rep_nl n]
    rfl
/-! ### paired lists -/
theorem Pd.mono {α β : Type} {R R' : α → β → Prop} : ∀ {qs : List α} {xs : List β}, Paired R qs xs → (∀ q ∈ qs, ∀ x, R q x → R' q x) → Paired R' qs xs
  | _, _, .nil, _ => .nil
  | _, _, .cons a t, f => .cons (f _ (List.mem_cons_self ..) _ a) (Pd.mono t fun q hq x h => f q (List.mem_cons_of_mem _ hq) x h)
theorem Pd.app {α β : Type} {R : α → β → Prop} {bs : List α} {ys : List β} (h : Paired R bs ys) : ∀ {qs : List α} {xs : List β}, Paired R qs xs → Paired R (qs ++ bs) (xs ++ ys)
  | _, _, .nil => h
  | _, _, .cons a t => .cons a (Pd.app h t)
theorem Pd.get {α β : Type} {R : α → β → Prop} : ∀ {qs : List α} {xs : List β} {j : Nat} {q : α}, Paired R qs xs → qs[j]? = some q → ∃ x, xs[j]? = some x ∧ R q x
  | _, _, _, _, .nil, e => by simp at e
  | _, _, 0, _, .cons a t, e => by
    cases e
    exact ⟨_, rfl, a⟩
  | _, _, j + 1, q, .cons a t, e => Pd.get (j := j) t e
theorem Pd.tog {α β : Type} {R : α → β → Prop} : ∀ {qs : List α} {xs : List β} {j : Nat} {x : β}, Paired R qs xs → xs[j]? = some x → ∃ q, qs[j]? = some q ∧ R q x
  | _, _, _, _, .nil, e => by simp at e
  | _, _, 0, _, .cons a t, e => by
    cases e
    exact ⟨_, rfl, a⟩
  | _, _, j + 1, q, .cons a t, e => Pd.tog (j := j) t e
theorem map_at {α β : Type} {f : α → β} {l : List α} {j : Nat} {y : β} (h : (l.map f)[j]? = some y) : ∃ x, l[j]? = some x ∧ y = f x := by
  rw [List.getElem?_map] at h
  cases e : l[j]? with
  | none => rw [e] at h; cases h
  | some x => rw [e] at h; exact ⟨x, rfl, (Option.some.inj h).symm⟩
theorem map_snoc {α β : Type} (f : α → β) (l : List α) (a : α) : l.map f ++ [f a] = (l ++ [a]).map f := by
  rw [List.map_append]
  rfl
/-! ### a list that grows, its items known -/
def Grow {α : Type} (R : Hp → Addr → α → Prop) (H0 : Hp) (l3 : Addr) (cs : List α) (H3 : Hp) : Prop := ∃ ps : List Addr, Same H0 H3 ∧ H3 l3 = some (.lst (ps.map V.ref)) ∧ ∀ o, Paired (R (upd H3 l3 o)) ps cs
def Mono {α : Type} (R : Hp → Addr → α → Prop) : Prop := ∀ H H' q x, Same H H' → R H q x → R H' q x
theorem same_at {H H' : Hp} {a : Addr} {o : HO} (s : Same H H') : Same (upd H a o) (upd H' a o) := fun b u e => by
  by_cases h : b = a
  · rw [h, upd_same] at e ⊢
    exact e
  · rw [upd_ne h] at e ⊢
    exact s b u e
theorem Grow.start {α : Type} {R : Hp → Addr → α → Prop} {H0 : Hp} {l3 : Addr} (h : H0 l3 = none) : Grow R H0 l3 [] (upd H0 l3 (.lst [])) := ⟨[], same_new h, upd_same, fun _ => .nil⟩
theorem Grow.add {α : Type} {R : Hp → Addr → α → Prop} {H0 H3 H4 : Hp} {l3 t1 : Addr} {cs : List α} {x : α} {ps : List Addr} (mo : Mono R) (hl3 : H0 l3 = none) (s0 : Same H0 H3) (hc : ∀ o, Paired (R (upd H3 l3 o)) ps cs) (s : Same H3 H4) (hR : ∀ o, R (upd H4 l3 o) t1 x) :
    Grow R H0 l3 (cs ++ [x]) (upd H4 l3 (.lst (ps.map V.ref ++ [.ref t1]))) :=
  ⟨ps ++ [t1], fun b o e => by rw [upd_ne (ne_of_none e hl3)]; exact s _ _ (s0 _ _ e), by rw [upd_same, map_snoc], fun o => by
    rw [upd_upd]
    exact Pd.app (.cons (hR o) .nil) (Pd.mono (hc o) fun q _ y hy => mo _ _ q y (same_at s) hy)⟩
theorem Grow.now {α : Type} {R : Hp → Addr → α → Prop} {H3 : Hp} {l3 : Addr} {cs : List α} {ps : List Addr} (h3 : H3 l3 = some (.lst (ps.map V.ref))) (hc : ∀ o, Paired (R (upd H3 l3 o)) ps cs) : Paired (R H3) ps cs := by
  have := hc (.lst (ps.map V.ref))
  rw [upd_id h3] at this
  exact this
/-- a beginning of choices -/
def ChR (K : PySem.W.Frag) (H : Hp) (q : Addr) (c : Ch) : Prop := ∃ la ca, H q = some (.tup [.ref la, .ref ca]) ∧ SqL K H la (nl c.1) ∧ H ca = some (.lst (nl c.2))
theorem ChR.mono {K : PySem.W.Frag} : Mono (ChR K) := fun H H' q x s ⟨la, ca, h1, h2, h3⟩ => ⟨la, ca, s _ _ h1, s.seq h2, s _ _ h3⟩
/-- a beginning of weathers -/
def WtR (K : PySem.W.Frag) (H : Hp) (q : Addr) (c : Wt) : Prop := ∃ la, H q = some (.tup [.ref la, nv c.2.1, nv c.2.2]) ∧ SqL K H la (nl c.1)
theorem WtR.mono {K : PySem.W.Frag} : Mono (WtR K) := fun H H' q x s ⟨la, h1, h2⟩ => ⟨la, s _ _ h1, s.seq h2⟩
/-- lists of numbers at addresses -/
def LsAt (H : Hp) : List Addr → List (List Nat) → Prop := Paired fun q l => H q = some (.lst (nl l))
/-- pairs of numbers at addresses -/
def TsAt (H : Hp) : List Addr → List (Nat × Nat) → Prop := Paired fun q x => H q = some (.tup [nv x.1, nv x.2])
theorem filt_all {α : Type} (l : List α) : (l.filter fun _ => true) = l := by
  rw [List.filter_eq_self]
  exact fun _ _ => rfl
/-! ### sums over a list of pairs -/
theorem wipe2 (σ : L2.St) (i j : Nat) (h : i ≠ j) (a b : Option V) : wipe (((wipe σ [i, j]).set i a).set j b) [i, j] = wipe σ [i, j] := by
  show ((((((σ.set j none).set i none).set i a).set j b).set j none).set i none) = (σ.set j none).set i none
  rw [List.set_set, List.set_set, List.set_comm _ _ h, List.set_set, List.set_set]
theorem sum_pairs {K : PySem.W.Frag} {l : Addr} {qs : List Addr} {ws : List (Nat × Nat)} {tl te : TE} {tt : TT} {σ : L2.St} {H : Hp} {Q : VK} {i j : Nat} (hij : i ≠ j) (p : Nat × Nat → Bool) (f : Nat × Nat → Nat)
    (htl : ∀ R : VK, R (.ref l) H → tl σ H R) (hl : H l = some (.lst (qs.map V.ref))) (hT : TsAt H qs ws) (hz : ws.length ≤ 1000)
    (ht : ∀ (x : Nat × Nat) (H' : Hp) (R : Bool → Hp → Prop), x ∈ ws → R (p x) H' → tt (((wipe σ [i, j]).set i (some (nv x.1))).set j (some (nv x.2))) H' R)
    (he : ∀ (x : Nat × Nat) (H' : Hp) (R : VK), x ∈ ws → R (nv (f x)) H' → te (((wipe σ [i, j]).set i (some (nv x.1))).set j (some (nv x.2))) H' R)
    (q : ∀ H', Same H H' → Q (.int ((((ws.filter p).map f).sum : Nat) : Int)) H') : tCB (rSum K) (tCons (tLc (iList K tl) (gTup K 2 (gCons (gName i) (gCons (gName j) gNil))) tt te [i, j]) tNil) σ H Q := by
  show tLc (iList K tl) (gTup K 2 (gCons (gName i) (gCons (gName j) gNil))) tt te [i, j] σ H (fun x H1 => rSum K [x] H1 Q)
  refine htl _ ⟨l, rfl, ⟨_, SqL.of hl⟩, fun D hD => ?_⟩
  have lD : l ≠ D := ne_of_none hl hD
  refine lc_list (K := K) (a := l) (xs := qs.map V.ref) (fun m H3 => H3 = upd H D (.lst (nl (((ws.take m).filter p).map f)))) rfl (fun m H3 _ z => ?_) (fun m x H3 hx z => ?_) (fun H3 z => ?_)
  · rw [z]
    exact SqL.of (by rw [upd_ne lD]; exact hl)
  · obtain ⟨q1, hq1, rfl⟩ := map_at hx
    obtain ⟨w, hw, f1⟩ := Pd.get hT hq1
    refine ⟨q1, _, rfl, SqT.of (by rw [z, upd_ne (ne_of_none f1 hD)]; exact f1), rfl, _, _, rfl, _, _, rfl, rfl, wipe2 σ i j hij _ _, ?_⟩
    refine ht w _ _ (List.mem_of_getElem? hw) ?_
    have et : (ws.take (m + 1)).filter p = (ws.take m).filter p ++ if p w = true then [w] else [] := by
      rw [take_more hw, List.filter_append]
      cases e : p w with
      | true => rw [List.filter_cons, e]; rfl
      | false => rw [List.filter_cons, e]; rfl
    cases e : p w with
    | true =>
      refine if_t rfl ?_
      refine he w _ _ (List.mem_of_getElem? hw) ⟨nl (((ws.take m).filter p).map f), by rw [z]; exact upd_same, ?_, ?_⟩
      · rw [nl_len, List.length_map]
        have h1 : ((ws.take m).filter p).length ≤ (ws.take m).length := List.length_filter_le ..
        have h2 : (ws.take m).length ≤ ws.length := List.length_take_le' ..
        have h3 : 10000 ≤ sizeLine := by decide
        omega
      · rw [z, upd_upd, et, e, if_pos rfl, List.map_append]
        unfold nl
        rw [List.map_append]
        rfl
    | false =>
      refine if_f rfl ?_
      rw [z, et, e, if_neg Bool.false_ne_true, List.append_nil]
  · rw [List.length_map, Paired.length hT, List.take_length] at z
    refine ⟨D, ((ws.filter p).map f).map fun (n : Nat) => (n : Int), rfl, ?_, ?_⟩
    · rw [← nl_ints, z]
      exact SqL.of upd_same
    · rw [sum_cast, z]
      exact q _ (same_new hD)
def FramT (K : PySem.W.Frag) (H H' : Hp) : Prop := (∀ b o, H b = some o → (∀ ps, o ≠ .tbl ps) → H' b = some o) ∧ (∀ b, H' b = none → H b = none) ∧ TB K H'
def sp_least_needed (K : PySem.W.Frag) : Sp := fun vs H Q _ => ∃ (b c : Addr) (r w : List Nat) (n h : Nat), vs = [.int (n : Int), .int (h : Int), .ref b, .ref c] ∧ SqL K H b (nl r) ∧ SqL K H c (nl w) ∧
  h < n ∧ n ≤ 1000 ∧ (∀ t ∈ r, t < n) ∧ w.length = r.length ∧ r.length ≤ 1000 ∧
  ∀ H' p, Same H H' → H p = none → H' p = some (.lst (nl (Mu44.least n h (ways r w)))) → Q (.ref p) H'
def sp_all_put (K : PySem.W.Frag) : Sp := fun vs H Q _ => ∃ (n k : Nat), vs = [.int (n : Int), .int ((k + 1 : Nat) : Int)] ∧ n ≤ 6 ∧ k ≤ 3 ∧
  ∀ H' p (qs : List Addr), Same H H' → H p = none → H' p = some (.lst (qs.map V.ref)) → LsAt H' qs (Mu44.puts (k + 1) n) → (∀ q ∈ qs, H q = none) → Q (.ref p) H'
def sp_best_put (K : PySem.W.Frag) : Sp := fun vs H Q _ => ∃ (b c : Addr) (r w : List Nat) (n k h : Nat), vs = [.int (n : Int), .int ((k + 1 : Nat) : Int), .int (h : Int), .ref b, .ref c] ∧ SqL K H b (nl r) ∧ SqL K H c (nl w) ∧
  n ≤ 6 ∧ k ≤ 3 ∧ h < k + 1 ∧ (∀ t ∈ r, t < k + 1) ∧ w.length = r.length ∧ r.length ≤ 1000 ∧ TB K H ∧
  ∀ H' p q, FramT K H H' → H p = none → Mu44.best (k + 1) h n (ways r w) = some (Mu44.times ⟨q, h⟩ (ways r w), q) → q.length = k + 1 → H' p = some (.lst (nl q)) → Q (.ref p) H'
def sp_dry_choices (K : PySem.W.Frag) : Sp := fun vs H Q _ => ∃ (a b c : Addr) (l r w : List Nat) (h : Nat), vs = [.ref a, .int (h : Int), .ref b, .ref c] ∧ SqL K H a (nl l) ∧ SqL K H b (nl r) ∧ SqL K H c (nl w) ∧
  h < l.length ∧ l.length ≤ 1000 ∧ (∀ t ∈ r, t < l.length) ∧ w.length = r.length ∧ (∀ x ∈ w, x < 2) ∧ r.length ≤ 8 ∧
  ∀ H' p (qs : List Addr), Same H H' → H p = none → H' p = some (.lst (qs.map V.ref)) → LsAt H' qs ((good ⟨l, h⟩ (ways r w)).map flags) → Q (.ref p) H'
def sp_weigh_weathers (K : PySem.W.Frag) : Sp := fun vs H Q _ => ∃ (a b : Addr) (l r : List Nat) (h x y : Nat), vs = [.ref a, .int (h : Int), .ref b, .int (x : Int), .int (y : Int)] ∧ SqL K H a (nl l) ∧ SqL K H b (nl r) ∧
  h < l.length ∧ l.length ≤ 1000 ∧ (∀ t ∈ r, t < l.length) ∧ x ≤ y ∧ y ≤ 9 ∧ r.length ≤ 8 ∧
  ∀ H' p (qs : List Addr), Same H H' → H p = none → H' p = some (.lst (qs.map V.ref)) → TsAt H' qs (wts ⟨l, h⟩ x y r) → Q (.ref p) H'
def sp_lowest_terms (K : PySem.W.Frag) : Sp := fun vs H Q _ => ∃ (d b : Nat), vs = [.int (d : Int), .int (b : Int)] ∧ 0 < b ∧ b < 1073741824 ∧
  ∀ H' p, Same H H' → H p = none → H' p = some (.lst [nv (d / Nat.gcd d b), nv (b / Nat.gcd d b)]) → Q (.ref p) H'
/-! ### the walker's further calls -/
def mLeast (m : M) (r w : List Nat) : List Int := il ((Mu44.least m.l.length m.here (ways r w)).sum :: Mu44.least m.l.length m.here (ways r w))
def mBest (m : M) (n : Nat) (r w : List Nat) : List Int := if 6 < n then [-1] else match Mu44.best m.l.length m.here n (ways r w) with
  | none => [-1]
  | some x => il (x.1 :: x.2)
def mCar (m : M) (r w : List Nat) : List Int := match Mu44.carried ⟨m.l, m.here⟩ (ways r w) with
  | none => [-6]
  | some x => il (x.1 :: flags x.2)
def mCh (m : M) (a b : Nat) (r : List Nat) : List Int := if b = 0 ∨ b < a then [-1] else
  il [(Mu44.dryChance ⟨m.l, m.here⟩ a b r).1, (Mu44.dryChance ⟨m.l, m.here⟩ a b r).2, (Mu44.average ⟨m.l, m.here⟩ a b r).1, (Mu44.average ⟨m.l, m.here⟩ a b r).2]
def mLook (m : M) : List Int := il ([m.gone, m.wet, m.come, m.lost, m.here] ++ m.l)
def sp_Walker_least (K : PySem.W.Frag) : Sp := fun vs H Q _ => ∃ (a u b c : Addr) (m : M) (r w : List Nat), vs = [.ref a, .ref b, .ref c] ∧ WAt K H a u m ∧ SqL K H b (nl r) ∧ SqL K H c (nl w) ∧
  m.here < m.l.length ∧ m.l.length ≤ 1000 ∧ (∀ t ∈ r, t < m.l.length) ∧ w.length = r.length ∧ r.length ≤ 1000 ∧ Ret K H a u m (mLeast m r w) Q
def sp_Walker_best (K : PySem.W.Frag) : Sp := fun vs H Q _ => ∃ (a u b c : Addr) (m : M) (n : Nat) (r w : List Nat), vs = [.ref a, .int (n : Int), .ref b, .ref c] ∧ WAt K H a u m ∧ SqL K H b (nl r) ∧ SqL K H c (nl w) ∧
  m.here < m.l.length ∧ 2 ≤ m.l.length ∧ m.l.length ≤ 4 ∧ (∀ t ∈ r, t < m.l.length) ∧ w.length = r.length ∧ r.length ≤ 1000 ∧ TB K H ∧ Ret K H a u m (mBest m n r w) Q
def sp_Walker_carried (K : PySem.W.Frag) : Sp := fun vs H Q _ => ∃ (a u b c : Addr) (m : M) (r w : List Nat), vs = [.ref a, .ref b, .ref c] ∧ WAt K H a u m ∧ SqL K H b (nl r) ∧ SqL K H c (nl w) ∧
  m.here < m.l.length ∧ m.l.length ≤ 1000 ∧ (∀ t ∈ r, t < m.l.length) ∧ w.length = r.length ∧ (∀ x ∈ w, x < 2) ∧ r.length ≤ 8 ∧ Ret K H a u m (mCar m r w) Q
def sp_Walker_chance (K : PySem.W.Frag) : Sp := fun vs H Q _ => ∃ (a u b : Addr) (m : M) (x y : Nat) (r : List Nat), vs = [.ref a, .int (x : Int), .int (y : Int), .ref b] ∧ WAt K H a u m ∧ SqL K H b (nl r) ∧
  m.here < m.l.length ∧ m.l.length ≤ 1000 ∧ (∀ t ∈ r, t < m.l.length) ∧ y ≤ 9 ∧ r.length ≤ 8 ∧ Ret K H a u m (mCh m x y r) Q
def sp_Walker_look (K : PySem.W.Frag) : Sp := fun vs H Q _ => ∃ (a u : Addr) (m : M), vs = [.ref a] ∧ WAt K H a u m ∧ m.l.length ≤ 1000 ∧ Ret K H a u m (mLook m) Q
end Ww
namespace Ww
open PySem PySem.Spec PyProof.Rows L2
def mOf : Mu44.Abs → M
  | none => M0
  | some s => ⟨s.stand.at_, s.stand.here, s.gone, s.soaked, s.brought, s.lost⟩
def sp_answer_call (K : PySem.W.Frag) : Sp := fun vs H Q _ => ∃ (a u n b : Addr) (st : Mu44.Abs) (c : Int) (ns : List Int) (qs : List V) (xs : List (List Int)), vs = [.ref a, .int c, .ref n, .ref b] ∧
  TB K H ∧ WAt K H a u (mOf st) ∧ Wf st ∧ H n = some (.lst (ns.map V.int)) ∧ H b = some (.lst qs) ∧ RowsAt H qs xs ∧ Mu44Neutral.asked1 ((c :: ns) :: xs) = true ∧
  Ret K H a u (mOf (Mu44Neutral.step st ((c :: ns) :: xs)).1) (Mu44Neutral.step st ((c :: ns) :: xs)).2 Q
def sp_answers (K : PySem.W.Frag) : Sp := fun vs H Q _ => ∃ (c : Addr) (ns : List Int), vs = [.ref c] ∧ TB K H ∧ SqL K H c (ns.map V.int) ∧ ns.length ≤ 1440 ∧ PyMu44.answers_asked ns = true ∧
  ∀ (H' : Hp) (p : Addr), H' p = some (.lst ((PyMu44.answers ns).map V.int)) → Q (.ref p) H'
def sp_takes_route (K : PySem.W.Frag) : Sp := fun vs H Q _ => ∃ c : Int, vs = [.int c] ∧ Q (.bl (decide (4 ≤ c) && decide (c ≤ 8))) H
def sp_are_route_rows (K : PySem.W.Frag) : Sp := fun vs H Q _ => ∃ (b : Addr) (n : Nat) (qs : List V) (r : List Nat) (ws : List (List Int)), vs = [.ref b, .int (n : Int)] ∧ H b = some (.lst qs) ∧ RowsAt H qs (il r :: ws) ∧ r.length ≤ 1000 ∧
  ((ws = [] ∧ ∀ H', Same H H' → Q (.bl (okR n r)) H') ∨ ∃ v, ws = [il v] ∧ v.length ≤ 1000 ∧ ∀ H', Same H H' → Q (.bl (okR n r && okW r v)) H')
theorem il_nl (l : List Nat) : (il l).map V.int = nl l := (nl_ints l).symm
/-! ### the table of shapes -/
theorem shapes_at {K : PySem.W.Frag} (h : tabB_SHAPES K = true) {p : Int} {n k : Nat} (e : PyMu44.shape p = some (n, k)) (H : Hp) :
    ∃ (i : Nat) (a : Addr) (xs : List V), p = (i : Int) ∧ SqT K H (He.ga K "SHAPES") xs ∧ xs[i]? = some (.ref a) ∧ SqT K H a [.int (n : Int), .int (k : Int)] := by
  unfold tabB_SHAPES at h
  simp only [Bool.and_eq_true] at h
  obtain ⟨⟨⟨⟨⟨⟨⟨⟨⟨⟨h, h0⟩, h1⟩, h2⟩, h3⟩, h4⟩, h5⟩, h6⟩, h7⟩, h8⟩, h9⟩ := h
  unfold PyMu44.shape at e
  split at e
  · cases e; exact ⟨0, _, _, by assumption, tupAt_ok h H, rfl, tupAt_ok h0 H⟩
  split at e
  · cases e; exact ⟨1, _, _, by assumption, tupAt_ok h H, rfl, tupAt_ok h1 H⟩
  split at e
  · cases e; exact ⟨2, _, _, by assumption, tupAt_ok h H, rfl, tupAt_ok h2 H⟩
  split at e
  · cases e; exact ⟨3, _, _, by assumption, tupAt_ok h H, rfl, tupAt_ok h3 H⟩
  split at e
  · cases e; exact ⟨4, _, _, by assumption, tupAt_ok h H, rfl, tupAt_ok h4 H⟩
  split at e
  · cases e; exact ⟨5, _, _, by assumption, tupAt_ok h H, rfl, tupAt_ok h5 H⟩
  split at e
  · cases e; exact ⟨6, _, _, by assumption, tupAt_ok h H, rfl, tupAt_ok h6 H⟩
  split at e
  · cases e; exact ⟨7, _, _, by assumption, tupAt_ok h H, rfl, tupAt_ok h7 H⟩
  split at e
  · cases e; exact ⟨8, _, _, by assumption, tupAt_ok h H, rfl, tupAt_ok h8 H⟩
  split at e
  · cases e; exact ⟨9, _, _, by assumption, tupAt_ok h H, rfl, tupAt_ok h9 H⟩
  cases e
/-- what is left to read -/
def rdLeft (n : Nat) (r : Addr) (H : Hp) : Nat := match H r with
  | some (.ins _ _ [_, (_, .int i)]) => n - i.toNat
  | _ => 0
theorem rdLeft_eq {n j : Nat} {r c C dx : Addr} {H : Hp} (h : H r = some (.ins C dx (rF c j))) : rdLeft n r H = n - j := by
  unfold rdLeft
  rw [h]
  rfl
theorem WAt.ne_rd {K : PySem.W.Frag} {H : Hp} {a u r c C dx : Addr} {m : M} {j : Nat} (h : WAt K H a u m) (g : H r = some (.ins C dx (rF c j))) : a ≠ r ∧ u ≠ r := by
  obtain ⟨⟨dx', h1⟩, h2⟩ := h
  refine ⟨ne_of h1 g (fun z => ?_), ne_of h2 g (fun z => by cases z)⟩
  injection z with _ _ z
  have := congrArg List.length z
  exact absurd this (by show ¬ 6 = 2; decide)
theorem WAt.fr {K : PySem.W.Frag} {H H' : Hp} {a u r : Addr} {m : M} (h : WAt K H a u m) (n : a ≠ r ∧ u ≠ r) (f : ∀ b o, H b = some o → b ≠ r → H' b = some o) : WAt K H' a u m := by
  obtain ⟨⟨dx', h1⟩, h2⟩ := h
  exact ⟨⟨dx', f _ _ h1 n.1⟩, f _ _ h2 n.2⟩
theorem WAt.at_ {K : PySem.W.Frag} {H : Hp} {a u p : Addr} {m : M} {o : HO} (h : WAt K H a u m) (n1 : a ≠ p) (n2 : u ≠ p) : WAt K (upd H p o) a u m := by
  obtain ⟨⟨dx', h1⟩, h2⟩ := h
  exact ⟨⟨dx', by rw [upd_ne n1]; exact h1⟩, by rw [upd_ne n2]; exact h2⟩
end Ww
namespace Ww
open PySem PySem.Spec PyProof.Rows L2
/-! ### the steps, as the walker's methods answer them -/
theorem step_begin (o : Mu44.Abs) (h : Nat) (l : List Nat) : mOf (Mu44.step o (.begin_ h l)).1 = (mBegin (mOf o) h l).1 ∧ (Mu44.step o (.begin_ h l)).2 = (mBegin (mOf o) h l).2 := by
  unfold Mu44.step mBegin
  dsimp only
  rw [total_sum]
  by_cases e : l.length < 2 ∨ 4 < l.length ∨ l.length ≤ h ∨ 6 < l.sum
  · have e' : l.length < 2 ∨ 4 < l.length ∨ l.length ≤ h ∨ Mu44.MOST < l.sum := e
    rw [if_pos e, if_pos e']
    exact ⟨rfl, rfl⟩
  · have e' : ¬ (l.length < 2 ∨ 4 < l.length ∨ l.length ≤ h ∨ Mu44.MOST < l.sum) := e
    rw [if_neg e, if_neg e']
    exact ⟨rfl, rfl⟩
theorem step_go (s : Mu44.State) (j r c : Nat) : mOf (Mu44.step (some s) (.go j r c)).1 = (mGo (mOf (some s)) j r c).1 ∧ (Mu44.step (some s) (.go j r c)).2 = (mGo (mOf (some s)) j r c).2 := by
  unfold Mu44.step mGo
  dsimp only
  by_cases e : s.stand.at_.length ≤ j ∨ 1 < r ∨ 1 < c
  · have e' : Mu44.places s ≤ j ∨ 1 < r ∨ 1 < c := e
    have e2 : (mOf (some s)).l.length ≤ j ∨ 1 < r ∨ 1 < c := e
    rw [if_pos e', if_pos e2]
    exact ⟨rfl, rfl⟩
  · have e' : ¬ (Mu44.places s ≤ j ∨ 1 < r ∨ 1 < c) := e
    have e2 : ¬ ((mOf (some s)).l.length ≤ j ∨ 1 < r ∨ 1 < c) := e
    rw [if_neg e', if_neg e2]
    refine ⟨?_, ?_⟩
    · have := goes_here s.stand (mk j r c)
      show M.mk (Mu44.goes s.stand (mk j r c)).1.at_ (Mu44.goes s.stand (mk j r c)).1.here _ _ _ _ = M.mk _ j _ _ _ _
      rw [this]
      rfl
    · show [if (Mu44.goes s.stand (mk j r c)).2 = true then (1 : Int) else 0] = [((b2n (Mu44.goes s.stand (mk j r c)).2 : Nat) : Int)]
      cases (Mu44.goes s.stand (mk j r c)).2 <;> rfl
theorem step_bring (s : Mu44.State) (i : Nat) : mOf (Mu44.step (some s) (.bring i)).1 = (mBring (mOf (some s)) i).1 ∧ (Mu44.step (some s) (.bring i)).2 = (mBring (mOf (some s)) i).2 := by
  unfold Mu44.step mBring
  dsimp only
  rw [total_sum]
  by_cases e : s.stand.at_.length ≤ i
  · have e' : Mu44.places s ≤ i := e
    have e2 : (mOf (some s)).l.length ≤ i := e
    rw [if_pos e', if_pos e2]
    exact ⟨rfl, rfl⟩
  · have e' : ¬ Mu44.places s ≤ i := e
    have e2 : ¬ (mOf (some s)).l.length ≤ i := e
    rw [if_neg e', if_neg e2]
    by_cases f : 6 ≤ s.stand.at_.sum
    · have f' : Mu44.MOST ≤ s.stand.at_.sum := f
      have f2 : 6 ≤ (mOf (some s)).l.sum := f
      rw [if_pos f', if_pos f2]
      exact ⟨rfl, rfl⟩
    · have f' : ¬ Mu44.MOST ≤ s.stand.at_.sum := f
      have f2 : ¬ 6 ≤ (mOf (some s)).l.sum := f
      rw [if_neg f', if_neg f2]
      exact ⟨rfl, rfl⟩
theorem step_lose (s : Mu44.State) (i : Nat) : mOf (Mu44.step (some s) (.lose i)).1 = (mLose (mOf (some s)) i).1 ∧ (Mu44.step (some s) (.lose i)).2 = (mLose (mOf (some s)) i).2 := by
  unfold Mu44.step mLose
  dsimp only
  by_cases e : s.stand.at_.length ≤ i
  · have e' : Mu44.places s ≤ i := e
    have e2 : (mOf (some s)).l.length ≤ i := e
    rw [if_pos e', if_pos e2]
    exact ⟨rfl, rfl⟩
  · have e' : ¬ Mu44.places s ≤ i := e
    have e2 : ¬ (mOf (some s)).l.length ≤ i := e
    rw [if_neg e', if_neg e2]
    by_cases f : s.stand.at_.getD i 0 = 0
    · have f' : Mu44.stock s.stand i = 0 := f
      have f2 : (mOf (some s)).l.getD i 0 = 0 := f
      rw [if_pos f', if_pos f2]
      exact ⟨rfl, rfl⟩
    · have f' : ¬ Mu44.stock s.stand i = 0 := f
      have f2 : ¬ (mOf (some s)).l.getD i 0 = 0 := f
      rw [if_neg f', if_neg f2]
      exact ⟨rfl, rfl⟩
theorem step_try {s : Mu44.State} {r w : List Nat} (h1 : okR s.stand.at_.length r = true) (h2 : okW r w = true) : Mu44.step (some s) (.try_ r w) = (some s, mTry (mOf (some s)) r w) := by
  unfold Mu44.step
  dsimp only
  rw [waysOf_some h1 h2]
  dsimp only
  unfold mTry
  rw [sum_b2n]
  rfl
theorem step_least {s : Mu44.State} {r w : List Nat} (h1 : okR s.stand.at_.length r = true) (h2 : okW r w = true) : Mu44.step (some s) (.least r w) = (some s, mLeast (mOf (some s)) r w) := by
  unfold Mu44.step
  dsimp only
  rw [waysOf_some h1 h2]
  dsimp only
  rw [total_sum]
  rfl
theorem step_best {s : Mu44.State} {n : Nat} {r w : List Nat} (h1 : okR s.stand.at_.length r = true) (h2 : okW r w = true) : Mu44.step (some s) (.best n r w) = (some s, mBest (mOf (some s)) n r w) := by
  unfold Mu44.step
  dsimp only
  rw [waysOf_some h1 h2]
  rfl
theorem step_carried {s : Mu44.State} {r w : List Nat} (h1 : okR s.stand.at_.length r = true) (h2 : okW r w = true) : Mu44.step (some s) (.carried r w) = (some s, mCar (mOf (some s)) r w) := by
  unfold Mu44.step
  dsimp only
  rw [waysOf_some h1 h2]
  rfl
theorem step_chance {s : Mu44.State} {a b : Nat} {r : List Nat} (h1 : okR s.stand.at_.length r = true) (hb : b ≤ 9) : Mu44.step (some s) (.chance a b r) = (some s, mCh (mOf (some s)) a b r) := by
  unfold Mu44.step mCh
  dsimp only
  rw [isRoute_eq, h1]
  by_cases e : b = 0 ∨ b < a
  · rw [if_pos (by omega), if_pos e]
  · rw [if_neg (by
      rintro (z | z)
      · cases z
      · omega), if_neg e]
    rfl
theorem step_look (s : Mu44.State) : Mu44.step (some s) .look = (some s, mLook (mOf (some s))) := rfl
theorem step_bad {s : Mu44.State} {r w : List Nat} (h : (okR s.stand.at_.length r && okW r w) = false) : Mu44.step (some s) (.try_ r w) = (some s, [-1]) ∧ Mu44.step (some s) (.least r w) = (some s, [-1]) ∧ (∀ n, Mu44.step (some s) (.best n r w) = (some s, [-1])) ∧ Mu44.step (some s) (.carried r w) = (some s, [-1]) := by
  unfold Mu44.step
  dsimp only
  rw [waysOf_none h]
  exact ⟨rfl, rfl, fun _ => rfl, rfl⟩
theorem step_bad1 {s : Mu44.State} {a b : Nat} {r : List Nat} (h : okR s.stand.at_.length r = false) : Mu44.step (some s) (.chance a b r) = (some s, [-1]) := by
  unfold Mu44.step
  dsimp only
  rw [if_pos (.inl (by rw [isRoute_eq, h]))]
/-- a promise handed on to a later heap -/
theorem Ret.later {K : PySem.W.Frag} {H H1 : Hp} {a u : Addr} {m' : M} {ans : List Int} {Q : VK} (r : Ret K H a u m' ans Q) (s : Same H H1) : Ret K H1 a u m' ans Q := fun H' p u' h1 h2 h3 h4 h5 f =>
  r H' p u' h1 (h2.elim .inl fun z => .inr (s.free z)) (s.free h3) h4 h5 ⟨fun b o e n1 n2 n3 => f.1 b o (s _ _ e) n1 n2 n3, fun t => f.2 (t.same s)⟩
theorem rows1 {H : Hp} {qs : List V} {r : List Nat} (h : RowsAt H qs [il r]) : ∃ q0, qs = [.ref q0] ∧ H q0 = some (.lst (nl r)) := by
  cases h with
  | cons a t =>
    cases t
    obtain ⟨q0, rfl, h0⟩ := a
    exact ⟨q0, rfl, by rw [h0, il_nl]⟩
theorem rows2 {H : Hp} {qs : List V} {r w : List Nat} (h : RowsAt H qs [il r, il w]) : ∃ q0 q1, qs = [.ref q0, .ref q1] ∧ H q0 = some (.lst (nl r)) ∧ H q1 = some (.lst (nl w)) := by
  cases h with
  | cons a t =>
    obtain ⟨q1, rfl, h1⟩ := rows1 t
    obtain ⟨q0, rfl, h0⟩ := a
    exact ⟨q0, q1, rfl, by rw [h0, il_nl], h1⟩
/-! ### what stands but for the tables -/
def SameT (H H' : Hp) : Prop := ∀ b o, H b = some o → (∀ ps, o ≠ .tbl ps) → H' b = some o
theorem SameT.seq {K : PySem.W.Frag} {H H' : Hp} {c : Addr} {xs : List V} (s : SameT H H') (h : SqL K H c xs) : SqL K H' c xs := by
  rcases h with (h | ⟨o, h⟩) | h
  · exact .inl (.inl (s _ _ h fun ps z => by cases z))
  · exact .inl (.inr ⟨o, s _ _ h fun ps z => by cases z⟩)
  · exact .inr h
/-- nothing but a table, if anything -/
def NT (H : Hp) (u : Addr) : Prop := ∀ o, H u = some o → ∃ ps, o = .tbl ps
theorem NT.free {H : Hp} {u : Addr} (h : H u = none) : NT H u := fun o e => by
  rw [h] at e
  cases e
theorem NT.of {H H' : Hp} {u : Addr} (s : SameT H H') (h : H' u = none) : NT H u := fun o e => Classical.byContradiction fun n => by
  rw [s u o e fun ps z => n ⟨ps, z⟩] at h
  cases h
theorem TB.at_ {K : PySem.W.Frag} {H H' : Hp} {r : Addr} {o : HO} (t : TB K H) (h : H r = some o) (n1 : ∀ ps, o ≠ .tbl ps) (n2 : ∀ c q, o ≠ LamX.CodeO c q) (f : ∀ b o, H b = some o → b ≠ r → H' b = some o) : TB K H' := by
  obtain ⟨ps, h1, h2, h3⟩ := t
  refine ⟨ps, f _ _ h1 (ne_of h1 h fun z => n1 ps z.symm), h2, fun pos cv hc => ?_⟩
  obtain ⟨c, e1, e2⟩ := h3 pos cv hc
  exact ⟨c, e1, f _ _ e2 (ne_of e2 h fun z => n2 _ _ z.symm)⟩
end Ww
namespace Ww
open PySem PySem.Spec PyProof.Rows L2 LamX
open PySem.W (Codec WData WellAll ReadsW OpenSpec)
/-- a call at the end of a row, one code object's table known -/
theorem call_tab {Pg : Program} {w : World} {K : PySem.W.Frag} {mg mb : Str → Option Value} {lv : Nat} {fa cc tt : Addr} {fd : FuncData} {prm : List Str} {sp : Sp} {t1 : Shared} {vals : List Value} {ds : List WData} {R : PySem.W.WRecords} {cl : Str → Option Addr} {d0 : WData}
    (KX : K.In t1.heap) (hns : t1.heap.Ns mainGlobals mg) (hb : t1.heap.Ns builtinsNs mb) (hbb : ∀ x : Str, x ≠ "__name__" → mb x = bootBuiltins x) (hlim : t1.heap.NoLimit) (hg : t1.gens = #[])
    (hT : t1.heap.get? tt = some { cls := .none, data := .fields #[] }) (nT : K.lookup tt = none) (C : PySem.W.CodeHd t1.heap cc tt)
    (hbm : ∃ (bm : Addr) (ob : Obj), mg "__builtins__" = some (.ref bm) ∧ bm ≠ builtinsNs ∧ t1.heap.get? bm = some ob ∧ ob.cls = .type "module" ∧ ob.dict = some builtinsNs ∧ ob.data = .plain)
    (hwl : WellAll w.params t1.heap vals ds) (hpl : plWs ds = true) (hwt : ∀ d ∈ ds, d.weight ≤ 1048576) (hr : Room lv callerA)
    (F : ∀ base : Heap, K.In base → base.Ns mainGlobals mg → TabB base mg cc tt → FnOk Pg w K mg base CX0 lv fa fd prm sp) (hbind : ∀ (s : Shared) (us : List Value), us.length = prm.length → BindsTo s fd ⟨us, []⟩ (prm.zip us)) (hlen : ds.length = prm.length)
    (hsp : ∀ (H0 H : Hp) (xs : List V), H tt = some (.tbl #[]) → Same H0 H → DwAll K H0 xs ds → sp xs H (fun v H' => Dw K H' v d0) fun _ _ _ => False) :
    codeAny (model Pg w) callerA (.call (.ref fa) ⟨vals, []⟩) (fun r s' => ∃ u as, r = .ok (.ret u) ∧ ReadsW R cl s'.heap u d0 as ∧ OldK t1.heap s'.heap ∧ s'.os = t1.os ∧ AllBare s'.gens) t1 := by
  obtain ⟨A, ho, ar⟩ := area_all ds vals hwl hpl hwt
  have nPt : argH K t1.heap A tt = none := by
    cases q : argH K t1.heap A tt with
    | none => rfl
    | some u =>
      obtain ⟨_, vs, _, _, ⟨e2, _⟩ | ⟨e2, _⟩⟩ := argH_is ar q
      · rw [e2] at hT
        have z : Data.seq vs.toArray _ = Data.fields #[] := congrArg Obj.data (Option.some.inj hT)
        cases z
      · rw [e2] at hT
        have z : Data.seq vs.toArray _ = Data.fields #[] := congrArg Obj.data (Option.some.inj hT)
        cases z
  have hO := argH_only ar (K := K)
  have hok0 : HOk Pg w (argH K t1.heap A) t1.heap := argH_ok ar
  have hS := dw_all KX ar ds vals hwl hpl ho
  have hV := vals_toV ho
  have hK0 : ∀ b u, argH K t1.heap A b = some u → K.lookup b = none := fun b u q => (argH_is ar q).1
  have isq : ∀ b u o, argH K t1.heap A b = some u → t1.heap.get? b = some o → ∃ vs n, o.data = .seq vs n := fun b u o q e => by
    obtain ⟨_, vs, _, _, ⟨e2, _⟩ | ⟨e2, _⟩⟩ := argH_is ar q
    · rw [e2] at e
      cases e
      exact ⟨_, _, rfl⟩
    · rw [e2] at e
      cases e
      exact ⟨_, _, rfl⟩
  generalize argH K t1.heap A = H0 at nPt hO hok0 hS hK0 isq
  generalize hH : upd H0 tt (.tbl #[]) = H
  have sH : Same H0 H := by rw [← hH]; exact same_new nPt
  have hP : H tt = some (.tbl #[]) := by rw [← hH]; exact upd_same
  have inv : ∀ b u, H b = some u → b ≠ tt → H0 b = some u := fun b u e n => by
    rw [← hH, upd_ne n] at e
    exact e
  have hok : HOk Pg w H t1.heap := fun b u e => by
    by_cases z : b = tt
    · subst z
      rw [hP] at e
      cases e
      exact hT
    · exact (hok0 b u (inv b u e z)).stay (fun _ _ _ q => q) (fun c q => sH _ _ q) fun c xs q => sH _ _ q
  have free : ∀ {b : Addr} {o : Obj}, t1.heap.get? b = some o → (∀ vs n, o.data ≠ .seq vs n) → o.data ≠ .fields #[] → H b = none := fun {b o} e n1 n2 => by
    cases q : H b with
    | none => rfl
    | some u =>
      by_cases z : b = tt
      · rw [z, hT] at e
        cases e
        exact (n2 rfl).elim
      · obtain ⟨vs, n, d⟩ := isq b u o (inv b u q z) e
        exact (n1 vs n d).elim
  have base_of : ∀ {b : Addr} {o : Obj}, t1.heap.get? b = some o → H b = none → (hidT t1.heap H).get? b = some o := fun e n => hidT_get e n
  have nsB : ∀ {b : Addr} {m : Str → Option Value}, t1.heap.Ns b m → (hidT t1.heap H).Ns b m := fun {b m} ⟨o, es, ep, e, d, r⟩ => ⟨o, es, ep, base_of e (free e (fun vs n z => by rw [d] at z; cases z) fun z => by rw [d] at z; cases z), d, r⟩
  have nK : ∀ b o, K.lookup b = some o → H b = none := fun b o e => by
    cases q : H b with
    | none => rfl
    | some u =>
      by_cases z : b = tt
      · rw [z, nT] at e
        cases e
      · rw [hK0 b u (inv b u q z)] at e
        cases e
  have kIn : K.In (hidT t1.heap H) := fun b o e => base_of (KX b o e) (nK b o e)
  have md : L2.Mod K mg (hidT t1.heap H) := ⟨kIn, nsB hns, ⟨mb, nsB hb, hbb⟩, let ⟨mc, q1, q2⟩ := hlim; ⟨mc, nsB q1, q2⟩⟩
  have tbB : TabB (hidT t1.heap H) mg cc tt := by
    refine ⟨?_, ?_, fun z => ?_⟩
    · obtain ⟨o, us, file, tf, flags, tg, inF, text, tx, e1, r1, r2, r3, r4, r5, r6, r7, r8, hne⟩ := C
      refine ⟨o, us, file, tf, flags, tg, inF, text, tx, base_of e1 (free e1 (fun vs n z => ?_) fun z => ?_), r1, r2, r3, r4, r5, r6, r7, r8, hne⟩
      · rw [r2] at z
        cases z
      · rw [r2] at z
        cases z
        simp at r3
    · obtain ⟨bm, ob, b1, b2, b3, b4, b5, b6⟩ := hbm
      have nG : bm ≠ mainGlobals := fun q => by
        obtain ⟨o, es, ep, e, hd, _⟩ := hns
        rw [q, e] at b3
        cases b3
        rw [hd] at b6
        cases b6
      have nP : bm ≠ tt := fun q => by
        rw [q, hT] at b3
        cases b3
        cases b6
      refine ⟨bm, ob, b1, b2, nG, nP, base_of b3 (free b3 (fun vs n z => ?_) fun z => ?_), b4, b5, b6⟩
      · rw [b6] at z
        cases z
      · rw [b6] at z
        cases z
    · obtain ⟨o, es, ep, e, hd, _⟩ := hns
      rw [z, hT] at e
      cases e
      cases hd
  have e0 : Env0 Pg w K mg (hidT t1.heap H) callerA [] t1 H := ⟨rfl, md, fun b o e => of_hidT e, Nat.le_of_eq (hidT_size _ _), trivial, fun b z => absurd (show b ∈ ([] : List Addr) from z) (by simp), hok, .of_eq hg⟩
  have hl : vals.length = prm.length := by rw [wellAll_len hwl]; exact hlen
  refine codeAny_mono ((F _ kIn (nsB hns) tbB).run callerA [] t1 H ⟨vals, []⟩ vals (vals.map toV) _ _ hr e0 (hbind t1 vals hl) hV (hsp H0 H _ hP sH hS)) fun r s' x => ?_
  cases r with
  | error e => exact False.elim x
  | ok fl =>
    cases fl with
    | next => exact False.elim x
    | brk => exact False.elim x
    | cont => exact False.elim x
    | ret u =>
      obtain ⟨v, H', os, bare, un, hok', r', q⟩ := x
      have kept : ∀ b o, b ≠ tt → t1.heap.get? b = some o → s'.heap.get? b = some o := fun b o nb e => by
        cases q2 : H b with
        | none => exact un.keep b o e q2 (by intro z; exact absurd (show b ∈ ([] : List Addr) from z) (by simp)) (by simp)
        | some u2 =>
          rcases hO b with z | ⟨ob, u3, z⟩
          · rw [inv b u2 q2 nb] at z
            cases z
          · have z1 := sH _ _ z
            have z2 := un.frzs b ob _ z1
            obtain ⟨y1, _⟩ := hok b _ z1
            obtain ⟨y2, _⟩ := hok' b _ z2
            rw [e] at y1
            cases y1
            exact y2
      obtain ⟨more, hm⟩ : ∃ more : Array Value, s'.heap.get? tt = some { cls := .none, data := .fields more } := by
        obtain ⟨more, z⟩ := un.tbls tt #[] hP
        exact ⟨_, hok' tt _ z⟩
      have KX' : K.In s'.heap := fun b o e => kept b o (fun z => by rw [z, nT] at e; cases e) (KX b o e)
      obtain ⟨as, hrd⟩ := Dw.reads (R := R) (cl := cl) hok' KX' d0 v u q r'
      refine ⟨u, as, rfl, hrd, ⟨fun b o e => ?_, fun b o e => ?_⟩, os, bare⟩
      · by_cases nb : b = tt
        · subst nb
          rw [hT] at e
          cases e
          exact .inr (.inl ⟨(C.tab hT).isCodeTable, rfl, #[], more, rfl, by rw [Array.empty_append]; exact hm⟩)
        · exact .inl (kept b o nb e)
      · by_cases nb : b = tt
        · subst nb
          exact ⟨_, hm⟩
        · exact ⟨o, kept b o nb e⟩
/-- the end of a row whose head tells its facts by a Hook -/
theorem walk_own {rw' : OpenSpec} {lv : Nat} {vw : Program} {ls : List Str} {XP : (Str → Option Value) → Heap → Prop} {YP : World → Heap → Prop} {df : DefRec} {prm : List Str} {pr : PySem.W.Frag → Sp}
    (well : rw'.wellSaid = true) (nodef : df.params.defaults = []) (len : rw'.args.length = prm.length) (room : Room lv callerA)
    (F : ∀ (w : World) (mg : Str → Option Value) (f : Addr) (h : Heap), YP w h → h.Ns mainGlobals mg → mg df.name = some (.ref f) →
      ∃ K : PySem.W.Frag, K.In h ∧ TabSays K h ∧ ∃ fd : FuncData, (∀ (s : Shared) (us : List Value), us.length = prm.length → BindsTo s fd ⟨us, []⟩ (prm.zip us)) ∧
        ∀ base : Heap, K.In base → base.Ns mainGlobals mg → TabB base mg (cb K) (tb K) → FnOk rw'.prog w K mg base CX0 lv f fd prm (pr K))
    (S : ∀ (K : PySem.W.Frag) (H0 H : Hp) (xs : List V) (v : Codec.denoteAll rw'.args), H (tb K) = some (.tbl #[]) → Same H0 H → Codec.withinAll rw'.args v = true → Codec.app rw'.args rw'.asked v = true →
      DwAll K H0 xs (Codec.encAll rw'.args v) → pr K xs H (fun z H' => Dw K H' z (rw'.ret.enc (Codec.app rw'.args rw'.f v))) fun _ _ _ => False) :
    PySem.W.WalkOS vw ls XP YP rw' df [] (fun f vs => PySem.call f vs) := by
  intro w t0 t1 mg mb G Y f ob pm cd dc dV kV e1 e2 e3 e4 hm hg args vals as hpre hlay hrd hwl hlo
  obtain ⟨v, a1, a2⟩ := PySem.W.os_pre_some hpre
  obtain ⟨a3, a4⟩ := Codec.encAll_of_decAll rw'.args args v a1
  subst a3
  obtain ⟨K, KX, ts, fd, hb, hF⟩ := F w mg f _ Y G.T.g hm
  have key := call_tab (R := []) (cl := classAt t0.heap) (d0 := rw'.ret.enc (Codec.app rw'.args rw'.f v)) KX G.T.g G.T.b G.T.builtins G.T.nolimit hg ts.empty ts.out (PySem.W.codeHd_of_K KX ts.hd) G.T.bmain hwl
    (pl_encAll _ _) (layable_weight hlay) room hF hb (by rw [encAll_len]; exact len) (fun H0 H xs hP sH hS => S K H0 H xs v hP sH a4 a2 hS)
  refine PySem.W.enter_call (codeAny_mono key fun r2 s2 hq => ?_)
  obtain ⟨u, as', rfl, h1, h2, h3, h4⟩ := hq
  refine ⟨.inl ⟨u, _, as', rfl, fun _ => rfl, h1, ?_, fun z => Bool.noConfusion (show false = true from z)⟩, h2, h3, h4⟩
  exact (OpenSpec.post_iff well a4 _ _).mpr rfl
end Ww
namespace Ww
open PySem PySem.Spec PyProof.Rows L2
section
variable {P : Program} {w : World} {K : PySem.W.Frag} {mg : Str → Option Value} {base : Heap}
/-- is_route: slots 0 route, 1 places, 2 place -/
theorem fo_is_route (T : Txt K mg) {fd : FuncData} (F : Fun K "is_route" "is_route" s_is_route (He.ga K "is_route") fd) : FnOk P w K mg base CX0 1 (He.ga K "is_route") fd ["route", "places"] (sp_is_route K) := by
  refine F.ok sc_is_route (fun vs H Q E h => ?_) (fun cdv A outer s H vs Q E hr h => ?_)
  · obtain ⟨a, r, n, rfl, hl, hz, q⟩ := h
    rfl
  · obtain ⟨a, r, n, rfl, hl, hz, q⟩ := h
    refine ⟨_, (pss_cons (ps_if (PW.pt (pw_or (pt_cmpR op_lt (pe_callB call_len_seq (by rfl) T.b_len (by decide +kernel) (pa_cons (pv 0) pa_nil)) (pe_num rfl T.c_FEWEST_WAYS) (nomark _)) (pw_or1 (pt_cmpR op_gt (pe_callB call_len_seq (by rfl) T.b_len (by decide +kernel) (pa_cons (pv 0) pa_nil)) (pe_num rfl T.c_MOST_WAYS) (nomark _))))) (pss_one (ps_ret pe_bl))
      pss_nil)
      (pss_one (ps_ret (pe_callB (cr_all rfl) (by rfl) T.b_all (by decide +kernel) (pa_cons (pe_lc (own := [("place", 2)]) rfl sc_is_route.nd (pi_list (pv 0)) (blkOk_by (own := [("place", 2)]) (N := ["route", "places", "place"]) (sc := defScope s_is_route) (by decide +kernel)) (fun _ _ _ _ _ => (pg_name (i := 2) sc_is_route.nd rfl (Or.inl rfl))) (fun _ _ _ _ _ => pts_nil) (fun _ _ _ _ _ => (pe_cmpR op_lt (pv 2) (pv 1) (nomark _)))) pa_nil))))), ?_⟩
    refine ⟨_, rfl, a, nl r, rfl, .inl hl, _, _, rfl, rfl, _, rfl, ?_⟩
    rw [nl_len]
    refine if_d (fun e => ?_) (fun e => ?_)
    · refine if_t rfl ?_
      rw [decide_eq_false (by omega), Bool.false_and] at q
      exact q H (Same.refl H)
    refine ⟨_, rfl, a, nl r, rfl, .inl hl, _, _, rfl, rfl, _, rfl, ?_⟩
    rw [nl_len]
    refine if_d (fun e2 => ?_) (fun e2 => ?_)
    · rw [decide_eq_true (by omega), decide_eq_false (p := r.length ≤ 8) (by omega), Bool.false_and, Bool.and_false] at q
      exact q H (Same.refl H)
    rw [decide_eq_true (by omega), decide_eq_true (p := r.length ≤ 8) (by omega), Bool.true_and, Bool.true_and] at q
    dsimp only [tNext, tRet]
    refine tall_pure (K := K) (a := a) (r := r) (fun j => decide (j < n)) (fun R h => ⟨_, rfl, h⟩) hl hz (fun m H' R _ _ h => ⟨_, rfl, _, rfl, _, _, rfl, rfl, ?_⟩) q
    dsimp only
    rw [show decide ((m : Int) < (n : Int)) = decide (m < n) from decide_eq_decide.mpr (by omega)]
    exact h
theorem ok_is_route (T : Txt K mg) : Def P w K mg base 1 (He.ga K "is_route") ["route", "places"] (sp_is_route K) := by
  obtain ⟨fd, F⟩ := T.F_is_route
  exact ⟨⟨fd, fo_is_route T F, F.binds fun _ _ _ _ _ _ us hl => match us, hl with | [_, _], _ => rfl⟩, F.kp⟩

/-- is_weather: slots 0 weather, 1 route, 2 rains -/
theorem fo_is_weather (T : Txt K mg) {fd : FuncData} (F : Fun K "is_weather" "is_weather" s_is_weather (He.ga K "is_weather") fd) : FnOk P w K mg base CX0 1 (He.ga K "is_weather") fd ["weather", "route"] (sp_is_weather K) := by
  refine F.ok sc_is_weather (fun vs H Q E h => ?_) (fun cdv A outer s H vs Q E hr h => ?_)
  · obtain ⟨a, b, v, r, rfl, hl, hr', hz, q⟩ := h
    rfl
  · obtain ⟨a, b, v, r, rfl, hl, hr', hz, q⟩ := h
    refine ⟨_, (pss_cons (ps_if (pt_cmpR op_ne (pe_callB call_len_seq (by rfl) T.b_len (by decide +kernel) (pa_cons (pv 0) pa_nil)) (pe_callB call_len_seq (by rfl) T.b_len (by decide +kernel) (pa_cons (pv 1) pa_nil)) (nomark _)) (pss_one (ps_ret pe_bl))
      pss_nil)
      (pss_one (ps_ret (pe_callB (cr_all rfl) (by rfl) T.b_all (by decide +kernel) (pa_cons (pe_lc (own := [("rains", 2)]) rfl sc_is_weather.nd (pi_list (pv 0)) (blkOk_by (own := [("rains", 2)]) (N := ["weather", "route", "rains"]) (sc := defScope s_is_weather) (by decide +kernel)) (fun _ _ _ _ _ => (pg_name (i := 2) sc_is_weather.nd rfl (Or.inl rfl))) (fun _ _ _ _ _ => pts_nil) (fun _ _ _ _ _ => (pe_cmpR op_le (pv 2) pe_int (nomark _)))) pa_nil))))), ?_⟩
    refine ⟨_, rfl, a, nl v, rfl, .inl hl, _, rfl, b, nl r, rfl, .inl hr', rfl, _, rfl, ?_⟩
    rw [nl_len, nl_len, dec_vnat]
    refine if_b (fun e => ?_) (fun e => ?_)
    · have e' : decide (v.length = r.length) = false := by simpa using e
      rw [e', Bool.false_and] at q
      exact q H (Same.refl H)
    have e' : decide (v.length = r.length) = true := by simpa using e
    rw [e', Bool.true_and] at q
    dsimp only [tNext, tRet]
    refine tall_pure (K := K) (a := a) (r := v) (fun j => decide (j < 2)) (fun R h => ⟨_, rfl, h⟩) hl hz (fun m H' R _ _ h => ⟨_, rfl, _, _, rfl, rfl, ?_⟩) q
    dsimp only
    rw [show decide ((m : Int) ≤ 1) = decide (m < 2) from decide_eq_decide.mpr (by omega)]
    exact h
theorem ok_is_weather (T : Txt K mg) : Def P w K mg base 1 (He.ga K "is_weather") ["weather", "route"] (sp_is_weather K) := by
  obtain ⟨fd, F⟩ := T.F_is_weather
  exact ⟨⟨fd, fo_is_weather T F, F.binds fun _ _ _ _ _ _ us hl => match us, hl with | [_, _], _ => rfl⟩, F.kp⟩

/-- gets_wet: slots 0 umbrellas, 1 here, 2 rains -/
theorem fo_gets_wet (T : Txt K mg) {fd : FuncData} (F : Fun K "gets_wet" "gets_wet" s_gets_wet (He.ga K "gets_wet") fd) : FnOk P w K mg base CX0 1 (He.ga K "gets_wet") fd ["umbrellas", "here", "rains"] (sp_gets_wet K) := by
  refine F.ok sc_gets_wet (fun vs H Q E h => ?_) (fun cdv A outer s H vs Q E hr h => ?_)
  · obtain ⟨a, l, h, x, rfl, hl, hh, q⟩ := h
    rfl
  · obtain ⟨a, l, h, x, rfl, hl, hh, q⟩ := h
    refine ⟨_, (pss_cons (ps_if (PW.pt (pw_and (pt_cmpR op_eq (pv 2) pe_int (nomark _)) (pw_and1 (pt_cmpR op_eq (pe_ix ix_list (pv 0) (pv 1) (fun _ _ => rfl)) pe_int (nomark _))))) (pss_one (ps_ret pe_int))
      pss_nil)
      (pss_one (ps_ret pe_int))), ?_⟩
    refine ⟨_, rfl, rfl, _, rfl, ?_⟩
    rw [show decide (V.int (x : Int) = V.int 1) = decide (x = 1) from dec_vnat (j := 1)]
    refine if_d (fun e => ?_) (fun e => ?_)
    · refine ⟨_, rfl, _, rfl, a, nl l, _, _, rfl, rfl, hl, atI_nat (nl_getD hh), rfl, _, rfl, ?_⟩
      rw [show decide (V.int ((l.getD h 0 : Nat) : Int) = V.int 0) = decide (l.getD h 0 = 0) from dec_vnat (j := 0)]
      rw [decide_eq_true e, Bool.true_and] at q
      refine if_d (fun z => ?_) (fun z => ?_)
      · rw [decide_eq_true z] at q
        exact q
      · rw [decide_eq_false z] at q
        exact q
    · rw [decide_eq_false e, Bool.false_and] at q
      exact if_f rfl q
theorem ok_gets_wet (T : Txt K mg) : Def P w K mg base 1 (He.ga K "gets_wet") ["umbrellas", "here", "rains"] (sp_gets_wet K) := by
  obtain ⟨fd, F⟩ := T.F_gets_wet
  exact ⟨⟨fd, fo_gets_wet T F, F.binds fun _ _ _ _ _ _ us hl => match us, hl with | [_, _, _], _ => rfl⟩, F.kp⟩

/-- after_way: slots 0 umbrellas, 1 here, 2 place, 3 rains, 4 carried, 5 after -/
theorem fo_after_way (T : Txt K mg) {fd : FuncData} (F : Fun K "after_way" "after_way" s_after_way (He.ga K "after_way") fd) : FnOk P w K mg base CX0 1 (He.ga K "after_way") fd ["umbrellas", "here", "place", "rains", "carried"] (sp_after_way K) := by
  refine F.ok sc_after_way (fun vs H Q E h => ?_) (fun cdv A outer s H vs Q E hr h => ?_)
  · obtain ⟨a, l, h, t, x, c, rfl, hl, hh, ht, hz, q⟩ := h
    rfl
  · obtain ⟨a, l, h, t, x, c, rfl, hl, hh, ht, hz, q⟩ := h
    refine ⟨_, (pss_cons (ps_set (i := 5) sc_after_way.nd rfl (Or.inl rfl) (pe_callTy call_list_of (by rfl) T.b_list (by decide +kernel) (pa_cons (pv 0) pa_nil)))
      (pss_cons (ps_if (PW.pt (pw_and (pt_cmpR op_gt (pe_ix ix_list (pv 5) (pv 1) (fun _ _ => rfl)) pe_int (nomark _)) (pw_and1 (PW.pt (pw_or (pt_cmpR op_eq (pv 3) pe_int (nomark _)) (pw_or1 (pt_cmpR op_eq (pv 4) pe_int (nomark _)))))))) (pss_cons (ps_augS (pv 5) (pv 1) get_list pe_int ip_sub set_list)
      (pss_one (ps_augS (pv 5) (pv 2) get_list pe_int ip_add set_list)))
      pss_nil)
      (pss_one (ps_ret (pv 5))))), ?_⟩
    refine ⟨_, rfl, a, nl l, rfl, .inl hl, fun p hp => ?_⟩
    have hL : SqL K (upd H p (.lst (nl l))) p (nl l) := SqL.of upd_same
    rw [goes_after] at q
    refine ⟨_, rfl, _, rfl, p, nl l, _, _, rfl, rfl, hL, atI_nat (nl_getD hh), _, _, rfl, rfl, _, rfl, ?_⟩
    refine if_d (fun e => ?_) (fun e => ?_)
    · have e' : 0 < l.getD h 0 := by omega
      have go : (x = 1 ∨ c = 1) → tSeq (tAugS (tVar 5) (tVar 1) (tC (V.int 1)) (rGetL K) (ipI fun i j => i - j) rSetL) (tAugS (tVar 5) (tVar 2) (tC (V.int 1)) (rGetL K) (ipI fun i j => i + j) rSetL)
          { nx := fun σ H' => tRet (tVar 5) { nx := fun x H' => Q V.non H', rt := Q } σ H', rt := Q } [some (V.ref a), some (V.int h), some (V.int t), some (V.int x), some (V.int c), some (V.ref p)] (upd H p (.lst (nl l))) := by
        intro xc
        rw [if_pos ⟨e', xc⟩] at q
        refine ⟨_, rfl, _, rfl, p, nl l, h, _, rfl, rfl, hL, nl_getD hh, _, _, rfl, rfl, p, nl l, _, h, rfl, rfl, upd_same, (by rw [nl_len]; exact ix_of hh), ?_⟩
        rw [nl_set (n := l.getD h 0 - 1) (by dsimp only; omega), upd_upd]
        have ht' : t < (l.set h (l.getD h 0 - 1)).length := by rw [List.length_set]; exact ht
        refine ⟨_, rfl, _, rfl, p, nl (l.set h (l.getD h 0 - 1)), t, _, rfl, rfl, SqL.of upd_same, nl_getD ht', _, _, rfl, rfl, p, _, _, t, rfl, rfl, upd_same, (by rw [nl_len]; exact ix_of ht'), ?_⟩
        rw [nl_set (n := (l.set h (l.getD h 0 - 1)).getD t 0 + 1) (by dsimp only; omega), upd_upd]
        exact ⟨_, rfl, q _ p (same_new hp) hp upd_same⟩
      refine ⟨_, rfl, rfl, _, rfl, ?_⟩
      rw [show decide (V.int (x : Int) = V.int 1) = decide (x = 1) from dec_vnat (j := 1)]
      refine if_d (fun e1 => ?_) (fun e1 => ?_)
      · exact if_t rfl (go (.inl e1))
      · refine ⟨_, rfl, rfl, _, rfl, ?_⟩
        rw [show decide (V.int (c : Int) = V.int 1) = decide (c = 1) from dec_vnat (j := 1)]
        refine if_d (fun e2 => ?_) (fun e2 => ?_)
        · exact go (.inr e2)
        · rw [if_neg (by omega)] at q
          exact ⟨_, rfl, q _ p (same_new hp) hp upd_same⟩
    · rw [if_neg (by omega)] at q
      exact if_f rfl ⟨_, rfl, q _ p (same_new hp) hp upd_same⟩
theorem ok_after_way (T : Txt K mg) : Def P w K mg base 1 (He.ga K "after_way") ["umbrellas", "here", "place", "rains", "carried"] (sp_after_way K) := by
  obtain ⟨fd, F⟩ := T.F_after_way
  exact ⟨⟨fd, fo_after_way T F, F.binds fun _ _ _ _ _ _ us hl => match us, hl with | [_, _, _, _, _], _ => rfl⟩, F.kp⟩

/-- wet_ways: slots 0 umbrellas, 1 here, 2 route, 3 weather, 4 wet, 5 place, 6 rains -/
theorem fo_wet_ways (T : Txt K mg) (D_after_way : Def P w K mg base 1 (He.ga K "after_way") ["umbrellas", "here", "place", "rains", "carried"] (sp_after_way K)) (D_gets_wet : Def P w K mg base 1 (He.ga K "gets_wet") ["umbrellas", "here", "rains"] (sp_gets_wet K)) {fd : FuncData} (F : Fun K "wet_ways" "wet_ways" s_wet_ways (He.ga K "wet_ways") fd) : FnOk P w K mg base CX0 2 (He.ga K "wet_ways") fd ["umbrellas", "here", "route", "weather"] (sp_wet_ways K) := by
  obtain ⟨fd_after_way, G_after_way, b_after_way⟩ := D_after_way.ex
  obtain ⟨fd_gets_wet, G_gets_wet, b_gets_wet⟩ := D_gets_wet.ex
  refine F.ok sc_wet_ways (fun vs H Q E h => ?_) (fun cdv A outer s H vs Q E hr h => ?_)
  · obtain ⟨a, b, c, l, r, v, h, rfl, hl, hr', hw, hh, hz, ht, hlen, hz2, q⟩ := h
    rfl
  · obtain ⟨a, b, c, l, r, v, h, rfl, hl, hr', hw, hh, hz, ht, hlen, hz2, q⟩ := h
    refine ⟨_, (pss_cons (ps_set (i := 4) sc_wet_ways.nd rfl (Or.inl rfl) (pe_lst pa_nil))
      (pss_cons (ps_for PassesOwn.never rfl (pi_zip (by rfl) T.b_zip (pa_cons (pv 2) (pa_cons (pv 3) pa_nil))) (pg_tup rfl (pgs_cons (pg_name (i := 5) sc_wet_ways.nd rfl (Or.inl rfl)) (pgs_cons (pg_name (i := 6) sc_wet_ways.nd rfl (Or.inl rfl)) pgs_nil)))
      (pss_cons (ps_expr (pe_bm PySem.F.plainAttrs_list PySem.F.slot_list_append PySem.F.type_list_append mt_append (pv 4) (pa_cons (pe_call G_gets_wet (hr.mono (by decide)) rfl T.g_gets_wet D_gets_wet.kp b_gets_wet .nil pass0 (pa_cons (pv 0) (pa_cons (pv 1) (pa_cons (pv 6) pa_nil)))) pa_nil)))
      (pss_cons (ps_set (i := 0) sc_wet_ways.nd rfl (Or.inl rfl) (pe_call G_after_way (hr.mono (by decide)) rfl T.g_after_way D_after_way.kp b_after_way .nil pass0 (pa_cons (pv 0) (pa_cons (pv 1) (pa_cons (pv 5) (pa_cons (pv 6) (pa_cons pe_int pa_nil)))))))
      (pss_one (ps_set (i := 1) sc_wet_ways.nd rfl (Or.inl rfl) (pv 5))))))
      (pss_one (ps_ret (pv 4))))), ?_⟩
    refine ⟨Nat.zero_le _, fun p hp => ?_⟩
    refine ⟨_, rfl, _, rfl, b, c, nl r, nl v, rfl, (same_new hp).seq hr', (same_new hp).seq hw, ?_⟩
    refine RZ.for_zipL (K := K) (a := b) (b := c) (xs := nl r) (ys := nl v) (by rw [nl_len, nl_len, hlen])
      (fun i σ H' => ∃ (u : Addr) (x5 x6 : Option V), σ = [some (.ref u), some (nv (gone ⟨l, h⟩ (ways (r.take i) (v.take i))).here), some (.ref b), some (.ref c), some (.ref p), x5, x6] ∧ Same H H' ∧
        H' p = some (.lst (nl ((Mu44.wet ⟨l, h⟩ (ways (r.take i) (v.take i))).map b2n))) ∧ (∀ o, SqL K (upd H' p o) u (nl (gone ⟨l, h⟩ (ways (r.take i) (v.take i))).at_)))
      ⟨a, none, none, rfl, same_new hp, upd_same, fun o => ?_⟩ (fun i σ H' z => ?_) (fun i x y T0 σ H' hx hy z hT => ?_) (fun σ H' z => ?_)
    · rw [upd_upd]
      exact (same_new hp).seq hl
    · obtain ⟨u, x5, x6, rfl, s1, h1, h2⟩ := z
      exact ⟨s1.seq hr', s1.seq hw⟩
    · obtain ⟨u, x5, x6, rfl, s1, h1, h2⟩ := z
      obtain ⟨t, ht', rfl⟩ := at_nl hx
      obtain ⟨x, hx', rfl⟩ := at_nl hy
      have hTp : p ≠ T0 := ne_of_none h1 hT
      have hTH : H T0 = none := s1.free hT
      have s2 : Same H (upd H' T0 (.tup [.int (t : Int), .int (x : Int)])) := same_upd s1 hTH
      have hlt : (gone ⟨l, h⟩ (ways (r.take i) (v.take i))).here < (gone ⟨l, h⟩ (ways (r.take i) (v.take i))).at_.length := by
        rw [gone_len]
        refine here_lt _ (fun w hw' => ?_) hh
        exact ht _ (List.mem_of_mem_take (ways_to hw'))
      have hlen' : (gone ⟨l, h⟩ (ways (r.take i) (v.take i))).at_.length = l.length := gone_len _ _
      have sq : SqL K (upd H' T0 (.tup [.int (t : Int), .int (x : Int)])) u (nl (gone ⟨l, h⟩ (ways (r.take i) (v.take i))).at_) := by
        have e : SqL K H' u (nl (gone ⟨l, h⟩ (ways (r.take i) (v.take i))).at_) := by
          have := h2 (.lst (nl ((Mu44.wet ⟨l, h⟩ (ways (r.take i) (v.take i))).map b2n)))
          rw [upd_id h1] at this
          exact this
        exact (same_new hT).seq e
      have hp2 : (upd H' T0 (.tup [.int (t : Int), .int (x : Int)])) p = some (.lst (nl ((Mu44.wet ⟨l, h⟩ (ways (r.take i) (v.take i))).map b2n))) := by
        rw [upd_ne hTp]
        exact h1
      refine ⟨T0, _, rfl, SqT.of upd_same, rfl, _, _, rfl, _, _, rfl, rfl, ?_⟩
      refine ⟨_, rfl, .inl ⟨rfl, _, SqL.of hp2⟩, _, rfl, _, rfl, _, rfl, u, _, (gone ⟨l, h⟩ (ways (r.take i) (v.take i))).here, x, rfl, sq, hlt, p, _, _, rfl, rfl, hp2, ?_, ?_⟩
      · rw [nl_len, List.length_map, wet_len, ways_len _ _ (by rw [List.length_take, List.length_take, hlen]), List.length_take]
        exact Nat.lt_of_le_of_lt (Nat.min_le_right _ _) (Nat.lt_of_le_of_lt hz2 (by decide))
      have sq2 : SqL K (upd (upd H' T0 (.tup [.int (t : Int), .int (x : Int)])) p (.lst (nl ((Mu44.wet ⟨l, h⟩ (ways (r.take i) (v.take i))).map b2n) ++ [nv (b2n (decide (x = 1) && decide ((gone ⟨l, h⟩ (ways (r.take i) (v.take i))).at_.getD (gone ⟨l, h⟩ (ways (r.take i) (v.take i))).here 0 = 0)))]))) u (nl (gone ⟨l, h⟩ (ways (r.take i) (v.take i))).at_) := by
        have := h2 (.lst (nl ((Mu44.wet ⟨l, h⟩ (ways (r.take i) (v.take i))).map b2n) ++ [nv (b2n (decide (x = 1) && decide ((gone ⟨l, h⟩ (ways (r.take i) (v.take i))).at_.getD (gone ⟨l, h⟩ (ways (r.take i) (v.take i))).here 0 = 0)))]))
        rw [upd_comm hTp]
        exact Same.seq (same_new (by rw [upd_ne (Ne.symm hTp)]; exact hT)) this
      refine ⟨_, rfl, _, rfl, _, rfl, _, rfl, u, _, (gone ⟨l, h⟩ (ways (r.take i) (v.take i))).here, t, x, 0, rfl, sq2, hlt, (by rw [hlen']; exact ht t (List.mem_of_getElem? ht')), (by rw [hlen']; exact hz), fun H2 p2 s3 n3 e3 => ?_⟩
      have ep : p2 ≠ p := fun e => by
        rw [e, upd_same] at n3
        cases n3
      refine ⟨_, rfl, p2, some (V.int (t : Int)), some (V.int (x : Int)), ?_, ?_, ?_, ?_⟩
      · rw [gone_more ht' hx', goes_here]
        rfl
      · intro b' o' e'
        refine s3 b' o' ?_
        rw [upd_ne (ne_of_none e' hp)]
        exact s2 b' o' e'
      · rw [s3 p _ upd_same, wet_more ht' hx', List.map_append]
        unfold nl
        rw [List.map_append]
        refine congrArg (fun z => some (HO.lst (_ ++ [nv (b2n z)]))) ?_
        exact (goes_wet _ _ t x 0).symm
      · intro o
        rw [gone_more ht' hx']
        exact SqL.of (by rw [upd_ne ep]; exact e3)
    · obtain ⟨u, x5, x6, rfl, s1, h1, h2⟩ := z
      rw [nl_len] at h1
      rw [List.take_length, List.take_of_length_le (by omega)] at h1
      exact ⟨_, rfl, q _ p s1 hp h1⟩
theorem ok_wet_ways (T : Txt K mg) (D_after_way : Def P w K mg base 1 (He.ga K "after_way") ["umbrellas", "here", "place", "rains", "carried"] (sp_after_way K)) (D_gets_wet : Def P w K mg base 1 (He.ga K "gets_wet") ["umbrellas", "here", "rains"] (sp_gets_wet K)) : Def P w K mg base 2 (He.ga K "wet_ways") ["umbrellas", "here", "route", "weather"] (sp_wet_ways K) := by
  obtain ⟨fd, F⟩ := T.F_wet_ways
  exact ⟨⟨fd, fo_wet_ways T D_after_way D_gets_wet F, F.binds fun _ _ _ _ _ _ us hl => match us, hl with | [_, _, _, _], _ => rfl⟩, F.kp⟩

end
end Ww
namespace Ww
open PySem PySem.Spec PyProof.Rows L2
section
variable {P : Program} {w : World} {K : PySem.W.Frag} {mg : Str → Option Value} {base : Heap}
/-- Walker.__init__: slots 0 self -/
theorem fo_Walker_init (T : Txt K mg) {fd : FuncData} (F : Fun K "__init__" "Walker.__init__" s_Walker_init (He.ma K (He.ga K "Walker") "__init__") fd) : FnOk P w K mg base CX0 1 (He.ma K (He.ga K "Walker") "__init__") fd ["self"] (sp_Walker_init K) := by
  refine F.ok sc_Walker_init (fun vs H Q E h => ?_) (fun cdv A outer s H vs Q E hr h => ?_)
  · obtain ⟨p, dx, rfl, hp, q⟩ := h
    rfl
  · obtain ⟨p, dx, rfl, hp, q⟩ := h
    refine ⟨_, (pss_cons (ps_fld (pv 0) (pe_lst pa_nil) rfl)
      (pss_cons (ps_fld (pv 0) pe_int rfl)
      (pss_cons (ps_fld (pv 0) pe_int rfl)
      (pss_cons (ps_fld (pv 0) pe_int rfl)
      (pss_cons (ps_fld (pv 0) pe_int rfl)
      (pss_one (ps_fld (pv 0) pe_int rfl))))))), ?_⟩
    refine ⟨Nat.zero_le _, fun u hu => ?_⟩
    have pu : p ≠ u := ne_of_none hp hu
    refine ⟨_, rfl, p, _, dx, [], rfl, (by rw [upd_ne pu]; exact hp), T.cl_Walker, T.n_Walker_umbrellas, (by show 0 < 1000; decide), ?_⟩
    refine ⟨_, rfl, p, _, dx, _, rfl, upd_same, T.cl_Walker, T.n_Walker_here, (by show 1 < 1000; decide), ?_⟩
    refine ⟨_, rfl, p, _, dx, _, rfl, upd_same, T.cl_Walker, T.n_Walker_gone, (by show 2 < 1000; decide), ?_⟩
    refine ⟨_, rfl, p, _, dx, _, rfl, upd_same, T.cl_Walker, T.n_Walker_wet, (by show 3 < 1000; decide), ?_⟩
    refine ⟨_, rfl, p, _, dx, _, rfl, upd_same, T.cl_Walker, T.n_Walker_come, (by show 4 < 1000; decide), ?_⟩
    refine ⟨_, rfl, p, _, dx, _, rfl, upd_same, T.cl_Walker, T.n_Walker_lost, (by show 5 < 1000; decide), ?_⟩
    simp only [upd_upd]
    refine q _ u ⟨⟨dx, upd_same⟩, ?_⟩ hu (fun b o e hb => ?_)
    · rw [upd_ne (Ne.symm pu)]
      exact upd_same
    · rw [upd_ne hb, upd_ne (ne_of_none e hu)]
      exact e
theorem ok_Walker_init (T : Txt K mg) : Def P w K mg base 1 (He.ma K (He.ga K "Walker") "__init__") ["self"] (sp_Walker_init K) := by
  obtain ⟨fd, F⟩ := T.F_Walker_init
  exact ⟨⟨fd, fo_Walker_init T F, F.binds fun _ _ _ _ _ _ us hl => match us, hl with | [_], _ => rfl⟩, F.kp⟩

/-- Walker.has_begun: slots 0 self -/
theorem fo_Walker_has_begun (T : Txt K mg) {fd : FuncData} (F : Fun K "has_begun" "Walker.has_begun" s_Walker_has_begun (He.ma K (He.ga K "Walker") "has_begun") fd) : FnOk P w K mg base CX0 1 (He.ma K (He.ga K "Walker") "has_begun") fd ["self"] (sp_Walker_has_begun K) := by
  refine F.ok sc_Walker_has_begun (fun vs H Q E h => ?_) (fun cdv A outer s H vs Q E hr h => ?_)
  · obtain ⟨a, u, m, rfl, ⟨⟨dx, h1⟩, h2⟩, q⟩ := h
    rfl
  · obtain ⟨a, u, m, rfl, ⟨⟨dx, h1⟩, h2⟩, q⟩ := h
    refine ⟨_, (pss_one (ps_ret (pe_cmpR op_gt (pe_callB call_len_seq (by rfl) T.b_len (by decide +kernel) (pa_cons (pe_fld (pv 0) rfl) pa_nil)) pe_int (nomark _)))), ?_⟩
    refine ⟨_, rfl, a, _, dx, _, _, rfl, h1, T.cl_Walker, T.n_Walker_umbrellas, rfl, u, _, rfl, .inl (SqL.of h2), _, _, rfl, rfl, ?_⟩
    dsimp only
    rw [nl_len, show decide ((0 : Int) < ((m.l.length : Nat) : Int)) = decide (0 < m.l.length) from decide_eq_decide.mpr (by omega)]
    exact q
theorem ok_Walker_has_begun (T : Txt K mg) : Def P w K mg base 1 (He.ma K (He.ga K "Walker") "has_begun") ["self"] (sp_Walker_has_begun K) := by
  obtain ⟨fd, F⟩ := T.F_Walker_has_begun
  exact ⟨⟨fd, fo_Walker_has_begun T F, F.binds fun _ _ _ _ _ _ us hl => match us, hl with | [_], _ => rfl⟩, F.kp⟩

/-- Walker.has_place: slots 0 self, 1 place -/
theorem fo_Walker_has_place (T : Txt K mg) {fd : FuncData} (F : Fun K "has_place" "Walker.has_place" s_Walker_has_place (He.ma K (He.ga K "Walker") "has_place") fd) : FnOk P w K mg base CX0 1 (He.ma K (He.ga K "Walker") "has_place") fd ["self", "place"] (sp_Walker_has_place K) := by
  refine F.ok sc_Walker_has_place (fun vs H Q E h => ?_) (fun cdv A outer s H vs Q E hr h => ?_)
  · obtain ⟨a, u, m, j, rfl, ⟨⟨dx, h1⟩, h2⟩, q⟩ := h
    rfl
  · obtain ⟨a, u, m, j, rfl, ⟨⟨dx, h1⟩, h2⟩, q⟩ := h
    refine ⟨_, (pss_one (ps_ret (pe_cmpR op_lt (pv 1) (pe_callB call_len_seq (by rfl) T.b_len (by decide +kernel) (pa_cons (pe_fld (pv 0) rfl) pa_nil)) (nomark _)))), ?_⟩
    refine ⟨_, rfl, _, rfl, a, _, dx, _, _, rfl, h1, T.cl_Walker, T.n_Walker_umbrellas, rfl, u, _, rfl, .inl (SqL.of h2), _, _, rfl, rfl, ?_⟩
    dsimp only
    rw [nl_len, show decide ((j : Int) < ((m.l.length : Nat) : Int)) = decide (j < m.l.length) from decide_eq_decide.mpr (by omega)]
    exact q
theorem ok_Walker_has_place (T : Txt K mg) : Def P w K mg base 1 (He.ma K (He.ga K "Walker") "has_place") ["self", "place"] (sp_Walker_has_place K) := by
  obtain ⟨fd, F⟩ := T.F_Walker_has_place
  exact ⟨⟨fd, fo_Walker_has_place T F, F.binds fun _ _ _ _ _ _ us hl => match us, hl with | [_, _], _ => rfl⟩, F.kp⟩

/-- Walker.begin: slots 0 self, 1 place, 2 umbrellas, 3 places -/
theorem fo_Walker_begin (T : Txt K mg) {fd : FuncData} (F : Fun K "begin" "Walker.begin" s_Walker_begin (He.ma K (He.ga K "Walker") "begin") fd) : FnOk P w K mg base CX0 1 (He.ma K (He.ga K "Walker") "begin") fd ["self", "place", "umbrellas"] (sp_Walker_begin K) := by
  refine F.ok sc_Walker_begin (fun vs H Q E h => ?_) (fun cdv A outer s H vs Q E hr h => ?_)
  · obtain ⟨a, u, b, m, h, l, rfl, W, hb, q⟩ := h
    rfl
  · obtain ⟨a, u, b, m, h, l, rfl, W, hb, q⟩ := h
    refine ⟨_, (pss_cons (ps_set (i := 3) sc_Walker_begin.nd rfl (Or.inl rfl) (pe_callB call_len_seq (by rfl) T.b_len (by decide +kernel) (pa_cons (pv 2) pa_nil)))
      (pss_cons (ps_if (PW.pt (pw_or (pt_cmpR op_lt (pv 3) (pe_num rfl T.c_FEWEST_PLACES) (nomark _)) (pw_or1 (pt_cmpR op_gt (pv 3) (pe_num rfl T.c_MOST_PLACES) (nomark _))))) (pss_one (ps_ret (pe_lst (pa_cons (pe_num rfl T.c_NOT_GRANTED) pa_nil))))
      pss_nil)
      (pss_cons (ps_if (PW.pt (pw_or (pt_cmpR op_ge (pv 1) (pv 3) (nomark _)) (pw_or1 (pt_cmpR op_gt (pe_callB (id := "sum") (r := rSum K) (cr_sum rfl) (by rfl) T.b_sum (by decide +kernel) (pa_cons (pv 2) pa_nil)) (pe_num rfl T.c_MOST_UMBRELLAS) (nomark _))))) (pss_one (ps_ret (pe_lst (pa_cons (pe_num rfl T.c_NOT_GRANTED) pa_nil))))
      pss_nil)
      (pss_cons (ps_fld (pv 0) (pe_callTy call_list_of (by rfl) T.b_list (by decide +kernel) (pa_cons (pv 2) pa_nil)) rfl)
      (pss_cons (ps_fld (pv 0) (pv 1) rfl)
      (pss_cons (ps_fld (pv 0) pe_int rfl)
      (pss_cons (ps_fld (pv 0) pe_int rfl)
      (pss_cons (ps_fld (pv 0) (pe_callB (id := "sum") (r := rSum K) (cr_sum rfl) (by rfl) T.b_sum (by decide +kernel) (pa_cons (pv 2) pa_nil)) rfl)
      (pss_cons (ps_fld (pv 0) pe_int rfl)
      (pss_one (ps_ret (pe_lst (pa_cons pe_int pa_nil))))))))))))), ?_⟩
    have W0 := W
    have no : (l.length < 2 ∨ 4 < l.length ∨ l.length ≤ h ∨ 6 < l.sum) → ∀ p, H p = none → Q (.ref p) (upd H p (.lst [.int (-1)])) := fun c p hp => by
      unfold mBegin at q
      rw [if_pos c] at q
      exact Ret.still q W (same_new hp) hp upd_same
    refine ⟨_, rfl, b, _, rfl, .inl hb, ?_⟩
    rw [nl_len]
    refine ⟨_, rfl, _, _, rfl, rfl, _, rfl, ?_⟩
    refine if_d (fun e => ?_) (fun e => ?_)
    · exact if_t rfl ⟨by show 1 ≤ sizeLine; decide, fun p hp => no (by omega) p hp⟩
    refine ⟨_, rfl, _, _, rfl, rfl, _, rfl, ?_⟩
    refine if_d (fun e2 => ?_) (fun e2 => ?_)
    · exact ⟨by show 1 ≤ sizeLine; decide, fun p hp => no (by omega) p hp⟩
    refine ⟨_, rfl, _, rfl, _, _, rfl, rfl, _, rfl, ?_⟩
    refine if_d (fun e3 => ?_) (fun e3 => ?_)
    · exact if_t rfl ⟨by show 1 ≤ sizeLine; decide, fun p hp => no (by omega) p hp⟩
    refine ⟨_, rfl, b, l.map fun (n : Nat) => (n : Int), rfl, (by rw [← nl_ints]; exact hb), _, _, rfl, rfl, _, rfl, ?_⟩
    rw [sum_cast]
    refine if_d (fun e4 => ?_) (fun e4 => ?_)
    · exact ⟨by show 1 ≤ sizeLine; decide, fun p hp => no (by omega) p hp⟩
    unfold mBegin at q
    rw [if_neg (by omega)] at q
    obtain ⟨⟨dx, h1⟩, h2⟩ := W0
    refine ⟨_, rfl, b, _, rfl, .inl hb, fun v hv => ?_⟩
    have av : a ≠ v := ne_of_none h1 hv
    refine ⟨_, rfl, a, _, dx, _, rfl, (by rw [upd_ne av]; exact h1), T.cl_Walker, T.n_Walker_umbrellas, (by show 6 < 1000; decide), ?_⟩
    refine ⟨_, rfl, _, rfl, a, _, dx, _, rfl, upd_same, T.cl_Walker, T.n_Walker_here, (by show 6 < 1000; decide), ?_⟩
    refine ⟨_, rfl, a, _, dx, _, rfl, upd_same, T.cl_Walker, T.n_Walker_gone, (by show 6 < 1000; decide), ?_⟩
    refine ⟨_, rfl, a, _, dx, _, rfl, upd_same, T.cl_Walker, T.n_Walker_wet, (by show 6 < 1000; decide), ?_⟩
    simp only [upd_upd]
    refine ⟨_, rfl, b, l.map fun (n : Nat) => (n : Int), rfl, ?_, ?_⟩
    · rw [← nl_ints]
      exact seq_ins (C := He.ga K "Walker") (dx := dx) (fs := wF u m) ((same_new hv).seq hb) (by rw [upd_ne av]; exact h1)
    refine ⟨_, rfl, a, _, dx, _, rfl, upd_same, T.cl_Walker, T.n_Walker_come, (by show 6 < 1000; decide), ?_⟩
    refine ⟨_, rfl, a, _, dx, _, rfl, upd_same, T.cl_Walker, T.n_Walker_lost, (by show 6 < 1000; decide), ?_⟩
    simp only [upd_upd]
    refine ⟨by show 1 ≤ sizeLine; decide, fun p hp => ?_⟩
    obtain ⟨pa', hp2⟩ := un_none hp
    obtain ⟨pv'', hp3⟩ := un_none hp2
    have pa : a ≠ p := Ne.symm pa'
    have pv' : v ≠ p := Ne.symm pv''
    refine q.old W _ p v ⟨⟨dx, ?_⟩, ?_⟩ (.inr hv) hp3 (Ne.symm pv') upd_same (fun b' o' e' n1 n2 => ?_)
    · rw [upd_ne pa, upd_same, sum_cast]
      rfl
    · rw [upd_ne pv', upd_ne (Ne.symm av)]
      exact upd_same
    · rw [upd_ne (ne_of_none e' hp3), upd_ne n1, upd_ne (ne_of_none e' hv)]
      exact e'
theorem ok_Walker_begin (T : Txt K mg) : Def P w K mg base 1 (He.ma K (He.ga K "Walker") "begin") ["self", "place", "umbrellas"] (sp_Walker_begin K) := by
  obtain ⟨fd, F⟩ := T.F_Walker_begin
  exact ⟨⟨fd, fo_Walker_begin T F, F.binds fun _ _ _ _ _ _ us hl => match us, hl with | [_, _, _], _ => rfl⟩, F.kp⟩

/-- Walker.go: slots 0 self, 1 place, 2 rains, 3 carried, 4 wet -/
theorem fo_Walker_go (T : Txt K mg) (D_Walker_has_place : Def P w K mg base 1 (He.ma K (He.ga K "Walker") "has_place") ["self", "place"] (sp_Walker_has_place K)) (D_after_way : Def P w K mg base 1 (He.ga K "after_way") ["umbrellas", "here", "place", "rains", "carried"] (sp_after_way K)) (D_gets_wet : Def P w K mg base 1 (He.ga K "gets_wet") ["umbrellas", "here", "rains"] (sp_gets_wet K)) {fd : FuncData} (F : Fun K "go" "Walker.go" s_Walker_go (He.ma K (He.ga K "Walker") "go") fd) : FnOk P w K mg base CX0 2 (He.ma K (He.ga K "Walker") "go") fd ["self", "place", "rains", "carried"] (sp_Walker_go K) := by
  obtain ⟨fd_Walker_has_place, G_Walker_has_place, b_Walker_has_place⟩ := D_Walker_has_place.ex
  obtain ⟨fd_after_way, G_after_way, b_after_way⟩ := D_after_way.ex
  obtain ⟨fd_gets_wet, G_gets_wet, b_gets_wet⟩ := D_gets_wet.ex
  refine F.ok sc_Walker_go (fun vs H Q E h => ?_) (fun cdv A outer s H vs Q E hr h => ?_)
  · obtain ⟨a, u, m, j, r, c, rfl, W, hh, hz, q⟩ := h
    rfl
  · obtain ⟨a, u, m, j, r, c, rfl, W, hh, hz, q⟩ := h
    refine ⟨_, (pss_cons (ps_if (PW.pt (pw_or (pt_not (pt_val (pe_meth (pv 0) T.cl_Walker T.m_Walker_has_place G_Walker_has_place (hr.mono (by decide)) b_Walker_has_place .nil pass0 (pa_cons (pv 1) pa_nil)))) (pw_or (pt_cmpR op_gt (pv 2) pe_int (nomark _)) (pw_or1 (pt_cmpR op_gt (pv 3) pe_int (nomark _)))))) (pss_one (ps_ret (pe_lst (pa_cons (pe_num rfl T.c_NOT_GRANTED) pa_nil))))
      pss_nil)
      (pss_cons (ps_set (i := 4) sc_Walker_go.nd rfl (Or.inl rfl) (pe_call G_gets_wet (hr.mono (by decide)) rfl T.g_gets_wet D_gets_wet.kp b_gets_wet .nil pass0 (pa_cons (pe_fld (pv 0) rfl) (pa_cons (pe_fld (pv 0) rfl) (pa_cons (pv 2) pa_nil)))))
      (pss_cons (ps_fld (pv 0) (pe_call G_after_way (hr.mono (by decide)) rfl T.g_after_way D_after_way.kp b_after_way .nil pass0 (pa_cons (pe_fld (pv 0) rfl) (pa_cons (pe_fld (pv 0) rfl) (pa_cons (pv 1) (pa_cons (pv 2) (pa_cons (pv 3) pa_nil)))))) rfl)
      (pss_cons (ps_fld (pv 0) (pv 1) rfl)
      (pss_cons (ps_fldaug (pv 0) pe_int in_add)
      (pss_cons (ps_fldaug (pv 0) (pv 4) in_add)
      (pss_one (ps_ret (pe_lst (pa_cons (pv 4) pa_nil)))))))))), ?_⟩
    have W' := W
    obtain ⟨⟨dx, h1⟩, h2⟩ := W'
    have no : (m.l.length ≤ j ∨ 1 < r ∨ 1 < c) → ∀ p, H p = none → Q (.ref p) (upd H p (.lst [.int (-1)])) := fun c p hp => by
      unfold mGo at q
      rw [if_pos c] at q
      exact Ret.still q W (same_new hp) hp upd_same
    refine ⟨_, rfl, a, dx, _, rfl, h1, rfl, _, rfl, a, u, m, j, rfl, W, _, rfl, ?_⟩
    refine if_b (fun e => ?_) (fun e => ?_)
    · exact if_t rfl ⟨by show 1 ≤ sizeLine; decide, fun p hp => no (.inl (by simpa using e)) p hp⟩
    have e0 : j < m.l.length := by simpa using e
    refine ⟨_, rfl, _, _, rfl, rfl, _, rfl, ?_⟩
    refine if_d (fun e2 => ?_) (fun e2 => ?_)
    · exact if_t rfl ⟨by show 1 ≤ sizeLine; decide, fun p hp => no (by omega) p hp⟩
    refine ⟨_, rfl, _, _, rfl, rfl, _, rfl, ?_⟩
    refine if_d (fun e3 => ?_) (fun e3 => ?_)
    · exact ⟨by show 1 ≤ sizeLine; decide, fun p hp => no (by omega) p hp⟩
    unfold mGo at q
    rw [if_neg (by omega)] at q
    refine ⟨_, rfl, a, _, dx, _, _, rfl, h1, T.cl_Walker, T.n_Walker_umbrellas, rfl, _, rfl, a, _, dx, _, _, rfl, h1, T.cl_Walker, T.n_Walker_here, rfl, _, rfl, u, m.l, m.here, r, rfl, SqL.of h2, hh, ?_⟩
    refine ⟨_, rfl, a, _, dx, _, _, rfl, h1, T.cl_Walker, T.n_Walker_umbrellas, rfl, _, rfl, a, _, dx, _, _, rfl, h1, T.cl_Walker, T.n_Walker_here, rfl, _, rfl, _, rfl, _, rfl, u, m.l, m.here, j, r, c, rfl, SqL.of h2, hh, e0, hz, fun H1 v s1 hv e1 => ?_⟩
    have av : a ≠ v := ne_of_none h1 hv
    refine ⟨_, rfl, a, _, dx, _, rfl, s1 _ _ h1, T.cl_Walker, T.n_Walker_umbrellas, (by show 6 < 1000; decide), ?_⟩
    refine ⟨_, rfl, _, rfl, a, _, dx, _, rfl, upd_same, T.cl_Walker, T.n_Walker_here, (by show 6 < 1000; decide), ?_⟩
    refine ⟨_, rfl, a, _, dx, _, _, rfl, upd_same, T.cl_Walker, T.n_Walker_gone, rfl, _, _, rfl, rfl, dx, _, upd_same, (by show 6 < 1000; decide), ?_⟩
    refine ⟨_, rfl, a, _, dx, _, _, rfl, upd_same, T.cl_Walker, T.n_Walker_wet, rfl, _, rfl, _, _, rfl, rfl, dx, _, upd_same, (by show 6 < 1000; decide), ?_⟩
    simp only [upd_upd]
    refine ⟨_, rfl, by show 1 ≤ sizeLine; decide, fun p hp => ?_⟩
    obtain ⟨pa', hp1⟩ := un_none hp
    have hp0 : H p = none := s1.free hp1
    have vp : v ≠ p := fun z => by rw [z, hp1] at e1; cases e1
    rw [goes_wet m.l m.here j r c] at q
    refine q.old W _ p v ⟨⟨dx, ?_⟩, ?_⟩ (.inr hv) hp0 (Ne.symm vp) upd_same (fun b' o' e' n1 n2 => ?_)
    · rw [upd_ne (Ne.symm pa'), upd_same]
      rfl
    · rw [upd_ne vp, upd_ne (Ne.symm av)]
      exact e1
    · rw [upd_ne (ne_of_none e' hp0), upd_ne n1]
      exact s1 _ _ e'
theorem ok_Walker_go (T : Txt K mg) (D_Walker_has_place : Def P w K mg base 1 (He.ma K (He.ga K "Walker") "has_place") ["self", "place"] (sp_Walker_has_place K)) (D_after_way : Def P w K mg base 1 (He.ga K "after_way") ["umbrellas", "here", "place", "rains", "carried"] (sp_after_way K)) (D_gets_wet : Def P w K mg base 1 (He.ga K "gets_wet") ["umbrellas", "here", "rains"] (sp_gets_wet K)) : Def P w K mg base 2 (He.ma K (He.ga K "Walker") "go") ["self", "place", "rains", "carried"] (sp_Walker_go K) := by
  obtain ⟨fd, F⟩ := T.F_Walker_go
  exact ⟨⟨fd, fo_Walker_go T D_Walker_has_place D_after_way D_gets_wet F, F.binds fun _ _ _ _ _ _ us hl => match us, hl with | [_, _, _, _], _ => rfl⟩, F.kp⟩

/-- Walker.bring: slots 0 self, 1 place -/
theorem fo_Walker_bring (T : Txt K mg) (D_Walker_has_place : Def P w K mg base 1 (He.ma K (He.ga K "Walker") "has_place") ["self", "place"] (sp_Walker_has_place K)) {fd : FuncData} (F : Fun K "bring" "Walker.bring" s_Walker_bring (He.ma K (He.ga K "Walker") "bring") fd) : FnOk P w K mg base CX0 2 (He.ma K (He.ga K "Walker") "bring") fd ["self", "place"] (sp_Walker_bring K) := by
  obtain ⟨fd_Walker_has_place, G_Walker_has_place, b_Walker_has_place⟩ := D_Walker_has_place.ex
  refine F.ok sc_Walker_bring (fun vs H Q E h => ?_) (fun cdv A outer s H vs Q E hr h => ?_)
  · obtain ⟨a, u, m, i, rfl, W, q⟩ := h
    rfl
  · obtain ⟨a, u, m, i, rfl, W, q⟩ := h
    refine ⟨_, (pss_cons (ps_if (pt_not (pt_val (pe_meth (pv 0) T.cl_Walker T.m_Walker_has_place G_Walker_has_place (hr.mono (by decide)) b_Walker_has_place .nil pass0 (pa_cons (pv 1) pa_nil)))) (pss_one (ps_ret (pe_lst (pa_cons (pe_num rfl T.c_NO_SUCH_PLACE) pa_nil))))
      pss_nil)
      (pss_cons (ps_if (pt_cmpR op_ge (pe_callB (id := "sum") (r := rSum K) (cr_sum rfl) (by rfl) T.b_sum (by decide +kernel) (pa_cons (pe_fld (pv 0) rfl) pa_nil)) (pe_num rfl T.c_MOST_UMBRELLAS) (nomark _)) (pss_one (ps_ret (pe_lst (pa_cons (pe_num rfl T.c_TOO_MANY) pa_nil))))
      pss_nil)
      (pss_cons (ps_augS (pe_fld (pv 0) rfl) (pv 1) get_list pe_int ip_add set_list)
      (pss_cons (ps_fldaug (pv 0) pe_int in_add)
      (pss_one (ps_ret (pe_lst (pa_cons (pe_ix ix_list (pe_fld (pv 0) rfl) (pv 1) (fun _ _ => rfl)) pa_nil)))))))), ?_⟩
    have W' := W
    obtain ⟨⟨dx, h1⟩, h2⟩ := W'
    have au : a ≠ u := W.ne
    unfold mBring at q
    refine ⟨_, rfl, a, dx, _, rfl, h1, rfl, _, rfl, a, u, m, i, rfl, W, _, rfl, ?_⟩
    refine if_b (fun e => ?_) (fun e => ?_)
    · rw [if_pos (by simpa using e)] at q
      exact ⟨by show 1 ≤ sizeLine; decide, fun p hp => Ret.still q W (same_new hp) hp upd_same⟩
    have e0 : i < m.l.length := by simpa using e
    rw [if_neg (by omega)] at q
    refine ⟨_, rfl, a, _, dx, _, _, rfl, h1, T.cl_Walker, T.n_Walker_umbrellas, rfl, u, m.l.map fun (n : Nat) => (n : Int), rfl, (by rw [← nl_ints]; exact SqL.of h2), _, _, rfl, rfl, _, rfl, ?_⟩
    rw [sum_cast]
    refine if_d (fun e2 => ?_) (fun e2 => ?_)
    · rw [if_pos (by omega)] at q
      exact ⟨by show 1 ≤ sizeLine; decide, fun p hp => Ret.still q W (same_new hp) hp upd_same⟩
    rw [if_neg (by omega)] at q
    refine ⟨_, rfl, a, _, dx, _, _, rfl, h1, T.cl_Walker, T.n_Walker_umbrellas, rfl, _, rfl, u, _, i, _, rfl, rfl, SqL.of h2, nl_getD e0, _, _, rfl, rfl, u, _, _, i, rfl, rfl, h2, (by rw [nl_len]; exact ix_of e0), ?_⟩
    rw [nl_set (n := m.l.getD i 0 + 1) (by dsimp only; omega)]
    refine ⟨_, rfl, a, _, dx, _, _, rfl, (by rw [upd_ne au]; exact h1), T.cl_Walker, T.n_Walker_come, rfl, _, _, rfl, rfl, dx, _, (by rw [upd_ne au]; exact h1), (by show 6 < 1000; decide), ?_⟩
    have lt2 : i < (m.l.set i (m.l.getD i 0 + 1)).length := by rw [List.length_set]; exact e0
    refine ⟨_, rfl, a, _, dx, _, _, rfl, upd_same, T.cl_Walker, T.n_Walker_umbrellas, rfl, _, rfl, u, _, _, _, rfl, rfl, SqL.of (by rw [upd_ne (Ne.symm au)]; exact upd_same), atI_nat (nl_getD lt2), by show 1 ≤ sizeLine; decide, fun p hp => ?_⟩
    obtain ⟨pa', hp1⟩ := un_none hp
    obtain ⟨pu', hp0⟩ := un_none hp1
    refine q.old W _ p u ⟨⟨dx, ?_⟩, ?_⟩ (.inl rfl) hp0 pu' ?_ (fun b' o' e' n1 n2 => ?_)
    · rw [upd_ne (Ne.symm pa'), upd_same]
      rfl
    · rw [upd_ne (Ne.symm pu'), upd_ne (Ne.symm au)]
      exact upd_same
    · rw [upd_same, getD_set e0]
      rfl
    · rw [upd_ne (ne_of_none e' hp0), upd_ne n1, upd_ne n2]
      exact e'
theorem ok_Walker_bring (T : Txt K mg) (D_Walker_has_place : Def P w K mg base 1 (He.ma K (He.ga K "Walker") "has_place") ["self", "place"] (sp_Walker_has_place K)) : Def P w K mg base 2 (He.ma K (He.ga K "Walker") "bring") ["self", "place"] (sp_Walker_bring K) := by
  obtain ⟨fd, F⟩ := T.F_Walker_bring
  exact ⟨⟨fd, fo_Walker_bring T D_Walker_has_place F, F.binds fun _ _ _ _ _ _ us hl => match us, hl with | [_, _], _ => rfl⟩, F.kp⟩

/-- Walker.lose: slots 0 self, 1 place -/
theorem fo_Walker_lose (T : Txt K mg) (D_Walker_has_place : Def P w K mg base 1 (He.ma K (He.ga K "Walker") "has_place") ["self", "place"] (sp_Walker_has_place K)) {fd : FuncData} (F : Fun K "lose" "Walker.lose" s_Walker_lose (He.ma K (He.ga K "Walker") "lose") fd) : FnOk P w K mg base CX0 2 (He.ma K (He.ga K "Walker") "lose") fd ["self", "place"] (sp_Walker_lose K) := by
  obtain ⟨fd_Walker_has_place, G_Walker_has_place, b_Walker_has_place⟩ := D_Walker_has_place.ex
  refine F.ok sc_Walker_lose (fun vs H Q E h => ?_) (fun cdv A outer s H vs Q E hr h => ?_)
  · obtain ⟨a, u, m, i, rfl, W, q⟩ := h
    rfl
  · obtain ⟨a, u, m, i, rfl, W, q⟩ := h
    refine ⟨_, (pss_cons (ps_if (pt_not (pt_val (pe_meth (pv 0) T.cl_Walker T.m_Walker_has_place G_Walker_has_place (hr.mono (by decide)) b_Walker_has_place .nil pass0 (pa_cons (pv 1) pa_nil)))) (pss_one (ps_ret (pe_lst (pa_cons (pe_num rfl T.c_NO_SUCH_PLACE) pa_nil))))
      pss_nil)
      (pss_cons (ps_if (pt_cmpR op_eq (pe_ix ix_list (pe_fld (pv 0) rfl) (pv 1) (fun _ _ => rfl)) pe_int (nomark _)) (pss_one (ps_ret (pe_lst (pa_cons (pe_num rfl T.c_NONE_THERE) pa_nil))))
      pss_nil)
      (pss_cons (ps_augS (pe_fld (pv 0) rfl) (pv 1) get_list pe_int ip_sub set_list)
      (pss_cons (ps_fldaug (pv 0) pe_int in_add)
      (pss_one (ps_ret (pe_lst (pa_cons (pe_ix ix_list (pe_fld (pv 0) rfl) (pv 1) (fun _ _ => rfl)) pa_nil)))))))), ?_⟩
    have W' := W
    obtain ⟨⟨dx, h1⟩, h2⟩ := W'
    have au : a ≠ u := W.ne
    unfold mLose at q
    refine ⟨_, rfl, a, dx, _, rfl, h1, rfl, _, rfl, a, u, m, i, rfl, W, _, rfl, ?_⟩
    refine if_b (fun e => ?_) (fun e => ?_)
    · rw [if_pos (by simpa using e)] at q
      exact ⟨by show 1 ≤ sizeLine; decide, fun p hp => Ret.still q W (same_new hp) hp upd_same⟩
    have e0 : i < m.l.length := by simpa using e
    rw [if_neg (by omega)] at q
    refine ⟨_, rfl, a, _, dx, _, _, rfl, h1, T.cl_Walker, T.n_Walker_umbrellas, rfl, _, rfl, u, _, _, _, rfl, rfl, SqL.of h2, atI_nat (nl_getD e0), rfl, _, rfl, ?_⟩
    rw [show decide (V.int ((m.l.getD i 0 : Nat) : Int) = V.int 0) = decide (m.l.getD i 0 = 0) from dec_vnat (j := 0)]
    refine if_d (fun e2 => ?_) (fun e2 => ?_)
    · rw [if_pos e2] at q
      exact ⟨by show 1 ≤ sizeLine; decide, fun p hp => Ret.still q W (same_new hp) hp upd_same⟩
    rw [if_neg e2] at q
    refine ⟨_, rfl, a, _, dx, _, _, rfl, h1, T.cl_Walker, T.n_Walker_umbrellas, rfl, _, rfl, u, _, i, _, rfl, rfl, SqL.of h2, nl_getD e0, _, _, rfl, rfl, u, _, _, i, rfl, rfl, h2, (by rw [nl_len]; exact ix_of e0), ?_⟩
    rw [nl_set (n := m.l.getD i 0 - 1) (by dsimp only; omega)]
    refine ⟨_, rfl, a, _, dx, _, _, rfl, (by rw [upd_ne au]; exact h1), T.cl_Walker, T.n_Walker_lost, rfl, _, _, rfl, rfl, dx, _, (by rw [upd_ne au]; exact h1), (by show 6 < 1000; decide), ?_⟩
    have lt2 : i < (m.l.set i (m.l.getD i 0 - 1)).length := by rw [List.length_set]; exact e0
    refine ⟨_, rfl, a, _, dx, _, _, rfl, upd_same, T.cl_Walker, T.n_Walker_umbrellas, rfl, _, rfl, u, _, _, _, rfl, rfl, SqL.of (by rw [upd_ne (Ne.symm au)]; exact upd_same), atI_nat (nl_getD lt2), by show 1 ≤ sizeLine; decide, fun p hp => ?_⟩
    obtain ⟨pa', hp1⟩ := un_none hp
    obtain ⟨pu', hp0⟩ := un_none hp1
    refine q.old W _ p u ⟨⟨dx, ?_⟩, ?_⟩ (.inl rfl) hp0 pu' ?_ (fun b' o' e' n1 n2 => ?_)
    · rw [upd_ne (Ne.symm pa'), upd_same]
      rfl
    · rw [upd_ne (Ne.symm pu'), upd_ne (Ne.symm au)]
      exact upd_same
    · rw [upd_same, getD_set e0]
      rfl
    · rw [upd_ne (ne_of_none e' hp0), upd_ne n1, upd_ne n2]
      exact e'
theorem ok_Walker_lose (T : Txt K mg) (D_Walker_has_place : Def P w K mg base 1 (He.ma K (He.ga K "Walker") "has_place") ["self", "place"] (sp_Walker_has_place K)) : Def P w K mg base 2 (He.ma K (He.ga K "Walker") "lose") ["self", "place"] (sp_Walker_lose K) := by
  obtain ⟨fd, F⟩ := T.F_Walker_lose
  exact ⟨⟨fd, fo_Walker_lose T D_Walker_has_place F, F.binds fun _ _ _ _ _ _ us hl => match us, hl with | [_, _], _ => rfl⟩, F.kp⟩

/-- Walker.try_ways: slots 0 self, 1 route, 2 weather, 3 wet -/
theorem fo_Walker_try_ways (T : Txt K mg) (D_wet_ways : Def P w K mg base 2 (He.ga K "wet_ways") ["umbrellas", "here", "route", "weather"] (sp_wet_ways K)) {fd : FuncData} (F : Fun K "try_ways" "Walker.try_ways" s_Walker_try_ways (He.ma K (He.ga K "Walker") "try_ways") fd) : FnOk P w K mg base CX0 3 (He.ma K (He.ga K "Walker") "try_ways") fd ["self", "route", "weather"] (sp_Walker_try_ways K) := by
  obtain ⟨fd_wet_ways, G_wet_ways, b_wet_ways⟩ := D_wet_ways.ex
  refine F.ok sc_Walker_try_ways (fun vs H Q E h => ?_) (fun cdv A outer s H vs Q E hr h => ?_)
  · obtain ⟨a, u, b, c, m, r, v, rfl, W, hb, hc, hh, hz, ht, hlen, hz2, q⟩ := h
    rfl
  · obtain ⟨a, u, b, c, m, r, v, rfl, W, hb, hc, hh, hz, ht, hlen, hz2, q⟩ := h
    refine ⟨_, (pss_cons (ps_set (i := 3) sc_Walker_try_ways.nd rfl (Or.inl rfl) (pe_call G_wet_ways (hr.mono (by decide)) rfl T.g_wet_ways D_wet_ways.kp b_wet_ways .nil pass0 (pa_cons (pe_fld (pv 0) rfl) (pa_cons (pe_fld (pv 0) rfl) (pa_cons (pv 1) (pa_cons (pv 2) pa_nil))))))
      (pss_one (ps_ret (pe_op op_cat (pe_lst (pa_cons (pe_callB (id := "sum") (r := rSum K) (cr_sum rfl) (by rfl) T.b_sum (by decide +kernel) (pa_cons (pv 3) pa_nil)) pa_nil)) (pv 3))))), ?_⟩
    have W' := W
    obtain ⟨⟨dx, h1⟩, h2⟩ := W'
    refine ⟨_, rfl, a, _, dx, _, _, rfl, h1, T.cl_Walker, T.n_Walker_umbrellas, rfl, _, rfl, a, _, dx, _, _, rfl, h1, T.cl_Walker, T.n_Walker_here, rfl, _, rfl, _, rfl, u, b, c, m.l, r, v, m.here, rfl, SqL.of h2, hb, hc, hh, hz, ht, hlen, hz2, fun H1 p1 s1 n1 e1 => ?_⟩
    refine ⟨_, rfl, p1, ((Mu44.wet ⟨m.l, m.here⟩ (ways r v)).map b2n).map fun (n : Nat) => (n : Int), rfl, (by rw [← nl_ints]; exact SqL.of e1), by show 1 ≤ sizeLine; decide, fun p2 hp2 => ?_⟩
    have p12 : p1 ≠ p2 := ne_of_none e1 hp2
    have hp2' : H p2 = none := s1.free hp2
    refine ⟨_, rfl, p2, p1, _, _, rfl, rfl, upd_same, (by rw [upd_ne p12]; exact e1), ?_, fun p3 hp3 => ?_⟩
    · rw [nl_len, List.length_map, wet_len, ways_len _ _ hlen]
      show 1 + r.length ≤ sizeLine
      exact Nat.le_trans (Nat.add_le_add_left hz2 1) (by decide)
    obtain ⟨p32, hp3'⟩ := un_none hp3
    refine Ret.still q W (same_upd (same_upd s1 hp2') (s1.free hp3')) (s1.free hp3') ?_
    rw [upd_same, sum_cast, nl_ints]
    rfl
theorem ok_Walker_try_ways (T : Txt K mg) (D_wet_ways : Def P w K mg base 2 (He.ga K "wet_ways") ["umbrellas", "here", "route", "weather"] (sp_wet_ways K)) : Def P w K mg base 3 (He.ma K (He.ga K "Walker") "try_ways") ["self", "route", "weather"] (sp_Walker_try_ways K) := by
  obtain ⟨fd, F⟩ := T.F_Walker_try_ways
  exact ⟨⟨fd, fo_Walker_try_ways T D_wet_ways F, F.binds fun _ _ _ _ _ _ us hl => match us, hl with | [_, _, _], _ => rfl⟩, F.kp⟩

/-- Reader.__init__: slots 0 self, 1 calls -/
theorem fo_Reader_init (T : Txt K mg) {fd : FuncData} (F : Fun K "__init__" "Reader.__init__" s_Reader_init (He.ma K (He.ga K "Reader") "__init__") fd) : FnOk P w K mg base CX0 1 (He.ma K (He.ga K "Reader") "__init__") fd ["self", "calls"] (sp_Reader_init K) := by
  refine F.ok sc_Reader_init (fun vs H Q E h => ?_) (fun cdv A outer s H vs Q E hr h => ?_)
  · obtain ⟨p, dx, c, rfl, hp, q⟩ := h
    rfl
  · obtain ⟨p, dx, c, rfl, hp, q⟩ := h
    refine ⟨_, (pss_cons (ps_fld (pv 0) (pv 1) rfl)
      (pss_one (ps_fld (pv 0) pe_int rfl))), ?_⟩
    refine ⟨_, rfl, _, rfl, p, _, dx, [], rfl, hp, T.cl_Reader, T.n_Reader_calls, (by show 0 < 1000; decide), ?_⟩
    refine ⟨_, rfl, p, _, dx, _, rfl, upd_same, T.cl_Reader, T.n_Reader_at, (by show 1 < 1000; decide), ?_⟩
    simp only [upd_upd]
    exact q _ ⟨dx, upd_same⟩ (fun b o e hb => by rw [upd_ne hb]; exact e)
theorem ok_Reader_init (T : Txt K mg) : Def P w K mg base 1 (He.ma K (He.ga K "Reader") "__init__") ["self", "calls"] (sp_Reader_init K) := by
  obtain ⟨fd, F⟩ := T.F_Reader_init
  exact ⟨⟨fd, fo_Reader_init T F, F.binds fun _ _ _ _ _ _ us hl => match us, hl with | [_, _], _ => rfl⟩, F.kp⟩

/-- Reader.is_done: slots 0 self -/
theorem fo_Reader_is_done (T : Txt K mg) {fd : FuncData} (F : Fun K "is_done" "Reader.is_done" s_Reader_is_done (He.ma K (He.ga K "Reader") "is_done") fd) : FnOk P w K mg base CX0 1 (He.ma K (He.ga K "Reader") "is_done") fd ["self"] (sp_Reader_is_done K) := by
  refine F.ok sc_Reader_is_done (fun vs H Q E h => ?_) (fun cdv A outer s H vs Q E hr h => ?_)
  · obtain ⟨r, c, i, ns, rfl, ⟨dx, h1⟩, hc, q⟩ := h
    rfl
  · obtain ⟨r, c, i, ns, rfl, ⟨dx, h1⟩, hc, q⟩ := h
    refine ⟨_, (pss_one (ps_ret (pe_cmpR op_ge (pe_fld (pv 0) rfl) (pe_callB call_len_seq (by rfl) T.b_len (by decide +kernel) (pa_cons (pe_fld (pv 0) rfl) pa_nil)) (nomark _)))), ?_⟩
    refine ⟨_, rfl, r, _, dx, _, _, rfl, h1, T.cl_Reader, T.n_Reader_at, rfl, _, rfl, r, _, dx, _, _, rfl, h1, T.cl_Reader, T.n_Reader_calls, rfl, c, _, rfl, .inl hc, _, _, rfl, rfl, ?_⟩
    dsimp only
    rw [List.length_map, show decide (((ns.length : Nat) : Int) ≤ (i : Int)) = decide (ns.length ≤ i) from decide_eq_decide.mpr (by omega)]
    exact q
theorem ok_Reader_is_done (T : Txt K mg) : Def P w K mg base 1 (He.ma K (He.ga K "Reader") "is_done") ["self"] (sp_Reader_is_done K) := by
  obtain ⟨fd, F⟩ := T.F_Reader_is_done
  exact ⟨⟨fd, fo_Reader_is_done T F, F.binds fun _ _ _ _ _ _ us hl => match us, hl with | [_], _ => rfl⟩, F.kp⟩

/-- Reader.take: slots 0 self, 1 number -/
theorem fo_Reader_take (T : Txt K mg) {fd : FuncData} (F : Fun K "take" "Reader.take" s_Reader_take (He.ma K (He.ga K "Reader") "take") fd) : FnOk P w K mg base CX0 1 (He.ma K (He.ga K "Reader") "take") fd ["self"] (sp_Reader_take K) := by
  refine F.ok sc_Reader_take (fun vs H Q E h => ?_) (fun cdv A outer s H vs Q E hr h => ?_)
  · obtain ⟨r, c, i, ns, z, rfl, ⟨dx, h1⟩, hc, hz, q⟩ := h
    rfl
  · obtain ⟨r, c, i, ns, z, rfl, ⟨dx, h1⟩, hc, hz, q⟩ := h
    refine ⟨_, (pss_cons (ps_set (i := 1) sc_Reader_take.nd rfl (Or.inl rfl) (pe_ix ix_list (pe_fld (pv 0) rfl) (pe_fld (pv 0) rfl) (fun _ _ => rfl)))
      (pss_cons (ps_fldaug (pv 0) pe_int in_add)
      (pss_one (ps_ret (pv 1))))), ?_⟩
    refine ⟨_, rfl, r, _, dx, _, _, rfl, h1, T.cl_Reader, T.n_Reader_calls, rfl, _, rfl, r, _, dx, _, _, rfl, h1, T.cl_Reader, T.n_Reader_at, rfl, c, _, _, .int z, rfl, rfl, hc, atI_nat (by rw [List.getElem?_map, hz]; rfl), ?_⟩
    refine ⟨_, rfl, r, _, dx, _, _, rfl, h1, T.cl_Reader, T.n_Reader_at, rfl, _, _, rfl, rfl, dx, _, h1, (by show 2 < 1000; decide), ?_⟩
    exact ⟨_, rfl, q _ ⟨dx, upd_same⟩ (fun b o e hb => by rw [upd_ne hb]; exact e)⟩
theorem ok_Reader_take (T : Txt K mg) : Def P w K mg base 1 (He.ma K (He.ga K "Reader") "take") ["self"] (sp_Reader_take K) := by
  obtain ⟨fd, F⟩ := T.F_Reader_take
  exact ⟨⟨fd, fo_Reader_take T F, F.binds fun _ _ _ _ _ _ us hl => match us, hl with | [_], _ => rfl⟩, F.kp⟩

/-- Reader.take_numbers: slots 0 self, 1 how_many, 2 start -/
theorem fo_Reader_take_numbers (T : Txt K mg) {fd : FuncData} (F : Fun K "take_numbers" "Reader.take_numbers" s_Reader_take_numbers (He.ma K (He.ga K "Reader") "take_numbers") fd) : FnOk P w K mg base CX0 1 (He.ma K (He.ga K "Reader") "take_numbers") fd ["self", "how_many"] (sp_Reader_take_numbers K) := by
  refine F.ok sc_Reader_take_numbers (fun vs H Q E h => ?_) (fun cdv A outer s H vs Q E hr h => ?_)
  · obtain ⟨r, c, i, k, ns, rfl, ⟨dx, h1⟩, hc, hz, q⟩ := h
    rfl
  · obtain ⟨r, c, i, k, ns, rfl, ⟨dx, h1⟩, hc, hz, q⟩ := h
    refine ⟨_, (pss_cons (ps_set (i := 2) sc_Reader_take_numbers.nd rfl (Or.inl rfl) (pe_fld (pv 0) rfl))
      (pss_cons (ps_fld (pv 0) (pe_op op_add (pv 2) (pv 1)) rfl)
      (pss_one (ps_ret (pe_slice sl_list (pe_fld (pv 0) rfl) (po_some (pv 2)) (po_some (pe_fld (pv 0) rfl))))))), ?_⟩
    refine ⟨_, rfl, r, _, dx, _, _, rfl, h1, T.cl_Reader, T.n_Reader_at, rfl, ?_⟩
    refine ⟨_, rfl, _, rfl, _, _, rfl, rfl, _, rfl, r, _, dx, _, rfl, h1, T.cl_Reader, T.n_Reader_at, (by show 2 < 1000; decide), ?_⟩
    refine ⟨_, rfl, r, _, dx, _, _, rfl, upd_same, T.cl_Reader, T.n_Reader_calls, rfl, _, rfl, _, rfl, _, rfl, r, _, dx, _, _, rfl, upd_same, T.cl_Reader, T.n_Reader_at, rfl, _, rfl, c, ns.map V.int, rfl, seq_ins hc h1, fun p hp => ?_⟩
    obtain ⟨pr, hp0⟩ := un_none hp
    refine q _ p ⟨dx, ?_⟩ (fun b o e hb => ?_) hp0 ?_
    · rw [upd_ne (Ne.symm pr), upd_same]
      rfl
    · rw [upd_ne (ne_of_none e hp0), upd_ne hb]
      exact e
    · rw [upd_same, cut_nat ns i k (by omega)]
theorem ok_Reader_take_numbers (T : Txt K mg) : Def P w K mg base 1 (He.ma K (He.ga K "Reader") "take_numbers") ["self", "how_many"] (sp_Reader_take_numbers K) := by
  obtain ⟨fd, F⟩ := T.F_Reader_take_numbers
  exact ⟨⟨fd, fo_Reader_take_numbers T F, F.binds fun _ _ _ _ _ _ us hl => match us, hl with | [_, _], _ => rfl⟩, F.kp⟩

/-- Reader.take_rows: slots 0 self, 1 how_many, 2 rows -/
theorem fo_Reader_take_rows (T : Txt K mg) (D_Reader_take : Def P w K mg base 1 (He.ma K (He.ga K "Reader") "take") ["self"] (sp_Reader_take K)) (D_Reader_take_numbers : Def P w K mg base 1 (He.ma K (He.ga K "Reader") "take_numbers") ["self", "how_many"] (sp_Reader_take_numbers K)) {fd : FuncData} (F : Fun K "take_rows" "Reader.take_rows" s_Reader_take_rows (He.ma K (He.ga K "Reader") "take_rows") fd) : FnOk P w K mg base CX0 2 (He.ma K (He.ga K "Reader") "take_rows") fd ["self", "how_many"] (sp_Reader_take_rows K) := by
  obtain ⟨fd_Reader_take, G_Reader_take, b_Reader_take⟩ := D_Reader_take.ex
  obtain ⟨fd_Reader_take_numbers, G_Reader_take_numbers, b_Reader_take_numbers⟩ := D_Reader_take_numbers.ex
  refine F.ok sc_Reader_take_rows (fun vs H Q E h => ?_) (fun cdv A outer s H vs Q E hr h => ?_)
  · obtain ⟨r, c, i, k, ns, xs, t, rfl, R, hc, hz, hk, hi, hd, q⟩ := h
    rfl
  · obtain ⟨r, c, i, k, ns, xs, t, rfl, R, hc, hz, hk, hi, hd, q⟩ := h
    refine ⟨_, (pss_cons (ps_set (i := 2) sc_Reader_take_rows.nd rfl (Or.inl rfl) (pe_lst pa_nil))
      (pss_cons (ps_while PassesOwn.never (pt_cmpR op_lt (pe_callB call_len_seq (by rfl) T.b_len (by decide +kernel) (pa_cons (pv 2) pa_nil)) (pv 1) (nomark _)) (pss_one (ps_expr (pe_bm PySem.F.plainAttrs_list PySem.F.slot_list_append PySem.F.type_list_append mt_append (pv 2) (pa_cons (pe_meth (pv 0) T.cl_Reader T.m_Reader_take_numbers G_Reader_take_numbers (hr.mono (by decide)) b_Reader_take_numbers .nil pass0 (pa_cons (pe_meth0 (pv 0) T.cl_Reader T.m_Reader_take G_Reader_take (hr.mono (by decide)) b_Reader_take .nil pass0) pa_nil)) pa_nil)))))
      (pss_one (ps_ret (pv 2))))), ?_⟩
    obtain ⟨dx, h1⟩ := R
    refine ⟨Nat.zero_le _, fun p hp => ?_⟩
    have rp : r ≠ p := ne_of_none h1 hp
    have hxk : xs.length = k := rows_len hd
    refine while_by (fun σ H' => ∃ (done rest : List (List Int)) (qs : List V) (j : Nat), xs = done ++ rest ∧ σ = [some (.ref r), some (.int (k : Int)), some (.ref p)] ∧ H' p = some (.lst qs) ∧ RowsAt H' qs done ∧ RAt K H' r c j ∧ j ≤ ns.length ∧
        PyFlat.rows rest.length (ns.drop j) = some (rest, t) ∧ (∀ b o, H b = some o → b ≠ r → H' b = some o) ∧ V.ref p ∉ qs)
      (fun σ H' => match H' p with | some (.lst qs) => k - qs.length | _ => 0) ⟨[], xs, [], i, rfl, rfl, upd_same, .nil, ⟨dx, ?_⟩, hi, ?_, fun b o e _ => same_new hp b o e, List.not_mem_nil⟩ (fun σ H' z => ?_) ?_
    · rw [upd_ne rp]
      exact h1
    · rw [hxk]
      exact hd
    · obtain ⟨done, rest, qs, j, ex, rfl, hp', hR, ⟨dx', hr'⟩, hj, hd', fr, hn⟩ := z
      have hc' : SqL K H' c (ns.map V.int) := seq_fr hc h1 fr
      refine ⟨_, rfl, p, _, rfl, .inl (SqL.of hp'), _, rfl, _, _, rfl, rfl, _, rfl, ?_⟩
      have ql : qs.length = done.length := hR.len
      have xl : xs.length = done.length + rest.length := by rw [ex, List.length_append]
      refine if_d (fun e => ?_) (fun e => ?_)
      · cases rest with
        | nil => rw [List.length_nil] at xl; omega
        | cons x rest =>
          obtain ⟨x', rest', s', e1, e2, e3⟩ := rows_inv hd'
          injection e1 with e4 e5
          subst e4 e5
          obtain ⟨e6, e7⟩ := drop_here e2
          have lj : ns.length - j = 1 + x.length + s'.length := by
            rw [← List.length_drop, e2, List.length_cons, List.length_append]
            omega
          refine ⟨_, rfl, .inl ⟨rfl, _, SqL.of hp'⟩, _, rfl, r, dx', _, rfl, hr', rfl, _, rfl, r, dx', _, rfl, hr', rfl, r, c, j, ns, _, rfl, ⟨dx', hr'⟩, hc', e6, fun H1 R1 f1 => ?_⟩
          have hc1 : SqL K H1 c (ns.map V.int) := seq_fr hc' hr' f1
          obtain ⟨dx1, g1⟩ := R1
          refine ⟨r, c, j + 1, x.length, ns, rfl, ⟨dx1, g1⟩, hc1, hz, fun H2 p2 R2 f2 n2 g2 => ?_⟩
          have p1 : H1 p = some (.lst qs) := f1 _ _ hp' (Ne.symm rp)
          have p2' : H2 p = some (.lst qs) := f2 _ _ p1 (Ne.symm rp)
          have pp2 : p ≠ p2 := ne_of_none p1 n2
          have ltk : qs.length < sizeLine := Nat.lt_of_lt_of_le (Nat.lt_of_le_of_lt (by omega : qs.length ≤ 1000) (by decide : 1000 < sizeLine)) (Nat.le_refl _)
          refine ⟨p, qs, .ref p2, rfl, rfl, p2', ltk, ⟨done ++ [x], rest, qs ++ [.ref p2], j + 1 + x.length, ?_, rfl, upd_same, ?_, ?_, by omega, ?_, ?_, ?_⟩, ?_⟩
          · rw [ex, List.append_assoc]
            rfl
          · refine RowsAt.snoc (RowsAt.mono hR fun q o m h => ?_) ?_
            · have qp : q ≠ p := fun z => hn (by rw [← z]; exact m)
              have qr : q ≠ r := ne_of h hr' (fun z => by cases z)
              rw [upd_ne qp]
              exact f2 _ _ (f1 _ _ h qr) qr
            · rw [upd_ne (Ne.symm pp2), g2, e7, List.take_append_of_le_length (Nat.le_refl _), List.take_length]
          · obtain ⟨dx2, g3⟩ := R2
            exact ⟨dx2, by rw [upd_ne rp]; exact g3⟩
          · rw [← List.drop_drop, e7, List.drop_append_of_le_length (Nat.le_refl _), List.drop_length]
            exact e3
          · intro b o eb nb
            rw [upd_ne (ne_of_none eb hp)]
            exact f2 _ _ (f1 _ _ (fr _ _ eb nb) nb) nb
          · intro z
            rcases List.mem_append.mp z with z | z
            · exact hn z
            · have := List.mem_singleton.mp z
              injection this with this
              exact pp2 this
          · simp only [upd_same, hp', List.length_append, List.length_singleton]
            omega
      · have er : rest.length = 0 := by omega
        have er' : rest = [] := List.eq_nil_of_length_eq_zero er
        subst er'
        obtain ⟨_, et⟩ := rows_zero hd'
        rw [List.append_nil] at ex
        subst ex
        refine ⟨_, rfl, q _ p qs ⟨dx', ?_⟩ fr hp hp' hR⟩
        rw [et, List.length_drop, show ns.length - (ns.length - j) = j by omega]
        exact hr'
    · rintro σ H' Q1 Q2 hh ⟨v, e1, p', ys, e2, e3, v2, e4, i', j', e5, e6, k', e7, q'⟩
      exact ⟨v, e1, p', ys, e2, e3, v2, e4, i', j', e5, e6, k', e7, hh _ _ q'⟩
theorem ok_Reader_take_rows (T : Txt K mg) (D_Reader_take : Def P w K mg base 1 (He.ma K (He.ga K "Reader") "take") ["self"] (sp_Reader_take K)) (D_Reader_take_numbers : Def P w K mg base 1 (He.ma K (He.ga K "Reader") "take_numbers") ["self", "how_many"] (sp_Reader_take_numbers K)) : Def P w K mg base 2 (He.ma K (He.ga K "Reader") "take_rows") ["self", "how_many"] (sp_Reader_take_rows K) := by
  obtain ⟨fd, F⟩ := T.F_Reader_take_rows
  exact ⟨⟨fd, fo_Reader_take_rows T D_Reader_take D_Reader_take_numbers F, F.binds fun _ _ _ _ _ _ us hl => match us, hl with | [_, _], _ => rfl⟩, F.kp⟩

end
end Ww
namespace Ww
open PySem PySem.Spec PyProof.Rows L2
section
variable {P : Program} {w : World} {K : PySem.W.Frag} {mg : Str → Option Value} {base : Heap}
/-- answers: slots 0 calls, 1 walker, 2 reader, 3 answered, 4 call, 5 numbers, 6 rows, 7 answer -/
theorem fo_answers (T : Txt K mg) (D_Reader_init : Def P w K mg base 1 (He.ma K (He.ga K "Reader") "__init__") ["self", "calls"] (sp_Reader_init K)) (D_Reader_is_done : Def P w K mg base 1 (He.ma K (He.ga K "Reader") "is_done") ["self"] (sp_Reader_is_done K)) (D_Reader_take : Def P w K mg base 1 (He.ma K (He.ga K "Reader") "take") ["self"] (sp_Reader_take K)) (D_Reader_take_numbers : Def P w K mg base 1 (He.ma K (He.ga K "Reader") "take_numbers") ["self", "how_many"] (sp_Reader_take_numbers K)) (D_Reader_take_rows : Def P w K mg base 2 (He.ma K (He.ga K "Reader") "take_rows") ["self", "how_many"] (sp_Reader_take_rows K)) (D_Walker_init : Def P w K mg base 1 (He.ma K (He.ga K "Walker") "__init__") ["self"] (sp_Walker_init K)) (D_answer_call : Def P w K mg base 7 (He.ga K "answer_call") ["walker", "call", "numbers", "rows"] (sp_answer_call K)) {fd : FuncData} (F : Fun K "answers" "answers" s_answers (He.ga K "answers") fd) : FnOk P w K mg base CX0 8 (He.ga K "answers") fd ["calls"] (sp_answers K) := by
  obtain ⟨fd_Reader_init, G_Reader_init, b_Reader_init⟩ := D_Reader_init.ex
  obtain ⟨fd_Reader_is_done, G_Reader_is_done, b_Reader_is_done⟩ := D_Reader_is_done.ex
  obtain ⟨fd_Reader_take, G_Reader_take, b_Reader_take⟩ := D_Reader_take.ex
  obtain ⟨fd_Reader_take_numbers, G_Reader_take_numbers, b_Reader_take_numbers⟩ := D_Reader_take_numbers.ex
  obtain ⟨fd_Reader_take_rows, G_Reader_take_rows, b_Reader_take_rows⟩ := D_Reader_take_rows.ex
  obtain ⟨fd_Walker_init, G_Walker_init, b_Walker_init⟩ := D_Walker_init.ex
  obtain ⟨fd_answer_call, G_answer_call, b_answer_call⟩ := D_answer_call.ex
  refine F.ok sc_answers (fun vs H Q E h => ?_) (fun cdv A outer s H vs Q E hr h => ?_)
  · obtain ⟨c, ns, rfl, htb, hc, hz, hask, q⟩ := h
    rfl
  · obtain ⟨c, ns, rfl, htb, hc, hz, hask, q⟩ := h
    refine ⟨_, (pss_cons (ps_set (i := 1) sc_answers.nd rfl (Or.inl rfl) (pe_make0 T.mk_Walker G_Walker_init (hr.mono (by decide)) rfl T.g_Walker b_Walker_init .nil pass0))
      (pss_cons (ps_set (i := 2) sc_answers.nd rfl (Or.inl rfl) (pe_make T.mk_Reader G_Reader_init (hr.mono (by decide)) rfl T.g_Reader b_Reader_init .nil pass0 (pa_cons (pv 0) pa_nil)))
      (pss_cons (ps_set (i := 3) sc_answers.nd rfl (Or.inl rfl) (pe_lst pa_nil))
      (pss_cons (ps_while PassesOwn.never (pt_not (pt_val (pe_meth0 (pv 2) T.cl_Reader T.m_Reader_is_done G_Reader_is_done (hr.mono (by decide)) b_Reader_is_done .nil pass0))) (pss_cons (ps_set (i := 4) sc_answers.nd rfl (Or.inl rfl) (pe_meth0 (pv 2) T.cl_Reader T.m_Reader_take G_Reader_take (hr.mono (by decide)) b_Reader_take .nil pass0))
      (pss_cons (ps_set (i := 5) sc_answers.nd rfl (Or.inl rfl) (pe_meth (pv 2) T.cl_Reader T.m_Reader_take_numbers G_Reader_take_numbers (hr.mono (by decide)) b_Reader_take_numbers .nil pass0 (pa_cons (pe_ix ix_tup (pe_ix ix_tup (pe_obj rfl T.g_SHAPES) (pv 4) (fun _ _ => rfl)) pe_int (fun _ _ => rfl)) pa_nil)))
      (pss_cons (ps_set (i := 6) sc_answers.nd rfl (Or.inl rfl) (pe_meth (pv 2) T.cl_Reader T.m_Reader_take_rows G_Reader_take_rows (hr.mono (by decide)) b_Reader_take_rows .nil pass0 (pa_cons (pe_ix ix_tup (pe_ix ix_tup (pe_obj rfl T.g_SHAPES) (pv 4) (fun _ _ => rfl)) pe_int (fun _ _ => rfl)) pa_nil)))
      (pss_cons (ps_set (i := 7) sc_answers.nd rfl (Or.inl rfl) (pe_call G_answer_call (hr.mono (by decide)) rfl T.g_answer_call D_answer_call.kp b_answer_call .nil pass0 (pa_cons (pv 1) (pa_cons (pv 4) (pa_cons (pv 5) (pa_cons (pv 6) pa_nil))))))
      (pss_cons (ps_expr (pe_bm PySem.F.plainAttrs_list PySem.F.slot_list_append PySem.F.type_list_append mt_append (pv 3) (pa_cons (pe_callB call_len_seq (by rfl) T.b_len (by decide +kernel) (pa_cons (pv 7) pa_nil)) pa_nil)))
      (pss_one (ps_expr (pe_bm PySem.F.plainAttrs_list PySem.F.slot_list_extend PySem.F.type_list_extend mt_extend (pv 3) (pa_cons (pv 7) pa_nil))))))))))
      (pss_one (ps_ret (pv 3))))))), ?_⟩
    obtain ⟨cs, hcs, hall, hans, hlen⟩ := asked_inv hask
    intro a dxa na nda nea
    refine ⟨a, dxa, rfl, upd_same, fun H1 u W1 hu f1 => ⟨rfl, ?_⟩⟩
    have s1 : Same H H1 := Same.made na nda f1
    have hu0 : H u = none := (un_none (un_none hu).2).2
    refine ⟨_, rfl, fun r dxr nr ndr ner => ?_⟩
    refine ⟨r, dxr, c, rfl, upd_same, fun H2 R2 f2 => ⟨rfl, ?_⟩⟩
    have s2 : Same H1 H2 := Same.made nr ndr f2
    refine ⟨Nat.zero_le _, fun o ho => ?_⟩
    have s02 : Same H H2 := s1.trans s2
    have hr0 : H r = none := s1.free nr
    have ho0 : H o = none := s02.free ho
    obtain ⟨dxr', g2⟩ := R2
    have W2 : WAt K H2 a u M0 := W1.same s2
    have ra : r ≠ o := ne_of_none g2 ho
    refine while_by (fun σ H' => ∃ (st : Mu44.Abs) (rest : List (List (List Int))) (out : List Int) (j f : Nat) (u : Addr) (x4 x5 x6 x7 : Option V), σ = [some (.ref c), some (.ref a), some (.ref r), some (.ref o), x4, x5, x6, x7] ∧
        SameT H H' ∧ TB K H' ∧ NT H u ∧ u ≠ o ∧ WAt K H' a u (mOf st) ∧ Wf st ∧ RAt K H' r c j ∧ j ≤ ns.length ∧ PyFlat.calls PyMu44.shape f (ns.drop j) = some rest ∧ (∀ c ∈ rest, Mu44Neutral.asked1 c = true) ∧
        H' o = some (.lst (out.map V.int)) ∧ PyMu44.answers ns = out ++ PyFlat.told (PyFlat.played Mu44Neutral.step st rest))
      (fun _ H' => rdLeft ns.length r H') ⟨none, cs, [], 0, ns.length, u, none, none, none, none, rfl, fun b' o' e' _ => same_upd s02 ho0 b' o' e', htb.same (same_upd s02 ho0), NT.free hu0, ?_, ?_, trivial, ⟨dxr', ?_⟩, Nat.zero_le _, hcs, hall, upd_same, hans⟩ (fun σ H' z => ?_) ?_
    · exact ne_of_none W2.2 ho
    · exact WAt.at_ W2 (ne_of_none W2.1.choose_spec ho) (ne_of_none W2.2 ho)
    · rw [upd_ne ra]
      exact g2
    · obtain ⟨st, rest, out, j, f, u, x4, x5, x6, x7, rfl, s3, htb3, hu3, uo, W3, wf, ⟨dx3, g3⟩, hj, hd, hall3, o3, eq3⟩ := z
      have hc3 : SqL K H' c (ns.map V.int) := s3.seq hc
      have nar := W3.ne_rd g3
      have or' : o ≠ r := Ne.symm ra
      have oa : a ≠ o := ne_of W3.1.choose_spec o3 (fun z => by cases z)
      refine ⟨_, rfl, r, dx3, _, rfl, g3, rfl, r, c, j, ns, rfl, ⟨dx3, g3⟩, hc3, _, rfl, ?_⟩
      refine if_b (fun e => ?_) (fun e => ?_)
      · have lt : j < ns.length := by simpa using e
        obtain ⟨p, l, epl⟩ : ∃ p l, ns.drop j = p :: l := by
          cases e : ns.drop j with
          | nil =>
            have := congrArg List.length e
            rw [List.length_drop, List.length_nil] at this
            omega
          | cons p l => exact ⟨p, l, rfl⟩
        rw [epl] at hd
        obtain ⟨f', c1, t, rest', hc1, hd', rfl⟩ := calls_inv hd
        obtain ⟨n, k, xs, hsh, hn, hrows, rfl⟩ := call_inv hc1
        obtain ⟨hp, hl⟩ := drop_here epl
        have ll : ns.length - j = 1 + l.length := by rw [← List.length_drop, epl, List.length_cons]; omega
        have hask1 := hall3 _ (List.mem_cons_self ..)
        rw [played_cons, told_cons] at eq3
        obtain ⟨i, sa, sx, rfl, q1, q2, q3⟩ := shapes_at T.q_SHAPES hsh H'
        refine ⟨_, rfl, r, dx3, _, rfl, g3, rfl, r, c, j, ns, _, rfl, ⟨dx3, g3⟩, hc3, hp, fun H4 R4 f4 => ?_⟩
        obtain ⟨i4, sa4, sx4, e4, r1, r2, r3⟩ := shapes_at T.q_SHAPES hsh H4
        have e4' : i4 = i := by omega
        subst e4'
        have s4 : SameT H H4 := fun b o' e n' => f4 _ _ (s3 _ _ e n') (ne_of_none e hr0)
        have htb4 : TB K H4 := htb3.at_ g3 (fun ps z => by cases z) (fun c q z => by unfold LamX.CodeO at z; cases z) f4
        obtain ⟨dx4, g4⟩ := R4
        have hkk : n ≤ 3 ∧ k ≤ 2 := shape_le hsh
        refine ⟨_, rfl, r, dx4, _, rfl, g4, rfl, _, rfl, _, sx4, _, _, rfl, rfl, r1, atI_nat r2, sa4, _, _, _, rfl, rfl, r3, rfl, r, c, j + 1, n, ns, rfl, ⟨dx4, g4⟩, s4.seq hc, by omega, fun H5 p5 R5 f5 n5 g5 => ?_⟩
        obtain ⟨dx5, g5r⟩ := R5
        have s5 : SameT H H5 := fun b o' e n' => f5 _ _ (s4 _ _ e n') (ne_of_none e hr0)
        have htb5 : TB K H5 := htb4.at_ g4 (fun ps z => by cases z) (fun c q z => by unfold LamX.CodeO at z; cases z) f5
        obtain ⟨i5, sa5, sx5, e5, r4, r5, r6⟩ := shapes_at T.q_SHAPES hsh H5
        have e5' : i5 = i4 := by omega
        subst e5'
        have hrows' : PyFlat.rows k (ns.drop (j + 1 + n)) = some (xs, t) := by
          rw [← List.drop_drop, hl]
          exact hrows
        refine ⟨_, rfl, r, dx5, _, rfl, g5r, rfl, _, rfl, _, sx5, _, _, rfl, rfl, r4, atI_nat r5, sa5, _, _, _, rfl, rfl, r6, rfl, r, c, j + 1 + n, k, ns, xs, t, rfl, ⟨dx5, g5r⟩, s5.seq hc, by omega, by omega, by omega, hrows', fun H6 p6 qs R6 f6 n6 g6 rw6 => ?_⟩
        obtain ⟨dx6, g6r⟩ := R6
        have W4 : WAt K H4 a u (mOf st) := W3.fr nar f4
        have W5 : WAt K H5 a u (mOf st) := W4.fr nar f5
        have W6 : WAt K H6 a u (mOf st) := W5.fr nar f6
        have s6 : SameT H H6 := fun b o' e n' => f6 _ _ (s5 _ _ e n') (ne_of_none e hr0)
        have htb6 : TB K H6 := htb5.at_ g5r (fun ps z => by cases z) (fun c q z => by unfold LamX.CodeO at z; cases z) f6
        have g5' : H6 p5 = some (.lst ((l.take n).map V.int)) := by
          rw [hl] at g5
          exact f6 _ _ g5 (ne_of g5 g5r (fun z => by cases z))
        have o6 : H6 o = some (.lst (out.map V.int)) := f6 _ _ (f5 _ _ (f4 _ _ o3 or') or') or'
        refine ⟨_, rfl, _, rfl, _, rfl, _, rfl, a, u, p5, p6, st, _, l.take n, qs, xs, rfl, htb6, W6, wf, g5', g6, rw6, hask1, fun H7 p7 u7 W7 hu7 n7 pu7 g7 f7 => ?_⟩
        have o7 : H7 o = some (.lst (out.map V.int)) := f7.1 _ _ o6 (Ne.symm oa) (Ne.symm uo) (fun ps z => by cases z)
        have op7 : o ≠ p7 := ne_of_none o6 n7
        have g7r : H7 r = _ := f7.1 _ _ g6r (Ne.symm nar.1) (Ne.symm nar.2) (fun ps z => by cases z)
        have s7 : SameT H H7 := fun b o' e n' => f7.1 _ _ (s6 _ _ e n') (ne_of_none e na) (fun z => by
            obtain ⟨ps, ez⟩ := hu3 o' (by rw [← z]; exact e)
            exact n' ps ez) n'
        have htb7 : TB K H7 := f7.2 htb6
        have hsz : out.length + (1 + (Mu44Neutral.step st (((i5 : Int) :: l.take n) :: xs)).2.length) ≤ 10000000 := by
          have := hlen
          rw [eq3, List.length_append, List.length_cons, List.length_append] at this
          omega
        have b24 : (10000000 : Nat) < sizeLine := by decide
        refine ⟨_, rfl, .inl ⟨rfl, _, SqL.of o7⟩, _, rfl, p7, _, rfl, .inl (SqL.of g7), o, _, _, rfl, rfl, o7, ?_, ?_⟩
        · rw [List.length_map]
          omega
        refine ⟨_, rfl, .inl ⟨rfl, _, SqL.of upd_same⟩, _, rfl, o, p7, _, _, rfl, rfl, upd_same, (by rw [upd_ne (Ne.symm op7)]; exact g7), ?_, ?_⟩
        · rw [List.length_append, List.length_map, List.length_map, List.length_singleton]
          omega
        have u7o : u7 ≠ o := by
          rcases hu7 with z | z
          · rw [z]; exact uo
          · exact Ne.symm (ne_of_none o6 z)
        have a7o : a ≠ o := oa
        rw [upd_upd]
        refine ⟨⟨(Mu44Neutral.step st (((i5 : Int) :: l.take n) :: xs)).1, rest', out ++ ((Mu44Neutral.step st (((i5 : Int) :: l.take n) :: xs)).2.length : Int) :: (Mu44Neutral.step st (((i5 : Int) :: l.take n) :: xs)).2, ns.length - t.length, f', u7, _, _, _, _, rfl, ?_, htb7.at_ o7 (fun ps z => by cases z) (fun c q z => by unfold LamX.CodeO at z; cases z) (fun b' o' e' n' => by rw [upd_ne n']; exact e'), ?_, u7o, WAt.at_ W7 a7o u7o, nstep_wf _ _ wf, ⟨dx6, ?_⟩, Nat.sub_le _ _, ?_, fun c' hc' => hall3 _ (List.mem_cons_of_mem _ hc'), ?_, ?_⟩, ?_⟩
        · exact fun b' o' e' n' => by rw [upd_ne (ne_of_none e' ho0)]; exact s7 _ _ e' n'
        · rcases hu7 with z | z
          · rw [z]; exact hu3
          · exact NT.of s6 z
        · rw [upd_ne ra]
          exact g7r
        · have := rows_drop hrows' (by omega)
          rw [this]
          exact hd'
        · rw [upd_same, List.length_map, List.map_append, List.map_cons, List.append_assoc]
          rfl
        · rw [eq3, List.append_assoc]
          rfl
        · rw [rdLeft_eq g3, rdLeft_eq (show (upd H7 o _) r = _ by rw [upd_ne ra]; exact g7r)]
          have := rows_short hrows'
          rw [List.length_drop] at this
          omega
      · have ge : ns.length ≤ j := by simpa using e
        rw [List.drop_of_length_le ge] at hd
        have := calls_nil hd
        subst this
        refine ⟨_, rfl, q H' o ?_⟩
        rw [eq3, o3]
        show _ = some (HO.lst ((out ++ []).map V.int))
        rw [List.append_nil]
    · rintro σ H' Q1 Q2 hh ⟨v, e1, a', dx', fs', e2, e3, e4, r', c', j', ns', e5, e6, e7, b', e8, q'⟩
      exact ⟨v, e1, a', dx', fs', e2, e3, e4, r', c', j', ns', e5, e6, e7, b', e8, hh _ _ q'⟩
theorem ok_answers (T : Txt K mg) (D_Reader_init : Def P w K mg base 1 (He.ma K (He.ga K "Reader") "__init__") ["self", "calls"] (sp_Reader_init K)) (D_Reader_is_done : Def P w K mg base 1 (He.ma K (He.ga K "Reader") "is_done") ["self"] (sp_Reader_is_done K)) (D_Reader_take : Def P w K mg base 1 (He.ma K (He.ga K "Reader") "take") ["self"] (sp_Reader_take K)) (D_Reader_take_numbers : Def P w K mg base 1 (He.ma K (He.ga K "Reader") "take_numbers") ["self", "how_many"] (sp_Reader_take_numbers K)) (D_Reader_take_rows : Def P w K mg base 2 (He.ma K (He.ga K "Reader") "take_rows") ["self", "how_many"] (sp_Reader_take_rows K)) (D_Walker_init : Def P w K mg base 1 (He.ma K (He.ga K "Walker") "__init__") ["self"] (sp_Walker_init K)) (D_answer_call : Def P w K mg base 7 (He.ga K "answer_call") ["walker", "call", "numbers", "rows"] (sp_answer_call K)) : Def P w K mg base 8 (He.ga K "answers") ["calls"] (sp_answers K) := by
  obtain ⟨fd, F⟩ := T.F_answers
  exact ⟨⟨fd, fo_answers T D_Reader_init D_Reader_is_done D_Reader_take D_Reader_take_numbers D_Reader_take_rows D_Walker_init D_answer_call F, F.binds fun _ _ _ _ _ _ us hl => match us, hl with | [_], _ => rfl⟩, F.kp⟩

end
end Ww
namespace Ww
open PySem PySem.Spec PyProof.Rows L2
section
variable {P : Program} {w : World} {K : PySem.W.Frag} {mg : Str → Option Value} {base : Heap}
/-- least_needed: slots 0 places, 1 here, 2 route, 3 weather, 4 needed, 5 umbrellas, 6 place, 7 rains -/
theorem fo_least_needed (T : Txt K mg) (D_after_way : Def P w K mg base 1 (He.ga K "after_way") ["umbrellas", "here", "place", "rains", "carried"] (sp_after_way K)) (D_gets_wet : Def P w K mg base 1 (He.ga K "gets_wet") ["umbrellas", "here", "rains"] (sp_gets_wet K)) {fd : FuncData} (F : Fun K "least_needed" "least_needed" s_least_needed (He.ga K "least_needed") fd) : FnOk P w K mg base CX0 2 (He.ga K "least_needed") fd ["places", "here", "route", "weather"] (sp_least_needed K) := by
  obtain ⟨fd_after_way, G_after_way, b_after_way⟩ := D_after_way.ex
  obtain ⟨fd_gets_wet, G_gets_wet, b_gets_wet⟩ := D_gets_wet.ex
  refine F.ok sc_least_needed (fun vs H Q E h => ?_) (fun cdv A outer s H vs Q E hr h => ?_)
  · obtain ⟨b, c, r, v, n, h, rfl, hr', hw, hh, hz, ht, hlen, hz2, q⟩ := h
    rfl
  · obtain ⟨b, c, r, v, n, h, rfl, hr', hw, hh, hz, ht, hlen, hz2, q⟩ := h
    refine ⟨_, (pss_cons (ps_set (i := 4) sc_least_needed.nd rfl (Or.inl rfl) (pe_op op_rep (pe_lst (pa_cons pe_int pa_nil)) (pv 0)))
      (pss_cons (ps_set (i := 5) sc_least_needed.nd rfl (Or.inl rfl) (pe_op op_rep (pe_lst (pa_cons pe_int pa_nil)) (pv 0)))
      (pss_cons (ps_for PassesOwn.never rfl (pi_zip (by rfl) T.b_zip (pa_cons (pv 2) (pa_cons (pv 3) pa_nil))) (pg_tup rfl (pgs_cons (pg_name (i := 6) sc_least_needed.nd rfl (Or.inl rfl)) (pgs_cons (pg_name (i := 7) sc_least_needed.nd rfl (Or.inl rfl)) pgs_nil)))
      (pss_cons (ps_if (pt_cmpR op_eq (pe_call G_gets_wet (hr.mono (by decide)) rfl T.g_gets_wet D_gets_wet.kp b_gets_wet .nil pass0 (pa_cons (pv 5) (pa_cons (pv 1) (pa_cons (pv 7) pa_nil)))) pe_int (nomark _)) (pss_cons (ps_augS (pv 4) (pv 1) get_list pe_int ip_add set_list)
      (pss_one (ps_augS (pv 5) (pv 1) get_list pe_int ip_add set_list)))
      pss_nil)
      (pss_cons (ps_set (i := 5) sc_least_needed.nd rfl (Or.inl rfl) (pe_call G_after_way (hr.mono (by decide)) rfl T.g_after_way D_after_way.kp b_after_way .nil pass0 (pa_cons (pv 5) (pa_cons (pv 1) (pa_cons (pv 6) (pa_cons (pv 7) (pa_cons pe_int pa_nil)))))))
      (pss_one (ps_set (i := 1) sc_least_needed.nd rfl (Or.inl rfl) (pv 6))))))
      (pss_one (ps_ret (pv 4)))))), ?_⟩
    refine ⟨by show 1 ≤ sizeLine; decide, fun a0 ha0 => ?_⟩
    refine ⟨_, rfl, a0, _, _, rfl, rfl, upd_same, by omega, by omega, (by show 1 * n ≤ sizeLine; exact Nat.le_trans (by omega) (show 1000 ≤ sizeLine by decide)), fun p hp' => ?_⟩
    obtain ⟨pa0, hp⟩ := un_none hp'
    refine ⟨by show 1 ≤ sizeLine; decide, fun a1 ha1' => ?_⟩
    obtain ⟨a1p, ha1''⟩ := un_none ha1'
    obtain ⟨a1a0, ha1⟩ := un_none ha1''
    refine ⟨_, rfl, a1, _, _, rfl, rfl, upd_same, by omega, by omega, (by show 1 * n ≤ sizeLine; exact Nat.le_trans (by omega) (show 1000 ≤ sizeLine by decide)), fun u hu1 => ?_⟩
    obtain ⟨ua1, hu2⟩ := un_none hu1
    obtain ⟨up, hu3⟩ := un_none hu2
    obtain ⟨ua0, hu⟩ := un_none hu3
    rw [show ((n : Int)).toNat = n from rfl, rep_nl]
    have s0 : Same H (upd (upd (upd (upd H a0 (.lst [V.int 0])) p (.lst (nl (List.replicate n 0)))) a1 (.lst [V.int 0])) u (.lst (nl (List.replicate n 0)))) := same_upd (same_upd (same_upd (same_new ha0) hp) ha1) hu
    refine ⟨_, rfl, _, rfl, b, c, nl r, nl v, rfl, s0.seq hr', s0.seq hw, ?_⟩
    refine RZ.for_zipL (K := K) (a := b) (b := c) (xs := nl r) (ys := nl v) (by rw [nl_len, nl_len, hlen])
      (fun i σ H' => ∃ (u' : Addr) (d e : List Nat) (hi : Nat) (x6 x7 : Option V), σ = [some (.int (n : Int)), some (.int (hi : Int)), some (.ref b), some (.ref c), some (.ref p), some (.ref u'), x6, x7] ∧ Same H H' ∧ H' p = some (.lst (nl d)) ∧ H' u' = some (.lst (nl e)) ∧ p ≠ u' ∧ H u' = none ∧
        d.length = n ∧ e.length = n ∧ hi < n ∧ lsim d e hi (ways (r.drop i) (v.drop i)) = Mu44.least n h (ways r v))
      ⟨u, _, _, h, none, none, rfl, s0, (by rw [upd_ne (Ne.symm up), upd_ne (Ne.symm a1p)]; exact upd_same), upd_same, Ne.symm up, hu, List.length_replicate .., List.length_replicate .., hh, lsim_least hh _ (ways_ok ht)⟩ (fun i σ H' z => ?_) (fun i x y T0 σ H' hx hy z hT => ?_) (fun σ H' z => ?_)
    · obtain ⟨u', d, e, hi, x6, x7, rfl, s1, _⟩ := z
      exact ⟨s1.seq hr', s1.seq hw⟩
    · obtain ⟨u', d, e, hi, x6, x7, rfl, s1, h1, h2, pu, hu0, hd, he, hhi, hl⟩ := z
      obtain ⟨t, ht', rfl⟩ := at_nl hx
      obtain ⟨x, hx', rfl⟩ := at_nl hy
      have htn : t < n := ht t (List.mem_of_getElem? ht')
      rw [ways_cons ht' hx'] at hl
      have hTp : p ≠ T0 := ne_of_none h1 hT
      have hTu : u' ≠ T0 := ne_of_none h2 hT
      have hTH : H T0 = none := s1.free hT
      have s2 : Same H (upd H' T0 (.tup [.int (t : Int), .int (x : Int)])) := same_upd s1 hTH
      have h1' : upd H' T0 (.tup [.int (t : Int), .int (x : Int)]) p = some (.lst (nl d)) := by rw [upd_ne hTp]; exact h1
      have h2' : upd H' T0 (.tup [.int (t : Int), .int (x : Int)]) u' = some (.lst (nl e)) := by rw [upd_ne hTu]; exact h2
      refine ⟨T0, _, rfl, SqT.of upd_same, rfl, _, _, rfl, _, _, rfl, rfl, ?_⟩
      refine ⟨_, rfl, _, rfl, _, rfl, u', e, hi, x, rfl, SqL.of h2', by omega, rfl, _, rfl, ?_⟩
      rw [dec_b2n]
      have mr : (mk t x 0).rain = decide (x = 1) := by
        by_cases e : x = 1
        · rw [e]; rfl
        · rw [decide_eq_false e]; exact beq_false_of_ne e
      refine if_b (fun ez => ?_) (fun ez => ?_)
      · rw [Bool.and_eq_true] at ez
        have e1 := of_decide_eq_true ez.1
        have e2 := of_decide_eq_true ez.2
        unfold lsim at hl
        rw [if_pos ⟨by rw [mr]; exact ez.1, e2⟩] at hl
        refine ⟨_, rfl, _, rfl, p, nl d, hi, _, rfl, rfl, SqL.of h1', nl_getD (by omega), _, _, rfl, rfl, p, nl d, _, hi, rfl, rfl, h1', (by rw [nl_len]; exact ix_of (by omega)), ?_⟩
        rw [nl_set (n := d.getD hi 0 + 1) (by dsimp only; omega)]
        have h3 : upd (upd H' T0 (.tup [.int (t : Int), .int (x : Int)])) p (.lst (nl (d.set hi (d.getD hi 0 + 1)))) u' = some (.lst (nl e)) := by rw [upd_ne (Ne.symm pu)]; exact h2'
        refine ⟨_, rfl, _, rfl, u', nl e, hi, _, rfl, rfl, SqL.of h3, nl_getD (by omega), _, _, rfl, rfl, u', nl e, _, hi, rfl, rfl, h3, (by rw [nl_len]; exact ix_of (by omega)), ?_⟩
        rw [nl_set (n := e.getD hi 0 + 1) (by dsimp only; omega)]
        refine ⟨_, rfl, _, rfl, _, rfl, _, rfl, u', e.set hi (e.getD hi 0 + 1), hi, t, x, 0, rfl, SqL.of upd_same, (by rw [List.length_set]; omega), (by rw [List.length_set]; omega), (by rw [List.length_set]; omega), fun H3 p2 s3 n3 e3 => ?_⟩
        obtain ⟨n4, n3⟩ := un_none n3
        obtain ⟨n5, n3⟩ := un_none n3
        obtain ⟨n6, n3⟩ := un_none n3
        refine ⟨_, rfl, p2, d.set hi (d.getD hi 0 + 1), _, t, some (V.int (t : Int)), some (V.int (x : Int)), rfl, fun b' o' e' => s3 b' o' ?_, s3 p _ (by rw [upd_ne pu]; exact upd_same), e3, Ne.symm n5, s1.free n3, (by rw [List.length_set]; exact hd), (by rw [goes_len]; show (e.set _ _).length = n; rw [List.length_set]; exact he), htn, hl⟩
        rw [upd_ne (ne_of_none e' hu0), upd_ne (ne_of_none e' hp)]
        exact s2 b' o' e'
      · unfold lsim at hl
        rw [if_neg (fun z => by rw [mr] at z; rw [z.1, decide_eq_true z.2] at ez; cases ez)] at hl
        refine ⟨_, rfl, _, rfl, _, rfl, _, rfl, u', e, hi, t, x, 0, rfl, SqL.of h2', by omega, by omega, by omega, fun H3 p2 s3 n3 e3 => ?_⟩
        obtain ⟨n6, n3⟩ := un_none n3
        refine ⟨_, rfl, p2, d, _, t, some (V.int (t : Int)), some (V.int (x : Int)), rfl, fun b' o' e' => s3 b' o' (s2 b' o' e'), s3 p _ h1', e3, fun z => ?_, s1.free n3, hd, (by rw [goes_len]; exact he), htn, hl⟩
        rw [← z, h1] at n3
        cases n3
    · obtain ⟨u', d, e, hi, x6, x7, rfl, s1, h1, h2, pu, hu0, hd, he, hhi, hl⟩ := z
      rw [nl_len, List.drop_length, List.drop_of_length_le (by omega)] at hl
      have hl : d = _ := hl
      rw [hl] at h1
      exact ⟨_, rfl, q _ p s1 hp h1⟩
theorem ok_least_needed (T : Txt K mg) (D_after_way : Def P w K mg base 1 (He.ga K "after_way") ["umbrellas", "here", "place", "rains", "carried"] (sp_after_way K)) (D_gets_wet : Def P w K mg base 1 (He.ga K "gets_wet") ["umbrellas", "here", "rains"] (sp_gets_wet K)) : Def P w K mg base 2 (He.ga K "least_needed") ["places", "here", "route", "weather"] (sp_least_needed K) := by
  obtain ⟨fd, F⟩ := T.F_least_needed
  exact ⟨⟨fd, fo_least_needed T D_after_way D_gets_wet F, F.binds fun _ _ _ _ _ _ us hl => match us, hl with | [_, _, _, _], _ => rfl⟩, F.kp⟩

/-- lowest_terms: slots 0 divided, 1 by, 2 common, 3 rest, 4 smaller -/
theorem fo_lowest_terms (T : Txt K mg) {fd : FuncData} (F : Fun K "lowest_terms" "lowest_terms" s_lowest_terms (He.ga K "lowest_terms") fd) : FnOk P w K mg base CX0 1 (He.ga K "lowest_terms") fd ["divided", "by"] (sp_lowest_terms K) := by
  refine F.ok sc_lowest_terms (fun vs H Q E h => ?_) (fun cdv A outer s H vs Q E hr h => ?_)
  · obtain ⟨d, b, rfl, hb, hb2, q⟩ := h
    rfl
  · obtain ⟨d, b, rfl, hb, hb2, q⟩ := h
    refine ⟨_, (pss_cons (ps_set (i := 2) sc_lowest_terms.nd rfl (Or.inl rfl) (pv 1))
      (pss_cons (ps_set (i := 3) sc_lowest_terms.nd rfl (Or.inl rfl) (pv 0))
      (pss_cons (ps_while PassesOwn.never (pt_cmpR op_gt (pv 3) pe_int (nomark _)) (pss_cons (ps_set (i := 4) sc_lowest_terms.nd rfl (Or.inl rfl) (pe_op op_mod (pv 2) (pv 3)))
      (pss_cons (ps_set (i := 2) sc_lowest_terms.nd rfl (Or.inl rfl) (pv 3))
      (pss_one (ps_set (i := 3) sc_lowest_terms.nd rfl (Or.inl rfl) (pv 4))))))
      (pss_one (ps_ret (pe_lst (pa_cons (pe_op op_fdiv (pv 0) (pv 2)) (pa_cons (pe_op op_fdiv (pv 1) (pv 2)) pa_nil)))))))), ?_⟩
    refine ⟨_, rfl, _, rfl, ?_⟩
    refine while_by (fun σ H' => ∃ (cm rs : Nat) (x4 : Option V), σ = [some (.int (d : Int)), some (.int (b : Int)), some (.int (cm : Int)), some (.int (rs : Int)), x4] ∧ H' = H ∧ Nat.gcd cm rs = Nat.gcd d b ∧ 0 < cm)
      (fun σ _ => match σ with | [_, _, _, some (.int z), _] => z.toNat | _ => 0) ⟨b, d, none, rfl, rfl, Nat.gcd_comm .., hb⟩ (fun σ H' z => ?_) ?_
    · obtain ⟨cm, rs, x4, rfl, e0, hg, hc⟩ := z
      subst e0
      refine ⟨_, rfl, _, _, rfl, rfl, _, rfl, ?_⟩
      refine if_d (fun e => ?_) (fun e => ?_)
      · have e' : 0 < rs := by omega
        refine ⟨_, rfl, _, rfl, _, _, rfl, rfl, by omega, _, rfl, _, rfl, ⟨rs, cm % rs, _, rfl, rfl, ?_, e'⟩, ?_⟩
        · rw [← hg, Nat.gcd_comm cm rs, Nat.gcd_rec rs cm, Nat.gcd_comm]
        · show (((cm : Int) % (rs : Int))).toNat < ((rs : Int)).toNat
          have := Nat.mod_lt cm e'
          omega
      · have e' : rs = 0 := by omega
        subst e'
        rw [Nat.gcd_zero_right] at hg
        have hle : cm ≤ b := by rw [hg]; exact Nat.gcd_le_right d hb
        refine ⟨_, rfl, _, rfl, _, _, rfl, rfl, ⟨by omega, by omega⟩, _, rfl, _, rfl, _, _, rfl, rfl, ⟨by omega, by omega⟩, by show 2 ≤ sizeLine; decide, fun p hp => ?_⟩
        refine q _ p (same_new hp) hp ?_
        rw [upd_same, ← hg]
        rfl
    · rintro σ H' Q1 Q2 hh ⟨v, e1, i', j', e5, e6, k', e7, q'⟩
      exact ⟨v, e1, i', j', e5, e6, k', e7, hh _ _ q'⟩
theorem ok_lowest_terms (T : Txt K mg) : Def P w K mg base 1 (He.ga K "lowest_terms") ["divided", "by"] (sp_lowest_terms K) := by
  obtain ⟨fd, F⟩ := T.F_lowest_terms
  exact ⟨⟨fd, fo_lowest_terms T F, F.binds fun _ _ _ _ _ _ us hl => match us, hl with | [_, _], _ => rfl⟩, F.kp⟩

end
end Ww
namespace Ww
open PySem PySem.Spec PyProof.Rows L2
section
variable {P : Program} {w : World} {K : PySem.W.Frag} {mg : Str → Option Value} {base : Heap}
/-- all_put: slots 0 n, 1 places, 2 started, 3 longer, 4 first, 5 left, 6 kept -/
theorem fo_all_put (T : Txt K mg) {fd : FuncData} (F : Fun K "all_put" "all_put" s_all_put (He.ga K "all_put") fd) : FnOk P w K mg base CX0 1 (He.ga K "all_put") fd ["n", "places"] (sp_all_put K) := by
  refine F.ok sc_all_put (fun vs H Q E h => ?_) (fun cdv A outer s H vs Q E hr h => ?_)
  · obtain ⟨n, k, rfl, hn, hk, q⟩ := h
    rfl
  · obtain ⟨n, k, rfl, hn, hk, q⟩ := h
    refine ⟨_, (pss_cons (ps_set (i := 2) sc_all_put.nd rfl (Or.inl rfl) (pe_lst (pa_cons (pe_lst pa_nil) pa_nil)))
      (pss_cons (ps_while PassesOwn.never (pt_cmpR op_lt (pe_callB call_len_seq (by rfl) T.b_len (by decide +kernel) (pa_cons (pe_ix ix_list (pv 2) pe_int (fun _ _ => rfl)) pa_nil)) (pe_op op_sub (pv 1) pe_int) (nomark _)) (pss_cons (ps_set (i := 3) sc_all_put.nd rfl (Or.inl rfl) (pe_lst pa_nil))
      (pss_cons (ps_for PassesOwn.never rfl (pi_list (pv 2)) (pg_name (i := 4) sc_all_put.nd rfl (Or.inr rfl))
      (pss_cons (ps_set (i := 5) sc_all_put.nd rfl (Or.inr rfl) (pe_op op_sub (pv 0) (pe_callB (id := "sum") (r := rSum K) (cr_sum rfl) (by rfl) T.b_sum (by decide +kernel) (pa_cons (pv 4) pa_nil))))
      (pss_one (ps_expr (pe_bm PySem.F.plainAttrs_list PySem.F.slot_list_extend PySem.F.type_list_extend mt_extend (pv 3) (pa_cons (pe_lc (own := [("kept", 6)]) rfl sc_all_put.nd (pi_range1 rfl T.b_range (pa_cons (pe_op op_add (pv 5) pe_int) pa_nil)) (blkOk_by (own := [("kept", 6)]) (N := ["n", "places", "started", "longer", "first", "left", "kept"]) (sc := defScope s_all_put) (by decide +kernel)) (fun _ _ _ _ _ => (pg_name (i := 6) sc_all_put.nd rfl (Or.inl rfl))) (fun _ _ _ _ _ => pts_nil) (fun _ _ _ _ _ => (pe_op op_cat (pv 4) (pe_lst (pa_cons (pe_op op_sub (pv 5) (pv 6)) pa_nil))))) pa_nil))))))
      (pss_one (ps_set (i := 2) sc_all_put.nd rfl (Or.inl rfl) (pv 3))))))
      (pss_one (ps_ret (pe_lc (own := [("first", 4)]) rfl sc_all_put.nd (pi_list (pv 2)) (blkOk_by (own := [("first", 4)]) (N := ["n", "places", "started", "longer", "first", "left", "kept"]) (sc := defScope s_all_put) (by decide +kernel)) (fun _ _ _ _ _ => (pg_name (i := 4) sc_all_put.nd rfl (Or.inl rfl))) (fun _ _ _ _ _ => pts_nil) (fun _ _ _ _ _ => (pe_op op_cat (pv 4) (pe_lst (pa_cons (pe_op op_sub (pv 0) (pe_callB (id := "sum") (r := rSum K) (cr_sum rfl) (by rfl) T.b_sum (by decide +kernel) (pa_cons (pv 4) pa_nil))) pa_nil))))))))), ?_⟩
    have big : ∀ i, i ≤ 3 → (pre n i).length ≤ 343 := fun i hi => by
      have h1 := pre_len n i
      have h2 : (n + 1) ^ i ≤ 7 ^ i := Nat.pow_le_pow_left (by omega) i
      have h3 : 7 ^ i ≤ 7 ^ 3 := Nat.pow_le_pow_right (by decide) hi
      have h4 : (7 : Nat) ^ 3 = 343 := by decide
      omega
    have line : 10000 ≤ sizeLine := by decide
    refine ⟨Nat.zero_le _, fun a0 ha0 => ⟨by show 1 ≤ sizeLine; decide, fun a1 ha1' => ?_⟩⟩
    obtain ⟨a10, ha1⟩ := un_none ha1'
    have s0 : Same H (upd (upd H a0 (.lst [])) a1 (.lst [.ref a0])) := same_upd (same_new ha0) ha1
    refine while_by (fun σ H' => ∃ (i : Nat) (l : Addr) (qs : List Addr) (x3 x4 x5 x6 : Option V), σ = [some (.int (n : Int)), some (.int ((k + 1 : Nat) : Int)), some (.ref l), x3, x4, x5, x6] ∧ Same H H' ∧ H' l = some (.lst (qs.map V.ref)) ∧ LsAt H' qs (pre n i) ∧ i ≤ k)
      (fun σ H' => match σ with | [_, _, some (.ref l), _, _, _, _] => (match H' l with | some (.lst (.ref q :: _)) => (match H' q with | some (.lst xs) => k - xs.length | _ => 0) | _ => 0) | _ => 0)
      ⟨0, a1, [a0], none, none, none, none, rfl, s0, upd_same, .cons (by rw [upd_ne (Ne.symm a10)]; exact upd_same) .nil, Nat.zero_le _⟩ (fun σ H' z => ?_) ?_
    · obtain ⟨i, l, qs, x3, x4, x5, x6, rfl, s1, hl, hL, hi⟩ := z
      obtain ⟨f0, fs, hpre⟩ : ∃ f0 fs, pre n i = f0 :: fs := by
        cases e : pre n i with
        | nil => exact absurd e (pre_ne n i)
        | cons a b => exact ⟨a, b, rfl⟩
      have hf0 : f0.length = i := (pre_sum i f0 (by rw [hpre]; exact List.mem_cons_self ..)).2
      obtain ⟨q0, qs', rfl, hq0⟩ : ∃ q0 qs', qs = q0 :: qs' ∧ H' q0 = some (.lst (nl f0)) := by
        rw [hpre] at hL
        cases hL with
        | cons a t => exact ⟨_, _, rfl, a⟩
      refine ⟨_, rfl, l, (q0 :: qs').map V.ref, 0, .ref q0, rfl, rfl, SqL.of hl, atI_nat (j := 0) rfl, q0, nl f0, rfl, .inl (SqL.of hq0), _, rfl, _, _, rfl, rfl, _, _, rfl, rfl, _, rfl, ?_⟩
      rw [nl_len, hf0]
      refine if_d (fun e => ?_) (fun e => ?_)
      · have lt : i < k := by omega
        refine ⟨Nat.zero_le _, fun l3 hl3 => ?_⟩
        have ll3 : l ≠ l3 := ne_of_none hl hl3
        have hl3H : H l3 = none := s1.free hl3
        refine ⟨_, rfl, l, rfl, ⟨_, SqL.of (by rw [upd_ne ll3]; exact hl)⟩, ?_⟩
        refine for_list (K := K) (a := l) (xs := (q0 :: qs').map V.ref) (fun j σ H2 => ∃ (ps : List Addr) (x4 x5 x6 : Option V), σ = [some (.int (n : Int)), some (.int ((k + 1 : Nat) : Int)), some (.ref l), some (.ref l3), x4, x5, x6] ∧ Same H' H2 ∧ H2 l3 = some (.lst (ps.map V.ref)) ∧
            LsAt H2 ps (((pre n i).take j).flatMap (put1 n)) ∧ ∀ q ∈ ps, q ≠ l3) ⟨[], x4, x5, x6, rfl, same_new hl3, upd_same, .nil, fun q hq => by cases hq⟩ (fun j σ H2 _ z => ?_) (fun j x σ H2 hx z => ?_) (fun σ H2 z => ?_)
        · obtain ⟨ps, x4, x5, x6, rfl, s2, _⟩ := z
          exact SqL.of (s2 _ _ hl)
        · obtain ⟨ps, x4, x5, x6, rfl, s2, h3, hP, hne⟩ := z
          obtain ⟨q1, hq1, rfl⟩ := map_at hx
          obtain ⟨f, hf, hqf⟩ := Pd.get hL hq1
          have hfs := pre_sum i f (List.mem_of_getElem? hf)
          have hq2 : H2 q1 = some (.lst (nl f)) := s2 _ _ hqf
          refine ⟨_, rfl, _, rfl, q1, f.map fun (m : Nat) => (m : Int), rfl, (by rw [← nl_ints]; exact SqL.of hq2), _, _, rfl, rfl, ?_⟩
          rw [sum_cast]
          have eleft : (n : Int) - ((f.sum : Nat) : Int) = ((n - f.sum : Nat) : Int) := by omega
          dsimp only
          rw [eleft]
          refine ⟨_, rfl, .inl ⟨rfl, _, SqL.of h3⟩, _, rfl, _, _, rfl, rfl, _, rfl, by omega, by omega, fun D hD => ?_⟩
          have Dl3 : l3 ≠ D := ne_of_none h3 hD
          rw [show (((n - f.sum : Nat) : Int) + 1).toNat = n - f.sum + 1 by omega]
          refine lc_range (lo := 0) (n := n - f.sum + 1) (fun m H3 => ∃ ps' : List Addr, Same H2 H3 ∧ H3 D = some (.lst (ps'.map V.ref)) ∧ LsAt H3 ps' ((put1 n f).take m) ∧ ∀ q ∈ ps', q ≠ D ∧ H2 q = none) ⟨[], same_new hD, upd_same, .nil, fun q hq => by cases hq⟩ (fun m H3 hm z => ?_) (fun H3 z => ?_)
          · obtain ⟨ps', s3, hD3, hP', hne'⟩ := z
            refine ⟨rfl, ?_⟩
            unfold tYes
            refine if_t rfl ?_
            refine ⟨_, rfl, _, rfl, _, rfl, _, _, rfl, rfl, by show 1 ≤ sizeLine; decide, fun b1 hb1 => ?_⟩
            have Db1 : D ≠ b1 := ne_of_none hD3 hb1
            have q1b : q1 ≠ b1 := ne_of_none (s3 _ _ hq2) hb1
            refine ⟨q1, b1, nl f, _, rfl, rfl, (by rw [upd_ne q1b]; exact s3 _ _ hq2), upd_same, (by rw [nl_len, hfs.2]; show i + 1 ≤ sizeLine; omega), fun p1 hp1' => ?_⟩
            obtain ⟨p1b, hp1⟩ := un_none hp1'
            have Dp1 : D ≠ p1 := ne_of_none hD3 hp1
            dsimp only
            rw [nl_app f (n - f.sum - m) (by omega)]
            refine ⟨ps'.map V.ref, (by rw [upd_ne Dp1, upd_ne Db1]; exact hD3), (by rw [List.length_map, Paired.length hP', List.length_take, put1_len]; omega), ps' ++ [p1], fun b o eb => ?_, (by rw [upd_same, map_snoc]), ?_, fun q2 hq => ?_⟩
            · rw [upd_ne (ne_of_none eb hD), upd_ne (ne_of_none (s3 _ _ eb) hp1), upd_ne (ne_of_none (s3 _ _ eb) hb1)]
              exact s3 _ _ eb
            · rw [take_more (put1_at hm)]
              refine Pd.app (.cons (by rw [upd_ne (Ne.symm Dp1)]; exact upd_same) .nil) (Pd.mono hP' fun q2 hq y hy => ?_)
              rw [upd_ne (hne' q2 hq).1, upd_ne (ne_of_none hy hp1), upd_ne (ne_of_none hy hb1)]
              exact hy
            · rcases List.mem_append.mp hq with hq | hq
              · exact hne' q2 hq
              · rw [List.mem_singleton.mp hq]
                exact ⟨Ne.symm Dp1, s3.free hp1⟩
          · obtain ⟨ps', s3, hD3, hP', hne'⟩ := z
            rw [List.take_of_length_le (by rw [put1_len]; omega)] at hP'
            refine ⟨l3, D, ps.map V.ref, ps'.map V.ref, rfl, rfl, s3 _ _ h3, hD3, ?_, ps ++ ps', some (.ref q1), _, x6, rfl, fun b o eb => ?_, (by rw [upd_same, List.map_append]), ?_, fun q2 hq => ?_⟩
            · rw [List.length_map, List.length_map, Paired.length hP, Paired.length hP', put1_len]
              have h1 := flat_put n ((pre n i).take j)
              have h2 : ((pre n i).take j).length ≤ 343 := Nat.le_trans (List.length_take_le' ..) (big i (by omega))
              have h4 : ((pre n i).take j).length * (n + 1) ≤ 343 * 7 := Nat.mul_le_mul h2 (by omega)
              omega
            · rw [upd_ne (ne_of_none eb hl3)]
              exact s3 _ _ (s2 _ _ eb)
            · rw [take_more hf, List.flatMap_append]
              show LsAt _ _ (_ ++ (put1 n f ++ []))
              rw [List.append_nil]
              refine Pd.app (Pd.mono hP' fun q2 hq y hy => ?_) (Pd.mono hP fun q2 hq y hy => ?_)
              · rw [upd_ne (fun z => by have := (hne' q2 hq).2; rw [z, h3] at this; cases this)]
                exact hy
              · rw [upd_ne (hne q2 hq)]
                exact s3 _ _ hy
            · rcases List.mem_append.mp hq with hq | hq
              · exact hne q2 hq
              · exact fun z => by
                  have := (hne' q2 hq).2
                  rw [z, h3] at this
                  cases this
        · obtain ⟨ps, x4, x5, x6, rfl, s2, h3, hP, hne⟩ := z
          rw [List.length_map, Paired.length hL, List.take_length] at hP
          refine ⟨_, rfl, ⟨i + 1, l3, ps, some (.ref l3), x4, x5, x6, rfl, fun b o eb => s2 _ _ (s1 _ _ eb), h3, hP, lt⟩, ?_⟩
          obtain ⟨g0, gs, hpre2⟩ : ∃ g0 gs, pre n (i + 1) = g0 :: gs := by
            cases e : pre n (i + 1) with
            | nil => exact absurd e (pre_ne n (i + 1))
            | cons a b => exact ⟨a, b, rfl⟩
          have hg0 : g0.length = i + 1 := (pre_sum (i + 1) g0 (by rw [hpre2]; exact List.mem_cons_self ..)).2
          have hP2 : LsAt H2 ps (pre n (i + 1)) := hP
          rw [hpre2] at hP2
          cases hP2 with
          | cons a t =>
            have a1 := h3
            simp only [List.map_cons] at a1
            simp only [List.set_cons_succ, List.set_cons_zero, a1, a, hl, hq0, List.map_cons, nl_len, hg0, hf0]
            omega
      · have ek : i = k := by omega
        subst ek
        refine ⟨_, rfl, l, rfl, ⟨_, SqL.of hl⟩, fun D hD => ?_⟩
        have lD : l ≠ D := ne_of_none hl hD
        refine lc_list (K := K) (a := l) (xs := (q0 :: qs').map V.ref) (fun m H3 => ∃ ps : List Addr, Same H' H3 ∧ H3 D = some (.lst (ps.map V.ref)) ∧ LsAt H3 ps (((pre n i).take m).map fun f => f ++ [n - f.sum]) ∧ ∀ q ∈ ps, q ≠ D ∧ H' q = none) ⟨[], same_new hD, upd_same, .nil, fun q hq => by cases hq⟩ (fun m H3 _ z => ?_) (fun m x H3 hx z => ?_) (fun H3 z => ?_)
        · obtain ⟨ps, s3, _⟩ := z
          exact SqL.of (s3 _ _ hl)
        · obtain ⟨ps, s3, hD3, hP', hne'⟩ := z
          obtain ⟨q1, hq1, rfl⟩ := map_at hx
          obtain ⟨f, hf, hqf⟩ := Pd.get hL hq1
          have hfs := pre_sum i f (List.mem_of_getElem? hf)
          have hq2 : H3 q1 = some (.lst (nl f)) := s3 _ _ hqf
          refine ⟨rfl, ?_⟩
          unfold tYes
          refine if_t rfl ?_
          refine ⟨_, rfl, _, rfl, _, rfl, q1, f.map fun (m : Nat) => (m : Int), rfl, (by rw [← nl_ints]; exact SqL.of hq2), _, _, rfl, rfl, by show 1 ≤ sizeLine; decide, fun b1 hb1 => ?_⟩
          have Db1 : D ≠ b1 := ne_of_none hD3 hb1
          have q1b : q1 ≠ b1 := ne_of_none hq2 hb1
          refine ⟨q1, b1, nl f, _, rfl, rfl, (by rw [upd_ne q1b]; exact hq2), upd_same, (by rw [nl_len, hfs.2]; show i + 1 ≤ sizeLine; omega), fun p1 hp1' => ?_⟩
          obtain ⟨p1b, hp1⟩ := un_none hp1'
          have Dp1 : D ≠ p1 := ne_of_none hD3 hp1
          dsimp only
          rw [nl_app f (n - f.sum) (by rw [sum_cast]; omega)]
          refine ⟨ps.map V.ref, (by rw [upd_ne Dp1, upd_ne Db1]; exact hD3), ?_, ps ++ [p1], fun b o eb => ?_, (by rw [upd_same, map_snoc]), ?_, fun q2 hq => ?_⟩
          · rw [List.length_map, Paired.length hP', List.length_map]
            have h2 : ((pre n i).take m).length ≤ 343 := Nat.le_trans (List.length_take_le' ..) (big i hk)
            omega
          · rw [upd_ne (ne_of_none eb hD), upd_ne (ne_of_none (s3 _ _ eb) hp1), upd_ne (ne_of_none (s3 _ _ eb) hb1)]
            exact s3 _ _ eb
          · rw [take_more hf, List.map_append]
            refine Pd.app (.cons (by rw [upd_ne (Ne.symm Dp1)]; exact upd_same) .nil) (Pd.mono hP' fun q2 hq y hy => ?_)
            rw [upd_ne (hne' q2 hq).1, upd_ne (ne_of_none hy hp1), upd_ne (ne_of_none hy hb1)]
            exact hy
          · rcases List.mem_append.mp hq with hq | hq
            · exact hne' q2 hq
            · rw [List.mem_singleton.mp hq]
              exact ⟨Ne.symm Dp1, s3.free hp1⟩
        · obtain ⟨ps, s3, hD3, hP', hne'⟩ := z
          rw [List.length_map, Paired.length hL, List.take_length, ← puts_all] at hP'
          exact q H3 D ps (fun b o eb => s3 _ _ (s1 _ _ eb)) (s1.free hD) hD3 hP' fun q2 hq => s1.free (hne' q2 hq).2
    · rintro σ H' Q1 Q2 hh ⟨v, e1, p', ys, i', v', e2, e3, e4, e5, p2, ys2, e6, e7, v2, e8, i2, j2, e9, e10, i3, j3, e11, e12, k', e13, q'⟩
      exact ⟨v, e1, p', ys, i', v', e2, e3, e4, e5, p2, ys2, e6, e7, v2, e8, i2, j2, e9, e10, i3, j3, e11, e12, k', e13, hh _ _ q'⟩
theorem ok_all_put (T : Txt K mg) : Def P w K mg base 1 (He.ga K "all_put") ["n", "places"] (sp_all_put K) := by
  obtain ⟨fd, F⟩ := T.F_all_put
  exact ⟨⟨fd, fo_all_put T F, F.binds fun _ _ _ _ _ _ us hl => match us, hl with | [_, _], _ => rfl⟩, F.kp⟩

end
end Ww
namespace Ww
open PySem PySem.Spec PyProof.Rows L2
section
variable {P : Program} {w : World} {K : PySem.W.Frag} {mg : Str → Option Value} {base : Heap}
/-- dry_choices: slots 0 umbrellas, 1 here, 2 route, 3 weather, 4 started, 5 place, 6 rains, 7 longer, 8 lying, 9 choice -/
theorem fo_dry_choices (T : Txt K mg) (D_after_way : Def P w K mg base 1 (He.ga K "after_way") ["umbrellas", "here", "place", "rains", "carried"] (sp_after_way K)) (D_gets_wet : Def P w K mg base 1 (He.ga K "gets_wet") ["umbrellas", "here", "rains"] (sp_gets_wet K)) {fd : FuncData} (F : Fun K "dry_choices" "dry_choices" s_dry_choices (He.ga K "dry_choices") fd) : FnOk P w K mg base CX0 2 (He.ga K "dry_choices") fd ["umbrellas", "here", "route", "weather"] (sp_dry_choices K) := by
  obtain ⟨fd_after_way, G_after_way, b_after_way⟩ := D_after_way.ex
  obtain ⟨fd_gets_wet, G_gets_wet, b_gets_wet⟩ := D_gets_wet.ex
  refine F.ok sc_dry_choices (fun vs H Q E h => ?_) (fun cdv A outer s H vs Q E hr h => ?_)
  · obtain ⟨a, b, c, l, r, v, h, rfl, hl, hr', hw, hh, hz, ht, hlen, hx2, hz2, q⟩ := h
    rfl
  · obtain ⟨a, b, c, l, r, v, h, rfl, hl, hr', hw, hh, hz, ht, hlen, hx2, hz2, q⟩ := h
    refine ⟨_, (pss_cons (ps_set (i := 4) sc_dry_choices.nd rfl (Or.inl rfl) (pe_lst (pa_cons (pe_tup (pa_cons (pv 0) (pa_cons (pe_lst pa_nil) pa_nil))) pa_nil)))
      (pss_cons (ps_for PassesOwn.never rfl (pi_zip (by rfl) T.b_zip (pa_cons (pv 2) (pa_cons (pv 3) pa_nil))) (pg_tup rfl (pgs_cons (pg_name (i := 5) sc_dry_choices.nd rfl (Or.inl rfl)) (pgs_cons (pg_name (i := 6) sc_dry_choices.nd rfl (Or.inl rfl)) pgs_nil)))
      (pss_cons (ps_set (i := 7) sc_dry_choices.nd rfl (Or.inl rfl) (pe_lst pa_nil))
      (pss_cons (ps_for PassesOwn.never rfl (pi_list (pv 4)) (pg_tup rfl (pgs_cons (pg_name (i := 8) sc_dry_choices.nd rfl (Or.inl rfl)) (pgs_cons (pg_name (i := 9) sc_dry_choices.nd rfl (Or.inl rfl)) pgs_nil)))
      (C8.pss_cut (ps_if (PW.pt (pw_and (pt_cmpR op_eq (pv 6) pe_int (nomark _)) (pw_and1 (pt_cmpR op_gt (pe_ix ix_list (pv 8) (pv 1) (fun _ _ => rfl)) pe_int (nomark _))))) (pss_one (ps_expr (pe_bm PySem.F.plainAttrs_list PySem.F.slot_list_append PySem.F.type_list_append mt_append (pv 7) (pa_cons (pe_tup (pa_cons (pe_call G_after_way (hr.mono (by decide)) rfl T.g_after_way D_after_way.kp b_after_way .nil pass0 (pa_cons (pv 8) (pa_cons (pv 1) (pa_cons (pv 5) (pa_cons pe_int (pa_cons pe_int pa_nil)))))) (pa_cons (pe_op op_cat (pv 9) (pe_lst (pa_cons pe_int pa_nil))) pa_nil))) pa_nil))))
      pss_nil)
      (pss_one (ps_if (pt_cmpR op_eq (pe_call G_gets_wet (hr.mono (by decide)) rfl T.g_gets_wet D_gets_wet.kp b_gets_wet .nil pass0 (pa_cons (pv 8) (pa_cons (pv 1) (pa_cons (pv 6) pa_nil)))) pe_int (nomark _)) (pss_one (ps_expr (pe_bm PySem.F.plainAttrs_list PySem.F.slot_list_append PySem.F.type_list_append mt_append (pv 7) (pa_cons (pe_tup (pa_cons (pe_call G_after_way (hr.mono (by decide)) rfl T.g_after_way D_after_way.kp b_after_way .nil pass0 (pa_cons (pv 8) (pa_cons (pv 1) (pa_cons (pv 5) (pa_cons (pv 6) (pa_cons pe_int pa_nil)))))) (pa_cons (pe_op op_cat (pv 9) (pe_lst (pa_cons pe_int pa_nil))) pa_nil))) pa_nil))))
      pss_nil))))
      (pss_cons (ps_set (i := 4) sc_dry_choices.nd rfl (Or.inl rfl) (pv 7))
      (pss_one (ps_set (i := 1) sc_dry_choices.nd rfl (Or.inl rfl) (pv 5)))))))
      (pss_one (ps_ret (pe_lc (own := [("lying", 8), ("choice", 9)]) (g := gTup K 2 (gCons (gName 8) (gCons (gName 9) gNil))) rfl sc_dry_choices.nd (pi_list (pv 4)) (blkOk_by (own := [("lying", 8), ("choice", 9)]) (N := ["umbrellas", "here", "route", "weather", "started", "place", "rains", "longer", "lying", "choice"]) (sc := defScope s_dry_choices) (by decide +kernel)) (fun _ _ _ _ _ => (pg_tup rfl (pgs_cons (pg_name (i := 8) sc_dry_choices.nd rfl (Or.inl rfl)) (pgs_cons (pg_name (i := 9) sc_dry_choices.nd rfl (Or.inl rfl)) pgs_nil)))) (fun _ _ _ _ _ => pts_nil) (fun _ _ _ _ _ => (pv 9))))))), ?_⟩
    have line : 10000 ≤ sizeLine := by decide
    refine ⟨_, rfl, Nat.zero_le _, fun e0 he0 => ⟨by show 2 ≤ sizeLine; decide, fun t0 ht0' => ⟨by show 1 ≤ sizeLine; decide, fun l0 hl0' => ?_⟩⟩⟩
    obtain ⟨t0e, ht0⟩ := un_none ht0'
    obtain ⟨l0t, hl0''⟩ := un_none hl0'
    obtain ⟨l0e, hl0⟩ := un_none hl0''
    have s0 : Same H (upd (upd (upd H e0 (.lst [])) t0 (.tup [.ref a, .ref e0])) l0 (.lst [.ref t0])) := same_upd (same_upd (same_new he0) ht0) hl0
    refine ⟨_, rfl, _, rfl, b, c, nl r, nl v, rfl, s0.seq hr', s0.seq hw, ?_⟩
    refine RZ.for_zipL (K := K) (a := b) (b := c) (xs := nl r) (ys := nl v) (by rw [nl_len, nl_len, hlen])
      (fun i σ H' => ∃ (l1 : Addr) (qs : List Addr) (cs : List Ch) (hi : Nat) (x5 x6 x7 x8 x9 : Option V), σ = [some (.ref a), some (.int (hi : Int)), some (.ref b), some (.ref c), some (.ref l1), x5, x6, x7, x8, x9] ∧ Same H H' ∧ H' l1 = some (.lst (qs.map V.ref)) ∧ Paired (ChR K H') qs cs ∧
        (∀ d ∈ cs, d.1.length = l.length ∧ d.2.length = i) ∧ hi < l.length ∧ cs.length ≤ 2 ^ i ∧ cs.flatMap (dfin hi (ways (r.drop i) (v.drop i))) = (good ⟨l, h⟩ (ways r v)).map flags)
      ⟨l0, [t0], [(l, [])], h, none, none, none, none, none, rfl, s0, upd_same, .cons ⟨a, e0, ?_, s0.seq hl, ?_⟩ .nil, fun d hd => ?_, hh, Nat.le_refl 1, ?_⟩ (fun i σ H' z => ?_) (fun i x y T0 σ H' hx hy z hT => ?_) (fun σ H' z => ?_)
    · rw [upd_ne (Ne.symm l0t)]
      exact upd_same
    · rw [upd_ne (Ne.symm l0e), upd_ne (Ne.symm t0e)]
      exact upd_same
    · rw [List.mem_singleton.mp hd]
      exact ⟨rfl, rfl⟩
    · show dfin h (ways r v) (l, []) ++ [] = _
      rw [List.append_nil]
      rfl
    · obtain ⟨l1, qs, cs, hi, x5, x6, x7, x8, x9, rfl, s1, _⟩ := z
      exact ⟨s1.seq hr', s1.seq hw⟩
    · obtain ⟨l1, qs, cs, hi, x5, x6, x7, x8, x9, rfl, s1, hl1, hC, hd, hhi, hcl, heq⟩ := z
      obtain ⟨t, ht', rfl⟩ := at_nl hx
      obtain ⟨x, hx', rfl⟩ := at_nl hy
      have htn : t < l.length := ht t (List.mem_of_getElem? ht')
      have hxx : x < 2 := hx2 x (List.mem_of_getElem? hx')
      have hi8 : i < 8 := by
        have := (List.getElem?_eq_some_iff.mp ht').1
        omega
      have c256 : cs.length ≤ 128 := by
        have : 2 ^ i ≤ 2 ^ 7 := Nat.pow_le_pow_right (by decide) (by omega)
        have h7 : (2 : Nat) ^ 7 = 128 := by decide
        omega
      rw [ways_cons ht' hx'] at heq
      have hTl : l1 ≠ T0 := ne_of_none hl1 hT
      have hTH : H T0 = none := s1.free hT
      generalize hG : upd H' T0 (.tup [.int (t : Int), .int (x : Int)]) = G
      have sG : Same H' G := by rw [← hG]; exact same_new hT
      have s2 : Same H G := fun b' o' e' => sG _ _ (s1 _ _ e')
      have hlG : G l1 = some (.lst (qs.map V.ref)) := sG _ _ hl1
      have hCG : Paired (ChR K G) qs cs := Pd.mono hC fun q' _ y hy => ChR.mono _ _ q' y sG hy
      refine ⟨T0, _, rfl, SqT.of (by rw [← hG]; exact upd_same), rfl, _, _, rfl, _, _, rfl, rfl, ?_⟩
      refine ⟨Nat.zero_le _, fun l3 hl3 => ?_⟩
      have l13 : l1 ≠ l3 := ne_of_none hlG hl3
      refine ⟨_, rfl, l1, rfl, ⟨_, SqL.of (by rw [upd_ne l13]; exact hlG)⟩, ?_⟩
      refine for_list (K := K) (a := l1) (xs := qs.map V.ref) (fun j σ H2 => ∃ (x8 x9 : Option V), σ = [some (.ref a), some (.int (hi : Int)), some (.ref b), some (.ref c), some (.ref l1), some (.int (t : Int)), some (.int (x : Int)), some (.ref l3), x8, x9] ∧ Grow (ChR K) G l3 ((cs.take j).flatMap (dstep hi t x)) H2)
        ⟨x8, x9, rfl, Grow.start hl3⟩ (fun j σ H2 _ z => ?_) (fun j z0 σ H2 hz0 z => ?_) (fun σ H2 z => ?_)
      · obtain ⟨x8, x9, rfl, ps, s3, _⟩ := z
        exact SqL.of (s3 _ _ hlG)
      · obtain ⟨x8, x9, rfl, g⟩ := z
        obtain ⟨q1, hq1, rfl⟩ := map_at hz0
        obtain ⟨⟨d1, d2⟩, hd12, la, ca, f1, f2, f3⟩ := Pd.get hCG hq1
        obtain ⟨dl1, dl2⟩ := hd _ (List.mem_of_getElem? hd12)
        dsimp only at dl1 dl2 f2 f3
        have f1' : H2 q1 = some (.tup [.ref la, .ref ca]) := by
          obtain ⟨ps, s3, _⟩ := g
          exact s3 _ _ f1
        have cnt2 : ∀ (cs' : List Ch) (ps : List Addr) (R : Addr → Ch → Prop), Paired R ps ((cs.take j).flatMap (dstep hi t x) ++ cs') → cs'.length ≤ 2 → (ps.map V.ref).length < sizeLine := fun cs' ps R hR h2 => by
          rw [List.length_map, Paired.length hR, List.length_append]
          have h3 := flat_two (dstep_len hi t x) (cs.take j)
          have h4 : (cs.take j).length ≤ cs.length := List.length_take_le' ..
          omega
        refine ⟨q1, _, rfl, SqT.of f1', rfl, _, _, rfl, _, _, rfl, rfl, ?_⟩
        refine ⟨fun σ H3 => σ = [some (.ref a), some (.int (hi : Int)), some (.ref b), some (.ref c), some (.ref l1), some (.int (t : Int)), some (.int (x : Int)), some (.ref l3), some (.ref la), some (.ref ca)] ∧
          Grow (ChR K) G l3 ((cs.take j).flatMap (dstep hi t x) ++ (if x = 0 ∧ 0 < d1.getD hi 0 then [((Mu44.goes ⟨d1, hi⟩ (mk t 0 1)).1.at_, d2 ++ [1])] else [])) H3, ?_, ?_⟩
        · obtain ⟨ps, s3, h3, hc3⟩ := g
          have f2' : SqL K H2 la (nl d1) := s3.seq f2
          have f3' : H2 ca = some (.lst (nl d2)) := s3 _ _ f3
          have no : ¬ (x = 0 ∧ 0 < d1.getD hi 0) → Grow (ChR K) G l3 ((cs.take j).flatMap (dstep hi t x) ++ (if x = 0 ∧ 0 < d1.getD hi 0 then [((Mu44.goes ⟨d1, hi⟩ (mk t 0 1)).1.at_, d2 ++ [1])] else [])) H2 := fun n => by
            rw [if_neg n, List.append_nil]
            exact ⟨ps, s3, h3, hc3⟩
          refine ⟨_, rfl, rfl, _, rfl, ?_⟩
          rw [show decide (V.int (x : Int) = V.int 0) = decide (x = 0) from dec_vnat (j := 0)]
          refine if_d (fun ex => ?_) (fun ex => ?_)
          · refine ⟨_, rfl, _, rfl, la, nl d1, _, _, rfl, rfl, f2', atI_nat (nl_getD (by omega)), _, _, rfl, rfl, _, rfl, ?_⟩
            refine if_d (fun ed => ?_) (fun ed => ?_)
            · have ed' : 0 < d1.getD hi 0 := by omega
              rw [if_pos ⟨ex, ed'⟩]
              refine ⟨_, rfl, .inl ⟨rfl, _, SqL.of h3⟩, _, rfl, _, rfl, _, rfl, la, d1, hi, t, 0, 1, rfl, f2', by omega, by omega, by omega, fun H4 p2 s4 n2 e2 => ?_⟩
              refine ⟨_, rfl, by show 1 ≤ sizeLine; decide, fun b1 hb1 => ?_⟩
              have cab1 : ca ≠ b1 := ne_of_none (s4 _ _ f3') hb1
              refine ⟨ca, b1, nl d2, _, rfl, rfl, (by rw [upd_ne cab1]; exact s4 _ _ f3'), upd_same, (by rw [nl_len, dl2]; show i + 1 ≤ sizeLine; omega), fun p1 hp1' => ?_⟩
              obtain ⟨p1b, hp1⟩ := un_none hp1'
              refine ⟨by show 2 ≤ sizeLine; decide, fun t1 ht1' => ?_⟩
              obtain ⟨t1p, ht1''⟩ := un_none ht1'
              obtain ⟨t1b, ht1⟩ := un_none ht1''
              rw [nl_app d2 1 (z := 1) rfl]
              have s5 : Same H2 (upd (upd (upd H4 b1 (.lst [V.int 1])) p1 (.lst (nl (d2 ++ [1])))) t1 (.tup [.ref p2, .ref p1])) := fun b' o' e' => same_upd (same_upd (same_new hb1) hp1) ht1 _ _ (s4 _ _ e')
              have np2 : p2 ≠ l3 := fun z => by rw [z, h3] at n2; cases n2
              have np1 : p1 ≠ l3 := fun z => by rw [z, s4 _ _ h3] at hp1; cases hp1
              have nt1 : t1 ≠ l3 := fun z => by rw [z, s4 _ _ h3] at ht1; cases ht1
              have np2b : p2 ≠ b1 := ne_of_none e2 hb1
              have np2p : p2 ≠ p1 := ne_of_none e2 hp1
              have np2t : p2 ≠ t1 := ne_of_none e2 ht1
              refine ⟨l3, ps.map V.ref, _, rfl, rfl, s5 _ _ h3, (by rw [List.length_map, Paired.length (hc3 (.lst []))]; have h9 := flat_two (dstep_len hi t x) (cs.take j); have h8 : (cs.take j).length ≤ cs.length := List.length_take_le' ..; omega), rfl, ?_⟩
              refine Grow.add ChR.mono hl3 s3 hc3 s5 fun o => ⟨p2, p1, ?_, SqL.of ?_, ?_⟩
              · rw [upd_ne nt1]
                exact upd_same
              · rw [upd_ne np2, upd_ne np2t, upd_ne np2p, upd_ne np2b]
                exact e2
              · rw [upd_ne np1, upd_ne (Ne.symm t1p)]
                exact upd_same
            · exact ⟨rfl, no (by omega)⟩
          · refine if_f rfl ?_
            exact ⟨rfl, no (by omega)⟩
        · rintro σ' H3 ⟨rfl, ps, s3, h3, hc3⟩
          have f2' : SqL K H3 la (nl d1) := s3.seq f2
          have f3' : H3 ca = some (.lst (nl d2)) := s3 _ _ f3
          have fin : ∀ H5, Grow (ChR K) G l3 ((cs.take j).flatMap (dstep hi t x) ++ dstep hi t x (d1, d2)) H5 → Grow (ChR K) G l3 ((cs.take (j + 1)).flatMap (dstep hi t x)) H5 := fun H5 g5 => by
            rw [take_more hd12, List.flatMap_append]
            show Grow (ChR K) G l3 (_ ++ (dstep hi t x (d1, d2) ++ [])) H5
            rw [List.append_nil]
            exact g5
          refine ⟨_, rfl, _, rfl, _, rfl, la, d1, hi, x, rfl, f2', by omega, rfl, _, rfl, ?_⟩
          rw [dec_b2n0]
          refine if_b (fun ez => ?_) (fun ez => ?_)
          · have ez' : (decide (x = 1) && decide (d1.getD hi 0 = 0)) = false := by
              revert ez
              cases (decide (x = 1) && decide (d1.getD hi 0 = 0)) <;> simp
            refine ⟨_, rfl, .inl ⟨rfl, _, SqL.of h3⟩, _, rfl, _, rfl, _, rfl, _, rfl, la, d1, hi, t, x, 0, rfl, f2', by omega, by omega, by omega, fun H4 p2 s4 n2 e2 => ?_⟩
            refine ⟨_, rfl, by show 1 ≤ sizeLine; decide, fun b1 hb1 => ?_⟩
            have cab1 : ca ≠ b1 := ne_of_none (s4 _ _ f3') hb1
            refine ⟨ca, b1, nl d2, _, rfl, rfl, (by rw [upd_ne cab1]; exact s4 _ _ f3'), upd_same, (by rw [nl_len, dl2]; show i + 1 ≤ sizeLine; omega), fun p1 hp1' => ?_⟩
            obtain ⟨p1b, hp1⟩ := un_none hp1'
            refine ⟨by show 2 ≤ sizeLine; decide, fun t1 ht1' => ?_⟩
            obtain ⟨t1p, ht1''⟩ := un_none ht1'
            obtain ⟨t1b, ht1⟩ := un_none ht1''
            rw [nl_app d2 0 (z := 0) rfl]
            have s5 : Same H3 (upd (upd (upd H4 b1 (.lst [V.int 0])) p1 (.lst (nl (d2 ++ [0])))) t1 (.tup [.ref p2, .ref p1])) := fun b' o' e' => same_upd (same_upd (same_new hb1) hp1) ht1 _ _ (s4 _ _ e')
            have np2 : p2 ≠ l3 := fun z => by rw [z, h3] at n2; cases n2
            have np1 : p1 ≠ l3 := fun z => by rw [z, s4 _ _ h3] at hp1; cases hp1
            have nt1 : t1 ≠ l3 := fun z => by rw [z, s4 _ _ h3] at ht1; cases ht1
            have np2b : p2 ≠ b1 := ne_of_none e2 hb1
            have np2p : p2 ≠ p1 := ne_of_none e2 hp1
            have np2t : p2 ≠ t1 := ne_of_none e2 ht1
            refine ⟨l3, ps.map V.ref, _, rfl, rfl, s5 _ _ h3, cnt2 _ ps _ (hc3 (.lst [])) (by split <;> simp), some (.ref la), some (.ref ca), rfl, fin _ ?_⟩
            have g6 := Grow.add (x := ((Mu44.goes ⟨d1, hi⟩ (mk t x 0)).1.at_, d2 ++ [0])) ChR.mono hl3 s3 hc3 s5 fun o => ⟨p2, p1, (by rw [upd_ne nt1]; exact upd_same), SqL.of (by rw [upd_ne np2, upd_ne np2t, upd_ne np2p, upd_ne np2b]; exact e2), (by rw [upd_ne np1, upd_ne (Ne.symm t1p)]; exact upd_same)⟩
            unfold dstep
            rw [if_pos ez', ← List.append_assoc]
            exact g6
          · have ez' : ¬ (decide (x = 1) && decide (d1.getD hi 0 = 0)) = false := by
              revert ez
              cases (decide (x = 1) && decide (d1.getD hi 0 = 0)) <;> simp
            refine ⟨some (.ref la), some (.ref ca), rfl, fin _ ?_⟩
            unfold dstep
            rw [if_neg ez', List.append_nil]
            exact ⟨ps, s3, h3, hc3⟩
      · obtain ⟨x8, x9, rfl, ps, s3, h3, hc3⟩ := z
        have hc4 := Grow.now h3 hc3
        rw [List.length_map, Paired.length hCG, List.take_length] at hc4
        refine ⟨_, rfl, _, rfl, l3, ps, cs.flatMap (dstep hi t x), t, some (.int (t : Int)), some (.int (x : Int)), some (.ref l3), x8, x9, rfl, fun b' o' e' => s3 _ _ (s2 _ _ e'), h3, hc4, fun d0 hd0 => ?_, htn, ?_, ?_⟩
        · obtain ⟨d1, hd1, hm⟩ := List.mem_flatMap.mp hd0
          obtain ⟨e1, e2⟩ := hd d1 hd1
          unfold dstep at hm
          rcases List.mem_append.mp hm with hm | hm
          · split at hm
            · rw [List.mem_singleton.mp hm]
              exact ⟨(goes_len _ _).trans e1, by show (d1.2 ++ [1]).length = i + 1; rw [List.length_append, e2]; rfl⟩
            · cases hm
          · split at hm
            · rw [List.mem_singleton.mp hm]
              exact ⟨(goes_len _ _).trans e1, by show (d1.2 ++ [0]).length = i + 1; rw [List.length_append, e2]; rfl⟩
            · cases hm
        · have := flat_two (dstep_len hi t x) cs
          rw [Nat.pow_succ]
          omega
        · rw [List.flatMap_assoc, ← heq]
          exact flat_congr fun d1 _ => (dfin_step hxx _ d1).symm
    · obtain ⟨l1, qs, cs, hi, x5, x6, x7, x8, x9, rfl, s1, hl1, hC, hd, hhi, hcl, heq⟩ := z
      rw [nl_len, List.drop_length, List.drop_of_length_le (by omega)] at heq
      rw [nl_len] at hcl
      have c256 : cs.length ≤ 256 := by
        have : 2 ^ r.length ≤ 2 ^ 8 := Nat.pow_le_pow_right (by decide) hz2
        have h7 : (2 : Nat) ^ 8 = 256 := by decide
        omega
      have heq2 : cs.map (fun d => d.2) = (good ⟨l, h⟩ (ways r v)).map flags := by
        rw [← heq]
        have : ∀ ds : List Ch, ds.map (fun d => d.2) = ds.flatMap (dfin hi (ways [] [])) := fun ds => by
          induction ds with
          | nil => rfl
          | cons d ds ih =>
            rw [List.flatMap_cons, List.map_cons, ih]
            show _ = [d.2 ++ []] ++ _
            rw [List.append_nil]
            rfl
        exact this cs
      refine ⟨_, rfl, l1, rfl, ⟨_, SqL.of hl1⟩, fun D hD => ?_⟩
      have lD : l1 ≠ D := ne_of_none hl1 hD
      refine lc_list (K := K) (a := l1) (xs := qs.map V.ref) (fun m H3 => ∃ ps : List Addr, H3 = upd H' D (.lst (ps.map V.ref)) ∧ LsAt H' ps ((cs.take m).map fun d => d.2)) ⟨[], rfl, .nil⟩ (fun m H3 _ z => ?_) (fun m x H3 hx z => ?_) (fun H3 z => ?_)
      · obtain ⟨ps, rfl, _⟩ := z
        exact SqL.of (by rw [upd_ne lD]; exact hl1)
      · obtain ⟨ps, rfl, hP⟩ := z
        obtain ⟨q1, hq1, rfl⟩ := map_at hx
        obtain ⟨d1, hd1, la, ca, f1, f2, f3⟩ := Pd.get hC hq1
        refine ⟨q1, _, rfl, SqT.of (by rw [upd_ne (ne_of_none f1 hD)]; exact f1), rfl, _, _, rfl, _, _, rfl, rfl, rfl, ?_⟩
        unfold tYes
        refine if_t rfl ?_
        refine ⟨_, rfl, ps.map V.ref, upd_same, ?_, ps ++ [ca], (by rw [upd_upd, map_snoc]), ?_⟩
        · rw [List.length_map, Paired.length hP, List.length_map]
          have : (cs.take m).length ≤ cs.length := List.length_take_le' ..
          omega
        · rw [take_more hd1, List.map_append]
          exact Pd.app (R := fun q l => H' q = some (HO.lst (nl l))) (.cons f3 .nil) hP
      · obtain ⟨ps, rfl, hP⟩ := z
        rw [List.length_map, Paired.length hC, List.take_length, heq2] at hP
        refine q _ D ps (fun b' o' e' => ?_) (s1.free hD) upd_same (Pd.mono hP fun q' _ y hy => ?_)
        · rw [upd_ne (ne_of_none (s1 _ _ e') hD)]
          exact s1 _ _ e'
        · rw [upd_ne (ne_of_none hy hD)]
          exact hy
theorem ok_dry_choices (T : Txt K mg) (D_after_way : Def P w K mg base 1 (He.ga K "after_way") ["umbrellas", "here", "place", "rains", "carried"] (sp_after_way K)) (D_gets_wet : Def P w K mg base 1 (He.ga K "gets_wet") ["umbrellas", "here", "rains"] (sp_gets_wet K)) : Def P w K mg base 2 (He.ga K "dry_choices") ["umbrellas", "here", "route", "weather"] (sp_dry_choices K) := by
  obtain ⟨fd, F⟩ := T.F_dry_choices
  exact ⟨⟨fd, fo_dry_choices T D_after_way D_gets_wet F, F.binds fun _ _ _ _ _ _ us hl => match us, hl with | [_, _, _, _], _ => rfl⟩, F.kp⟩

end
end Ww
namespace Ww
open PySem PySem.Spec PyProof.Rows L2
section
variable {P : Program} {w : World} {K : PySem.W.Frag} {mg : Str → Option Value} {base : Heap}
/-- weigh_weathers: slots 0 umbrellas, 1 here, 2 route, 3 a, 4 b, 5 started, 6 place, 7 longer, 8 lying, 9 weight, 10 wet -/
theorem fo_weigh_weathers (T : Txt K mg) (D_after_way : Def P w K mg base 1 (He.ga K "after_way") ["umbrellas", "here", "place", "rains", "carried"] (sp_after_way K)) (D_gets_wet : Def P w K mg base 1 (He.ga K "gets_wet") ["umbrellas", "here", "rains"] (sp_gets_wet K)) {fd : FuncData} (F : Fun K "weigh_weathers" "weigh_weathers" s_weigh_weathers (He.ga K "weigh_weathers") fd) : FnOk P w K mg base CX0 2 (He.ga K "weigh_weathers") fd ["umbrellas", "here", "route", "a", "b"] (sp_weigh_weathers K) := by
  obtain ⟨fd_after_way, G_after_way, b_after_way⟩ := D_after_way.ex
  obtain ⟨fd_gets_wet, G_gets_wet, b_gets_wet⟩ := D_gets_wet.ex
  refine F.ok sc_weigh_weathers (fun vs H Q E h => ?_) (fun cdv A outer s H vs Q E hr h => ?_)
  · obtain ⟨a, b, l, r, h, x, y, rfl, hl, hr', hh, hz, ht, hxy, hy9, hz2, q⟩ := h
    rfl
  · obtain ⟨a, b, l, r, h, x, y, rfl, hl, hr', hh, hz, ht, hxy, hy9, hz2, q⟩ := h
    refine ⟨_, (pss_cons (ps_set (i := 5) sc_weigh_weathers.nd rfl (Or.inl rfl) (pe_lst (pa_cons (pe_tup (pa_cons (pv 0) (pa_cons pe_int (pa_cons pe_int pa_nil)))) pa_nil)))
      (pss_cons (ps_for PassesOwn.never rfl (pi_list (pv 2)) (pg_name (i := 6) sc_weigh_weathers.nd rfl (Or.inl rfl))
      (pss_cons (ps_set (i := 7) sc_weigh_weathers.nd rfl (Or.inl rfl) (pe_lst pa_nil))
      (pss_cons (ps_for PassesOwn.never rfl (pi_list (pv 5)) (pg_tup rfl (pgs_cons (pg_name (i := 8) sc_weigh_weathers.nd rfl (Or.inl rfl)) (pgs_cons (pg_name (i := 9) sc_weigh_weathers.nd rfl (Or.inl rfl)) (pgs_cons (pg_name (i := 10) sc_weigh_weathers.nd rfl (Or.inl rfl)) pgs_nil))))
      (pss_cons (ps_expr (pe_bm PySem.F.plainAttrs_list PySem.F.slot_list_append PySem.F.type_list_append mt_append (pv 7) (pa_cons (pe_tup (pa_cons (pe_call G_after_way (hr.mono (by decide)) rfl T.g_after_way D_after_way.kp b_after_way .nil pass0 (pa_cons (pv 8) (pa_cons (pv 1) (pa_cons (pv 6) (pa_cons pe_int (pa_cons pe_int pa_nil)))))) (pa_cons (pe_op op_mul (pv 9) (pe_op op_sub (pv 4) (pv 3))) (pa_cons (pv 10) pa_nil)))) pa_nil)))
      (pss_one (ps_expr (pe_bm PySem.F.plainAttrs_list PySem.F.slot_list_append PySem.F.type_list_append mt_append (pv 7) (pa_cons (pe_tup (pa_cons (pe_call G_after_way (hr.mono (by decide)) rfl T.g_after_way D_after_way.kp b_after_way .nil pass0 (pa_cons (pv 8) (pa_cons (pv 1) (pa_cons (pv 6) (pa_cons pe_int (pa_cons pe_int pa_nil)))))) (pa_cons (pe_op op_mul (pv 9) (pv 3)) (pa_cons (pe_op op_add (pv 10) (pe_call G_gets_wet (hr.mono (by decide)) rfl T.g_gets_wet D_gets_wet.kp b_gets_wet .nil pass0 (pa_cons (pv 8) (pa_cons (pv 1) (pa_cons pe_int pa_nil))))) pa_nil)))) pa_nil))))))
      (pss_cons (ps_set (i := 5) sc_weigh_weathers.nd rfl (Or.inl rfl) (pv 7))
      (pss_one (ps_set (i := 1) sc_weigh_weathers.nd rfl (Or.inl rfl) (pv 6)))))))
      (pss_one (ps_ret (pe_lc (own := [("lying", 8), ("weight", 9), ("wet", 10)]) (g := gTup K 3 (gCons (gName 8) (gCons (gName 9) (gCons (gName 10) gNil)))) rfl sc_weigh_weathers.nd (pi_list (pv 5)) (blkOk_by (own := [("lying", 8), ("weight", 9), ("wet", 10)]) (N := ["umbrellas", "here", "route", "a", "b", "started", "place", "longer", "lying", "weight", "wet"]) (sc := defScope s_weigh_weathers) (by decide +kernel)) (fun _ _ _ _ _ => (pg_tup rfl (pgs_cons (pg_name (i := 8) sc_weigh_weathers.nd rfl (Or.inl rfl)) (pgs_cons (pg_name (i := 9) sc_weigh_weathers.nd rfl (Or.inl rfl)) (pgs_cons (pg_name (i := 10) sc_weigh_weathers.nd rfl (Or.inl rfl)) pgs_nil))))) (fun _ _ _ _ _ => pts_nil) (fun _ _ _ _ _ => (pe_tup (pa_cons (pv 9) (pa_cons (pv 10) pa_nil))))))))), ?_⟩
    have line : 10000 ≤ sizeLine := by decide
    refine ⟨_, rfl, by show 3 ≤ sizeLine; decide, fun t0 ht0 => ⟨by show 1 ≤ sizeLine; decide, fun l0 hl0' => ?_⟩⟩
    obtain ⟨l0t, hl0⟩ := un_none hl0'
    have s0 : Same H (upd (upd H t0 (.tup [.ref a, .int 1, .int 0])) l0 (.lst [.ref t0])) := same_upd (same_new ht0) hl0
    refine ⟨_, rfl, b, rfl, ⟨_, s0.seq hr'⟩, ?_⟩
    refine for_list (K := K) (a := b) (xs := nl r)
      (fun i σ H' => ∃ (l1 : Addr) (qs : List Addr) (cs : List Wt) (hi : Nat) (x6 x7 x8 x9 x10 : Option V), σ = [some (.ref a), some (.int (hi : Int)), some (.ref b), some (.int (x : Int)), some (.int (y : Int)), some (.ref l1), x6, x7, x8, x9, x10] ∧ Same H H' ∧ H' l1 = some (.lst (qs.map V.ref)) ∧ Paired (WtR K H') qs cs ∧
        (∀ d ∈ cs, d.1.length = l.length) ∧ hi < l.length ∧ cs.length ≤ 2 ^ i ∧ cs.flatMap (wfin hi x y (r.drop i)) = wts ⟨l, h⟩ x y r)
      ⟨l0, [t0], [(l, 1, 0)], h, none, none, none, none, none, rfl, s0, upd_same, .cons ⟨a, ?_, s0.seq hl⟩ .nil, fun d hd => ?_, hh, Nat.le_refl 1, ?_⟩ (fun i σ H' _ z => ?_) (fun i x0 σ H' hx z => ?_) (fun σ H' z => ?_)
    · rw [upd_ne (Ne.symm l0t)]
      exact upd_same
    · rw [List.mem_singleton.mp hd]
    · show wfin h x y r (l, 1, 0) ++ [] = _
      rw [List.append_nil, wfin_start]
    · obtain ⟨l1, qs, cs, hi, x6, x7, x8, x9, x10, rfl, s1, _⟩ := z
      exact s1.seq hr'
    · obtain ⟨l1, qs, cs, hi, x6, x7, x8, x9, x10, rfl, s1, hl1, hC, hd, hhi, hcl, heq⟩ := z
      obtain ⟨t, ht', rfl⟩ := at_nl hx
      have htn : t < l.length := ht t (List.mem_of_getElem? ht')
      have hi8 : i < 8 := by
        have := (List.getElem?_eq_some_iff.mp ht').1
        omega
      have c256 : cs.length ≤ 128 := by
        have : 2 ^ i ≤ 2 ^ 7 := Nat.pow_le_pow_right (by decide) (by omega)
        have h7 : (2 : Nat) ^ 7 = 128 := by decide
        omega
      have edrop : r.drop i = t :: r.drop (i + 1) := by
        obtain ⟨h1, e⟩ := List.getElem?_eq_some_iff.mp ht'
        rw [List.drop_eq_getElem_cons h1, e]
      rw [edrop] at heq
      refine ⟨Nat.zero_le _, fun l3 hl3 => ?_⟩
      have l13 : l1 ≠ l3 := ne_of_none hl1 hl3
      refine ⟨_, rfl, l1, rfl, ⟨_, SqL.of (by rw [upd_ne l13]; exact hl1)⟩, ?_⟩
      refine for_list (K := K) (a := l1) (xs := qs.map V.ref) (fun j σ H2 => ∃ (x8 x9 x10 : Option V), σ = [some (.ref a), some (.int (hi : Int)), some (.ref b), some (.int (x : Int)), some (.int (y : Int)), some (.ref l1), some (.int (t : Int)), some (.ref l3), x8, x9, x10] ∧ Grow (WtR K) H' l3 ((cs.take j).flatMap (wstep hi t x y)) H2)
        ⟨x8, x9, x10, rfl, Grow.start hl3⟩ (fun j σ H2 _ z => ?_) (fun j z0 σ H2 hz0 z => ?_) (fun σ H2 z => ?_)
      · obtain ⟨x8, x9, x10, rfl, ps, s3, _⟩ := z
        exact SqL.of (s3 _ _ hl1)
      · obtain ⟨x8, x9, x10, rfl, ps, s3, h3, hc3⟩ := z
        obtain ⟨q1, hq1, rfl⟩ := map_at hz0
        obtain ⟨⟨d1, wt, k⟩, hd12, la, f1, f2⟩ := Pd.get hC hq1
        have dl1 := hd _ (List.mem_of_getElem? hd12)
        dsimp only at dl1 f1 f2
        have f1' : H2 q1 = some (.tup [.ref la, nv wt, nv k]) := s3 _ _ f1
        have f2' : SqL K H2 la (nl d1) := s3.seq f2
        have h9 := flat_two (wstep_len hi t x y) (cs.take j)
        have h8 : (cs.take j).length ≤ cs.length := List.length_take_le' ..
        have c1 : V.int ((wt : Int) * ((y : Int) - (x : Int))) = nv (wt * (y - x)) := by
          unfold nv
          rw [show ((y : Int) - (x : Int)) = ((y - x : Nat) : Int) by omega, Int.natCast_mul]
        have c2 : V.int ((wt : Int) * (x : Int)) = nv (wt * x) := by
          unfold nv
          rw [Int.natCast_mul]
        have c3 : V.int ((k : Int) + ((b2n (decide ((1 : Nat) = 1) && decide (d1.getD hi 0 = 0)) : Nat) : Int)) = nv (k + b2n (Mu44.goes ⟨d1, hi⟩ (mk t 1 0)).2) := by
          unfold nv
          rw [goes_wet, Int.natCast_add]
        refine ⟨q1, _, rfl, SqT.of f1', rfl, _, _, rfl, _, _, rfl, _, _, rfl, rfl, ?_⟩
        refine ⟨_, rfl, .inl ⟨rfl, _, SqL.of h3⟩, _, rfl, _, rfl, _, rfl, la, d1, hi, t, 0, 0, rfl, f2', by omega, by omega, by omega, fun H4 p2 s4 n2 e2 => ?_⟩
        refine ⟨_, rfl, _, rfl, _, rfl, _, _, rfl, rfl, _, _, rfl, rfl, .inr ⟨by omega, by omega⟩, _, rfl, by show 3 ≤ sizeLine; decide, fun t1 ht1 => ?_⟩
        dsimp only
        rw [c1]
        have s5 : Same H2 (upd H4 t1 (.tup [.ref p2, nv (wt * (y - x)), nv k])) := fun b' o' e' => same_new ht1 _ _ (s4 _ _ e')
        have np2 : p2 ≠ l3 := fun z => by rw [z, h3] at n2; cases n2
        have nt1 : t1 ≠ l3 := fun z => by rw [z, s4 _ _ h3] at ht1; cases ht1
        have np2t : p2 ≠ t1 := ne_of_none e2 ht1
        refine ⟨l3, ps.map V.ref, _, rfl, rfl, s5 _ _ h3, (by rw [List.length_map, Paired.length (hc3 (.lst []))]; omega), ?_⟩
        have g1 := Grow.add (x := ((Mu44.goes ⟨d1, hi⟩ (mk t 0 0)).1.at_, wt * (y - x), k)) WtR.mono hl3 s3 hc3 s5 fun o => ⟨p2, (by rw [upd_ne nt1]; exact upd_same), SqL.of (by rw [upd_ne np2, upd_ne np2t]; exact e2)⟩
        generalize upd (upd H4 t1 (.tup [.ref p2, nv (wt * (y - x)), nv k])) l3 (.lst (ps.map V.ref ++ [.ref t1])) = H6 at g1
        obtain ⟨ps6, s6, h6, hc6⟩ := g1
        have f2'' : SqL K H6 la (nl d1) := s6.seq f2
        refine ⟨_, rfl, .inl ⟨rfl, _, SqL.of h6⟩, _, rfl, _, rfl, _, rfl, la, d1, hi, t, 1, 0, rfl, f2'', by omega, by omega, by omega, fun H7 p3 s7 n3 e3 => ?_⟩
        refine ⟨_, rfl, _, rfl, _, _, rfl, rfl, .inr ⟨by omega, by omega⟩, _, rfl, _, rfl, _, rfl, la, d1, hi, 1, rfl, s7.seq f2'', by omega, _, _, rfl, rfl, by show 3 ≤ sizeLine; decide, fun t2 ht2 => ?_⟩
        dsimp only
        rw [c2, c3]
        have s8 : Same H6 (upd H7 t2 (.tup [.ref p3, nv (wt * x), nv (k + b2n (Mu44.goes ⟨d1, hi⟩ (mk t 1 0)).2)])) := fun b' o' e' => same_new ht2 _ _ (s7 _ _ e')
        have np3 : p3 ≠ l3 := fun z => by rw [z, h6] at n3; cases n3
        have nt2 : t2 ≠ l3 := fun z => by rw [z, s7 _ _ h6] at ht2; cases ht2
        have np3t : p3 ≠ t2 := ne_of_none e3 ht2
        refine ⟨l3, ps6.map V.ref, _, rfl, rfl, s8 _ _ h6, (by rw [List.length_map, Paired.length (hc6 (.lst [])), List.length_append, List.length_singleton]; omega), some (.ref la), some (nv wt), some (nv k), rfl, ?_⟩
        have g2 := Grow.add (x := ((Mu44.goes ⟨d1, hi⟩ (mk t 1 0)).1.at_, wt * x, k + b2n (Mu44.goes ⟨d1, hi⟩ (mk t 1 0)).2)) WtR.mono hl3 s6 hc6 s8 fun o => ⟨p3, (by rw [upd_ne nt2]; exact upd_same), SqL.of (by rw [upd_ne np3, upd_ne np3t]; exact e3)⟩
        rw [take_more hd12, List.flatMap_append]
        rw [List.append_assoc] at g2
        exact g2
      · obtain ⟨x8, x9, x10, rfl, ps, s3, h3, hc3⟩ := z
        have hc4 := Grow.now h3 hc3
        rw [List.length_map, Paired.length hC, List.take_length] at hc4
        refine ⟨_, rfl, _, rfl, l3, ps, cs.flatMap (wstep hi t x y), t, some (.int (t : Int)), some (.ref l3), x8, x9, x10, rfl, fun b' o' e' => s3 _ _ (s1 _ _ e'), h3, hc4, fun d0 hd0 => ?_, htn, ?_, ?_⟩
        · obtain ⟨d1, hd1, hm⟩ := List.mem_flatMap.mp hd0
          have e1 := hd d1 hd1
          rcases List.mem_cons.mp hm with hm | hm
          · rw [hm]
            exact (goes_len _ _).trans e1
          · rw [List.mem_singleton.mp hm]
            exact (goes_len _ _).trans e1
        · have := flat_two (wstep_len hi t x y) cs
          rw [Nat.pow_succ]
          omega
        · rw [List.flatMap_assoc, ← heq]
          exact flat_congr fun d1 _ => (wfin_step hi t x y _ d1).symm
    · obtain ⟨l1, qs, cs, hi, x6, x7, x8, x9, x10, rfl, s1, hl1, hC, hd, hhi, hcl, heq⟩ := z
      rw [nl_len, List.drop_length] at heq
      rw [nl_len] at hcl
      have c256 : cs.length ≤ 256 := by
        have : 2 ^ r.length ≤ 2 ^ 8 := Nat.pow_le_pow_right (by decide) hz2
        have h7 : (2 : Nat) ^ 8 = 256 := by decide
        omega
      have heq2 : cs.map (fun d => d.2) = wts ⟨l, h⟩ x y r := by
        rw [← heq]
        have : ∀ ds : List Wt, ds.map (fun d => d.2) = ds.flatMap (wfin hi x y []) := fun ds => by
          induction ds with
          | nil => rfl
          | cons d ds ih =>
            rw [List.flatMap_cons, List.map_cons, ih]
            show _ = [(d.2.1 * 1, d.2.2 + 0)] ++ _
            rw [Nat.mul_one]
            rfl
        exact this cs
      refine ⟨_, rfl, l1, rfl, ⟨_, SqL.of hl1⟩, fun D hD => ?_⟩
      have lD : l1 ≠ D := ne_of_none hl1 hD
      refine lc_list (K := K) (a := l1) (xs := qs.map V.ref) (fun m H3 => Grow (fun H q (x : Nat × Nat) => H q = some (.tup [nv x.1, nv x.2])) H' D ((cs.take m).map fun d => d.2) H3) (Grow.start hD) (fun m H3 _ z => ?_) (fun m x H3 hx z => ?_) (fun H3 z => ?_)
      · obtain ⟨ps, s3, _⟩ := z
        exact SqL.of (s3 _ _ hl1)
      · obtain ⟨ps, s3, h3, hc3⟩ := z
        obtain ⟨q1, hq1, rfl⟩ := map_at hx
        obtain ⟨⟨d1, wt, k⟩, hd1, la, f1, f2⟩ := Pd.get hC hq1
        refine ⟨q1, _, rfl, SqT.of (s3 _ _ f1), rfl, _, _, rfl, _, _, rfl, _, _, rfl, rfl, rfl, ?_⟩
        unfold tYes
        refine if_t rfl ?_
        refine ⟨_, rfl, _, rfl, by show 2 ≤ sizeLine; decide, fun t1 ht1 => ?_⟩
        have nt1 : t1 ≠ D := fun z => by rw [z, h3] at ht1; cases ht1
        refine ⟨ps.map V.ref, (by rw [upd_ne (Ne.symm nt1)]; exact h3), ?_, ?_⟩
        · rw [List.length_map, Paired.length (hc3 (.lst [])), List.length_map]
          have : (cs.take m).length ≤ cs.length := List.length_take_le' ..
          omega
        · rw [take_more hd1, List.map_append]
          exact Grow.add (x := (wt, k)) (fun H H' q x s e => s _ _ e) hD s3 hc3 (same_new ht1) fun o => by rw [upd_ne nt1]; exact upd_same
      · obtain ⟨ps, s3, h3, hc3⟩ := z
        have hc4 := Grow.now (R := fun H q (x : Nat × Nat) => H q = some (.tup [nv x.1, nv x.2])) h3 hc3
        rw [List.length_map, Paired.length hC, List.take_length, heq2] at hc4
        exact q _ D ps (fun b' o' e' => s3 _ _ (s1 _ _ e')) (s1.free hD) h3 hc4
theorem ok_weigh_weathers (T : Txt K mg) (D_after_way : Def P w K mg base 1 (He.ga K "after_way") ["umbrellas", "here", "place", "rains", "carried"] (sp_after_way K)) (D_gets_wet : Def P w K mg base 1 (He.ga K "gets_wet") ["umbrellas", "here", "rains"] (sp_gets_wet K)) : Def P w K mg base 2 (He.ga K "weigh_weathers") ["umbrellas", "here", "route", "a", "b"] (sp_weigh_weathers K) := by
  obtain ⟨fd, F⟩ := T.F_weigh_weathers
  exact ⟨⟨fd, fo_weigh_weathers T D_after_way D_gets_wet F, F.binds fun _ _ _ _ _ _ us hl => match us, hl with | [_, _, _, _, _], _ => rfl⟩, F.kp⟩

end
end Ww
namespace Ww
open PySem PySem.Spec PyProof.Rows L2
section
variable {P : Program} {w : World} {K : PySem.W.Frag} {mg : Str → Option Value} {base : Heap}
/-- Walker.least: slots 0 self, 1 route, 2 weather, 3 needed -/
theorem fo_Walker_least (T : Txt K mg) (D_least_needed : Def P w K mg base 2 (He.ga K "least_needed") ["places", "here", "route", "weather"] (sp_least_needed K)) {fd : FuncData} (F : Fun K "least" "Walker.least" s_Walker_least (He.ma K (He.ga K "Walker") "least") fd) : FnOk P w K mg base CX0 3 (He.ma K (He.ga K "Walker") "least") fd ["self", "route", "weather"] (sp_Walker_least K) := by
  obtain ⟨fd_least_needed, G_least_needed, b_least_needed⟩ := D_least_needed.ex
  refine F.ok sc_Walker_least (fun vs H Q E h => ?_) (fun cdv A outer s H vs Q E hr h => ?_)
  · obtain ⟨a, u, b, c, m, r, v, rfl, W, hb, hc, hh, hz, ht, hlen, hz2, q⟩ := h
    rfl
  · obtain ⟨a, u, b, c, m, r, v, rfl, W, hb, hc, hh, hz, ht, hlen, hz2, q⟩ := h
    refine ⟨_, (pss_cons (ps_set (i := 3) sc_Walker_least.nd rfl (Or.inl rfl) (pe_call G_least_needed (hr.mono (by decide)) rfl T.g_least_needed D_least_needed.kp b_least_needed .nil pass0 (pa_cons (pe_callB call_len_seq (by rfl) T.b_len (by decide +kernel) (pa_cons (pe_fld (pv 0) rfl) pa_nil)) (pa_cons (pe_fld (pv 0) rfl) (pa_cons (pv 1) (pa_cons (pv 2) pa_nil))))))
      (pss_one (ps_ret (pe_op op_cat (pe_lst (pa_cons (pe_callB (id := "sum") (r := rSum K) (cr_sum rfl) (by rfl) T.b_sum (by decide +kernel) (pa_cons (pv 3) pa_nil)) pa_nil)) (pv 3))))), ?_⟩
    have W' := W
    obtain ⟨⟨dx, h1⟩, h2⟩ := W'
    refine ⟨_, rfl, a, _, dx, _, _, rfl, h1, T.cl_Walker, T.n_Walker_umbrellas, rfl, u, _, rfl, .inl (SqL.of h2), _, rfl, a, _, dx, _, _, rfl, h1, T.cl_Walker, T.n_Walker_here, rfl, _, rfl, _, rfl, b, c, r, v, m.l.length, m.here, (by rw [nl_len]; rfl), hb, hc, hh, hz, ht, hlen, hz2, fun H1 p1 s1 n1 e1 => ?_⟩
    refine ⟨_, rfl, p1, (Mu44.least m.l.length m.here (ways r v)).map fun (n : Nat) => (n : Int), rfl, (by rw [← nl_ints]; exact SqL.of e1), by show 1 ≤ sizeLine; decide, fun p2 hp2 => ?_⟩
    have p12 : p1 ≠ p2 := ne_of_none e1 hp2
    have hp2' : H p2 = none := s1.free hp2
    refine ⟨_, rfl, p2, p1, _, _, rfl, rfl, upd_same, (by rw [upd_ne p12]; exact e1), ?_, fun p3 hp3 => ?_⟩
    · rw [nl_len]
      unfold Mu44.least
      rw [List.length_map, List.length_range]
      show 1 + m.l.length ≤ sizeLine
      exact Nat.le_trans (Nat.add_le_add_left hz 1) (by decide)
    obtain ⟨p32, hp3'⟩ := un_none hp3
    refine Ret.still q W (same_upd (same_upd s1 hp2') (s1.free hp3')) (s1.free hp3') ?_
    rw [upd_same, sum_cast, nl_ints]
    rfl
theorem ok_Walker_least (T : Txt K mg) (D_least_needed : Def P w K mg base 2 (He.ga K "least_needed") ["places", "here", "route", "weather"] (sp_least_needed K)) : Def P w K mg base 3 (He.ma K (He.ga K "Walker") "least") ["self", "route", "weather"] (sp_Walker_least K) := by
  obtain ⟨fd, F⟩ := T.F_Walker_least
  exact ⟨⟨fd, fo_Walker_least T D_least_needed F, F.binds fun _ _ _ _ _ _ us hl => match us, hl with | [_, _, _], _ => rfl⟩, F.kp⟩

/-- Walker.carried: slots 0 self, 1 route, 2 weather, 3 choices, 4 fewest -/
theorem fo_Walker_carried (T : Txt K mg) (D_dry_choices : Def P w K mg base 2 (He.ga K "dry_choices") ["umbrellas", "here", "route", "weather"] (sp_dry_choices K)) {fd : FuncData} (F : Fun K "carried" "Walker.carried" s_Walker_carried (He.ma K (He.ga K "Walker") "carried") fd) : FnOk P w K mg base CX0 3 (He.ma K (He.ga K "Walker") "carried") fd ["self", "route", "weather"] (sp_Walker_carried K) := by
  obtain ⟨fd_dry_choices, G_dry_choices, b_dry_choices⟩ := D_dry_choices.ex
  refine F.ok sc_Walker_carried (fun vs H Q E h => ?_) (fun cdv A outer s H vs Q E hr h => ?_)
  · obtain ⟨a, u, b, c, m, r, v, rfl, W, hb, hc, hh, hz, ht, hlen, hx2, hz2, q⟩ := h
    rfl
  · obtain ⟨a, u, b, c, m, r, v, rfl, W, hb, hc, hh, hz, ht, hlen, hx2, hz2, q⟩ := h
    refine ⟨_, (pss_cons (ps_set (i := 3) sc_Walker_carried.nd rfl (Or.inl rfl) (pe_call G_dry_choices (hr.mono (by decide)) rfl T.g_dry_choices D_dry_choices.kp b_dry_choices .nil pass0 (pa_cons (pe_fld (pv 0) rfl) (pa_cons (pe_fld (pv 0) rfl) (pa_cons (pv 1) (pa_cons (pv 2) pa_nil))))))
      (pss_cons (ps_if (pt_cmpR op_eq (pe_callB call_len_seq (by rfl) T.b_len (by decide +kernel) (pa_cons (pv 3) pa_nil)) pe_int (nomark _)) (pss_one (ps_ret (pe_lst (pa_cons (pe_num rfl T.c_WET_ANYWAY) pa_nil))))
      pss_nil)
      (pss_cons (ps_set (i := 4) sc_Walker_carried.nd rfl (Or.inl rfl) (pe_minSum rfl (by rfl) T.b_min (by rfl) T.b_sum (pa_cons (pv 3) pa_nil)))
      (pss_one (ps_ret (pe_op op_cat (pe_lst (pa_cons (pe_callB (id := "sum") (r := rSum K) (cr_sum rfl) (by rfl) T.b_sum (by decide +kernel) (pa_cons (pv 4) pa_nil)) pa_nil)) (pv 4))))))), ?_⟩
    have W' := W
    obtain ⟨⟨dx, h1⟩, h2⟩ := W'
    have line : 10000 ≤ sizeLine := by decide
    refine ⟨_, rfl, a, _, dx, _, _, rfl, h1, T.cl_Walker, T.n_Walker_umbrellas, rfl, _, rfl, a, _, dx, _, _, rfl, h1, T.cl_Walker, T.n_Walker_here, rfl, _, rfl, _, rfl, u, b, c, m.l, r, v, m.here, rfl, SqL.of h2, hb, hc, hh, hz, ht, hlen, hx2, hz2, fun H1 p1 qs s1 n1 e1 hL => ?_⟩
    have eL : qs.length = (good ⟨m.l, m.here⟩ (ways r v)).length := by rw [Paired.length hL, List.length_map]
    refine ⟨_, rfl, p1, _, rfl, .inl (SqL.of e1), rfl, _, rfl, ?_⟩
    rw [show decide (V.int (((qs.map V.ref).length : Nat) : Int) = V.int 0) = decide ((qs.map V.ref).length = 0) from dec_vnat (j := 0), List.length_map]
    refine if_d (fun e => ?_) (fun e => ?_)
    · refine ⟨by show 1 ≤ sizeLine; decide, fun p hp => ?_⟩
      have hg : good ⟨m.l, m.here⟩ (ways r v) = [] := List.eq_nil_of_length_eq_zero (by omega)
      unfold mCar at q
      rw [carried_none hg] at q
      exact Ret.still q W (same_upd s1 (s1.free hp)) (s1.free hp) upd_same
    · refine ⟨_, rfl, p1, qs, fun i => ((((good ⟨m.l, m.here⟩ (ways r v)).getD i []).map fun w => b2n w.carry).sum : Nat), rfl, SqL.of e1, by omega, fun i q1 hq1 => ?_, fun i q1 H2 hq1 hf s2 => ?_⟩
      · obtain ⟨f, hf, hq⟩ := Pd.get hL hq1
        obtain ⟨g, hg, rfl⟩ := map_at hf
        refine ⟨(flags g).map fun (n : Nat) => (n : Int), (by rw [← nl_ints]; exact SqL.of hq), ?_⟩
        dsimp only
        rw [sum_cast, List.getD_eq_getElem?_getD, hg]
        rfl
      · obtain ⟨f, hf', hq⟩ := Pd.get hL hq1
        obtain ⟨g, hg, rfl⟩ := map_at hf'
        have hca : Mu44.carried ⟨m.l, m.here⟩ (ways r v) = some (cnt g, g) := by
          refine carried_fst (kf := fun i => (((good ⟨m.l, m.here⟩ (ways r v)).getD i []).map fun w => b2n w.carry).sum) hg (fun j p hj => ?_) fun j hj => ?_
          · rw [List.getD_eq_getElem?_getD, hj]
            rfl
          · have := hf j (by omega)
            dsimp only at this ⊢
            exact ⟨by have := this.1; omega, fun z => by have := this.2 z; omega⟩
        have hq2 : H2 q1 = some (.lst (nl (flags g))) := s2 _ _ hq
        unfold mCar at q
        rw [hca] at q
        have sH : Same H H2 := fun b' o' e' => s2 _ _ (s1 _ _ e')
        have hgl : g.length ≤ 8 := by
          have e1 := good_len _ _ g (List.mem_of_getElem? hg)
          rw [ways_len _ _ hlen] at e1
          omega
        refine ⟨_, rfl, q1, (flags g).map fun (n : Nat) => (n : Int), rfl, (by rw [← nl_ints]; exact SqL.of hq2), by show 1 ≤ sizeLine; decide, fun p2 hp2 => ?_⟩
        have p12 : q1 ≠ p2 := ne_of_none hq2 hp2
        refine ⟨_, rfl, p2, q1, _, _, rfl, rfl, upd_same, (by rw [upd_ne p12]; exact hq2), ?_, fun p3 hp3 => ?_⟩
        · rw [nl_len]
          unfold flags
          rw [List.length_map]
          show 1 + g.length ≤ sizeLine
          omega
        obtain ⟨p32, hp3'⟩ := un_none hp3
        refine Ret.still q W (same_upd (same_upd sH (sH.free hp2)) (sH.free hp3')) (sH.free hp3') ?_
        rw [upd_same, sum_cast, nl_ints]
        rfl
theorem ok_Walker_carried (T : Txt K mg) (D_dry_choices : Def P w K mg base 2 (He.ga K "dry_choices") ["umbrellas", "here", "route", "weather"] (sp_dry_choices K)) : Def P w K mg base 3 (He.ma K (He.ga K "Walker") "carried") ["self", "route", "weather"] (sp_Walker_carried K) := by
  obtain ⟨fd, F⟩ := T.F_Walker_carried
  exact ⟨⟨fd, fo_Walker_carried T D_dry_choices F, F.binds fun _ _ _ _ _ _ us hl => match us, hl with | [_, _, _], _ => rfl⟩, F.kp⟩

/-- Walker.chance: slots 0 self, 1 a, 2 b, 3 route, 4 weathers, 5 whole, 6 dry, 7 wet_in_all, 8 weight, 9 wet -/
theorem fo_Walker_chance (T : Txt K mg) (D_lowest_terms : Def P w K mg base 1 (He.ga K "lowest_terms") ["divided", "by"] (sp_lowest_terms K)) (D_weigh_weathers : Def P w K mg base 2 (He.ga K "weigh_weathers") ["umbrellas", "here", "route", "a", "b"] (sp_weigh_weathers K)) {fd : FuncData} (F : Fun K "chance" "Walker.chance" s_Walker_chance (He.ma K (He.ga K "Walker") "chance") fd) : FnOk P w K mg base CX0 3 (He.ma K (He.ga K "Walker") "chance") fd ["self", "a", "b", "route"] (sp_Walker_chance K) := by
  obtain ⟨fd_lowest_terms, G_lowest_terms, b_lowest_terms⟩ := D_lowest_terms.ex
  obtain ⟨fd_weigh_weathers, G_weigh_weathers, b_weigh_weathers⟩ := D_weigh_weathers.ex
  refine F.ok sc_Walker_chance (fun vs H Q E h => ?_) (fun cdv A outer s H vs Q E hr h => ?_)
  · obtain ⟨a, u, b, m, x, y, r, rfl, W, hb, hh, hz, ht, hy9, hz2, q⟩ := h
    rfl
  · obtain ⟨a, u, b, m, x, y, r, rfl, W, hb, hh, hz, ht, hy9, hz2, q⟩ := h
    refine ⟨_, (pss_cons (ps_if (PW.pt (pw_or (pt_cmpR op_eq (pv 2) pe_int (nomark _)) (pw_or1 (pt_cmpR op_gt (pv 1) (pv 2) (nomark _))))) (pss_one (ps_ret (pe_lst (pa_cons (pe_num rfl T.c_NOT_GRANTED) pa_nil))))
      pss_nil)
      (pss_cons (ps_set (i := 4) sc_Walker_chance.nd rfl (Or.inl rfl) (pe_call G_weigh_weathers (hr.mono (by decide)) rfl T.g_weigh_weathers D_weigh_weathers.kp b_weigh_weathers .nil pass0 (pa_cons (pe_fld (pv 0) rfl) (pa_cons (pe_fld (pv 0) rfl) (pa_cons (pv 3) (pa_cons (pv 1) (pa_cons (pv 2) pa_nil)))))))
      (pss_cons (ps_set (i := 5) sc_Walker_chance.nd rfl (Or.inl rfl) (pe_callB (id := "sum") (r := rSum K) (cr_sum rfl) (by rfl) T.b_sum (by decide +kernel) (pa_cons (pe_lc (own := [("weight", 8), ("wet", 9)]) (g := gTup K 2 (gCons (gName 8) (gCons (gName 9) gNil))) rfl sc_Walker_chance.nd (pi_list (pv 4)) (blkOk_by (own := [("weight", 8), ("wet", 9)]) (N := ["self", "a", "b", "route", "weathers", "whole", "dry", "wet_in_all", "weight", "wet"]) (sc := defScope s_Walker_chance) (by decide +kernel)) (fun _ _ _ _ _ => (pg_tup rfl (pgs_cons (pg_name (i := 8) sc_Walker_chance.nd rfl (Or.inl rfl)) (pgs_cons (pg_name (i := 9) sc_Walker_chance.nd rfl (Or.inl rfl)) pgs_nil)))) (fun _ _ _ _ _ => pts_nil) (fun _ _ _ _ _ => (pv 8))) pa_nil)))
      (pss_cons (ps_set (i := 6) sc_Walker_chance.nd rfl (Or.inl rfl) (pe_callB (id := "sum") (r := rSum K) (cr_sum rfl) (by rfl) T.b_sum (by decide +kernel) (pa_cons (pe_lc (own := [("weight", 8), ("wet", 9)]) (g := gTup K 2 (gCons (gName 8) (gCons (gName 9) gNil))) rfl sc_Walker_chance.nd (pi_list (pv 4)) (blkOk_by (own := [("weight", 8), ("wet", 9)]) (N := ["self", "a", "b", "route", "weathers", "whole", "dry", "wet_in_all", "weight", "wet"]) (sc := defScope s_Walker_chance) (by decide +kernel)) (fun _ _ _ _ _ => (pg_tup rfl (pgs_cons (pg_name (i := 8) sc_Walker_chance.nd rfl (Or.inl rfl)) (pgs_cons (pg_name (i := 9) sc_Walker_chance.nd rfl (Or.inl rfl)) pgs_nil)))) (fun _ _ _ _ _ => (pts_one (pt_cmpR op_eq (pv 9) pe_int (nomark _)))) (fun _ _ _ _ _ => (pv 8))) pa_nil)))
      (pss_cons (ps_set (i := 7) sc_Walker_chance.nd rfl (Or.inl rfl) (pe_callB (id := "sum") (r := rSum K) (cr_sum rfl) (by rfl) T.b_sum (by decide +kernel) (pa_cons (pe_lc (own := [("weight", 8), ("wet", 9)]) (g := gTup K 2 (gCons (gName 8) (gCons (gName 9) gNil))) rfl sc_Walker_chance.nd (pi_list (pv 4)) (blkOk_by (own := [("weight", 8), ("wet", 9)]) (N := ["self", "a", "b", "route", "weathers", "whole", "dry", "wet_in_all", "weight", "wet"]) (sc := defScope s_Walker_chance) (by decide +kernel)) (fun _ _ _ _ _ => (pg_tup rfl (pgs_cons (pg_name (i := 8) sc_Walker_chance.nd rfl (Or.inl rfl)) (pgs_cons (pg_name (i := 9) sc_Walker_chance.nd rfl (Or.inl rfl)) pgs_nil)))) (fun _ _ _ _ _ => pts_nil) (fun _ _ _ _ _ => (pe_op op_mul (pv 8) (pv 9)))) pa_nil)))
      (pss_one (ps_ret (pe_op op_cat (pe_call G_lowest_terms (hr.mono (by decide)) rfl T.g_lowest_terms D_lowest_terms.kp b_lowest_terms .nil pass0 (pa_cons (pv 6) (pa_cons (pv 5) pa_nil))) (pe_call G_lowest_terms (hr.mono (by decide)) rfl T.g_lowest_terms D_lowest_terms.kp b_lowest_terms .nil pass0 (pa_cons (pv 7) (pa_cons (pv 5) pa_nil))))))))))), ?_⟩
    have W' := W
    obtain ⟨⟨dx, h1⟩, h2⟩ := W'
    have no : (y = 0 ∨ y < x) → ∀ p, H p = none → Q (.ref p) (upd H p (.lst [.int (-1)])) := fun c p hp => by
      unfold mCh at q
      rw [if_pos c] at q
      exact Ret.still q W (same_new hp) hp upd_same
    refine ⟨_, rfl, rfl, _, rfl, ?_⟩
    rw [show decide (V.int (y : Int) = V.int 0) = decide (y = 0) from dec_vnat (j := 0)]
    refine if_d (fun e => ?_) (fun e => ?_)
    · exact if_t rfl ⟨by show 1 ≤ sizeLine; decide, fun p hp => no (.inl e) p hp⟩
    refine ⟨_, rfl, _, rfl, _, _, rfl, rfl, _, rfl, ?_⟩
    refine if_d (fun e2 => ?_) (fun e2 => ?_)
    · exact ⟨by show 1 ≤ sizeLine; decide, fun p hp => no (by omega) p hp⟩
    unfold mCh at q
    rw [if_neg (by omega)] at q
    refine ⟨_, rfl, a, _, dx, _, _, rfl, h1, T.cl_Walker, T.n_Walker_umbrellas, rfl, _, rfl, a, _, dx, _, _, rfl, h1, T.cl_Walker, T.n_Walker_here, rfl, _, rfl, _, rfl, _, rfl, u, b, m.l, r, m.here, x, y, rfl, SqL.of h2, hb, hh, hz, ht, by omega, hy9, hz2, fun H1 p1 qs s1 n1 e1 hT => ?_⟩
    have wl : (wts ⟨m.l, m.here⟩ x y r).length ≤ 1000 := by
      rw [wts_len]
      have : 2 ^ r.length ≤ 2 ^ 8 := Nat.pow_le_pow_right (by decide) hz2
      have h7 : (2 : Nat) ^ 8 = 256 := by decide
      omega
    show tCB (rSum K) (tCons (tLc (iList K (tVar 4)) (gTup K 2 (gCons (gName 8) (gCons (gName 9) gNil))) tYes (tVar 8) [8, 9]) tNil) _ _ _
    refine sum_pairs (K := K) (i := 8) (j := 9) (by decide) (fun _ => true) (fun z => z.1) (fun R hR => ⟨_, rfl, hR⟩) e1 hT wl (fun z H' R _ hR => hR) (fun z H' R _ hR => ⟨_, rfl, hR⟩) fun H2 s2 => ?_
    rw [filt_all, whole_eq (by omega)]
    show tCB (rSum K) (tCons (tLc (iList K (tVar 4)) (gTup K 2 (gCons (gName 8) (gCons (gName 9) gNil))) (tTest (tOp rEq (tVar 9) (tC (V.int 0)))) (tVar 8) [8, 9]) tNil) _ _ _
    refine sum_pairs (K := K) (i := 8) (j := 9) (ws := wts ⟨m.l, m.here⟩ x y r) (by decide) (fun z => decide (z.2 = 0)) (fun z => z.1) (fun R hR => ⟨_, rfl, hR⟩) (s2 _ _ e1) (Pd.mono hT fun q' _ y' hy' => s2 _ _ hy') wl (fun z H' R _ hR => ⟨_, rfl, rfl, _, rfl, ?_⟩) (fun z H' R _ hR => ⟨_, rfl, hR⟩) fun H3 s3 => ?_
    · rw [show decide (nv z.2 = V.int 0) = decide (z.2 = 0) from dec_vnat (j := 0)]
      exact hR
    show tCB (rSum K) (tCons (tLc (iList K (tVar 4)) (gTup K 2 (gCons (gName 8) (gCons (gName 9) gNil))) tYes (tOp (rI CMul fun i j => V.int (i * j)) (tVar 8) (tVar 9)) [8, 9]) tNil) _ _ _
    refine sum_pairs (K := K) (i := 8) (j := 9) (ws := wts ⟨m.l, m.here⟩ x y r) (by decide) (fun _ => true) (fun z => z.1 * z.2) (fun R hR => ⟨_, rfl, hR⟩) (s3 _ _ (s2 _ _ e1)) (Pd.mono hT fun q' _ y' hy' => s3 _ _ (s2 _ _ hy')) wl (fun z H' R _ hR => hR) (fun z H' R hz' hR => ⟨_, rfl, _, rfl, _, _, rfl, rfl, .inr ?_, ?_⟩) fun H4 s4 => ?_
    · have := wts_wet hz'
      omega
    · dsimp only
      rw [show V.int ((z.1 : Int) * (z.2 : Int)) = nv (z.1 * z.2) by unfold nv; rw [Int.natCast_mul]]
      exact hR
    rw [filt_all]
    have ypos : 0 < y ^ r.length := Nat.pow_pos (by omega)
    have ybig := pow_bound hy9 hz2
    rw [dry_eq, wet_eq, lowest_pos ypos, lowest_pos ypos] at q
    have sH : Same H H4 := fun b' o' e' => s4 _ _ (s3 _ _ (s2 _ _ (s1 _ _ e')))
    refine ⟨_, rfl, _, rfl, dryN ⟨m.l, m.here⟩ x y r, y ^ r.length, rfl, ypos, by omega, fun H5 p5 s5 n5 e5 => ?_⟩
    refine ⟨_, rfl, _, rfl, wetN ⟨m.l, m.here⟩ x y r, y ^ r.length, rfl, ypos, by omega, fun H6 p6 s6 n6 e6 => ?_⟩
    have s7 : Same H H6 := fun b' o' e' => s6 _ _ (s5 _ _ (sH _ _ e'))
    refine ⟨p5, p6, _, _, rfl, rfl, s6 _ _ e5, e6, by show 4 ≤ sizeLine; decide, fun p hp => ?_⟩
    refine Ret.still q W (same_upd s7 (s7.free hp)) (s7.free hp) ?_
    rw [upd_same]
    rfl
theorem ok_Walker_chance (T : Txt K mg) (D_lowest_terms : Def P w K mg base 1 (He.ga K "lowest_terms") ["divided", "by"] (sp_lowest_terms K)) (D_weigh_weathers : Def P w K mg base 2 (He.ga K "weigh_weathers") ["umbrellas", "here", "route", "a", "b"] (sp_weigh_weathers K)) : Def P w K mg base 3 (He.ma K (He.ga K "Walker") "chance") ["self", "a", "b", "route"] (sp_Walker_chance K) := by
  obtain ⟨fd, F⟩ := T.F_Walker_chance
  exact ⟨⟨fd, fo_Walker_chance T D_lowest_terms D_weigh_weathers F, F.binds fun _ _ _ _ _ _ us hl => match us, hl with | [_, _, _, _], _ => rfl⟩, F.kp⟩

/-- Walker.look: slots 0 self -/
theorem fo_Walker_look (T : Txt K mg) {fd : FuncData} (F : Fun K "look" "Walker.look" s_Walker_look (He.ma K (He.ga K "Walker") "look") fd) : FnOk P w K mg base CX0 1 (He.ma K (He.ga K "Walker") "look") fd ["self"] (sp_Walker_look K) := by
  refine F.ok sc_Walker_look (fun vs H Q E h => ?_) (fun cdv A outer s H vs Q E hr h => ?_)
  · obtain ⟨a, u, m, rfl, W, hz, q⟩ := h
    rfl
  · obtain ⟨a, u, m, rfl, W, hz, q⟩ := h
    refine ⟨_, (pss_one (ps_ret (pe_op op_cat (pe_lst (pa_cons (pe_fld (pv 0) rfl) (pa_cons (pe_fld (pv 0) rfl) (pa_cons (pe_fld (pv 0) rfl) (pa_cons (pe_fld (pv 0) rfl) (pa_cons (pe_fld (pv 0) rfl) pa_nil)))))) (pe_fld (pv 0) rfl)))), ?_⟩
    have W' := W
    obtain ⟨⟨dx, h1⟩, h2⟩ := W'
    refine ⟨_, rfl, a, _, dx, _, _, rfl, h1, T.cl_Walker, T.n_Walker_gone, rfl, _, rfl, a, _, dx, _, _, rfl, h1, T.cl_Walker, T.n_Walker_wet, rfl, _, rfl, a, _, dx, _, _, rfl, h1, T.cl_Walker, T.n_Walker_come, rfl, _, rfl, a, _, dx, _, _, rfl, h1, T.cl_Walker, T.n_Walker_lost, rfl, _, rfl, a, _, dx, _, _, rfl, h1, T.cl_Walker, T.n_Walker_here, rfl, by show 5 ≤ sizeLine; decide, fun p hp => ?_⟩
    have ap : a ≠ p := ne_of_none h1 hp
    have up : u ≠ p := ne_of_none h2 hp
    refine ⟨_, rfl, a, _, dx, _, _, rfl, (by rw [upd_ne ap]; exact h1), T.cl_Walker, T.n_Walker_umbrellas, rfl, p, u, _, _, rfl, rfl, upd_same, (by rw [upd_ne up]; exact h2), ?_, fun p2 hp2 => ?_⟩
    · rw [nl_len]
      show 5 + m.l.length ≤ sizeLine
      exact Nat.le_trans (Nat.add_le_add_left hz 5) (by decide)
    obtain ⟨p2p, hp2'⟩ := un_none hp2
    refine Ret.still q W (same_upd (same_new hp) hp2') hp2' ?_
    rw [upd_same, nl_ints]
    rfl
theorem ok_Walker_look (T : Txt K mg) : Def P w K mg base 1 (He.ma K (He.ga K "Walker") "look") ["self"] (sp_Walker_look K) := by
  obtain ⟨fd, F⟩ := T.F_Walker_look
  exact ⟨⟨fd, fo_Walker_look T F, F.binds fun _ _ _ _ _ _ us hl => match us, hl with | [_], _ => rfl⟩, F.kp⟩

end
end Ww
namespace Ww
open PySem PySem.Spec PyProof.Rows L2 NdefX LamX
section
variable {P : Program} {w : World} {K : PySem.W.Frag} {mg : Str → Option Value} {base : Heap}
/-- best_put by its body, its code object known -/
theorem ok_code {fd : FuncData} {N ps : List Str} {k : Nat} {sp : Sp} (F : Fun K "best_put" "best_put" s_best_put (He.ga K "best_put") fd) (S : FnScope N ps (defScope s_best_put)) (len : ∀ vs H Q E, sp vs H Q E → vs.length = ps.length)
    (hbody : ∀ (A : Around) (outer : List Env) (s : Shared) (H : Hp) (vs : List V) (Q : VK) (E : XK), Room k (A.deeper (envOfC "best_put" (defScope s_best_put) s.heap.objs.size (He.ga K "best_put") (.ref (cb K)))) → sp vs H Q E →
      ∃ t, PSs (cxOf CX0 P w K mg base N "best_put" (defScope s_best_put) (He.ga K "best_put") (.ref (cb K)) A outer s H E).nox (defBody s_best_put) t ∧ t { nx := fun _ H' => Q .non H', rt := Q } (start N vs) H) : FnOk P w K mg base CX0 (k + 1) (He.ga K "best_put") fd ps sp := by
  obtain ⟨oc, od, kV, doc, pm, an, cdv, ct, osl, rfl, lk, hcd⟩ := F.ex
  obtain ⟨c, rfl⟩ := He.codeIn_ref hcd
  have e : cb K = c := He.codeOf_eq (p := ("best_put", none)) lk rfl
  rw [e] at hbody
  refine fn_of lk hcd S len fun A outer s H vs Q E hr hsp => ?_
  obtain ⟨t, h, q⟩ := hbody A outer s H vs Q E hr hsp
  exact ⟨t, h.nox, q⟩
def spH (K : PySem.W.Frag) : Addr → Addr → List (Option V) → Sp := fun _ _ ws vs H Q _ => ∃ (a b c : Addr) (l r v : List Nat) (h : Nat), ws = [some (.int (h : Int)), some (.ref b), some (.ref c)] ∧ vs = [.ref a] ∧ SqL K H a (nl l) ∧ SqL K H b (nl r) ∧ SqL K H c (nl v) ∧
  h < l.length ∧ l.length ≤ 1000 ∧ (∀ t ∈ r, t < l.length) ∧ v.length = r.length ∧ r.length ≤ 1000 ∧ ∀ H', Same H H' → Q (.int ((Mu44.times ⟨l, h⟩ (ways r v) : Nat) : Int)) H'
theorem nsc_how_often : NScope ["umbrellas", "here", "route", "weather"] ["umbrellas"] ["here", "route", "weather"] (C8.fnScope s_how_often) := nscope_by (by decide +kernel)
theorem nok_how_often (T : Txt K mg) (D_wet_ways : Def P w K mg base 2 (He.ga K "wet_ways") ["umbrellas", "here", "route", "weather"] (sp_wet_ways K)) (qual : Str) (cl : List (Str × Addr)) (f c' : Addr) :
    NOk P w K mg base CX0 3 f (NF.of s_how_often "how_often" qual cl c') ["umbrellas"] ["here", "route", "weather"] (spH K f c') := by
  obtain ⟨fd_wet_ways, G_wet_ways, b_wet_ways⟩ := D_wet_ways.ex
  refine nok_of (N := ["umbrellas", "here", "route", "weather"]) nsc_how_often (fun doc pm ctv us hl => match us, hl with | [_], _ => rfl) (fun ws vs H Q E h => ?_) (fun A outer s H vs ws Q E hr hf hc hwl h => ?_)
  · obtain ⟨a, b, c, l, r, v, h, _, rfl, _⟩ := h
    rfl
  · obtain ⟨a, b, c, l, r, v, h, rfl, rfl, hl, hr', hw, hh, hz, ht, hlen, hz2, q⟩ := h
    refine ⟨_, (pss_one (ps_ret (pe_callB (id := "sum") (r := rSum K) (cr_sum rfl) (by rfl) T.b_sum (by decide +kernel) (pa_cons (pe_call G_wet_ways (hr.mono (by decide)) rfl T.g_wet_ways D_wet_ways.kp b_wet_ways .nil pass0 (pa_cons (pv 0) (pa_cons (pv 1) (pa_cons (pv 2) (pa_cons (pv 3) pa_nil))))) pa_nil)))), ?_⟩
    refine ⟨_, rfl, _, rfl, _, rfl, _, rfl, a, b, c, l, r, v, h, rfl, hl, hr', hw, hh, hz, ht, hlen, hz2, fun H1 p1 s1 n1 e1 => ?_⟩
    refine ⟨p1, ((Mu44.wet ⟨l, h⟩ (ways r v)).map b2n).map fun (n : Nat) => (n : Int), rfl, (by rw [← nl_ints]; exact SqL.of e1), ?_⟩
    rw [sum_cast, sum_b2n]
    exact q H1 s1
theorem ndB : ndefB (defScope s_best_put) (C8.fnScope s_how_often) ["here", "route", "weather"] = true := by decide +kernel
theorem puts_mem {n k : Nat} {p : List Nat} (h : p ∈ Mu44.puts (k + 1) n) : p.length = k + 1 := by
  rw [puts_all] at h
  obtain ⟨f, hf, e⟩ := List.mem_map.mp h
  rw [← e, List.length_append, (pre_sum k f hf).2]
  rfl
/-- best_put: slots 0 n, 1 places, 2 here, 3 route, 4 weather, 5 how_often -/
theorem fo_best_put (T : Txt K mg) (TBB : TabB base mg (cb K) (tb K)) (D_all_put : Def P w K mg base 1 (He.ga K "all_put") ["n", "places"] (sp_all_put K)) (D_wet_ways : Def P w K mg base 2 (He.ga K "wet_ways") ["umbrellas", "here", "route", "weather"] (sp_wet_ways K))
    {fd : FuncData} (F : Fun K "best_put" "best_put" s_best_put (He.ga K "best_put") fd) : FnOk P w K mg base CX0 5 (He.ga K "best_put") fd ["n", "places", "here", "route", "weather"] (sp_best_put K) := by
  obtain ⟨fd_all_put, G_all_put, b_all_put⟩ := D_all_put.ex
  refine ok_code F sc_best_put (fun vs H Q E h => ?_) (fun A outer s H vs Q E hr h => ?_)
  · obtain ⟨b, c, r, v, n, k, h, rfl, _⟩ := h
    rfl
  · obtain ⟨b, c, r, v, n, k, h, rfl, hb, hc, hn, hk, hh, ht, hlen, hz2, htb, q⟩ := h
    refine ⟨_, (pss_cons (ps_ndefMS (st := s_how_often) (T := [(tb K, nmT)]) (nm := nmT) (i := 5) rfl TBB rfl (List.mem_singleton.mpr rfl) rfl (fun p hp _ => by rw [List.mem_singleton.mp hp]) (ndef_free ndB) rfl rfl rfl sc_best_put.nd rfl (Or.inl rfl) (Or.inr rfl))
      (pss_one (ps_ret (pe_minN (i := 5) (k := 3) (j := 3) (js := [2, 3, 4]) (E := E0) rfl (by rfl) T.b_min (pa_cons (pe_call G_all_put (hr.mono (by decide)) rfl T.g_all_put D_all_put.kp b_all_put .nil pass0 (pa_cons (pv 0) (pa_cons (pv 1) pa_nil))) pa_nil)
        (fun f c' => nok_how_often T D_wet_ways ((envOfC "best_put" (defScope s_best_put) s.heap.objs.size (He.ga K "best_put") (.ref (cb K))).qual ++ "how_often") _ f c') (fun _ => rfl) (fun ok => Caps.made ok (ndef_free ndB) (ndef_fr ndB) rfl) hr (Nat.le_refl _) pass0 rfl (Or.inl rfl))))), ?_⟩
    refine ⟨fun p hp => by rw [List.mem_singleton.mp hp]; exact htb, fun f c' H1 eN nn T1 f0 f1 c1 => ?_⟩
    have keep : ∀ {a : Addr} {xs : List V}, SqL K H a xs → SqL K H1 a xs := fun {a xs} h => by
      rcases h with (h | ⟨o, h⟩) | h
      · exact .inl (.inl (eN _ _ h fun ps z => by cases z))
      · exact .inl (.inr ⟨o, eN _ _ h fun ps z => by cases z⟩)
      · exact .inr h
    refine ⟨_, rfl, _, rfl, n, k, rfl, hn, hk, fun H2 p2 qs s2 n2 e2 hL hq0 => ?_⟩
    have eL : qs.length = (Mu44.puts (k + 1) n).length := Paired.length hL
    refine ⟨p2, qs, fun i => ((Mu44.times ⟨(Mu44.puts (k + 1) n).getD i [], h⟩ (ways r v) : Nat) : Int), f, c', rfl, SqL.of e2, ?_, rfl, s2 _ _ f1, s2 _ _ c1, fun i q1 H3 Q' hq1 s3 hQ => ?_, fun i q1 H3 hq1 hf s3 => ?_⟩
    · rw [eL, puts_all, List.length_map]
      cases e : pre n k with
      | nil => exact absurd e (pre_ne n k)
      | cons a b => exact Nat.succ_pos _
    · obtain ⟨p, hp, hq⟩ := Pd.get hL hq1
      have hpl : p.length = k + 1 := puts_mem (List.mem_of_getElem? hp)
      refine ⟨q1, b, c, p, r, v, h, rfl, rfl, SqL.of (s3 _ _ hq), s3.seq (s2.seq (keep hb)), s3.seq (s2.seq (keep hc)), by omega, by omega, fun t h' => by rw [hpl]; exact ht t h', hlen, hz2, fun H4 s4 => ?_⟩
      have := hQ H4 s4
      dsimp only at this
      rw [List.getD_eq_getElem?_getD, hp] at this
      exact this
    · obtain ⟨p, hp, hq⟩ := Pd.get hL hq1
      have hpl : p.length = k + 1 := puts_mem (List.mem_of_getElem? hp)
      refine q H3 q1 p ⟨fun b' o' e' n' => s3 _ _ (s2 _ _ (eN _ _ e' n')), fun b' e' => nn _ (s2.free (s3.free e')), ?_⟩ (nn _ (hq0 q1 (List.mem_of_getElem? hq1))) ?_ hpl (s3 _ _ hq)
      · exact TB.same (T1 _ (List.mem_singleton.mpr rfl)) fun b' o' e' => s3 _ _ (s2 _ _ e')
      · refine best_fst (kf := fun i => Mu44.times ⟨(Mu44.puts (k + 1) n).getD i [], h⟩ (ways r v)) hp (fun j p' hj => ?_) fun j hj => ?_
        · rw [List.getD_eq_getElem?_getD, hj]
          rfl
        · have := hf j (by omega)
          dsimp only at this ⊢
          exact ⟨by have := this.1; omega, fun z => by have := this.2 z; omega⟩
theorem ok_best_put (T : Txt K mg) (TBB : TabB base mg (cb K) (tb K)) (D_all_put : Def P w K mg base 1 (He.ga K "all_put") ["n", "places"] (sp_all_put K)) (D_wet_ways : Def P w K mg base 2 (He.ga K "wet_ways") ["umbrellas", "here", "route", "weather"] (sp_wet_ways K)) :
    Def P w K mg base 5 (He.ga K "best_put") ["n", "places", "here", "route", "weather"] (sp_best_put K) := by
  obtain ⟨fd, F⟩ := T.F_best_put
  exact ⟨⟨fd, fo_best_put T TBB D_all_put D_wet_ways F, F.binds fun _ _ _ _ _ _ us hl => match us, hl with | [_, _, _, _, _], _ => rfl⟩, F.kp⟩
end
end Ww
namespace Ww
open PySem PySem.Spec PyProof.Rows L2
section
variable {P : Program} {w : World} {K : PySem.W.Frag} {mg : Str → Option Value} {base : Heap}
/-- Walker.best: slots 0 self, 1 n, 2 route, 3 weather, 4 put -/
theorem fo_Walker_best (T : Txt K mg) (D_best_put : Def P w K mg base 5 (He.ga K "best_put") ["n", "places", "here", "route", "weather"] (sp_best_put K)) (D_wet_ways : Def P w K mg base 2 (He.ga K "wet_ways") ["umbrellas", "here", "route", "weather"] (sp_wet_ways K)) {fd : FuncData} (F : Fun K "best" "Walker.best" s_Walker_best (He.ma K (He.ga K "Walker") "best") fd) : FnOk P w K mg base CX0 6 (He.ma K (He.ga K "Walker") "best") fd ["self", "n", "route", "weather"] (sp_Walker_best K) := by
  obtain ⟨fd_best_put, G_best_put, b_best_put⟩ := D_best_put.ex
  obtain ⟨fd_wet_ways, G_wet_ways, b_wet_ways⟩ := D_wet_ways.ex
  refine F.ok sc_Walker_best (fun vs H Q E h => ?_) (fun cdv A outer s H vs Q E hr h => ?_)
  · obtain ⟨a, u, b, c, m, n, r, v, rfl, W, hb, hc, hh, hz1, hz, ht, hlen, hz2, htb, q⟩ := h
    rfl
  · obtain ⟨a, u, b, c, m, n, r, v, rfl, W, hb, hc, hh, hz1, hz, ht, hlen, hz2, htb, q⟩ := h
    refine ⟨_, (pss_cons (ps_if (pt_cmpR op_gt (pv 1) (pe_num rfl T.c_MOST_UMBRELLAS) (nomark _)) (pss_one (ps_ret (pe_lst (pa_cons (pe_num rfl T.c_NOT_GRANTED) pa_nil))))
      pss_nil)
      (pss_cons (ps_set (i := 4) sc_Walker_best.nd rfl (Or.inl rfl) (pe_call G_best_put (hr.mono (by decide)) rfl T.g_best_put D_best_put.kp b_best_put .nil pass0 (pa_cons (pv 1) (pa_cons (pe_callB call_len_seq (by rfl) T.b_len (by decide +kernel) (pa_cons (pe_fld (pv 0) rfl) pa_nil)) (pa_cons (pe_fld (pv 0) rfl) (pa_cons (pv 2) (pa_cons (pv 3) pa_nil)))))))
      (pss_one (ps_ret (pe_op op_cat (pe_lst (pa_cons (pe_callB (id := "sum") (r := rSum K) (cr_sum rfl) (by rfl) T.b_sum (by decide +kernel) (pa_cons (pe_call G_wet_ways (hr.mono (by decide)) rfl T.g_wet_ways D_wet_ways.kp b_wet_ways .nil pass0 (pa_cons (pv 4) (pa_cons (pe_fld (pv 0) rfl) (pa_cons (pv 2) (pa_cons (pv 3) pa_nil))))) pa_nil)) pa_nil)) (pv 4)))))), ?_⟩
    have W' := W
    obtain ⟨⟨dx, h1⟩, h2⟩ := W'
    refine ⟨_, rfl, _, _, rfl, rfl, _, rfl, ?_⟩
    refine if_d (fun e => ?_) (fun e => ?_)
    · unfold mBest at q
      rw [if_pos (by omega)] at q
      exact ⟨by show 1 ≤ sizeLine; decide, fun p hp => Ret.still q W (same_new hp) hp upd_same⟩
    unfold mBest at q
    rw [if_neg (by omega)] at q
    obtain ⟨k, hk⟩ : ∃ k, m.l.length = k + 1 := ⟨m.l.length - 1, by omega⟩
    refine ⟨_, rfl, _, rfl, a, _, dx, _, _, rfl, h1, T.cl_Walker, T.n_Walker_umbrellas, rfl, u, _, rfl, .inl (SqL.of h2), _, rfl, a, _, dx, _, _, rfl, h1, T.cl_Walker, T.n_Walker_here, rfl, _, rfl, _, rfl, b, c, r, v, n, k, m.here, (by rw [nl_len, hk]; rfl), hb, hc, by omega, by omega, by omega, fun t h' => by rw [← hk]; exact ht t h', hlen, hz2, htb, fun H1 p1 bq f1 n1 ebest eql e1 => ?_⟩
    obtain ⟨f1, f2, f3⟩ := f1
    rw [hk, ebest] at q
    have g1 := f1 _ _ h1 (fun ps z => by cases z)
    have g2 := f1 _ _ h2 (fun ps z => by cases z)
    have keep : ∀ {a : Addr} {xs : List V}, SqL K H a xs → SqL K H1 a xs := fun {a xs} h => by
      rcases h with (h | ⟨o, h⟩) | h
      · exact .inl (.inl (f1 _ _ h fun ps z => by cases z))
      · exact .inl (.inr ⟨o, f1 _ _ h fun ps z => by cases z⟩)
      · exact .inr h
    refine ⟨_, rfl, _, rfl, a, _, dx, _, _, rfl, g1, T.cl_Walker, T.n_Walker_here, rfl, _, rfl, _, rfl, p1, b, c, bq, r, v, m.here, rfl, SqL.of e1, keep hb, keep hc, by omega, by omega, fun t h' => by rw [eql, ← hk]; exact ht t h', hlen, hz2, fun H2 p2 s2 n2 e2 => ?_⟩
    refine ⟨p2, ((Mu44.wet ⟨bq, m.here⟩ (ways r v)).map b2n).map fun (n : Nat) => (n : Int), rfl, (by rw [← nl_ints]; exact SqL.of e2), by show 1 ≤ sizeLine; decide, fun p3 hp3 => ?_⟩
    have hq2 : H2 p1 = some (.lst (nl bq)) := s2 _ _ e1
    have p13 : p1 ≠ p3 := ne_of_none hq2 hp3
    refine ⟨_, rfl, p3, p1, _, _, rfl, rfl, upd_same, (by rw [upd_ne p13]; exact hq2), ?_, fun p4 hp4 => ?_⟩
    · rw [nl_len, eql]
      show 1 + (k + 1) ≤ sizeLine
      exact Nat.le_trans (by omega : 1 + (k + 1) ≤ 1000) (by decide)
    obtain ⟨p43, hp4'⟩ := un_none hp4
    have s5 : Same H1 (upd (upd H2 p3 (.lst [V.int ((((Mu44.wet ⟨bq, m.here⟩ (ways r v)).map b2n).map fun (n : Nat) => (n : Int)).sum)])) p4 (.lst ([V.int ((((Mu44.wet ⟨bq, m.here⟩ (ways r v)).map b2n).map fun (n : Nat) => (n : Int)).sum)] ++ nl bq))) :=
      same_upd (same_upd s2 (s2.free hp3)) (s2.free hp4')
    refine q _ p4 u ⟨⟨dx, s5 _ _ g1⟩, s5 _ _ g2⟩ (.inl rfl) (f2 _ (s2.free hp4')) (fun z => ?_) ?_ ⟨fun b' o' e' _ _ n3 => s5 _ _ (f1 _ _ e' n3), fun _ => TB.same f3 s5⟩
    · rw [z, s2 _ _ g2] at hp4'
      cases hp4'
    · rw [upd_same, sum_cast, sum_b2n, nl_ints]
      rfl
theorem ok_Walker_best (T : Txt K mg) (D_best_put : Def P w K mg base 5 (He.ga K "best_put") ["n", "places", "here", "route", "weather"] (sp_best_put K)) (D_wet_ways : Def P w K mg base 2 (He.ga K "wet_ways") ["umbrellas", "here", "route", "weather"] (sp_wet_ways K)) : Def P w K mg base 6 (He.ma K (He.ga K "Walker") "best") ["self", "n", "route", "weather"] (sp_Walker_best K) := by
  obtain ⟨fd, F⟩ := T.F_Walker_best
  exact ⟨⟨fd, fo_Walker_best T D_best_put D_wet_ways F, F.binds fun _ _ _ _ _ _ us hl => match us, hl with | [_, _, _, _], _ => rfl⟩, F.kp⟩

end
end Ww
namespace Ww
open PySem PySem.Spec PyProof.Rows L2
section
variable {P : Program} {w : World} {K : PySem.W.Frag} {mg : Str → Option Value} {base : Heap}
/-- takes_route: slots 0 call -/
theorem fo_takes_route (T : Txt K mg) {fd : FuncData} (F : Fun K "takes_route" "takes_route" s_takes_route (He.ga K "takes_route") fd) : FnOk P w K mg base CX0 1 (He.ga K "takes_route") fd ["call"] (sp_takes_route K) := by
  refine F.ok sc_takes_route (fun vs H Q E h => ?_) (fun cdv A outer s H vs Q E hr h => ?_)
  · obtain ⟨c, rfl, q⟩ := h
    rfl
  · obtain ⟨c, rfl, q⟩ := h
    refine ⟨_, (pss_one (ps_ret (pe_and (pe_cmpR op_ge (pv 0) (pe_num rfl T.c_TRY_WAYS) (nomark _)) (pe_one (pe_cmpR op_le (pv 0) (pe_num rfl T.c_CHANCE) (nomark _)))))), ?_⟩
    refine ⟨_, rfl, _, _, rfl, rfl, _, rfl, ?_⟩
    refine if_d (fun e => ?_) (fun e => ?_)
    · refine ⟨_, rfl, _, _, rfl, rfl, ?_⟩
      dsimp only
      rw [decide_eq_true e, Bool.true_and] at q
      exact q
    · rw [decide_eq_false e, Bool.false_and] at q
      exact q
theorem ok_takes_route (T : Txt K mg) : Def P w K mg base 1 (He.ga K "takes_route") ["call"] (sp_takes_route K) := by
  obtain ⟨fd, F⟩ := T.F_takes_route
  exact ⟨⟨fd, fo_takes_route T F, F.binds fun _ _ _ _ _ _ us hl => match us, hl with | [_], _ => rfl⟩, F.kp⟩

/-- are_route_rows: slots 0 rows, 1 places -/
theorem fo_are_route_rows (T : Txt K mg) (D_is_route : Def P w K mg base 1 (He.ga K "is_route") ["route", "places"] (sp_is_route K)) (D_is_weather : Def P w K mg base 1 (He.ga K "is_weather") ["weather", "route"] (sp_is_weather K)) {fd : FuncData} (F : Fun K "are_route_rows" "are_route_rows" s_are_route_rows (He.ga K "are_route_rows") fd) : FnOk P w K mg base CX0 2 (He.ga K "are_route_rows") fd ["rows", "places"] (sp_are_route_rows K) := by
  obtain ⟨fd_is_route, G_is_route, b_is_route⟩ := D_is_route.ex
  obtain ⟨fd_is_weather, G_is_weather, b_is_weather⟩ := D_is_weather.ex
  refine F.ok sc_are_route_rows (fun vs H Q E h => ?_) (fun cdv A outer s H vs Q E hr h => ?_)
  · obtain ⟨b, n, qs, r, ws, rfl, hb, hR, hz, q⟩ := h
    rfl
  · obtain ⟨b, n, qs, r, ws, rfl, hb, hR, hz, q⟩ := h
    refine ⟨_, (pss_cons (ps_if (pt_not (pt_val (pe_call G_is_route (hr.mono (by decide)) rfl T.g_is_route D_is_route.kp b_is_route .nil pass0 (pa_cons (pe_ix ix_list (pv 0) pe_int (fun _ _ => rfl)) (pa_cons (pv 1) pa_nil))))) (pss_one (ps_ret pe_bl))
      pss_nil)
      (pss_one (ps_ret (pe_or (pe_cmpR op_eq (pe_callB call_len_seq (by rfl) T.b_len (by decide +kernel) (pa_cons (pv 0) pa_nil)) pe_int (nomark _)) (pe_one (pe_call G_is_weather (hr.mono (by decide)) rfl T.g_is_weather D_is_weather.kp b_is_weather .nil pass0 (pa_cons (pe_ix ix_list (pv 0) pe_int (fun _ _ => rfl)) (pa_cons (pe_ix ix_list (pv 0) pe_int (fun _ _ => rfl)) pa_nil)))))))), ?_⟩
    obtain ⟨q0, qs', rfl, h0, hR'⟩ : ∃ q0 qs', qs = .ref q0 :: qs' ∧ H q0 = some (.lst (nl r)) ∧ RowsAt H qs' ws := by
      cases hR with
      | cons a t =>
        obtain ⟨q0, rfl, h0⟩ := a
        exact ⟨q0, _, rfl, by rw [h0, il_nl], t⟩
    refine ⟨_, rfl, b, _, 0, .ref q0, rfl, rfl, SqL.of hb, atI_nat (j := 0) rfl, _, rfl, q0, r, n, rfl, SqL.of h0, hz, fun H1 s1 => ⟨_, rfl, ?_⟩⟩
    have ek : (decide (1 ≤ r.length) && (decide (r.length ≤ 8) && r.all fun j => decide (j < n))) = okR n r := rfl
    rw [ek]
    cases e : okR n r with
    | false =>
      refine if_t rfl ?_
      rw [e] at q
      rcases q with ⟨_, q⟩ | ⟨v, _, _, q⟩
      · exact q H1 s1
      · exact q H1 s1
    | true =>
      refine if_f rfl ?_
      rw [e] at q
      refine ⟨_, rfl, b, _, rfl, .inl (SqL.of (s1 _ _ hb)), rfl, _, rfl, ?_⟩
      rcases q with ⟨rfl, q⟩ | ⟨v, rfl, hz', q⟩
      · cases hR'
        exact if_t rfl (q H1 s1)
      · obtain ⟨q1, rfl, g1⟩ := rows1 hR'
        refine if_f rfl ?_
        exact ⟨_, rfl, b, _, 1, .ref q1, rfl, rfl, SqL.of (s1 _ _ hb), atI_nat (j := 1) rfl, _, rfl, b, _, 0, .ref q0, rfl, rfl, SqL.of (s1 _ _ hb), atI_nat (j := 0) rfl, q1, q0, v, r, rfl, SqL.of (s1 _ _ g1), SqL.of (s1 _ _ h0), hz', fun H2 s2 => q H2 (same_trans s1 s2)⟩
theorem ok_are_route_rows (T : Txt K mg) (D_is_route : Def P w K mg base 1 (He.ga K "is_route") ["route", "places"] (sp_is_route K)) (D_is_weather : Def P w K mg base 1 (He.ga K "is_weather") ["weather", "route"] (sp_is_weather K)) : Def P w K mg base 2 (He.ga K "are_route_rows") ["rows", "places"] (sp_are_route_rows K) := by
  obtain ⟨fd, F⟩ := T.F_are_route_rows
  exact ⟨⟨fd, fo_are_route_rows T D_is_route D_is_weather F, F.binds fun _ _ _ _ _ _ us hl => match us, hl with | [_, _], _ => rfl⟩, F.kp⟩

/-- answer_call: slots 0 walker, 1 call, 2 numbers, 3 rows -/
theorem fo_answer_call (T : Txt K mg) (D_Walker_begin : Def P w K mg base 1 (He.ma K (He.ga K "Walker") "begin") ["self", "place", "umbrellas"] (sp_Walker_begin K)) (D_Walker_best : Def P w K mg base 6 (He.ma K (He.ga K "Walker") "best") ["self", "n", "route", "weather"] (sp_Walker_best K)) (D_Walker_bring : Def P w K mg base 2 (He.ma K (He.ga K "Walker") "bring") ["self", "place"] (sp_Walker_bring K)) (D_Walker_carried : Def P w K mg base 3 (He.ma K (He.ga K "Walker") "carried") ["self", "route", "weather"] (sp_Walker_carried K)) (D_Walker_chance : Def P w K mg base 3 (He.ma K (He.ga K "Walker") "chance") ["self", "a", "b", "route"] (sp_Walker_chance K)) (D_Walker_go : Def P w K mg base 2 (He.ma K (He.ga K "Walker") "go") ["self", "place", "rains", "carried"] (sp_Walker_go K)) (D_Walker_has_begun : Def P w K mg base 1 (He.ma K (He.ga K "Walker") "has_begun") ["self"] (sp_Walker_has_begun K)) (D_Walker_least : Def P w K mg base 3 (He.ma K (He.ga K "Walker") "least") ["self", "route", "weather"] (sp_Walker_least K)) (D_Walker_look : Def P w K mg base 1 (He.ma K (He.ga K "Walker") "look") ["self"] (sp_Walker_look K)) (D_Walker_lose : Def P w K mg base 2 (He.ma K (He.ga K "Walker") "lose") ["self", "place"] (sp_Walker_lose K)) (D_Walker_try_ways : Def P w K mg base 3 (He.ma K (He.ga K "Walker") "try_ways") ["self", "route", "weather"] (sp_Walker_try_ways K)) (D_are_route_rows : Def P w K mg base 2 (He.ga K "are_route_rows") ["rows", "places"] (sp_are_route_rows K)) (D_takes_route : Def P w K mg base 1 (He.ga K "takes_route") ["call"] (sp_takes_route K)) {fd : FuncData} (F : Fun K "answer_call" "answer_call" s_answer_call (He.ga K "answer_call") fd) : FnOk P w K mg base CX0 7 (He.ga K "answer_call") fd ["walker", "call", "numbers", "rows"] (sp_answer_call K) := by
  obtain ⟨fd_Walker_begin, G_Walker_begin, b_Walker_begin⟩ := D_Walker_begin.ex
  obtain ⟨fd_Walker_best, G_Walker_best, b_Walker_best⟩ := D_Walker_best.ex
  obtain ⟨fd_Walker_bring, G_Walker_bring, b_Walker_bring⟩ := D_Walker_bring.ex
  obtain ⟨fd_Walker_carried, G_Walker_carried, b_Walker_carried⟩ := D_Walker_carried.ex
  obtain ⟨fd_Walker_chance, G_Walker_chance, b_Walker_chance⟩ := D_Walker_chance.ex
  obtain ⟨fd_Walker_go, G_Walker_go, b_Walker_go⟩ := D_Walker_go.ex
  obtain ⟨fd_Walker_has_begun, G_Walker_has_begun, b_Walker_has_begun⟩ := D_Walker_has_begun.ex
  obtain ⟨fd_Walker_least, G_Walker_least, b_Walker_least⟩ := D_Walker_least.ex
  obtain ⟨fd_Walker_look, G_Walker_look, b_Walker_look⟩ := D_Walker_look.ex
  obtain ⟨fd_Walker_lose, G_Walker_lose, b_Walker_lose⟩ := D_Walker_lose.ex
  obtain ⟨fd_Walker_try_ways, G_Walker_try_ways, b_Walker_try_ways⟩ := D_Walker_try_ways.ex
  obtain ⟨fd_are_route_rows, G_are_route_rows, b_are_route_rows⟩ := D_are_route_rows.ex
  obtain ⟨fd_takes_route, G_takes_route, b_takes_route⟩ := D_takes_route.ex
  refine F.ok sc_answer_call (fun vs H Q E h => ?_) (fun cdv A outer s H vs Q E hr h => ?_)
  · obtain ⟨a, u, n, b, st, c, ns, qs, xs, rfl, htb, W, wf, hn, hb, hR, hask, q⟩ := h
    rfl
  · obtain ⟨a, u, n, b, st, c, ns, qs, xs, rfl, htb, W, wf, hn, hb, hR, hask, q⟩ := h
    refine ⟨_, (pss_cons (ps_if (pt_cmpR op_eq (pv 1) (pe_num rfl T.c_BEGIN) (nomark _)) (pss_one (ps_ret (pe_meth (pv 0) T.cl_Walker T.m_Walker_begin G_Walker_begin (hr.mono (by decide)) b_Walker_begin .nil pass0 (pa_cons (pe_ix ix_list (pv 2) pe_int (fun _ _ => rfl)) (pa_cons (pe_ix ix_list (pv 3) pe_int (fun _ _ => rfl)) pa_nil)))))
      pss_nil)
      (pss_cons (ps_if (pt_not (pt_val (pe_meth0 (pv 0) T.cl_Walker T.m_Walker_has_begun G_Walker_has_begun (hr.mono (by decide)) b_Walker_has_begun .nil pass0))) (pss_one (ps_ret (pe_lst (pa_cons (pe_num rfl T.c_NOBODY_THERE) pa_nil))))
      pss_nil)
      (pss_cons (ps_if (PW.pt (pw_and (pt_val (pe_call G_takes_route (hr.mono (by decide)) rfl T.g_takes_route D_takes_route.kp b_takes_route .nil pass0 (pa_cons (pv 1) pa_nil))) (pw_and1 (pt_not (pt_val (pe_call G_are_route_rows (hr.mono (by decide)) rfl T.g_are_route_rows D_are_route_rows.kp b_are_route_rows .nil pass0 (pa_cons (pv 3) (pa_cons (pe_callB call_len_seq (by rfl) T.b_len (by decide +kernel) (pa_cons (pe_fld (pv 0) rfl) pa_nil)) pa_nil)))))))) (pss_one (ps_ret (pe_lst (pa_cons (pe_num rfl T.c_NOT_GRANTED) pa_nil))))
      pss_nil)
      (pss_cons (ps_if (pt_cmpR op_eq (pv 1) (pe_num rfl T.c_GO) (nomark _)) (pss_one (ps_ret (pe_meth (pv 0) T.cl_Walker T.m_Walker_go G_Walker_go (hr.mono (by decide)) b_Walker_go .nil pass0 (pa_cons (pe_ix ix_list (pv 2) pe_int (fun _ _ => rfl)) (pa_cons (pe_ix ix_list (pv 2) pe_int (fun _ _ => rfl)) (pa_cons (pe_ix ix_list (pv 2) pe_int (fun _ _ => rfl)) pa_nil))))))
      pss_nil)
      (pss_cons (ps_if (pt_cmpR op_eq (pv 1) (pe_num rfl T.c_BRING) (nomark _)) (pss_one (ps_ret (pe_meth (pv 0) T.cl_Walker T.m_Walker_bring G_Walker_bring (hr.mono (by decide)) b_Walker_bring .nil pass0 (pa_cons (pe_ix ix_list (pv 2) pe_int (fun _ _ => rfl)) pa_nil))))
      pss_nil)
      (pss_cons (ps_if (pt_cmpR op_eq (pv 1) (pe_num rfl T.c_LOSE) (nomark _)) (pss_one (ps_ret (pe_meth (pv 0) T.cl_Walker T.m_Walker_lose G_Walker_lose (hr.mono (by decide)) b_Walker_lose .nil pass0 (pa_cons (pe_ix ix_list (pv 2) pe_int (fun _ _ => rfl)) pa_nil))))
      pss_nil)
      (pss_cons (ps_if (pt_cmpR op_eq (pv 1) (pe_num rfl T.c_TRY_WAYS) (nomark _)) (pss_one (ps_ret (pe_meth (pv 0) T.cl_Walker T.m_Walker_try_ways G_Walker_try_ways (hr.mono (by decide)) b_Walker_try_ways .nil pass0 (pa_cons (pe_ix ix_list (pv 3) pe_int (fun _ _ => rfl)) (pa_cons (pe_ix ix_list (pv 3) pe_int (fun _ _ => rfl)) pa_nil)))))
      pss_nil)
      (pss_cons (ps_if (pt_cmpR op_eq (pv 1) (pe_num rfl T.c_LEAST) (nomark _)) (pss_one (ps_ret (pe_meth (pv 0) T.cl_Walker T.m_Walker_least G_Walker_least (hr.mono (by decide)) b_Walker_least .nil pass0 (pa_cons (pe_ix ix_list (pv 3) pe_int (fun _ _ => rfl)) (pa_cons (pe_ix ix_list (pv 3) pe_int (fun _ _ => rfl)) pa_nil)))))
      pss_nil)
      (pss_cons (ps_if (pt_cmpR op_eq (pv 1) (pe_num rfl T.c_BEST) (nomark _)) (pss_one (ps_ret (pe_meth (pv 0) T.cl_Walker T.m_Walker_best G_Walker_best (hr.mono (by decide)) b_Walker_best .nil pass0 (pa_cons (pe_ix ix_list (pv 2) pe_int (fun _ _ => rfl)) (pa_cons (pe_ix ix_list (pv 3) pe_int (fun _ _ => rfl)) (pa_cons (pe_ix ix_list (pv 3) pe_int (fun _ _ => rfl)) pa_nil))))))
      pss_nil)
      (pss_cons (ps_if (pt_cmpR op_eq (pv 1) (pe_num rfl T.c_CARRIED) (nomark _)) (pss_one (ps_ret (pe_meth (pv 0) T.cl_Walker T.m_Walker_carried G_Walker_carried (hr.mono (by decide)) b_Walker_carried .nil pass0 (pa_cons (pe_ix ix_list (pv 3) pe_int (fun _ _ => rfl)) (pa_cons (pe_ix ix_list (pv 3) pe_int (fun _ _ => rfl)) pa_nil)))))
      pss_nil)
      (pss_cons (ps_if (pt_cmpR op_eq (pv 1) (pe_num rfl T.c_CHANCE) (nomark _)) (pss_one (ps_ret (pe_meth (pv 0) T.cl_Walker T.m_Walker_chance G_Walker_chance (hr.mono (by decide)) b_Walker_chance .nil pass0 (pa_cons (pe_ix ix_list (pv 2) pe_int (fun _ _ => rfl)) (pa_cons (pe_ix ix_list (pv 2) pe_int (fun _ _ => rfl)) (pa_cons (pe_ix ix_list (pv 3) pe_int (fun _ _ => rfl)) pa_nil))))))
      pss_nil)
      (pss_one (ps_ret (pe_meth0 (pv 0) T.cl_Walker T.m_Walker_look G_Walker_look (hr.mono (by decide)) b_Walker_look .nil pass0)))))))))))))), ?_⟩
    obtain ⟨x, hx, hstep⟩ := isCall_of hask
    rw [hstep] at q
    have W' := W
    obtain ⟨⟨dx, h1⟩, h2⟩ := W'
    cases hx with
    | begin_ h l hl =>
      obtain ⟨q0, rfl, g0⟩ := rows1 hR
      have e := step_begin st h l
      rw [e.1, e.2] at q
      refine ⟨_, rfl, rfl, _, rfl, if_t rfl ?_⟩
      exact ⟨_, rfl, a, dx, _, rfl, h1, rfl, _, rfl, n, _, 0, .int (h : Int), rfl, rfl, SqL.of hn, atI_nat (j := 0) rfl, _, rfl, b, _, 0, .ref q0, rfl, rfl, SqL.of hb, atI_nat (j := 0) rfl, a, u, q0, mOf st, h, l, rfl, W, SqL.of g0, q⟩
    | go j r c =>
      cases st with
      | none =>
        refine ⟨_, rfl, rfl, _, rfl, if_f rfl ?_⟩
        refine ⟨_, rfl, a, dx, _, rfl, h1, rfl, a, u, _, rfl, W, _, rfl, ?_⟩
        refine if_t rfl ?_
        exact ⟨by show 1 ≤ sizeLine; decide, fun p hp => Ret.still (m := mOf none) (ans := [-9]) q W (same_new hp) hp upd_same⟩
      | some s =>
        have wf' : 2 ≤ s.stand.at_.length ∧ s.stand.at_.length ≤ 4 ∧ s.stand.here < s.stand.at_.length := wf
        obtain ⟨wf1, wf2, wf3⟩ := wf'
        refine ⟨_, rfl, rfl, _, rfl, if_f rfl ?_⟩
        refine ⟨_, rfl, a, dx, _, rfl, h1, rfl, a, u, _, rfl, W, _, rfl, ?_⟩
        refine if_f (by rw [decide_eq_true (show 0 < (mOf (some s)).l.length from Nat.lt_of_lt_of_le (by decide) wf1)]; rfl) ?_
        refine ⟨_, rfl, _, rfl, _, rfl, ?_⟩
        refine if_f rfl (if_f rfl ?_)
        have e := step_go s j r c
        rw [e.1, e.2] at q
        refine ⟨_, rfl, rfl, _, rfl, if_t rfl ?_⟩
        exact ⟨_, rfl, a, dx, _, rfl, h1, rfl, _, rfl, n, _, 0, .int (j : Int), rfl, rfl, SqL.of hn, atI_nat (j := 0) rfl, _, rfl, n, _, 1, .int (r : Int), rfl, rfl, SqL.of hn, atI_nat (j := 1) rfl, _, rfl, n, _, 2, .int (c : Int), rfl, rfl, SqL.of hn, atI_nat (j := 2) rfl, a, u, mOf (some s), j, r, c, rfl, W, wf3, Nat.le_trans wf2 (by decide), q⟩
    | bring i =>
      cases st with
      | none =>
        refine ⟨_, rfl, rfl, _, rfl, if_f rfl ?_⟩
        refine ⟨_, rfl, a, dx, _, rfl, h1, rfl, a, u, _, rfl, W, _, rfl, ?_⟩
        refine if_t rfl ?_
        exact ⟨by show 1 ≤ sizeLine; decide, fun p hp => Ret.still (m := mOf none) (ans := [-9]) q W (same_new hp) hp upd_same⟩
      | some s =>
        have wf' : 2 ≤ s.stand.at_.length ∧ s.stand.at_.length ≤ 4 ∧ s.stand.here < s.stand.at_.length := wf
        obtain ⟨wf1, wf2, wf3⟩ := wf'
        refine ⟨_, rfl, rfl, _, rfl, if_f rfl ?_⟩
        refine ⟨_, rfl, a, dx, _, rfl, h1, rfl, a, u, _, rfl, W, _, rfl, ?_⟩
        refine if_f (by rw [decide_eq_true (show 0 < (mOf (some s)).l.length from Nat.lt_of_lt_of_le (by decide) wf1)]; rfl) ?_
        refine ⟨_, rfl, _, rfl, _, rfl, ?_⟩
        refine if_f rfl (if_f rfl ?_)
        have e := step_bring s i
        rw [e.1, e.2] at q
        refine ⟨_, rfl, rfl, _, rfl, if_f rfl ?_⟩
        refine ⟨_, rfl, rfl, _, rfl, if_t rfl ?_⟩
        exact ⟨_, rfl, a, dx, _, rfl, h1, rfl, _, rfl, n, _, 0, .int (i : Int), rfl, rfl, SqL.of hn, atI_nat (j := 0) rfl, a, u, mOf (some s), i, rfl, W, q⟩
    | lose i =>
      cases st with
      | none =>
        refine ⟨_, rfl, rfl, _, rfl, if_f rfl ?_⟩
        refine ⟨_, rfl, a, dx, _, rfl, h1, rfl, a, u, _, rfl, W, _, rfl, ?_⟩
        refine if_t rfl ?_
        exact ⟨by show 1 ≤ sizeLine; decide, fun p hp => Ret.still (m := mOf none) (ans := [-9]) q W (same_new hp) hp upd_same⟩
      | some s =>
        have wf' : 2 ≤ s.stand.at_.length ∧ s.stand.at_.length ≤ 4 ∧ s.stand.here < s.stand.at_.length := wf
        obtain ⟨wf1, wf2, wf3⟩ := wf'
        refine ⟨_, rfl, rfl, _, rfl, if_f rfl ?_⟩
        refine ⟨_, rfl, a, dx, _, rfl, h1, rfl, a, u, _, rfl, W, _, rfl, ?_⟩
        refine if_f (by rw [decide_eq_true (show 0 < (mOf (some s)).l.length from Nat.lt_of_lt_of_le (by decide) wf1)]; rfl) ?_
        refine ⟨_, rfl, _, rfl, _, rfl, ?_⟩
        refine if_f rfl (if_f rfl ?_)
        have e := step_lose s i
        rw [e.1, e.2] at q
        refine ⟨_, rfl, rfl, _, rfl, if_f rfl ?_⟩
        refine ⟨_, rfl, rfl, _, rfl, if_f rfl ?_⟩
        refine ⟨_, rfl, rfl, _, rfl, if_t rfl ?_⟩
        exact ⟨_, rfl, a, dx, _, rfl, h1, rfl, _, rfl, n, _, 0, .int (i : Int), rfl, rfl, SqL.of hn, atI_nat (j := 0) rfl, a, u, mOf (some s), i, rfl, W, q⟩
    | try_ r w hr1 hr2 =>
      cases st with
      | none =>
        refine ⟨_, rfl, rfl, _, rfl, if_f rfl ?_⟩
        refine ⟨_, rfl, a, dx, _, rfl, h1, rfl, a, u, _, rfl, W, _, rfl, ?_⟩
        refine if_t rfl ?_
        exact ⟨by show 1 ≤ sizeLine; decide, fun p hp => Ret.still (m := mOf none) (ans := [-9]) q W (same_new hp) hp upd_same⟩
      | some s =>
        have wf' : 2 ≤ s.stand.at_.length ∧ s.stand.at_.length ≤ 4 ∧ s.stand.here < s.stand.at_.length := wf
        obtain ⟨wf1, wf2, wf3⟩ := wf'
        refine ⟨_, rfl, rfl, _, rfl, if_f rfl ?_⟩
        refine ⟨_, rfl, a, dx, _, rfl, h1, rfl, a, u, _, rfl, W, _, rfl, ?_⟩
        refine if_f (by rw [decide_eq_true (show 0 < (mOf (some s)).l.length from Nat.lt_of_lt_of_le (by decide) wf1)]; rfl) ?_
        refine ⟨_, rfl, _, rfl, _, rfl, ?_⟩
        obtain ⟨q0, q1, rfl, g0, g1⟩ := rows2 hR
        refine if_t rfl ?_
        refine ⟨_, rfl, _, rfl, a, _, dx, _, _, rfl, h1, T.cl_Walker, T.n_Walker_umbrellas, rfl, u, _, rfl, .inl (SqL.of h2), b, s.stand.at_.length, _, r, _, (by rw [nl_len]; rfl), hb, hR, by omega, .inr ⟨w, rfl, by omega, fun H1 s1 => ⟨_, rfl, ?_⟩⟩⟩
        cases e : (okR s.stand.at_.length r && okW r w) with
        | false =>
          refine if_t rfl ?_
          rw [(step_bad e).1] at q
          exact ⟨by show 1 ≤ sizeLine; decide, fun p hp => Ret.still q W (same_upd s1 (s1.free hp)) (s1.free hp) upd_same⟩
        | true =>
          refine if_f rfl ?_
          rw [Bool.and_eq_true] at e
          rw [step_try e.1 e.2] at q
          obtain ⟨r1, r2, r3⟩ := okR_inv e.1
          obtain ⟨w1, w2⟩ := okW_inv e.2
          refine ⟨_, rfl, rfl, _, rfl, if_f rfl ?_⟩
          refine ⟨_, rfl, rfl, _, rfl, if_f rfl ?_⟩
          refine ⟨_, rfl, rfl, _, rfl, if_f rfl ?_⟩
          refine ⟨_, rfl, rfl, _, rfl, if_t rfl ?_⟩
          exact ⟨_, rfl, a, dx, _, rfl, s1 _ _ h1, rfl, _, rfl, b, _, 0, .ref q0, rfl, rfl, SqL.of (s1 _ _ hb), atI_nat (j := 0) rfl, _, rfl, b, _, 1, .ref q1, rfl, rfl, SqL.of (s1 _ _ hb), atI_nat (j := 1) rfl, a, u, q0, q1, mOf (some s), r, w, rfl, W.same s1, SqL.of (s1 _ _ g0), SqL.of (s1 _ _ g1), wf3, Nat.le_trans wf2 (by decide), r3, w1, by omega, q.later s1⟩
    | least r w hr1 hr2 =>
      cases st with
      | none =>
        refine ⟨_, rfl, rfl, _, rfl, if_f rfl ?_⟩
        refine ⟨_, rfl, a, dx, _, rfl, h1, rfl, a, u, _, rfl, W, _, rfl, ?_⟩
        refine if_t rfl ?_
        exact ⟨by show 1 ≤ sizeLine; decide, fun p hp => Ret.still (m := mOf none) (ans := [-9]) q W (same_new hp) hp upd_same⟩
      | some s =>
        have wf' : 2 ≤ s.stand.at_.length ∧ s.stand.at_.length ≤ 4 ∧ s.stand.here < s.stand.at_.length := wf
        obtain ⟨wf1, wf2, wf3⟩ := wf'
        refine ⟨_, rfl, rfl, _, rfl, if_f rfl ?_⟩
        refine ⟨_, rfl, a, dx, _, rfl, h1, rfl, a, u, _, rfl, W, _, rfl, ?_⟩
        refine if_f (by rw [decide_eq_true (show 0 < (mOf (some s)).l.length from Nat.lt_of_lt_of_le (by decide) wf1)]; rfl) ?_
        refine ⟨_, rfl, _, rfl, _, rfl, ?_⟩
        obtain ⟨q0, q1, rfl, g0, g1⟩ := rows2 hR
        refine if_t rfl ?_
        refine ⟨_, rfl, _, rfl, a, _, dx, _, _, rfl, h1, T.cl_Walker, T.n_Walker_umbrellas, rfl, u, _, rfl, .inl (SqL.of h2), b, s.stand.at_.length, _, r, _, (by rw [nl_len]; rfl), hb, hR, by omega, .inr ⟨w, rfl, by omega, fun H1 s1 => ⟨_, rfl, ?_⟩⟩⟩
        cases e : (okR s.stand.at_.length r && okW r w) with
        | false =>
          refine if_t rfl ?_
          rw [(step_bad e).2.1] at q
          exact ⟨by show 1 ≤ sizeLine; decide, fun p hp => Ret.still q W (same_upd s1 (s1.free hp)) (s1.free hp) upd_same⟩
        | true =>
          refine if_f rfl ?_
          rw [Bool.and_eq_true] at e
          rw [step_least e.1 e.2] at q
          obtain ⟨r1, r2, r3⟩ := okR_inv e.1
          obtain ⟨w1, w2⟩ := okW_inv e.2
          refine ⟨_, rfl, rfl, _, rfl, if_f rfl ?_⟩
          refine ⟨_, rfl, rfl, _, rfl, if_f rfl ?_⟩
          refine ⟨_, rfl, rfl, _, rfl, if_f rfl ?_⟩
          refine ⟨_, rfl, rfl, _, rfl, if_f rfl ?_⟩
          refine ⟨_, rfl, rfl, _, rfl, if_t rfl ?_⟩
          exact ⟨_, rfl, a, dx, _, rfl, s1 _ _ h1, rfl, _, rfl, b, _, 0, .ref q0, rfl, rfl, SqL.of (s1 _ _ hb), atI_nat (j := 0) rfl, _, rfl, b, _, 1, .ref q1, rfl, rfl, SqL.of (s1 _ _ hb), atI_nat (j := 1) rfl, a, u, q0, q1, mOf (some s), r, w, rfl, W.same s1, SqL.of (s1 _ _ g0), SqL.of (s1 _ _ g1), wf3, Nat.le_trans wf2 (by decide), r3, w1, by omega, q.later s1⟩
    | best k r w hk hr1 hr2 =>
      cases st with
      | none =>
        refine ⟨_, rfl, rfl, _, rfl, if_f rfl ?_⟩
        refine ⟨_, rfl, a, dx, _, rfl, h1, rfl, a, u, _, rfl, W, _, rfl, ?_⟩
        refine if_t rfl ?_
        exact ⟨by show 1 ≤ sizeLine; decide, fun p hp => Ret.still (m := mOf none) (ans := [-9]) q W (same_new hp) hp upd_same⟩
      | some s =>
        have wf' : 2 ≤ s.stand.at_.length ∧ s.stand.at_.length ≤ 4 ∧ s.stand.here < s.stand.at_.length := wf
        obtain ⟨wf1, wf2, wf3⟩ := wf'
        refine ⟨_, rfl, rfl, _, rfl, if_f rfl ?_⟩
        refine ⟨_, rfl, a, dx, _, rfl, h1, rfl, a, u, _, rfl, W, _, rfl, ?_⟩
        refine if_f (by rw [decide_eq_true (show 0 < (mOf (some s)).l.length from Nat.lt_of_lt_of_le (by decide) wf1)]; rfl) ?_
        refine ⟨_, rfl, _, rfl, _, rfl, ?_⟩
        obtain ⟨q0, q1, rfl, g0, g1⟩ := rows2 hR
        refine if_t rfl ?_
        refine ⟨_, rfl, _, rfl, a, _, dx, _, _, rfl, h1, T.cl_Walker, T.n_Walker_umbrellas, rfl, u, _, rfl, .inl (SqL.of h2), b, s.stand.at_.length, _, r, _, (by rw [nl_len]; rfl), hb, hR, by omega, .inr ⟨w, rfl, by omega, fun H1 s1 => ⟨_, rfl, ?_⟩⟩⟩
        cases e : (okR s.stand.at_.length r && okW r w) with
        | false =>
          refine if_t rfl ?_
          rw [(step_bad e).2.2.1] at q
          exact ⟨by show 1 ≤ sizeLine; decide, fun p hp => Ret.still q W (same_upd s1 (s1.free hp)) (s1.free hp) upd_same⟩
        | true =>
          refine if_f rfl ?_
          rw [Bool.and_eq_true] at e
          rw [step_best e.1 e.2] at q
          obtain ⟨r1, r2, r3⟩ := okR_inv e.1
          obtain ⟨w1, w2⟩ := okW_inv e.2
          refine ⟨_, rfl, rfl, _, rfl, if_f rfl ?_⟩
          refine ⟨_, rfl, rfl, _, rfl, if_f rfl ?_⟩
          refine ⟨_, rfl, rfl, _, rfl, if_f rfl ?_⟩
          refine ⟨_, rfl, rfl, _, rfl, if_f rfl ?_⟩
          refine ⟨_, rfl, rfl, _, rfl, if_f rfl ?_⟩
          refine ⟨_, rfl, rfl, _, rfl, if_t rfl ?_⟩
          exact ⟨_, rfl, a, dx, _, rfl, s1 _ _ h1, rfl, _, rfl, n, _, 0, .int (k : Int), rfl, rfl, SqL.of (s1 _ _ hn), atI_nat (j := 0) rfl, _, rfl, b, _, 0, .ref q0, rfl, rfl, SqL.of (s1 _ _ hb), atI_nat (j := 0) rfl, _, rfl, b, _, 1, .ref q1, rfl, rfl, SqL.of (s1 _ _ hb), atI_nat (j := 1) rfl, a, u, q0, q1, mOf (some s), k, r, w, rfl, W.same s1, SqL.of (s1 _ _ g0), SqL.of (s1 _ _ g1), wf3, wf1, wf2, r3, w1, by omega, htb.same s1, q.later s1⟩
    | carried r w hr1 hr2 =>
      cases st with
      | none =>
        refine ⟨_, rfl, rfl, _, rfl, if_f rfl ?_⟩
        refine ⟨_, rfl, a, dx, _, rfl, h1, rfl, a, u, _, rfl, W, _, rfl, ?_⟩
        refine if_t rfl ?_
        exact ⟨by show 1 ≤ sizeLine; decide, fun p hp => Ret.still (m := mOf none) (ans := [-9]) q W (same_new hp) hp upd_same⟩
      | some s =>
        have wf' : 2 ≤ s.stand.at_.length ∧ s.stand.at_.length ≤ 4 ∧ s.stand.here < s.stand.at_.length := wf
        obtain ⟨wf1, wf2, wf3⟩ := wf'
        refine ⟨_, rfl, rfl, _, rfl, if_f rfl ?_⟩
        refine ⟨_, rfl, a, dx, _, rfl, h1, rfl, a, u, _, rfl, W, _, rfl, ?_⟩
        refine if_f (by rw [decide_eq_true (show 0 < (mOf (some s)).l.length from Nat.lt_of_lt_of_le (by decide) wf1)]; rfl) ?_
        refine ⟨_, rfl, _, rfl, _, rfl, ?_⟩
        obtain ⟨q0, q1, rfl, g0, g1⟩ := rows2 hR
        refine if_t rfl ?_
        refine ⟨_, rfl, _, rfl, a, _, dx, _, _, rfl, h1, T.cl_Walker, T.n_Walker_umbrellas, rfl, u, _, rfl, .inl (SqL.of h2), b, s.stand.at_.length, _, r, _, (by rw [nl_len]; rfl), hb, hR, by omega, .inr ⟨w, rfl, by omega, fun H1 s1 => ⟨_, rfl, ?_⟩⟩⟩
        cases e : (okR s.stand.at_.length r && okW r w) with
        | false =>
          refine if_t rfl ?_
          rw [(step_bad e).2.2.2] at q
          exact ⟨by show 1 ≤ sizeLine; decide, fun p hp => Ret.still q W (same_upd s1 (s1.free hp)) (s1.free hp) upd_same⟩
        | true =>
          refine if_f rfl ?_
          rw [Bool.and_eq_true] at e
          rw [step_carried e.1 e.2] at q
          obtain ⟨r1, r2, r3⟩ := okR_inv e.1
          obtain ⟨w1, w2⟩ := okW_inv e.2
          refine ⟨_, rfl, rfl, _, rfl, if_f rfl ?_⟩
          refine ⟨_, rfl, rfl, _, rfl, if_f rfl ?_⟩
          refine ⟨_, rfl, rfl, _, rfl, if_f rfl ?_⟩
          refine ⟨_, rfl, rfl, _, rfl, if_f rfl ?_⟩
          refine ⟨_, rfl, rfl, _, rfl, if_f rfl ?_⟩
          refine ⟨_, rfl, rfl, _, rfl, if_f rfl ?_⟩
          refine ⟨_, rfl, rfl, _, rfl, if_t rfl ?_⟩
          exact ⟨_, rfl, a, dx, _, rfl, s1 _ _ h1, rfl, _, rfl, b, _, 0, .ref q0, rfl, rfl, SqL.of (s1 _ _ hb), atI_nat (j := 0) rfl, _, rfl, b, _, 1, .ref q1, rfl, rfl, SqL.of (s1 _ _ hb), atI_nat (j := 1) rfl, a, u, q0, q1, mOf (some s), r, w, rfl, W.same s1, SqL.of (s1 _ _ g0), SqL.of (s1 _ _ g1), wf3, Nat.le_trans wf2 (by decide), r3, w1, w2, by omega, q.later s1⟩
    | chance x y r hx9 hy9 hr1 =>
      cases st with
      | none =>
        refine ⟨_, rfl, rfl, _, rfl, if_f rfl ?_⟩
        refine ⟨_, rfl, a, dx, _, rfl, h1, rfl, a, u, _, rfl, W, _, rfl, ?_⟩
        refine if_t rfl ?_
        exact ⟨by show 1 ≤ sizeLine; decide, fun p hp => Ret.still (m := mOf none) (ans := [-9]) q W (same_new hp) hp upd_same⟩
      | some s =>
        have wf' : 2 ≤ s.stand.at_.length ∧ s.stand.at_.length ≤ 4 ∧ s.stand.here < s.stand.at_.length := wf
        obtain ⟨wf1, wf2, wf3⟩ := wf'
        refine ⟨_, rfl, rfl, _, rfl, if_f rfl ?_⟩
        refine ⟨_, rfl, a, dx, _, rfl, h1, rfl, a, u, _, rfl, W, _, rfl, ?_⟩
        refine if_f (by rw [decide_eq_true (show 0 < (mOf (some s)).l.length from Nat.lt_of_lt_of_le (by decide) wf1)]; rfl) ?_
        refine ⟨_, rfl, _, rfl, _, rfl, ?_⟩
        obtain ⟨q0, rfl, g0⟩ := rows1 hR
        refine if_t rfl ?_
        refine ⟨_, rfl, _, rfl, a, _, dx, _, _, rfl, h1, T.cl_Walker, T.n_Walker_umbrellas, rfl, u, _, rfl, .inl (SqL.of h2), b, s.stand.at_.length, _, r, _, (by rw [nl_len]; rfl), hb, hR, by omega, .inl ⟨rfl, fun H1 s1 => ⟨_, rfl, ?_⟩⟩⟩
        cases e : okR s.stand.at_.length r with
        | false =>
          refine if_t rfl ?_
          rw [step_bad1 e] at q
          exact ⟨by show 1 ≤ sizeLine; decide, fun p hp => Ret.still q W (same_upd s1 (s1.free hp)) (s1.free hp) upd_same⟩
        | true =>
          refine if_f rfl ?_
          rw [step_chance e hy9] at q
          obtain ⟨r1, r2, r3⟩ := okR_inv e
          refine ⟨_, rfl, rfl, _, rfl, if_f rfl ?_⟩
          refine ⟨_, rfl, rfl, _, rfl, if_f rfl ?_⟩
          refine ⟨_, rfl, rfl, _, rfl, if_f rfl ?_⟩
          refine ⟨_, rfl, rfl, _, rfl, if_f rfl ?_⟩
          refine ⟨_, rfl, rfl, _, rfl, if_f rfl ?_⟩
          refine ⟨_, rfl, rfl, _, rfl, if_f rfl ?_⟩
          refine ⟨_, rfl, rfl, _, rfl, if_f rfl ?_⟩
          refine ⟨_, rfl, rfl, _, rfl, if_t rfl ?_⟩
          exact ⟨_, rfl, a, dx, _, rfl, s1 _ _ h1, rfl, _, rfl, n, _, 0, .int (x : Int), rfl, rfl, SqL.of (s1 _ _ hn), atI_nat (j := 0) rfl, _, rfl, n, _, 1, .int (y : Int), rfl, rfl, SqL.of (s1 _ _ hn), atI_nat (j := 1) rfl, _, rfl, b, _, 0, .ref q0, rfl, rfl, SqL.of (s1 _ _ hb), atI_nat (j := 0) rfl, a, u, q0, mOf (some s), x, y, r, rfl, W.same s1, SqL.of (s1 _ _ g0), wf3, Nat.le_trans wf2 (by decide), r3, hy9, r2, q.later s1⟩
    | look =>
      cases st with
      | none =>
        refine ⟨_, rfl, rfl, _, rfl, if_f rfl ?_⟩
        refine ⟨_, rfl, a, dx, _, rfl, h1, rfl, a, u, _, rfl, W, _, rfl, ?_⟩
        refine if_t rfl ?_
        exact ⟨by show 1 ≤ sizeLine; decide, fun p hp => Ret.still (m := mOf none) (ans := [-9]) q W (same_new hp) hp upd_same⟩
      | some s =>
        have wf' : 2 ≤ s.stand.at_.length ∧ s.stand.at_.length ≤ 4 ∧ s.stand.here < s.stand.at_.length := wf
        obtain ⟨wf1, wf2, wf3⟩ := wf'
        refine ⟨_, rfl, rfl, _, rfl, if_f rfl ?_⟩
        refine ⟨_, rfl, a, dx, _, rfl, h1, rfl, a, u, _, rfl, W, _, rfl, ?_⟩
        refine if_f (by rw [decide_eq_true (show 0 < (mOf (some s)).l.length from Nat.lt_of_lt_of_le (by decide) wf1)]; rfl) ?_
        refine ⟨_, rfl, _, rfl, _, rfl, ?_⟩
        refine if_f rfl (if_f rfl ?_)
        rw [step_look] at q
        refine ⟨_, rfl, rfl, _, rfl, if_f rfl ?_⟩
        refine ⟨_, rfl, rfl, _, rfl, if_f rfl ?_⟩
        refine ⟨_, rfl, rfl, _, rfl, if_f rfl ?_⟩
        refine ⟨_, rfl, rfl, _, rfl, if_f rfl ?_⟩
        refine ⟨_, rfl, rfl, _, rfl, if_f rfl ?_⟩
        refine ⟨_, rfl, rfl, _, rfl, if_f rfl ?_⟩
        refine ⟨_, rfl, rfl, _, rfl, if_f rfl ?_⟩
        refine ⟨_, rfl, rfl, _, rfl, if_f rfl ?_⟩
        exact ⟨_, rfl, a, dx, _, rfl, h1, rfl, a, u, mOf (some s), rfl, W, Nat.le_trans wf2 (by decide), q⟩
theorem ok_answer_call (T : Txt K mg) (D_Walker_begin : Def P w K mg base 1 (He.ma K (He.ga K "Walker") "begin") ["self", "place", "umbrellas"] (sp_Walker_begin K)) (D_Walker_best : Def P w K mg base 6 (He.ma K (He.ga K "Walker") "best") ["self", "n", "route", "weather"] (sp_Walker_best K)) (D_Walker_bring : Def P w K mg base 2 (He.ma K (He.ga K "Walker") "bring") ["self", "place"] (sp_Walker_bring K)) (D_Walker_carried : Def P w K mg base 3 (He.ma K (He.ga K "Walker") "carried") ["self", "route", "weather"] (sp_Walker_carried K)) (D_Walker_chance : Def P w K mg base 3 (He.ma K (He.ga K "Walker") "chance") ["self", "a", "b", "route"] (sp_Walker_chance K)) (D_Walker_go : Def P w K mg base 2 (He.ma K (He.ga K "Walker") "go") ["self", "place", "rains", "carried"] (sp_Walker_go K)) (D_Walker_has_begun : Def P w K mg base 1 (He.ma K (He.ga K "Walker") "has_begun") ["self"] (sp_Walker_has_begun K)) (D_Walker_least : Def P w K mg base 3 (He.ma K (He.ga K "Walker") "least") ["self", "route", "weather"] (sp_Walker_least K)) (D_Walker_look : Def P w K mg base 1 (He.ma K (He.ga K "Walker") "look") ["self"] (sp_Walker_look K)) (D_Walker_lose : Def P w K mg base 2 (He.ma K (He.ga K "Walker") "lose") ["self", "place"] (sp_Walker_lose K)) (D_Walker_try_ways : Def P w K mg base 3 (He.ma K (He.ga K "Walker") "try_ways") ["self", "route", "weather"] (sp_Walker_try_ways K)) (D_are_route_rows : Def P w K mg base 2 (He.ga K "are_route_rows") ["rows", "places"] (sp_are_route_rows K)) (D_takes_route : Def P w K mg base 1 (He.ga K "takes_route") ["call"] (sp_takes_route K)) : Def P w K mg base 7 (He.ga K "answer_call") ["walker", "call", "numbers", "rows"] (sp_answer_call K) := by
  obtain ⟨fd, F⟩ := T.F_answer_call
  exact ⟨⟨fd, fo_answer_call T D_Walker_begin D_Walker_best D_Walker_bring D_Walker_carried D_Walker_chance D_Walker_go D_Walker_has_begun D_Walker_least D_Walker_look D_Walker_lose D_Walker_try_ways D_are_route_rows D_takes_route F, F.binds fun _ _ _ _ _ _ us hl => match us, hl with | [_, _, _, _], _ => rfl⟩, F.kp⟩

end
end Ww
namespace Ww
open PySem PySem.Spec PyProof.Rows L2
def fa : List He.Fa := [.glo "is_route",
  .keep "is_route",
  .glo "is_weather",
  .keep "is_weather",
  .glo "gets_wet",
  .keep "gets_wet",
  .glo "after_way",
  .keep "after_way",
  .glo "wet_ways",
  .keep "wet_ways",
  .glo "least_needed",
  .keep "least_needed",
  .glo "all_put",
  .keep "all_put",
  .glo "best_put",
  .keep "best_put",
  .glo "dry_choices",
  .keep "dry_choices",
  .glo "weigh_weathers",
  .keep "weigh_weathers",
  .glo "lowest_terms",
  .keep "lowest_terms",
  .glo "takes_route",
  .keep "takes_route",
  .glo "are_route_rows",
  .keep "are_route_rows",
  .glo "answer_call",
  .keep "answer_call",
  .glo "answers",
  .keep "answers",
  .glo "Walker",
  .cls "Walker",
  .mkr "Walker",
  .noat "Walker" "umbrellas",
  .noat "Walker" "here",
  .noat "Walker" "gone",
  .noat "Walker" "wet",
  .noat "Walker" "come",
  .noat "Walker" "lost",
  .meth "Walker" "__init__",
  .meth "Walker" "has_begun",
  .meth "Walker" "has_place",
  .meth "Walker" "begin",
  .meth "Walker" "go",
  .meth "Walker" "bring",
  .meth "Walker" "lose",
  .meth "Walker" "try_ways",
  .meth "Walker" "least",
  .meth "Walker" "best",
  .meth "Walker" "carried",
  .meth "Walker" "chance",
  .meth "Walker" "look",
  .glo "Reader",
  .cls "Reader",
  .mkr "Reader",
  .noat "Reader" "calls",
  .noat "Reader" "at",
  .meth "Reader" "__init__",
  .meth "Reader" "is_done",
  .meth "Reader" "take",
  .meth "Reader" "take_numbers",
  .meth "Reader" "take_rows",
  .int "FEWEST_WAYS" (1),
  .int "MOST_WAYS" (8),
  .int "FEWEST_PLACES" (2),
  .int "MOST_PLACES" (4),
  .int "MOST_UMBRELLAS" (6),
  .int "NOT_GRANTED" (-1),
  .int "NO_SUCH_PLACE" (-2),
  .int "TOO_MANY" (-5),
  .int "NONE_THERE" (-6),
  .int "WET_ANYWAY" (-6),
  .int "NOBODY_THERE" (-9),
  .int "BEGIN" (0),
  .int "GO" (1),
  .int "BRING" (2),
  .int "LOSE" (3),
  .int "TRY_WAYS" (4),
  .int "LEAST" (5),
  .int "BEST" (6),
  .int "CARRIED" (7),
  .int "CHANCE" (8),
  .glo "SHAPES",
  .free "all",
  .free "len",
  .free "list",
  .free "min",
  .free "range",
  .free "sum",
  .free "zip"]
def fn : List He.FnD := [⟨("is_route", none), "is_route", "is_route", defArgs s_is_route, defBody s_is_route, defScope s_is_route⟩,
  ⟨("is_weather", none), "is_weather", "is_weather", defArgs s_is_weather, defBody s_is_weather, defScope s_is_weather⟩,
  ⟨("gets_wet", none), "gets_wet", "gets_wet", defArgs s_gets_wet, defBody s_gets_wet, defScope s_gets_wet⟩,
  ⟨("after_way", none), "after_way", "after_way", defArgs s_after_way, defBody s_after_way, defScope s_after_way⟩,
  ⟨("wet_ways", none), "wet_ways", "wet_ways", defArgs s_wet_ways, defBody s_wet_ways, defScope s_wet_ways⟩,
  ⟨("least_needed", none), "least_needed", "least_needed", defArgs s_least_needed, defBody s_least_needed, defScope s_least_needed⟩,
  ⟨("all_put", none), "all_put", "all_put", defArgs s_all_put, defBody s_all_put, defScope s_all_put⟩,
  ⟨("best_put", none), "best_put", "best_put", defArgs s_best_put, defBody s_best_put, defScope s_best_put⟩,
  ⟨("dry_choices", none), "dry_choices", "dry_choices", defArgs s_dry_choices, defBody s_dry_choices, defScope s_dry_choices⟩,
  ⟨("weigh_weathers", none), "weigh_weathers", "weigh_weathers", defArgs s_weigh_weathers, defBody s_weigh_weathers, defScope s_weigh_weathers⟩,
  ⟨("lowest_terms", none), "lowest_terms", "lowest_terms", defArgs s_lowest_terms, defBody s_lowest_terms, defScope s_lowest_terms⟩,
  ⟨("Walker", some "__init__"), "__init__", "Walker.__init__", defArgs s_Walker_init, defBody s_Walker_init, defScope s_Walker_init⟩,
  ⟨("Walker", some "has_begun"), "has_begun", "Walker.has_begun", defArgs s_Walker_has_begun, defBody s_Walker_has_begun, defScope s_Walker_has_begun⟩,
  ⟨("Walker", some "has_place"), "has_place", "Walker.has_place", defArgs s_Walker_has_place, defBody s_Walker_has_place, defScope s_Walker_has_place⟩,
  ⟨("Walker", some "begin"), "begin", "Walker.begin", defArgs s_Walker_begin, defBody s_Walker_begin, defScope s_Walker_begin⟩,
  ⟨("Walker", some "go"), "go", "Walker.go", defArgs s_Walker_go, defBody s_Walker_go, defScope s_Walker_go⟩,
  ⟨("Walker", some "bring"), "bring", "Walker.bring", defArgs s_Walker_bring, defBody s_Walker_bring, defScope s_Walker_bring⟩,
  ⟨("Walker", some "lose"), "lose", "Walker.lose", defArgs s_Walker_lose, defBody s_Walker_lose, defScope s_Walker_lose⟩,
  ⟨("Walker", some "try_ways"), "try_ways", "Walker.try_ways", defArgs s_Walker_try_ways, defBody s_Walker_try_ways, defScope s_Walker_try_ways⟩,
  ⟨("Walker", some "least"), "least", "Walker.least", defArgs s_Walker_least, defBody s_Walker_least, defScope s_Walker_least⟩,
  ⟨("Walker", some "best"), "best", "Walker.best", defArgs s_Walker_best, defBody s_Walker_best, defScope s_Walker_best⟩,
  ⟨("Walker", some "carried"), "carried", "Walker.carried", defArgs s_Walker_carried, defBody s_Walker_carried, defScope s_Walker_carried⟩,
  ⟨("Walker", some "chance"), "chance", "Walker.chance", defArgs s_Walker_chance, defBody s_Walker_chance, defScope s_Walker_chance⟩,
  ⟨("Walker", some "look"), "look", "Walker.look", defArgs s_Walker_look, defBody s_Walker_look, defScope s_Walker_look⟩,
  ⟨("Reader", some "__init__"), "__init__", "Reader.__init__", defArgs s_Reader_init, defBody s_Reader_init, defScope s_Reader_init⟩,
  ⟨("Reader", some "is_done"), "is_done", "Reader.is_done", defArgs s_Reader_is_done, defBody s_Reader_is_done, defScope s_Reader_is_done⟩,
  ⟨("Reader", some "take"), "take", "Reader.take", defArgs s_Reader_take, defBody s_Reader_take, defScope s_Reader_take⟩,
  ⟨("Reader", some "take_numbers"), "take_numbers", "Reader.take_numbers", defArgs s_Reader_take_numbers, defBody s_Reader_take_numbers, defScope s_Reader_take_numbers⟩,
  ⟨("Reader", some "take_rows"), "take_rows", "Reader.take_rows", defArgs s_Reader_take_rows, defBody s_Reader_take_rows, defScope s_Reader_take_rows⟩,
  ⟨("takes_route", none), "takes_route", "takes_route", defArgs s_takes_route, defBody s_takes_route, defScope s_takes_route⟩,
  ⟨("are_route_rows", none), "are_route_rows", "are_route_rows", defArgs s_are_route_rows, defBody s_are_route_rows, defScope s_are_route_rows⟩,
  ⟨("answer_call", none), "answer_call", "answer_call", defArgs s_answer_call, defBody s_answer_call, defScope s_answer_call⟩,
  ⟨("answers", none), "answers", "answers", defArgs s_answers, defBody s_answers, defScope s_answers⟩]
theorem txt_of {K : PySem.W.Frag} {h : Heap} {mg : Str → Option Value} (X : K.In h) (G : h.Ns mainGlobals mg) (c : He.SaysE fa fn K) (q0 : tabB_SHAPES K = true) : Txt K mg where
  g_is_route := He.glo_ok X G (c.fact 0)
  k_is_route := He.keep_ok (c.fact 1)
  g_is_weather := He.glo_ok X G (c.fact 2)
  k_is_weather := He.keep_ok (c.fact 3)
  g_gets_wet := He.glo_ok X G (c.fact 4)
  k_gets_wet := He.keep_ok (c.fact 5)
  g_after_way := He.glo_ok X G (c.fact 6)
  k_after_way := He.keep_ok (c.fact 7)
  g_wet_ways := He.glo_ok X G (c.fact 8)
  k_wet_ways := He.keep_ok (c.fact 9)
  g_least_needed := He.glo_ok X G (c.fact 10)
  k_least_needed := He.keep_ok (c.fact 11)
  g_all_put := He.glo_ok X G (c.fact 12)
  k_all_put := He.keep_ok (c.fact 13)
  g_best_put := He.glo_ok X G (c.fact 14)
  k_best_put := He.keep_ok (c.fact 15)
  g_dry_choices := He.glo_ok X G (c.fact 16)
  k_dry_choices := He.keep_ok (c.fact 17)
  g_weigh_weathers := He.glo_ok X G (c.fact 18)
  k_weigh_weathers := He.keep_ok (c.fact 19)
  g_lowest_terms := He.glo_ok X G (c.fact 20)
  k_lowest_terms := He.keep_ok (c.fact 21)
  g_takes_route := He.glo_ok X G (c.fact 22)
  k_takes_route := He.keep_ok (c.fact 23)
  g_are_route_rows := He.glo_ok X G (c.fact 24)
  k_are_route_rows := He.keep_ok (c.fact 25)
  g_answer_call := He.glo_ok X G (c.fact 26)
  k_answer_call := He.keep_ok (c.fact 27)
  g_answers := He.glo_ok X G (c.fact 28)
  k_answers := He.keep_ok (c.fact 29)
  g_Walker := He.glo_ok X G (c.fact 30)
  cl_Walker := He.cls_ok (c.fact 31)
  mk_Walker := He.mkr_ok (c.fact 32)
  n_Walker_umbrellas := He.noat_ok (c.fact 33)
  n_Walker_here := He.noat_ok (c.fact 34)
  n_Walker_gone := He.noat_ok (c.fact 35)
  n_Walker_wet := He.noat_ok (c.fact 36)
  n_Walker_come := He.noat_ok (c.fact 37)
  n_Walker_lost := He.noat_ok (c.fact 38)
  m_Walker_init := He.meth_ok (c.fact 39)
  m_Walker_has_begun := He.meth_ok (c.fact 40)
  m_Walker_has_place := He.meth_ok (c.fact 41)
  m_Walker_begin := He.meth_ok (c.fact 42)
  m_Walker_go := He.meth_ok (c.fact 43)
  m_Walker_bring := He.meth_ok (c.fact 44)
  m_Walker_lose := He.meth_ok (c.fact 45)
  m_Walker_try_ways := He.meth_ok (c.fact 46)
  m_Walker_least := He.meth_ok (c.fact 47)
  m_Walker_best := He.meth_ok (c.fact 48)
  m_Walker_carried := He.meth_ok (c.fact 49)
  m_Walker_chance := He.meth_ok (c.fact 50)
  m_Walker_look := He.meth_ok (c.fact 51)
  g_Reader := He.glo_ok X G (c.fact 52)
  cl_Reader := He.cls_ok (c.fact 53)
  mk_Reader := He.mkr_ok (c.fact 54)
  n_Reader_calls := He.noat_ok (c.fact 55)
  n_Reader_at := He.noat_ok (c.fact 56)
  m_Reader_init := He.meth_ok (c.fact 57)
  m_Reader_is_done := He.meth_ok (c.fact 58)
  m_Reader_take := He.meth_ok (c.fact 59)
  m_Reader_take_numbers := He.meth_ok (c.fact 60)
  m_Reader_take_rows := He.meth_ok (c.fact 61)
  c_FEWEST_WAYS := He.int_ok X G (c.fact 62)
  c_MOST_WAYS := He.int_ok X G (c.fact 63)
  c_FEWEST_PLACES := He.int_ok X G (c.fact 64)
  c_MOST_PLACES := He.int_ok X G (c.fact 65)
  c_MOST_UMBRELLAS := He.int_ok X G (c.fact 66)
  c_NOT_GRANTED := He.int_ok X G (c.fact 67)
  c_NO_SUCH_PLACE := He.int_ok X G (c.fact 68)
  c_TOO_MANY := He.int_ok X G (c.fact 69)
  c_NONE_THERE := He.int_ok X G (c.fact 70)
  c_WET_ANYWAY := He.int_ok X G (c.fact 71)
  c_NOBODY_THERE := He.int_ok X G (c.fact 72)
  c_BEGIN := He.int_ok X G (c.fact 73)
  c_GO := He.int_ok X G (c.fact 74)
  c_BRING := He.int_ok X G (c.fact 75)
  c_LOSE := He.int_ok X G (c.fact 76)
  c_TRY_WAYS := He.int_ok X G (c.fact 77)
  c_LEAST := He.int_ok X G (c.fact 78)
  c_BEST := He.int_ok X G (c.fact 79)
  c_CARRIED := He.int_ok X G (c.fact 80)
  c_CHANCE := He.int_ok X G (c.fact 81)
  g_SHAPES := He.glo_ok X G (c.fact 82)
  b_all := He.free_ok X G (c.fact 83)
  b_len := He.free_ok X G (c.fact 84)
  b_list := He.free_ok X G (c.fact 85)
  b_min := He.free_ok X G (c.fact 86)
  b_range := He.free_ok X G (c.fact 87)
  b_sum := He.free_ok X G (c.fact 88)
  b_zip := He.free_ok X G (c.fact 89)
  F_is_route := by
    obtain ⟨_, _, _, _, _, _, _, _, _, l, z⟩ := c.def_ 0
    exact ⟨_, fun_mk (st := s_is_route) l z (c.fact 1 (f := .keep "is_route"))⟩
  F_is_weather := by
    obtain ⟨_, _, _, _, _, _, _, _, _, l, z⟩ := c.def_ 1
    exact ⟨_, fun_mk (st := s_is_weather) l z (c.fact 3 (f := .keep "is_weather"))⟩
  F_gets_wet := by
    obtain ⟨_, _, _, _, _, _, _, _, _, l, z⟩ := c.def_ 2
    exact ⟨_, fun_mk (st := s_gets_wet) l z (c.fact 5 (f := .keep "gets_wet"))⟩
  F_after_way := by
    obtain ⟨_, _, _, _, _, _, _, _, _, l, z⟩ := c.def_ 3
    exact ⟨_, fun_mk (st := s_after_way) l z (c.fact 7 (f := .keep "after_way"))⟩
  F_wet_ways := by
    obtain ⟨_, _, _, _, _, _, _, _, _, l, z⟩ := c.def_ 4
    exact ⟨_, fun_mk (st := s_wet_ways) l z (c.fact 9 (f := .keep "wet_ways"))⟩
  F_least_needed := by
    obtain ⟨_, _, _, _, _, _, _, _, _, l, z⟩ := c.def_ 5
    exact ⟨_, fun_mk (st := s_least_needed) l z (c.fact 11 (f := .keep "least_needed"))⟩
  F_all_put := by
    obtain ⟨_, _, _, _, _, _, _, _, _, l, z⟩ := c.def_ 6
    exact ⟨_, fun_mk (st := s_all_put) l z (c.fact 13 (f := .keep "all_put"))⟩
  F_best_put := by
    obtain ⟨_, _, _, _, _, _, _, _, _, l, z⟩ := c.def_ 7
    exact ⟨_, fun_mk (st := s_best_put) l z (c.fact 15 (f := .keep "best_put"))⟩
  F_dry_choices := by
    obtain ⟨_, _, _, _, _, _, _, _, _, l, z⟩ := c.def_ 8
    exact ⟨_, fun_mk (st := s_dry_choices) l z (c.fact 17 (f := .keep "dry_choices"))⟩
  F_weigh_weathers := by
    obtain ⟨_, _, _, _, _, _, _, _, _, l, z⟩ := c.def_ 9
    exact ⟨_, fun_mk (st := s_weigh_weathers) l z (c.fact 19 (f := .keep "weigh_weathers"))⟩
  F_lowest_terms := by
    obtain ⟨_, _, _, _, _, _, _, _, _, l, z⟩ := c.def_ 10
    exact ⟨_, fun_mk (st := s_lowest_terms) l z (c.fact 21 (f := .keep "lowest_terms"))⟩
  F_Walker_init := by
    obtain ⟨_, _, _, _, _, _, _, _, _, l, z⟩ := c.def_ 11
    exact ⟨_, fun_mk (st := s_Walker_init) l z (He.meth_ok (x := "Walker") (m := "__init__") (c.fact 39)).kp⟩
  F_Walker_has_begun := by
    obtain ⟨_, _, _, _, _, _, _, _, _, l, z⟩ := c.def_ 12
    exact ⟨_, fun_mk (st := s_Walker_has_begun) l z (He.meth_ok (x := "Walker") (m := "has_begun") (c.fact 40)).kp⟩
  F_Walker_has_place := by
    obtain ⟨_, _, _, _, _, _, _, _, _, l, z⟩ := c.def_ 13
    exact ⟨_, fun_mk (st := s_Walker_has_place) l z (He.meth_ok (x := "Walker") (m := "has_place") (c.fact 41)).kp⟩
  F_Walker_begin := by
    obtain ⟨_, _, _, _, _, _, _, _, _, l, z⟩ := c.def_ 14
    exact ⟨_, fun_mk (st := s_Walker_begin) l z (He.meth_ok (x := "Walker") (m := "begin") (c.fact 42)).kp⟩
  F_Walker_go := by
    obtain ⟨_, _, _, _, _, _, _, _, _, l, z⟩ := c.def_ 15
    exact ⟨_, fun_mk (st := s_Walker_go) l z (He.meth_ok (x := "Walker") (m := "go") (c.fact 43)).kp⟩
  F_Walker_bring := by
    obtain ⟨_, _, _, _, _, _, _, _, _, l, z⟩ := c.def_ 16
    exact ⟨_, fun_mk (st := s_Walker_bring) l z (He.meth_ok (x := "Walker") (m := "bring") (c.fact 44)).kp⟩
  F_Walker_lose := by
    obtain ⟨_, _, _, _, _, _, _, _, _, l, z⟩ := c.def_ 17
    exact ⟨_, fun_mk (st := s_Walker_lose) l z (He.meth_ok (x := "Walker") (m := "lose") (c.fact 45)).kp⟩
  F_Walker_try_ways := by
    obtain ⟨_, _, _, _, _, _, _, _, _, l, z⟩ := c.def_ 18
    exact ⟨_, fun_mk (st := s_Walker_try_ways) l z (He.meth_ok (x := "Walker") (m := "try_ways") (c.fact 46)).kp⟩
  F_Walker_least := by
    obtain ⟨_, _, _, _, _, _, _, _, _, l, z⟩ := c.def_ 19
    exact ⟨_, fun_mk (st := s_Walker_least) l z (He.meth_ok (x := "Walker") (m := "least") (c.fact 47)).kp⟩
  F_Walker_best := by
    obtain ⟨_, _, _, _, _, _, _, _, _, l, z⟩ := c.def_ 20
    exact ⟨_, fun_mk (st := s_Walker_best) l z (He.meth_ok (x := "Walker") (m := "best") (c.fact 48)).kp⟩
  F_Walker_carried := by
    obtain ⟨_, _, _, _, _, _, _, _, _, l, z⟩ := c.def_ 21
    exact ⟨_, fun_mk (st := s_Walker_carried) l z (He.meth_ok (x := "Walker") (m := "carried") (c.fact 49)).kp⟩
  F_Walker_chance := by
    obtain ⟨_, _, _, _, _, _, _, _, _, l, z⟩ := c.def_ 22
    exact ⟨_, fun_mk (st := s_Walker_chance) l z (He.meth_ok (x := "Walker") (m := "chance") (c.fact 50)).kp⟩
  F_Walker_look := by
    obtain ⟨_, _, _, _, _, _, _, _, _, l, z⟩ := c.def_ 23
    exact ⟨_, fun_mk (st := s_Walker_look) l z (He.meth_ok (x := "Walker") (m := "look") (c.fact 51)).kp⟩
  F_Reader_init := by
    obtain ⟨_, _, _, _, _, _, _, _, _, l, z⟩ := c.def_ 24
    exact ⟨_, fun_mk (st := s_Reader_init) l z (He.meth_ok (x := "Reader") (m := "__init__") (c.fact 57)).kp⟩
  F_Reader_is_done := by
    obtain ⟨_, _, _, _, _, _, _, _, _, l, z⟩ := c.def_ 25
    exact ⟨_, fun_mk (st := s_Reader_is_done) l z (He.meth_ok (x := "Reader") (m := "is_done") (c.fact 58)).kp⟩
  F_Reader_take := by
    obtain ⟨_, _, _, _, _, _, _, _, _, l, z⟩ := c.def_ 26
    exact ⟨_, fun_mk (st := s_Reader_take) l z (He.meth_ok (x := "Reader") (m := "take") (c.fact 59)).kp⟩
  F_Reader_take_numbers := by
    obtain ⟨_, _, _, _, _, _, _, _, _, l, z⟩ := c.def_ 27
    exact ⟨_, fun_mk (st := s_Reader_take_numbers) l z (He.meth_ok (x := "Reader") (m := "take_numbers") (c.fact 60)).kp⟩
  F_Reader_take_rows := by
    obtain ⟨_, _, _, _, _, _, _, _, _, l, z⟩ := c.def_ 28
    exact ⟨_, fun_mk (st := s_Reader_take_rows) l z (He.meth_ok (x := "Reader") (m := "take_rows") (c.fact 61)).kp⟩
  F_takes_route := by
    obtain ⟨_, _, _, _, _, _, _, _, _, l, z⟩ := c.def_ 29
    exact ⟨_, fun_mk (st := s_takes_route) l z (c.fact 23 (f := .keep "takes_route"))⟩
  F_are_route_rows := by
    obtain ⟨_, _, _, _, _, _, _, _, _, l, z⟩ := c.def_ 30
    exact ⟨_, fun_mk (st := s_are_route_rows) l z (c.fact 25 (f := .keep "are_route_rows"))⟩
  F_answer_call := by
    obtain ⟨_, _, _, _, _, _, _, _, _, l, z⟩ := c.def_ 31
    exact ⟨_, fun_mk (st := s_answer_call) l z (c.fact 27 (f := .keep "answer_call"))⟩
  F_answers := by
    obtain ⟨_, _, _, _, _, _, _, _, _, l, z⟩ := c.def_ 32
    exact ⟨_, fun_mk (st := s_answers) l z (c.fact 29 (f := .keep "answers"))⟩
  q_SHAPES := q0

/-! ### the head's run -/
theorem tab_says {h : Heap} {n : Nat} {ex : PySem.W.Frag → Bool} (e : (ex (He.frT h.get? (He.asG h.get? n)) && He.tabsB h.get? [("best_put", none)] (He.frT h.get? (He.asG h.get? n))) = true) :
    ex (He.frT h.get? (He.asG h.get? n)) = true ∧ TabSays (He.frT h.get? (He.asG h.get? n)) h := by
  rw [Bool.and_eq_true] at e
  obtain ⟨e1, e2⟩ := e
  unfold He.tabsB at e2
  have e3 := List.all_eq_true.mp e2 ("best_put", none) (List.mem_singleton.mpr rfl)
  rw [Bool.and_eq_true] at e3
  obtain ⟨e4, e5⟩ := e3
  cases q : h.get? (He.cT (He.frT h.get? (He.asG h.get? n)) ("best_put", none)).2 with
  | none =>
    rw [q] at e5
    cases e5
  | some o =>
    rw [q] at e5
    exact ⟨e1, ⟨e4, He.frT_none q e5, by rw [tb, q, He.emptyTab_eq e5]⟩⟩
def exB (K : PySem.W.Frag) : Bool := tabB_SHAPES K
def tf : List He.Defn := [("best_put", none)]
def hk (n : Nat) : PySem.W.Hook where
  α := He.Al × Bool
  obs := fun s => (He.obsE fa fn (He.frT s.heap.get? (He.asG s.heap.get? n)), exB (He.frT s.heap.get? (He.asG s.heap.get? n)) && He.tabsB s.heap.get? tf (He.frT s.heap.get? (He.asG s.heap.get? n)))
  val := fun _ => (He.valE fn, true)
  says := fun _ h => ∃ K : PySem.W.Frag, K.In h ∧ He.SaysE fa fn K ∧ exB K = true ∧ TabSays K h
  of := fun _ _ e => ⟨_, He.frT_in, congrArg Prod.fst e, tab_says (congrArg Prod.snd e)⟩
  keeps := fun _ _ _ ⟨K, a, b, c, d⟩ k => ⟨K, PySem.W.Frag.In.keeps a k, b, c, ⟨d.hd, d.out, k _ _ d.empty⟩⟩
noncomputable def ob (s : PySem.W.SharedT) : He.Al × Bool := (He.obsE fa fn (He.frT (HandSHeadRun.getT s) (He.asG (HandSHeadRun.getT s) 5)), exB (He.frT (HandSHeadRun.getT s) (He.asG (HandSHeadRun.getT s) 5)) && He.tabsB (HandSHeadRun.getT s) tf (He.frT (HandSHeadRun.getT s) (He.asG (HandSHeadRun.getT s) 5)))
theorem ob_eq (s : PySem.W.SharedT) : ob s = (hk 5).obs s.abs := by
  have e : HandSHeadRun.getT s = s.abs.heap.get? := funext (HandSHeadRun.getT_eq s)
  unfold ob
  rw [e] <;> rfl
abbrev R : PySem.W.OpenSpec := PySem.Challenge.rw_wetwalk_s01_answers
abbrev qv : Program := PySem.W.view R.prog [39]
def names0 : List PySem.Str := ["FEWEST_WAYS", "MOST_WAYS", "is_route", "is_weather", "gets_wet", "after_way", "wet_ways", "least_needed", "all_put", "best_put", "dry_choices", "weigh_weathers", "lowest_terms", "FEWEST_PLACES", "MOST_PLACES", "MOST_UMBRELLAS", "NOT_GRANTED", "NO_SUCH_PLACE", "TOO_MANY", "NONE_THERE", "WET_ANYWAY", "NOBODY_THERE", "BEGIN", "GO", "BRING", "LOSE", "TRY_WAYS", "LEAST", "BEST", "CARRIED"]
def names1 : List PySem.Str := ["CHANCE", "SHAPES", "Walker", "Reader", "takes_route", "are_route_rows", "answer_call"]
def names : List PySem.Str := names0 ++ names1

theorem run (w : World) : HandSHeadRun.RunEqS R qv (hk 5) ob 6000 names w := by
  intro os
  kernel_rfl
end Ww
namespace Ww
open PySem PySem.Spec PyProof.Rows L2
theorem all_fo {P : Program} {w : World} {K : PySem.W.Frag} {mg : Str → Option Value} {base : Heap} (T : Txt K mg) (TBB : LamX.TabB base mg (cb K) (tb K))
    {fd : FuncData} (F : Fun K "answers" "answers" s_answers (He.ga K "answers") fd) : FnOk P w K mg base CX0 8 (He.ga K "answers") fd ["calls"] (sp_answers K) := by
  have D_Reader_init := ok_Reader_init (P := P) (w := w) (base := base) T
  have D_Reader_is_done := ok_Reader_is_done (P := P) (w := w) (base := base) T
  have D_Reader_take := ok_Reader_take (P := P) (w := w) (base := base) T
  have D_Reader_take_numbers := ok_Reader_take_numbers (P := P) (w := w) (base := base) T
  have D_Reader_take_rows := ok_Reader_take_rows (P := P) (w := w) (base := base) T D_Reader_take D_Reader_take_numbers
  have D_Walker_init := ok_Walker_init (P := P) (w := w) (base := base) T
  have D_Walker_begin := ok_Walker_begin (P := P) (w := w) (base := base) T
  have D_all_put := ok_all_put (P := P) (w := w) (base := base) T
  have D_after_way := ok_after_way (P := P) (w := w) (base := base) T
  have D_gets_wet := ok_gets_wet (P := P) (w := w) (base := base) T
  have D_wet_ways := ok_wet_ways (P := P) (w := w) (base := base) T D_after_way D_gets_wet
  have D_best_put := ok_best_put (P := P) (w := w) (base := base) T TBB D_all_put D_wet_ways
  have D_Walker_best := ok_Walker_best (P := P) (w := w) (base := base) T D_best_put D_wet_ways
  have D_Walker_has_place := ok_Walker_has_place (P := P) (w := w) (base := base) T
  have D_Walker_bring := ok_Walker_bring (P := P) (w := w) (base := base) T D_Walker_has_place
  have D_dry_choices := ok_dry_choices (P := P) (w := w) (base := base) T D_after_way D_gets_wet
  have D_Walker_carried := ok_Walker_carried (P := P) (w := w) (base := base) T D_dry_choices
  have D_lowest_terms := ok_lowest_terms (P := P) (w := w) (base := base) T
  have D_weigh_weathers := ok_weigh_weathers (P := P) (w := w) (base := base) T D_after_way D_gets_wet
  have D_Walker_chance := ok_Walker_chance (P := P) (w := w) (base := base) T D_lowest_terms D_weigh_weathers
  have D_Walker_go := ok_Walker_go (P := P) (w := w) (base := base) T D_Walker_has_place D_after_way D_gets_wet
  have D_Walker_has_begun := ok_Walker_has_begun (P := P) (w := w) (base := base) T
  have D_least_needed := ok_least_needed (P := P) (w := w) (base := base) T D_after_way D_gets_wet
  have D_Walker_least := ok_Walker_least (P := P) (w := w) (base := base) T D_least_needed
  have D_Walker_look := ok_Walker_look (P := P) (w := w) (base := base) T
  have D_Walker_lose := ok_Walker_lose (P := P) (w := w) (base := base) T D_Walker_has_place
  have D_Walker_try_ways := ok_Walker_try_ways (P := P) (w := w) (base := base) T D_wet_ways
  have D_is_route := ok_is_route (P := P) (w := w) (base := base) T
  have D_is_weather := ok_is_weather (P := P) (w := w) (base := base) T
  have D_are_route_rows := ok_are_route_rows (P := P) (w := w) (base := base) T D_is_route D_is_weather
  have D_takes_route := ok_takes_route (P := P) (w := w) (base := base) T
  have D_answer_call := ok_answer_call (P := P) (w := w) (base := base) T D_Walker_begin D_Walker_best D_Walker_bring D_Walker_carried D_Walker_chance D_Walker_go D_Walker_has_begun D_Walker_least D_Walker_look D_Walker_lose D_Walker_try_ways D_are_route_rows D_takes_route
  exact fo_answers T D_Reader_init D_Reader_is_done D_Reader_take D_Reader_take_numbers D_Reader_take_rows D_Walker_init D_answer_call F
end Ww
open PySem PySem.W PySem.Calls PyProof.Rows
theorem PySem.Challenge.cw_wetwalk_s01_answers_holds : PySem.Challenge.rw_wetwalk_s01_answers.Holds := by
  w_on
  refine HandSHeadRun.head_spec (r := PySem.Challenge.rw_wetwalk_s01_answers) (q := Ww.qv) (H := Ww.hk 5) (ob := Ww.ob) (M := 6000) (loose := Ww.names) (d := HandSHeadRun.topDef PySem.Challenge.rw_wetwalk_s01_answers.prog 39) (kwd := []) Ww.ob_eq
    (by kernel_rfl) (fun s => by kernel_rfl) Ww.run (by kernel_rfl) (by kernel_rfl) (by kernel_rfl) os_shapes (by decide +kernel) (by decide +kernel) ⟨rfl, rfl, rfl, rfl, rfl, by decide +kernel⟩ ⟨[.list [.int 9]], by decide +kernel, by decide +kernel⟩ ?hc
  refine Ww.walk_own (lv := 8) (prm := ["calls"]) (pr := Ww.sp_answers) (by decide +kernel) (by kernel_rfl) rfl ⟨rfl, by decide, by decide⟩ ?F ?S
  case F =>
    intro w mg f h Y G hm0
    obtain ⟨K, KX, c, q, ts⟩ := Y
    have T := Ww.txt_of KX G c q
    have hm : mg ("answers" : PySem.Str) = some (.ref f) := by
      have e : (HandSHeadRun.topDef PySem.Challenge.rw_wetwalk_s01_answers.prog 39).name = ("answers" : PySem.Str) := by kernel_rfl
      rw [← e]
      exact hm0
    have e := hm.symm.trans T.g_answers
    cases e
    obtain ⟨fd, F⟩ := T.F_answers
    refine ⟨K, KX, ts, fd, fun s us hl => ?_, fun base _ _ tbb => Ww.all_fo T tbb F⟩
    obtain ⟨oc, od, kV, dc, pm, an, cdv, ct, osl, rfl, _⟩ := F.ex
    match us, hl with
    | [_], _ => exact .of_eq rfl
  case S =>
    intro K H0 H xs v hP sH hwi hask hx
    cases hx with
    | cons h1 h2 =>
      cases h2
      cases h1 with
      | lst hs ha =>
        have e := L2.ints_dw v.1 _ ha
        subst e
        have q : ((Codec.inLen 0 1440 v.1 && v.1.all (Codec.inInt 0 10)) && true) = true := hwi
        rw [Bool.and_eq_true, Bool.and_eq_true] at q
        exact ⟨_, v.1, rfl, NdefX.TabN.nil hP, sH.seq hs, (Codec.inNat_iff.mp q.1.1).2, hask, fun H' p hp => .lst (L2.SqL.of hp) (L2.dw_ints _)⟩
