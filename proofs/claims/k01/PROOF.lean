import PyProof.Rows.All
import Wide.All
import OpenK.AllK
import Wide.FinOn
import HandS.ForMost
import HandS.ForExc
import HandS.Evl
import HandS.Wide
import HandS.IsInst
import HandS.ExcIs
import HandS.TryOnly
import HandS.WordsExc
import HandS.Conv
import HandS.Deep
import HandS.SortInts
import PySem.Challenge.RW_coverpapers_k01_families_and_covers
set_option Elab.async false
set_option linter.all false
set_option maxRecDepth 100000
set_option maxHeartbeats 4000000
namespace CP
open PySem PySem.Spec PyProof.Rows L2
open Evl (Ex RetV RetL)
def topS (i : Nat) : Stmt := PySem.Challenge.pw_coverpapers_k01_families_and_covers.main.body.getD i (.Pass ⟨0, 0, 0, 0⟩)
abbrev s_is_rising_family : Stmt := topS 1
abbrev N_is_rising_family : List Str := ["word", "family", "indexes", "index"]
theorem sc_is_rising_family : FnScope N_is_rising_family ["word", "family"] (defScope s_is_rising_family) := ⟨rfl, rfl, rfl, by decide +kernel, rfl, by decide +kernel, by decide +kernel⟩
abbrev s_is_falling_family : Stmt := topS 2
abbrev N_is_falling_family : List Str := ["word", "family", "indexes", "index"]
theorem sc_is_falling_family : FnScope N_is_falling_family ["word", "family"] (defScope s_is_falling_family) := ⟨rfl, rfl, rfl, by decide +kernel, rfl, by decide +kernel, by decide +kernel⟩
abbrev s_cover : Stmt := topS 3
abbrev N_cover : List Str := ["family", "indexes"]
theorem sc_cover : FnScope N_cover ["family"] (defScope s_cover) := ⟨rfl, rfl, rfl, by decide +kernel, rfl, by decide +kernel, by decide +kernel⟩
abbrev s_has_each_index_once : Stmt := topS 4
abbrev N_has_each_index_once : List Str := ["word", "family", "taken", "indexes", "before", "index"]
theorem sc_has_each_index_once : FnScope N_has_each_index_once ["word", "family"] (defScope s_has_each_index_once) := ⟨rfl, rfl, rfl, by decide +kernel, rfl, by decide +kernel, by decide +kernel⟩
abbrev s_does_not_decrease : Stmt := topS 5
abbrev N_does_not_decrease : List Str := ["letters", "left", "right"]
theorem sc_does_not_decrease : FnScope N_does_not_decrease ["letters"] (defScope s_does_not_decrease) := ⟨rfl, rfl, rfl, by decide +kernel, rfl, by decide +kernel, by decide +kernel⟩
abbrev s_strictly_decreases : Stmt := topS 6
abbrev N_strictly_decreases : List Str := ["letters", "left", "right"]
theorem sc_strictly_decreases : FnScope N_strictly_decreases ["letters"] (defScope s_strictly_decreases) := ⟨rfl, rfl, rfl, by decide +kernel, rfl, by decide +kernel, by decide +kernel⟩
abbrev s_law_cell : Stmt := topS 8
abbrev N_law_cell : List Str := ["script", "k"]
theorem sc_law_cell : FnScope N_law_cell ["script", "k"] (defScope s_law_cell) := ⟨rfl, rfl, rfl, by decide +kernel, rfl, by decide +kernel, by decide +kernel⟩
abbrev s_law_stream : Stmt := topS 9
abbrev N_law_stream : List Str := ["cell"]
theorem sc_law_stream : FnScope N_law_stream ["cell"] (defScope s_law_stream) := ⟨rfl, rfl, rfl, by decide +kernel, rfl, by decide +kernel, by decide +kernel⟩
abbrev s_law_next : Stmt := topS 10
abbrev N_law_next : List Str := ["stream", "size", "drawn", "mixed"]
theorem sc_law_next : FnScope N_law_next ["stream", "size"] (defScope s_law_next) := ⟨rfl, rfl, rfl, by decide +kernel, rfl, by decide +kernel, by decide +kernel⟩
abbrev s_law_is_integer : Stmt := topS 11
abbrev N_law_is_integer : List Str := ["actual"]
theorem sc_law_is_integer : FnScope N_law_is_integer ["actual"] (defScope s_law_is_integer) := ⟨rfl, rfl, rfl, by decide +kernel, rfl, by decide +kernel, by decide +kernel⟩
abbrev s_law_word : Stmt := topS 12
abbrev N_law_word : List Str := ["stream", "most", "count", "kind", "size", "low", "word", "k"]
theorem sc_law_word : FnScope N_law_word ["stream", "most"] (defScope s_law_word) := ⟨rfl, rfl, rfl, by decide +kernel, rfl, by decide +kernel, by decide +kernel⟩
abbrev s_law_is_family : Stmt := topS 13
abbrev N_law_is_family : List Str := ["word", "family", "falls", "used", "told", "k"]
theorem sc_law_is_family : FnScope N_law_is_family ["word", "family", "falls"] (defScope s_law_is_family) := ⟨rfl, rfl, rfl, by decide +kernel, rfl, by decide +kernel, by decide +kernel⟩
abbrev s_law_cover : Stmt := topS 14
abbrev N_law_cover : List Str := ["family", "told"]
theorem sc_law_cover : FnScope N_law_cover ["family"] (defScope s_law_cover) := ⟨rfl, rfl, rfl, by decide +kernel, rfl, by decide +kernel, by decide +kernel⟩
abbrev s_law_drawn_family : Stmt := topS 15
abbrev N_law_drawn_family : List Str := ["stream", "word", "falls", "most", "family", "index", "place", "told", "fits", "k"]
theorem sc_law_drawn_family : FnScope N_law_drawn_family ["stream", "word", "falls", "most"] (defScope s_law_drawn_family) := ⟨rfl, rfl, rfl, by decide +kernel, rfl, by decide +kernel, by decide +kernel⟩
abbrev s_law_spoilt : Stmt := topS 16
abbrev N_law_spoilt : List Str := ["stream", "word", "family", "told", "kind", "full", "indexes"]
theorem sc_law_spoilt : FnScope N_law_spoilt ["stream", "word", "family"] (defScope s_law_spoilt) := ⟨rfl, rfl, rfl, by decide +kernel, rfl, by decide +kernel, by decide +kernel⟩
abbrev s_law : Stmt := topS 17
abbrev N_law : List Str := ["script", "stream", "most", "word", "falls", "family", "handed", "given", "actual", "told"]
theorem sc_law : FnScope N_law ["script"] (defScope s_law) := ⟨rfl, rfl, rfl, by decide +kernel, rfl, by decide +kernel, by decide +kernel⟩
/-! ### a def of the top, a class of errors -/
structure D1 (K : PySem.W.Frag) (mg : Str → Option Value) (x : Str) (st : Stmt) (ps : List Str) where
  f : Addr
  fd : FuncData
  F : Fun K x x st f fd
  g : mg x = some (.ref f)
  b : Binds K fd ps []
def D1.mk' {K : PySem.W.Frag} {h : Heap} {mg : Str → Option Value} (X : K.In h) (G : h.Ns mainGlobals mg) {x : Str} {st : Stmt} {ps : List Str} {f : Addr} {oc : Value} {od an : Option Addr} {osl : Array (Option Value)} {kV doc pm cdv ct : Value}
    (a : PySem.W.nsIn K mainGlobals x = some (some (.ref f))) (l : K.lookup f = some ⟨oc, od, .func (PySem.W.fnOf x x (defArgs st) (defBody st) (defScope st) .none kV doc pm an cdv ct), osl⟩) (c : PySem.W.codeIn K cdv x = true) (k : PySem.W.keepIn K (.ref f) = true)
    (hb : ∀ (kV doc pm : Value) (an : Option Addr) (cdv ct : Value) (us : List Value), us.length = ps.length → bindArgs (PySem.W.fnOf x x (defArgs st) (defBody st) (defScope st) .none kV doc pm an cdv ct) ⟨us, []⟩ = pure (ps.zip us)) : D1 K mg x st ps :=
  ⟨f, _, fun_mk l c k, PySem.W.mg_of X G a, (fun_mk l c k).binds hb⟩
structure ErrC (K : PySem.W.Frag) (mg : Str → Option Value) (x : Str) where
  C : Addr
  g : mg x = some (.ref C)
  x : PySem.W.excIn K C [.type "ValueError", .type "Exception", .type "BaseException", .type "object"] "ValueError.__new__" = true
  k : PySem.W.keepIn K (.ref C) = true
  b : PySem.W.subIn K (.ref C) (.type "BaseException") = some true
  t : PySem.W.typeIn K (.ref C) = some (.type "type")
  e : PySem.W.exmOne K (.ref C) (.ref C) = some true
  hg : PySem.W.findIn K (.ref C) "__getattribute__" = some (some (.builtin "BaseException.__getattribute__"))
  hk : PySem.W.findIn K (.ref C) "__getattr__" = some none
  hd : PySem.W.hasDictIn K C = true
  ha : PySem.W.findIn K (.ref C) "__class__" = some (some (.builtin "object.__class__"))
  hn : PySem.W.specialIn K (.builtin "object.__class__") "__get__" = some (some (.builtin "getset_descriptor.__get__"))
  ht : PySem.W.takesIn K (.builtin "object.__class__") = some true
  hm : PySem.W.mroIn K C (.type "object") = some true
  kv : PySem.W.kitOne K (.ref C) (.type "ValueError") = some true
theorem ErrC.c {K : PySem.W.Frag} {mg : Str → Option Value} {x : Str} (e : ErrC K mg x) : ExcC K e.C := ⟨e.hg, e.hk, e.b, e.hd, e.ha, e.hn, e.ht, e.hm⟩
theorem hr65 {k : Nat} {A : Around} (hr : Room k A) : A.units + 65 < cLine := by
  have := hr.un
  omega
theorem pss_when {X : Cx} {p : Prop} {body : List Stmt} {t : TS} (h : p → PSs X body t) : PSs X body (fun D σ H => p ∧ t D σ H) := ⟨fun pins s σ H D I hh => (h hh.1).run pins s σ H D I hh.2⟩
theorem exm_self {K : PySem.W.Frag} {S : Addr} (h1 : PySem.W.subIn K (.ref S) (.type "BaseException") = some true) (h2 : PySem.W.isClsIn K S = true) (h3 : PySem.W.typeIn K (.ref S) = some (.type "type")) (h4 : PySem.W.subIn K (.ref S) (.ref S) = some true) :
    PySem.W.exmOne K (.ref S) (.ref S) = some true := by
  have e1 : (PySem.W.subIn K (.ref S) (.type "BaseException") == some true) = true := by rw [h1] <;> rfl
  have e2 : ((PySem.W.clsIn K S).isSome && PySem.W.typeIn K (.ref S) == some (.type "type")) = true := by
    have h2' : (PySem.W.clsIn K S).isSome = true := h2
    rw [h2', h3] <;> rfl
  show (if (PySem.W.subIn K (.ref S) (.type "BaseException") == some true) = true then (if ((PySem.W.clsIn K S).isSome && PySem.W.typeIn K (.ref S) == some (.type "type")) = true then PySem.W.subIn K (.ref S) (.ref S) else none) else none) = some true
  rw [if_pos e1, if_pos e2]
  exact h4
theorem kit_sub {K : PySem.W.Frag} {A B : Addr} {r : Bool} (n : (Value.ref A == Value.ref B) = false) (h : PySem.W.subIn K (.ref A) (.ref B) = some r) (i : PySem.W.isClsIn K B = true) (t : PySem.W.typeIn K (.ref B) = some (.type "type")) : PySem.W.kitOne K (.ref A) (.ref B) = some r := by
  unfold PySem.W.kitOne
  rw [n, if_neg Bool.false_ne_true]
  show (if ((PySem.W.clsIn K B).isSome && PySem.W.typeIn K (.ref B) == some (.type "type")) = true then PySem.W.subIn K (.ref A) (.ref B) else none) = some r
  have i' : (PySem.W.clsIn K B).isSome = true := i
  rw [i', t]
  exact h
theorem kit_val {K : PySem.W.Frag} {A : Addr} (h : PySem.W.subIn K (.ref A) (.type "ValueError") = some true) : PySem.W.kitOne K (.ref A) (.type "ValueError") = some true := by
  unfold PySem.W.kitOne
  rw [show (Value.ref A == Value.type "ValueError") = false from rfl, if_neg Bool.false_ne_true]
  show (if PySem.W.kitMeta "ValueError" = true then PySem.W.subIn K (.ref A) (.type "ValueError") else none) = some true
  rw [if_pos (by decide +kernel)]
  exact h
structure Txt (K : PySem.W.Frag) (mg : Str → Option Value) where
  is_rising_family : D1 K mg "is_rising_family" s_is_rising_family ["word", "family"]
  is_falling_family : D1 K mg "is_falling_family" s_is_falling_family ["word", "family"]
  cover : D1 K mg "cover" s_cover ["family"]
  has_each_index_once : D1 K mg "_has_each_index_once" s_has_each_index_once ["word", "family"]
  does_not_decrease : D1 K mg "_does_not_decrease" s_does_not_decrease ["letters"]
  strictly_decreases : D1 K mg "_strictly_decreases" s_strictly_decreases ["letters"]
  law_cell : D1 K mg "_law_cell" s_law_cell ["script", "k"]
  law_stream : D1 K mg "_law_stream" s_law_stream ["cell"]
  law_next : D1 K mg "_law_next" s_law_next ["stream", "size"]
  law_is_integer : D1 K mg "_law_is_integer" s_law_is_integer ["actual"]
  law_word : D1 K mg "_law_word" s_law_word ["stream", "most"]
  law_is_family : D1 K mg "_law_is_family" s_law_is_family ["word", "family", "falls"]
  law_cover : D1 K mg "_law_cover" s_law_cover ["family"]
  law_drawn_family : D1 K mg "_law_drawn_family" s_law_drawn_family ["stream", "word", "falls", "most"]
  law_spoilt : D1 K mg "_law_spoilt" s_law_spoilt ["stream", "word", "family"]
  all : mg "all" = none
  bool : mg "bool" = none
  int : mg "int" = none
  isinstance : mg "isinstance" = none
  len : mg "len" = none
  list : mg "list" = none
  range : mg "range" = none
  sum : mg "sum" = none
  zip : mg "zip" = none
/-! ### heaps: all but one kept; the stream -/
def Kp (a : Addr) (H H' : Hp) : Prop := ∀ b o, b ≠ a → H b = some o → H' b = some o
theorem Kp.refl (a : Addr) (H : Hp) : Kp a H H := fun _ _ _ h => h
theorem Kp.trans {a : Addr} {H H1 H2 : Hp} (x : Kp a H H1) (y : Kp a H1 H2) : Kp a H H2 := fun b o n h => y b o n (x b o n h)
theorem Kp.upd {a : Addr} {H H1 : Hp} {o : HO} (x : Kp a H H1) : Kp a H (L2.upd H1 a o) := fun b u n h => by
  rw [upd_ne n]
  exact x b u n h
theorem Kp.free {a : Addr} {H H1 : Hp} (x : Kp a H H1) {b : Addr} (n : b ≠ a) (h : H1 b = none) : H b = none := by
  cases e : H b with
  | none => rfl
  | some o =>
    rw [x b o n e] at h
    cases h
theorem Kp.of {a : Addr} {H H1 : Hp} (x : Ex H H1) : Kp a H H1 := fun b o _ h => x b o h
theorem Kp.new {a : Addr} {H H1 : Hp} {p : Addr} {o : HO} (x : Kp a H H1) (np : H1 p = none) : Kp a H (L2.upd H1 p o) := fun b u n h => by
  have h1 := x b u n h
  rw [upd_ne (ne_of_none h1 np)]
  exact h1
/-- an object that the first heap didn't know changes -/
theorem Kp.mut {a : Addr} {H H1 : Hp} {p : Addr} {o : HO} (x : Kp a H H1) (np : H p = none) : Kp a H (L2.upd H1 p o) := fun b u n h => by
  rw [upd_ne (ne_of_none h np)]
  exact x b u n h
theorem Kp.seq {K : PySem.W.Frag} {a : Addr} {H H1 : Hp} (x : Kp a H H1) {p : Addr} {xs : List V} (n : p ≠ a) (h : SqL K H p xs) : SqL K H1 p xs := by
  rcases h with (h | ⟨o, h⟩) | h
  · exact .inl (.inl (x _ _ n h))
  · exact .inl (.inr ⟨o, x _ _ n h⟩)
  · exact .inr h
def Strm (H : Hp) (a : Addr) : Prop := ∃ s0 s1 s2 : Int, H a = some (.lst [.int s0, .int s1, .int s2])
theorem Strm.some {H : Hp} {a : Addr} (h : Strm H a) : ∃ o, H a = some o := by
  obtain ⟨_, _, _, e⟩ := h
  exact ⟨_, e⟩
theorem Strm.ne {H : Hp} {a p : Addr} (h : Strm H a) (np : H p = none) : p ≠ a := fun e => by
  obtain ⟨_, _, _, q⟩ := h
  rw [e, q] at np
  cases np
theorem Strm.new {H : Hp} {a p : Addr} {o : HO} (h : Strm H a) (np : H p = none) : Strm (upd H p o) a := by
  obtain ⟨s0, s1, s2, q⟩ := h
  exact ⟨s0, s1, s2, by rw [upd_ne (ne_of_none q np)]; exact q⟩
theorem Strm.off {H : Hp} {a p : Addr} {o : HO} (h : Strm H a) (n : a ≠ p) : Strm (upd H p o) a := by
  obtain ⟨s0, s1, s2, q⟩ := h
  exact ⟨s0, s1, s2, by rw [upd_ne n]; exact q⟩
theorem Strm.ex {H H' : Hp} {a : Addr} (h : Strm H a) (x : Ex H H') : Strm H' a := by
  obtain ⟨s0, s1, s2, q⟩ := h
  exact ⟨s0, s1, s2, x _ _ q⟩
theorem ifT {c : Bool} {A B : Prop} (hc : c = true) (h : A) : if c = true then A else B := by
  rw [if_pos hc]
  exact h
theorem ifF {c : Bool} {A B : Prop} (hc : c = false) (h : B) : if c = true then A else B := by
  rw [hc, if_neg Bool.false_ne_true]
  exact h
theorem sz {n : Nat} (h : n ≤ 100000) : n ≤ sizeLine := Nat.le_trans h (by decide)
theorem szl {n : Nat} (h : n < 100000) : n < sizeLine := Nat.lt_of_lt_of_le h (by decide)
theorem mapAt {ws : List Int} {j : Nat} {x : Int} (h : ws[j]? = some x) : (ws.map V.int)[j]? = some (.int x) := by
  rw [List.getElem?_map, h]
  rfl
theorem mapAt' {ws : List Int} {j : Nat} {v : V} (h : (ws.map V.int)[j]? = some v) : ∃ x, ws[j]? = some x ∧ v = .int x := by
  rw [List.getElem?_map] at h
  cases e : ws[j]? with
  | none => rw [e] at h; cases h
  | some x => rw [e] at h; exact ⟨x, rfl, (Option.some.inj h).symm⟩
theorem getD_some' {ws : List Int} {i : Nat} (h : i < ws.length) : ws[i]? = some (ws.getD i 0) := by
  rw [List.getD_eq_getElem?_getD, List.getElem?_eq_getElem h]
  rfl
section
variable {P : Program} {w : World} {K : PySem.W.Frag} {mg : Str → Option Value} {base : Heap}
/-! ### what every law draws -/
def spCell (K : PySem.W.Frag) : Sp := fun vs H Q _ => ∃ (a : Addr) (ns : List Int) (k : Nat), vs = [.ref a, .int (k : Int)] ∧ SqL K H a (ns.map V.int) ∧ ∀ c : Int, Q (.int c) H
theorem ok_law_cell (T : Txt K mg) : FnOk P w K mg base CX0 1 T.law_cell.f T.law_cell.fd ["script", "k"] (spCell K) := by
  refine T.law_cell.F.ok sc_law_cell (fun vs H Q E h => ?_) (fun cdv A outer s H vs Q E hr h => ?_)
  · obtain ⟨a, ns, k, rfl, _⟩ := h
    rfl
  · obtain ⟨a, ns, k, rfl, hS, q⟩ := h
    refine ⟨_, (pss_cons (ps_if (pt_cmpR op_lt (pv 1) (pe_callB call_len_seq (by rfl) T.len PySem.boot_len (pa_cons (pv 0) pa_nil)) (nomark _))
      (pss_one (ps_ret (pe_ix ix_list (pv 0) (pv 1) (fun _ _ => rfl))))
      pss_nil)
      (pss_one (ps_ret pe_int))), ?_⟩
    refine ⟨_, rfl, _, rfl, a, _, rfl, .inl hS, _, _, rfl, rfl, _, rfl, ite2 (fun c => ?_) (fun c => ?_)⟩
    · have c1 := of_decide_eq_true c
      have c2 : k < ns.length := by rw [List.length_map] at c1; omega
      exact ⟨_, rfl, _, rfl, a, _, _, _, rfl, rfl, hS, atI_nat (mapAt (List.getElem?_eq_getElem c2)), q _⟩
    · exact q 0
def spStream : Sp := fun vs H Q _ => ∃ c : Int, vs = [.int c] ∧ ∀ (p : Addr) (s0 s1 s2 : Int), H p = none → Q (.ref p) (upd H p (.lst [.int s0, .int s1, .int s2]))
theorem ok_law_stream (T : Txt K mg) : FnOk P w K mg base CX0 1 T.law_stream.f T.law_stream.fd ["cell"] spStream := by
  refine T.law_stream.F.ok sc_law_stream (fun vs H Q E h => ?_) (fun cdv A outer s H vs Q E hr h => ?_)
  · obtain ⟨c, rfl, _⟩ := h
    rfl
  · obtain ⟨c, rfl, q⟩ := h
    refine ⟨_, (pss_cons (ps_if (pt_cmpR op_ge (pv 0) (pe_op op_pow pe_int pe_int) (nomark _))
      (pss_one (ps_ret (pe_lst (pa_cons (pv 0) (pa_cons pe_int (pa_cons (pe_op op_mod (pe_callTy call_int1 (by rfl) T.int (by decide +kernel) (pa_cons (pv 0) pa_nil)) pe_int) pa_nil))))))
      pss_nil)
      (pss_one (ps_ret (pe_lst (pa_cons pe_int (pa_cons pe_int (pa_cons (pe_op op_mod (pe_callTy call_int1 (by rfl) T.int (by decide +kernel) (pa_cons (pv 0) pa_nil)) pe_int) pa_nil))))))), ?_⟩
    refine ⟨_, rfl, _, _, rfl, rfl, ⟨by decide, by decide, by decide⟩, _, _, rfl, rfl, _, rfl, ite2 (fun _ => ?_) (fun _ => ?_)⟩
    · exact ⟨_, rfl, _, rfl, .inl ⟨_, rfl, _, _, rfl, rfl, (by show (0 : Int) < _; decide), (by show 3 ≤ sizeLine; decide), fun p np => q p _ _ _ np⟩⟩
    · exact ⟨_, rfl, .inl ⟨_, rfl, _, _, rfl, rfl, (by show (0 : Int) < _; decide), (by show 3 ≤ sizeLine; decide), fun p np => q p _ _ _ np⟩⟩
def spNext : Sp := fun vs H Q _ => ∃ (a : Addr) (n : Int), vs = [.ref a, .int n] ∧ Strm H a ∧ 0 < n ∧ n < 2 ^ 200 ∧ ∀ (d : Int) (H' : Hp), 0 ≤ d → d < n → Strm H' a → Kp a H H' → Q (.int d) H'
theorem ok_law_next (T : Txt K mg) : FnOk P w K mg base CX0 1 T.law_next.f T.law_next.fd ["stream", "size"] spNext := by
  refine T.law_next.F.ok sc_law_next (fun vs H Q E h => ?_) (fun cdv A outer s H vs Q E hr h => ?_)
  · obtain ⟨a, n, rfl, _⟩ := h
    rfl
  · obtain ⟨a, n, rfl, ⟨s0, s1, s2, hH⟩, n0, n1, q⟩ := h
    have nb : n.natAbs < 2 ^ 200 := by
      have : (n.natAbs : Int) < 2 ^ 200 := by omega
      exact_mod_cast this
    refine ⟨_, (pss_cons (ps_if (pt_cmpR op_gt (pe_ix ix_list (pv 0) pe_int (fun _ _ => rfl)) pe_int (nomark _))
      (pss_cons (ps_set (i := 2) sc_law_next.nd rfl (.inl rfl) (pe_op op_mod (pe_callTy call_int1 (by rfl) T.int (by decide +kernel) (pa_cons (pe_ix ix_list (pv 0) pe_int (fun _ _ => rfl)) pa_nil)) (pv 1)))
        (pss_cons (ps_asg (pe_op op_fdivW (pe_ix ix_list (pv 0) pe_int (fun _ _ => rfl)) (pv 1)) (pg_sub (pv 0) pe_int set_list))
        (pss_one (ps_ret (pv 2)))))
      pss_nil)
      (pss_cons (ps_asg (pe_op op_add (pe_ix ix_list (pv 0) pe_int (fun _ _ => rfl)) pe_int) (pg_sub (pv 0) pe_int set_list))
      (pss_cons (ps_set (i := 3) sc_law_next.nd rfl (.inl rfl) (pe_op op_mod (pe_callTy call_int1 (by rfl) T.int (by decide +kernel) (pa_cons (pe_op op_add (pe_op op_mul (pe_ix ix_list (pv 0) pe_int (fun _ _ => rfl)) pe_int) (pe_op op_mul (pe_ix ix_list (pv 0) pe_int (fun _ _ => rfl)) pe_int)) pa_nil)) pe_int))
      (pss_cons (ps_set (i := 3) sc_law_next.nd rfl (.inl rfl) (pe_op op_mod (pe_callTy call_int1 (by rfl) T.int (by decide +kernel) (pa_cons (pe_op op_add (pe_op op_mul (pv 3) (pv 3)) (pe_op op_mul (pe_ix ix_list (pv 0) pe_int (fun _ _ => rfl)) pe_int)) pa_nil)) pe_int))
      (pss_cons (ps_set (i := 3) sc_law_next.nd rfl (.inl rfl) (pe_op op_mod (pe_callTy call_int1 (by rfl) T.int (by decide +kernel) (pa_cons (pe_op op_add (pe_op op_mul (pv 3) pe_int) (pe_ix ix_list (pv 0) pe_int (fun _ _ => rfl))) pa_nil)) pe_int))
      (pss_one (ps_ret (pe_op op_mod (pe_callTy call_int1 (by rfl) T.int (by decide +kernel) (pa_cons (pv 3) pa_nil)) (pv 1))))))))), ?_⟩
    refine ⟨_, rfl, a, _, _, _, rfl, rfl, SqL.of hH, atI_nat (j := 0) rfl, _, _, rfl, rfl, _, rfl, ite2 (fun _ => ?_) (fun _ => ?_)⟩
    · refine ⟨_, rfl, a, _, _, _, rfl, rfl, SqL.of hH, atI_nat (j := 0) rfl, .inl ⟨_, rfl, _, rfl, _, _, rfl, rfl, n0, ?_⟩⟩
      refine ⟨_, rfl, a, _, _, _, rfl, rfl, SqL.of hH, atI_nat (j := 0) rfl, _, rfl, _, _, rfl, rfl, wide_div n0 nb (by decide) (by decide), ?_⟩
      refine ⟨_, rfl, a, _, _, 0, rfl, rfl, hH, rfl, ?_⟩
      refine ⟨_, rfl, ?_⟩
      exact q _ _ (Int.emod_nonneg _ (by omega)) (Int.emod_lt_of_pos _ n0) ⟨_, _, _, upd_same⟩ (Kp.refl a H).upd
    · refine ⟨_, rfl, a, _, _, _, rfl, rfl, SqL.of hH, atI_nat (j := 1) rfl, _, _, rfl, rfl, _, rfl, a, _, _, 1, rfl, rfl, hH, rfl, ?_⟩
      have h1 : (upd H a (.lst [.int s0, .int (s1 + 1), .int s2])) a = some (.lst [.int s0, .int (s1 + 1), .int s2]) := upd_same
      -- mixed = int(stream[2] * 48271 + stream[1] * 69621) % 2147483647
      refine ⟨_, rfl, a, _, _, _, rfl, rfl, SqL.of h1, atI_nat (j := 2) rfl, _, _, rfl, rfl, .inr ⟨by decide, by decide⟩, _, rfl, a, _, _, _, rfl, rfl, SqL.of h1, atI_nat (j := 1) rfl, _, _, rfl, rfl, .inr ⟨by decide, by decide⟩, _, _, rfl, rfl, .inl ⟨_, rfl, _, _, rfl, rfl, (by show (0 : Int) < _; decide), ?_⟩⟩
      -- mixed = int(mixed * mixed + stream[1] * 40692) % 2147483399
      have b1 := Int.emod_nonneg (s2 * 48271 + (s1 + 1) * 69621) (show (2147483647 : Int) ≠ 0 by decide)
      have b2 := Int.emod_lt_of_pos (s2 * 48271 + (s1 + 1) * 69621) (show (0 : Int) < 2147483647 by decide)
      refine ⟨_, rfl, _, rfl, _, _, rfl, rfl, .inl ⟨by omega, by omega⟩, _, rfl, a, _, _, _, rfl, rfl, SqL.of h1, atI_nat (j := 1) rfl, _, _, rfl, rfl, .inr ⟨by decide, by decide⟩, _, _, rfl, rfl, .inl ⟨_, rfl, _, _, rfl, rfl, (by show (0 : Int) < _; decide), ?_⟩⟩
      -- mixed = int(mixed * 16807 + stream[2]) % 2147483647
      refine ⟨_, rfl, _, _, rfl, rfl, .inr ⟨by decide, by decide⟩, _, rfl, a, _, _, _, rfl, rfl, SqL.of h1, atI_nat (j := 2) rfl, _, _, rfl, rfl, .inl ⟨_, rfl, _, _, rfl, rfl, (by show (0 : Int) < _; decide), ?_⟩⟩
      refine ⟨_, rfl, .inl ⟨_, rfl, _, rfl, _, _, rfl, rfl, n0, ?_⟩⟩
      exact q _ _ (Int.emod_nonneg _ (by omega)) (Int.emod_lt_of_pos _ n0) ⟨_, _, _, upd_same⟩ (Kp.refl a H).upd
end

theorem kinds (k : Int) (h0 : 0 ≤ k) (h1 : k < 6) : ∃ s l : Int, atI [V.int 2, .int 3, .int 6, .int 20, .int (10 ^ (15 : Int).toNat), .int (10 ^ (30 : Int).toNat)] k = some (.int s) ∧
    atI [V.int 1, .int 1, .int 0, .int (-9), .int (-(10 ^ (14 : Int).toNat)), .int (-(10 ^ (29 : Int).toNat))] k = some (.int l) ∧ 0 < s ∧ l + s ≤ 10 ^ 30 ∧ -(10 ^ 29) ≤ l ∧ s ≤ 10 ^ 30 := by
  have c : k = 0 ∨ k = 1 ∨ k = 2 ∨ k = 3 ∨ k = 4 ∨ k = 5 := by omega
  rcases c with rfl | rfl | rfl | rfl | rfl | rfl <;> exact ⟨_, _, rfl, rfl, by decide, by decide, by decide, by decide⟩
/-- the letters that a law draws -/
def Lets (ws : List Int) : Prop := ∀ x ∈ ws, -(10 ^ 30) - 1000 ≤ x ∧ x ≤ 10 ^ 30 + 1000
theorem lets_of {ws : List Int} {b : Nat} (h : ∀ x ∈ ws, -(10 ^ 30) - (b : Int) ≤ x ∧ x ≤ 10 ^ 30 + (b : Int)) (hb : b ≤ 1000) : Lets ws := fun x hx => by
  have := h x hx
  omega
section
variable {P : Program} {w : World} {K : PySem.W.Frag} {mg : Str → Option Value} {base : Heap}
def spWord : Sp := fun vs H Q _ => ∃ (a : Addr) (m : Nat), vs = [.ref a, .int (m : Int)] ∧ m ≤ 1000 ∧ Strm H a ∧
  ∀ (p : Addr) (ws : List Int) (H' : Hp), ws.length ≤ m → Lets ws → H p = none → p ≠ a → H' p = some (.lst (ws.map V.int)) → Strm H' a → Kp a H H' → Q (.ref p) H'
theorem ok_law_word (T : Txt K mg) : FnOk P w K mg base CX0 2 T.law_word.f T.law_word.fd ["stream", "most"] spWord := by
  refine T.law_word.F.ok sc_law_word (fun vs H Q E h => ?_) (fun cdv A outer s H vs Q E hr h => ?_)
  · obtain ⟨a, m, rfl, _⟩ := h
    rfl
  · obtain ⟨a, m, rfl, hm, S0, q⟩ := h
    refine ⟨_, (pss_cons (ps_set (i := 2) sc_law_word.nd rfl (.inl rfl) (pe_call (ok_law_next T) (hr.mono (by decide)) rfl T.law_next.g T.law_next.F.kp T.law_next.b .nil pass0 (pa_cons (pv 0) (pa_cons (pe_op op_add (pv 1) pe_int) pa_nil))))
      (pss_cons (ps_set (i := 3) sc_law_word.nd rfl (.inl rfl) (pe_call (ok_law_next T) (hr.mono (by decide)) rfl T.law_next.g T.law_next.F.kp T.law_next.b .nil pass0 (pa_cons (pv 0) (pa_cons pe_int pa_nil))))
      (pss_cons (ps_set (i := 4) sc_law_word.nd rfl (.inl rfl) (pe_ix ix_list (pe_lst (pa_cons pe_int (pa_cons pe_int (pa_cons pe_int (pa_cons pe_int (pa_cons (pe_op op_pow pe_int pe_int) (pa_cons (pe_op op_pow pe_int pe_int) pa_nil))))))) (pv 3) (fun _ _ => rfl)))
      (pss_cons (ps_set (i := 5) sc_law_word.nd rfl (.inl rfl) (pe_ix ix_list (pe_lst (pa_cons pe_int (pa_cons pe_int (pa_cons pe_int (pa_cons (pe_un un_neg pe_int) (pa_cons (pe_un un_neg (pe_op op_pow pe_int pe_int)) (pa_cons (pe_un un_neg (pe_op op_pow pe_int pe_int)) pa_nil))))))) (pv 3) (fun _ _ => rfl)))
      (pss_cons (ps_set (i := 6) sc_law_word.nd rfl (.inl rfl) (pe_lst pa_nil))
      (pss_cons (ps_for PassesOwn.never rfl (pi_range1 (by rfl) T.range (pa_cons (pv 2) pa_nil)) (pg_name (i := 7) sc_law_word.nd rfl (.inl rfl))
      (pss_cons (ps_expr (pe_bm PySem.F.plainAttrs_list PySem.F.slot_list_append PySem.F.type_list_append mt_append (pv 6) (pa_cons (pe_op op_add (pv 5) (pe_call (ok_law_next T) (hr.mono (by decide)) rfl T.law_next.g T.law_next.F.kp T.law_next.b .nil pass0 (pa_cons (pv 0) (pa_cons (pv 4) pa_nil)))) pa_nil)))
        (pss_one (ps_if (PW.pt (pw_and (pt_cmpR op_gt (pv 7) pe_int (nomark _)) (pw_and1 (pt_cmpR op_eq (pe_call (ok_law_next T) (hr.mono (by decide)) rfl T.law_next.g T.law_next.F.kp T.law_next.b .nil pass0 (pa_cons (pv 0) (pa_cons pe_int pa_nil))) pe_int (nomark _)))))
        (pss_one (ps_asg (pe_op op_sub (pe_op op_add (pe_ix ix_list (pv 6) (pe_op op_sub (pv 7) pe_int) (fun _ _ => rfl)) (pe_call (ok_law_next T) (hr.mono (by decide)) rfl T.law_next.g T.law_next.F.kp T.law_next.b .nil pass0 (pa_cons (pv 0) (pa_cons pe_int pa_nil)))) pe_int) (pg_sub (pv 6) (pv 7) set_list)))
        pss_nil))))
      (pss_one (ps_ret (pv 6))))))))), ?_⟩
    refine ⟨_, rfl, _, rfl, _, _, rfl, rfl, a, _, rfl, S0, by omega, by omega, fun cnt H1 c0 c1 S1 K1 => ?_⟩
    refine ⟨_, rfl, a, _, rfl, S1, by omega, by omega, fun kind H2 k0 k1 S2 K2 => ?_⟩
    obtain ⟨sz, lo, es, el, z0, z1, z2, z3⟩ := kinds kind k0 k1
    refine ⟨_, _, rfl, rfl, ⟨by decide, by decide, by decide⟩, _, _, rfl, rfl, ⟨by decide, by decide, by decide⟩, (by show 6 ≤ sizeLine; decide), fun l1 n1 => ?_⟩
    refine ⟨_, rfl, l1, _, _, _, rfl, rfl, SqL.of upd_same, es, ?_⟩
    refine ⟨_, rfl, _, _, rfl, rfl, ⟨by decide, by decide, by decide⟩, _, rfl, _, _, rfl, rfl, ⟨by decide, by decide, by decide⟩, _, rfl, (by show 6 ≤ sizeLine; decide), fun l2 n2 => ?_⟩
    refine ⟨_, rfl, l2, _, _, _, rfl, rfl, SqL.of upd_same, el, ?_⟩
    refine ⟨Nat.zero_le _, fun p np => ?_⟩
    have S3 := (S2.new (o := .lst [V.int 2, .int 3, .int 6, .int 20, .int (10 ^ (15 : Int).toNat), .int (10 ^ (30 : Int).toNat)]) n1).new (o := .lst [V.int 1, .int 1, .int 0, .int (-9), .int (-(10 ^ (14 : Int).toNat)), .int (-(10 ^ (29 : Int).toNat))]) n2
    have K3 := (((K1.trans K2).new (o := .lst [V.int 2, .int 3, .int 6, .int 20, .int (10 ^ (15 : Int).toNat), .int (10 ^ (30 : Int).toNat)]) n1).new (o := .lst [V.int 1, .int 1, .int 0, .int (-9), .int (-(10 ^ (14 : Int).toNat)), .int (-(10 ^ (29 : Int).toNat))]) n2)
    have pa : p ≠ a := S3.ne np
    have pH : H p = none := K3.free pa np
    refine ⟨_, rfl, cnt, rfl, by omega, by omega, for_range (lo := 0) (n := cnt.toNat) (fun i σ H' => ∃ (ws : List Int) (x7 : Option V), σ = [some (.ref a), some (.int m), some (.int cnt), some (.int kind), some (.int sz), some (.int lo), some (.ref p), x7] ∧ ws.length = i ∧
      (∀ x ∈ ws, -(10 ^ 30) - (i : Int) ≤ x ∧ x ≤ 10 ^ 30 + (i : Int)) ∧ H' p = some (.lst (ws.map V.int)) ∧ Strm H' a ∧ Kp a H H')
      ⟨[], none, rfl, rfl, fun x h => absurd h List.not_mem_nil, upd_same, S3.new np, K3.new np⟩ ?_ ?_⟩
    · rintro i σ H' hi ⟨ws, x7, rfl, hl, hb, hp, S, Kh⟩
      -- word.append(low + next)
      refine ⟨_, rfl, .inl ⟨rfl, _, SqL.of hp⟩, _, rfl, _, rfl, _, rfl, a, sz, rfl, S, z0, by omega, fun d H4 d0 d1 S4 K4 => ?_⟩
      have hp4 := K4 _ _ pa hp
      refine ⟨_, _, rfl, rfl, p, _, _, rfl, rfl, hp4, szl (by rw [List.length_map]; omega), ?_⟩
      have hp5 : (upd H4 p (.lst (ws.map V.int ++ [.int (lo + d)]))) p = some (.lst ((ws ++ [lo + d]).map V.int)) := by
        rw [upd_same, List.map_append]
        rfl
      have S5 : Strm (upd H4 p (.lst (ws.map V.int ++ [.int (lo + d)]))) a := S4.off pa.symm
      have K5 : Kp a H (upd H4 p (.lst (ws.map V.int ++ [.int (lo + d)]))) := (Kh.trans K4).mut pH
      have hb5 : ∀ x ∈ ws ++ [lo + d], -(10 ^ 30) - ((i + 1 : Nat) : Int) ≤ x ∧ x ≤ 10 ^ 30 + ((i + 1 : Nat) : Int) := fun x hx => by
        rcases List.mem_append.mp hx with h | h
        · have := hb x h
          omega
        · rw [List.mem_singleton] at h
          subst h
          omega
      -- if k > 0 and next == 0
      refine ⟨_, rfl, _, _, rfl, rfl, _, rfl, ?_⟩
      by_cases c0 : (0 : Int) < 0 + (i : Int)
      · refine ifT (decide_eq_true c0) ?_
        refine ⟨_, rfl, a, _, rfl, S5, by omega, by omega, fun e H6 e0 e1 S6 K6 => ?_⟩
        have hp6 := K6 _ _ pa hp5
        refine ⟨rfl, _, rfl, ite2 (fun _ => ?_) (fun _ => ?_)⟩
        · -- word[k] = word[k - 1] + next - 1
          obtain ⟨y, hy⟩ : ∃ y, (ws ++ [lo + d])[i - 1]? = some y := ⟨_, List.getElem?_eq_getElem (by rw [List.length_append, List.length_singleton]; omega)⟩
          have yb := hb y (by
            have e : (ws ++ [lo + d])[i - 1]? = ws[i - 1]? := List.getElem?_append_left (by omega)
            rw [e] at hy
            exact List.mem_of_getElem? hy)
          refine ⟨_, rfl, _, rfl, _, _, rfl, rfl, p, _, _, _, rfl, rfl, SqL.of hp6, at_of (j := i - 1) (by omega) (mapAt hy), _, rfl, a, _, rfl, S6, by omega, by omega, fun f H7 f0 f1 S7 K7 => ?_⟩
          have hp7 := K7 _ _ pa hp6
          refine ⟨_, _, rfl, rfl, _, _, rfl, rfl, _, rfl, _, rfl, p, _, _, i, rfl, rfl, hp7, ?_, ?_⟩
          · rw [show (0 : Int) + (i : Int) = (i : Int) from Int.zero_add _]
            exact Evl.ixN_nat (by rw [List.length_map, List.length_append, List.length_singleton]; omega)
          · refine ⟨(ws ++ [lo + d]).set i (y + f - 1), _, rfl, by rw [List.length_set, List.length_append, List.length_singleton]; omega, fun x hx => ?_, by rw [upd_same, List.map_set], S7.off pa.symm, (K5.trans (K6.trans K7)).mut pH⟩
            rcases List.mem_or_eq_of_mem_set hx with h | h
            · exact hb5 x h
            · subst h
              omega
        · exact ⟨ws ++ [lo + d], _, rfl, by rw [List.length_append, List.length_singleton]; omega, hb5, hp6, S6, K5.trans K6⟩
      · refine ifF (decide_eq_false c0) ?_
        refine iteF ?_
        exact ⟨ws ++ [lo + d], _, rfl, by rw [List.length_append, List.length_singleton]; omega, hb5, hp5, S5, K5⟩
    · rintro σ H' ⟨ws, x7, rfl, hl, hb, hp, S, Kh⟩
      exact ⟨_, rfl, q p ws H' (by omega) (lets_of hb (by omega)) pH pa hp S Kh⟩
end

/-! ### data: lists and tuples of ints and texts, at any depth -/
def purN : Nat → PyData → Bool
  | _, .none => true
  | _, .int _ => true
  | _, .str x => PyData.strOk x
  | n + 1, .list xs => xs.all (purN n)
  | n + 1, .tuple xs => xs.all (purN n)
  | _, _ => false
theorem layAll_of : ∀ {xs : List PyData}, (∀ x ∈ xs, x.canLay0 = true) → PyData.canLayAll0 xs = true
  | [], _ => by simp [PyData.canLayAll0]
  | x :: xs, h => by
    simp only [PyData.canLayAll0, Bool.and_eq_true]
    exact ⟨h x List.mem_cons_self, layAll_of fun y hy => h y (List.mem_cons_of_mem _ hy)⟩
theorem depthAll_of {n : Nat} : ∀ {xs : List PyData}, (∀ x ∈ xs, x.depth ≤ n) → PyData.depthAll xs ≤ n
  | [], _ => by simp [PyData.depthAll]
  | x :: xs, h => by
    have h1 := h x List.mem_cons_self
    have h2 := depthAll_of (n := n) (xs := xs) fun y hy => h y (List.mem_cons_of_mem _ hy)
    simp only [PyData.depthAll]
    omega
theorem purN_ok : ∀ (n : Nat) (d : PyData), purN n d = true → d.canLay0 = true ∧ d.depth ≤ n
  | _, .none, _ => by simp [PyData.canLay0, PyData.depth]
  | _, .int _, _ => by simp [PyData.canLay0, PyData.depth]
  | n, .str x, h => by
    have h' : PyData.strOk x = true := by cases n <;> simpa [purN] using h
    simp [PyData.canLay0, PyData.depth, h']
  | n + 1, .list xs, h => by
    have h' : ∀ x ∈ xs, purN n x = true := by simpa [purN] using h
    simp only [PyData.canLay0, PyData.depth]
    exact ⟨layAll_of fun x hx => (purN_ok n x (h' x hx)).1, Nat.succ_le_succ (depthAll_of fun x hx => (purN_ok n x (h' x hx)).2)⟩
  | n + 1, .tuple xs, h => by
    have h' : ∀ x ∈ xs, purN n x = true := by simpa [purN] using h
    simp only [PyData.canLay0, PyData.depth]
    exact ⟨layAll_of fun x hx => (purN_ok n x (h' x hx)).1, Nat.succ_le_succ (depthAll_of fun x hx => (purN_ok n x (h' x hx)).2)⟩
  | 0, .list _, h => by simp [purN] at h
  | 0, .tuple _, h => by simp [purN] at h
  | n, .bool _, h => by cases n <;> simp [purN] at h
  | n, .dict _, h => by cases n <;> simp [purN] at h
theorem purN_shaped {n : Nat} {d : PyData} (h : purN n d = true) (hn : n ≤ 64) : SeqAt.shaped d = true := by
  obtain ⟨a, b⟩ := purN_ok n d h
  show (d.canLay0 && decide (d.depth ≤ 64)) = true
  rw [Bool.and_eq_true]
  exact ⟨a, decide_eq_true (by omega)⟩
theorem eqvAll_iff : ∀ {xs ys : List PyData}, (∀ x ∈ xs, ∀ y ∈ ys, PyData.eqv x y = true → x = y) → PyData.eqvAll xs ys = true → xs = ys
  | [], [], _, _ => rfl
  | [], _ :: _, _, h => by simp [PyData.eqvAll] at h
  | _ :: _, [], _, h => by simp [PyData.eqvAll] at h
  | x :: xs, y :: ys, h, e => by
    simp only [PyData.eqvAll, Bool.and_eq_true] at e
    rw [h x List.mem_cons_self y List.mem_cons_self e.1, eqvAll_iff (fun u hu v hv => h u (List.mem_cons_of_mem _ hu) v (List.mem_cons_of_mem _ hv)) e.2]
theorem purN_inj : ∀ (n m : Nat) (d e : PyData), purN n d = true → purN m e = true → PyData.eqv d e = true → d = e
  | n, m, .none, e, _, h2, q => by cases e <;> simp [PyData.eqv] at q <;> rfl
  | n, m, .int i, e, _, h2, q => by
    cases e with
    | int j => simp [PyData.eqv] at q; rw [q]
    | bool b => cases m <;> simp [purN] at h2
    | _ => simp [PyData.eqv] at q
  | n, m, .str x, e, _, h2, q => by
    cases e with
    | str y => simp [PyData.eqv] at q; rw [q]
    | _ => simp [PyData.eqv] at q
  | n + 1, m, .list xs, e, h1, h2, q => by
    cases e with
    | list ys =>
      cases m with
      | zero => simp [purN] at h2
      | succ m =>
        have h1' : ∀ x ∈ xs, purN n x = true := by simpa [purN] using h1
        have h2' : ∀ x ∈ ys, purN m x = true := by simpa [purN] using h2
        simp only [PyData.eqv] at q
        rw [eqvAll_iff (fun x hx y hy => purN_inj n m x y (h1' x hx) (h2' y hy)) q]
    | _ => simp [PyData.eqv] at q
  | n + 1, m, .tuple xs, e, h1, h2, q => by
    cases e with
    | tuple ys =>
      cases m with
      | zero => simp [purN] at h2
      | succ m =>
        have h1' : ∀ x ∈ xs, purN n x = true := by simpa [purN] using h1
        have h2' : ∀ x ∈ ys, purN m x = true := by simpa [purN] using h2
        simp only [PyData.eqv] at q
        rw [eqvAll_iff (fun x hx y hy => purN_inj n m x y (h1' x hx) (h2' y hy)) q]
    | _ => simp [PyData.eqv] at q
  | 0, _, .list _, _, h, _, _ => by simp [purN] at h
  | 0, _, .tuple _, _, h, _, _ => by simp [purN] at h
  | n, _, .bool _, _, h, _, _ => by cases n <;> simp [purN] at h
  | n, _, .dict _, _, h, _, _ => by cases n <;> simp [purN] at h
theorem purN_eqv {n m : Nat} {d e : PyData} (h1 : purN n d = true) (h2 : purN m e = true) : PyData.eqv d e = true ↔ d = e := by
  refine ⟨purN_inj n m d e h1 h2, fun q => ?_⟩
  subst q
  exact SeqAt.eqv_refl d (purN_ok n d h1).1
/-- a list of ints; of such; a tuple of such -/
abbrev dW (ws : List Int) : PyData := .list (ws.map .int)
abbrev dR (ws : List Int) : PyData := .tuple (ws.map .int)
abbrev dF (fs : List (List Int)) : PyData := .list (fs.map dW)
abbrev dT (fs : List (List Int)) : PyData := .tuple (fs.map dR)
theorem pur_ints (n : Nat) (ws : List Int) : (ws.map PyData.int).all (purN n) = true := by
  rw [List.all_map, List.all_eq_true]
  intro x _
  cases n <;> rfl
theorem pur_W (ws : List Int) : purN 1 (dW ws) = true := pur_ints 0 ws
theorem pur_R (ws : List Int) : purN 1 (dR ws) = true := pur_ints 0 ws
theorem pur_F (fs : List (List Int)) : purN 2 (dF fs) = true := by
  show (fs.map dW).all (purN 1) = true
  rw [List.all_map, List.all_eq_true]
  intro x _
  exact pur_W x
theorem pur_T (fs : List (List Int)) : purN 2 (dT fs) = true := by
  show (fs.map dR).all (purN 1) = true
  rw [List.all_map, List.all_eq_true]
  intro x _
  exact pur_R x
theorem map_int_inj {xs ys : List Int} (h : xs.map PyData.int = ys.map PyData.int) : xs = ys := by
  induction xs generalizing ys with
  | nil => cases ys with
    | nil => rfl
    | cons _ _ => cases h
  | cons x xs ih => cases ys with
    | nil => cases h
    | cons y ys =>
      simp only [List.map_cons, List.cons.injEq, PyData.int.injEq] at h
      rw [h.1, ih h.2]
theorem dW_inj {xs ys : List Int} (h : dW xs = dW ys) : xs = ys := map_int_inj (PyData.list.inj h)
theorem dR_inj {xs ys : List Int} (h : dR xs = dR ys) : xs = ys := map_int_inj (PyData.tuple.inj h)
theorem map_inj_of {α β : Type} {f : α → β} (hf : ∀ x y, f x = f y → x = y) : ∀ {xs ys : List α}, xs.map f = ys.map f → xs = ys
  | [], [], _ => rfl
  | [], _ :: _, h => by cases h
  | _ :: _, [], h => by cases h
  | x :: xs, y :: ys, h => by
    simp only [List.map_cons, List.cons.injEq] at h
    rw [hf x y h.1, map_inj_of hf h.2]
theorem dF_inj {xs ys : List (List Int)} (h : dF xs = dF ys) : xs = ys := map_inj_of (fun _ _ => dW_inj) (PyData.list.inj h)
theorem dT_inj {xs ys : List (List Int)} (h : dT xs = dT ys) : xs = ys := map_inj_of (fun _ _ => dR_inj) (PyData.tuple.inj h)

/-! ### data in the heap -/
section
variable {K : PySem.W.Frag} {H H' : Hp}
mutual
theorem Dp.ex (e : Ex H H') : ∀ (d : PyData) (v : V), Dp K H v d → Dp K H' v d
  | .none, _, h => by cases h; exact .non
  | .bool _, _, h => by cases h; exact .bl _
  | .int _, _, h => by cases h; exact .int _
  | .str _, _, h => by cases h; exact .str _
  | .list ds, _, h => by cases h with | lst hs ha => exact .lst (Evl.ex_l e hs) (DpAll.ex e ds _ ha)
  | .tuple ds, _, h => by cases h with | tup hs ha => exact .tup (Evl.ex_t e hs) (DpAll.ex e ds _ ha)
  | .dict _, _, h => by cases h
theorem DpAll.ex (e : Ex H H') : ∀ (ds : List PyData) (vs : List V), DpAll K H vs ds → DpAll K H' vs ds
  | [], _, h => by cases h; exact .nil
  | d :: ds, _, h => by cases h with | cons a b => exact .cons (Dp.ex e d _ a) (DpAll.ex e ds _ b)
end
theorem _root_.L2.Dp.mono {v : V} {d : PyData} (h : Dp K H v d) (e : Ex H H') : Dp K H' v d := Dp.ex e d v h
theorem _root_.L2.DpAll.mono {vs : List V} {ds : List PyData} (h : DpAll K H vs ds) (e : Ex H H') : DpAll K H' vs ds := DpAll.ex e ds vs h
theorem dp_ints : ∀ ws : List Int, DpAll K H (ws.map V.int) (ws.map PyData.int)
  | [] => .nil
  | w :: ws => .cons (.int w) (dp_ints ws)
theorem dp_ints_inv : ∀ {ws : List Int} {vs : List V}, DpAll K H vs (ws.map PyData.int) → vs = ws.map V.int
  | [], _, h => by cases h; rfl
  | w :: ws, _, h => by
    cases h with
    | cons a b =>
      cases a
      rw [dp_ints_inv b]
      rfl
theorem dp_W {p : Addr} {ws : List Int} (h : SqL K H p (ws.map V.int)) : Dp K H (.ref p) (dW ws) := .lst h (dp_ints ws)
theorem dp_R {p : Addr} {ws : List Int} (h : SqT K H p (ws.map V.int)) : Dp K H (.ref p) (dR ws) := .tup h (dp_ints ws)
theorem dp_W_inv {v : V} {ws : List Int} (h : Dp K H v (dW ws)) : ∃ p, v = .ref p ∧ SqL K H p (ws.map V.int) := by
  cases h with
  | lst hs ha =>
    rw [dp_ints_inv ha] at hs
    exact ⟨_, rfl, hs⟩
theorem dp_R_inv {v : V} {ws : List Int} (h : Dp K H v (dR ws)) : ∃ p, v = .ref p ∧ SqT K H p (ws.map V.int) := by
  cases h with
  | tup hs ha =>
    rw [dp_ints_inv ha] at hs
    exact ⟨_, rfl, hs⟩
theorem dp_len : ∀ {vs : List V} {ds : List PyData}, DpAll K H vs ds → vs.length = ds.length
  | _, _, .nil => rfl
  | _, _, .cons _ b => by rw [List.length_cons, List.length_cons, dp_len b]
theorem dp_at : ∀ {vs : List V} {ds : List PyData} {j : Nat} {v : V}, DpAll K H vs ds → vs[j]? = some v → ∃ d, ds[j]? = some d ∧ Dp K H v d
  | _, _, _, _, .nil, h => by simp at h
  | _, _, 0, _, .cons a _, h => by
    simp only [List.getElem?_cons_zero, Option.some.injEq] at h
    subst h
    exact ⟨_, rfl, a⟩
  | _, _, j + 1, v, .cons _ b, h => by
    rw [List.getElem?_cons_succ] at h
    obtain ⟨d, e, q⟩ := dp_at b h
    exact ⟨d, by rw [List.getElem?_cons_succ]; exact e, q⟩
theorem dp_at' {vs : List V} {ds : List PyData} {j : Nat} {d : PyData} (h : DpAll K H vs ds) (e : ds[j]? = some d) : ∃ v, vs[j]? = some v ∧ Dp K H v d := by
  have hj : j < vs.length := by rw [dp_len h]; exact (List.getElem?_eq_some_iff.mp e).1
  obtain ⟨d', e', q⟩ := dp_at h (List.getElem?_eq_getElem hj)
  rw [e] at e'
  cases e'
  exact ⟨_, List.getElem?_eq_getElem hj, q⟩
theorem dp_snoc : ∀ {vs : List V} {ds : List PyData} {v : V} {d : PyData}, DpAll K H vs ds → Dp K H v d → DpAll K H (vs ++ [v]) (ds ++ [d])
  | _, _, _, _, .nil, h => .cons h .nil
  | _, _, _, _, .cons a b, h => .cons a (dp_snoc b h)
/-- == and != of such data -/
theorem eq_data {x y : V} {d e : PyData} {n m : Nat} {Q : VK} (hx : Dp K H x d) (hy : Dp K H y e) (h1 : purN n d = true) (h2 : purN m e = true) (hn : n ≤ 64) (hm : m ≤ 64) (qt : d = e → Q (.bl true) H) (qf : d ≠ e → Q (.bl false) H) : rEqD K x y H Q := by
  refine ⟨d, e, hx, hy, purN_shaped h1 hn, purN_shaped h2 hm, ?_⟩
  cases c : PyData.eqv d e with
  | true => exact qt ((purN_eqv h1 h2).mp c)
  | false => exact qf fun z => by rw [(purN_eqv h1 h2).mpr z] at c; cases c
theorem ne_data {x y : V} {d e : PyData} {n m : Nat} {Q : VK} (hx : Dp K H x d) (hy : Dp K H y e) (h1 : purN n d = true) (h2 : purN m e = true) (hn : n ≤ 64) (hm : m ≤ 64) (qt : d ≠ e → Q (.bl true) H) (qf : d = e → Q (.bl false) H) : rNeD K x y H Q := by
  refine ⟨d, e, hx, hy, purN_shaped h1 hn, purN_shaped h2 hm, ?_⟩
  cases c : PyData.eqv d e with
  | true => exact qf ((purN_eqv h1 h2).mp c)
  | false => exact qt fun z => by rw [(purN_eqv h1 h2).mpr z] at c; cases c
theorem notIn_data {x y : V} {d : PyData} {ds : List PyData} {n m : Nat} {Q : VK} (hx : Dp K H x d) (hy : Dp K H y (.list ds)) (h1 : purN n d = true) (h2 : purN m (.list ds) = true) (hn : n ≤ 64) (hm : m ≤ 64) (qt : d ∉ ds → Q (.bl true) H) (qf : d ∈ ds → Q (.bl false) H) : rNotInD K x y H Q := by
  refine ⟨d, ds, hx, hy, purN_shaped h1 hn, purN_shaped h2 hm, ?_⟩
  have hz : ∀ z ∈ ds, ∃ k, purN k z = true := fun z hz => by
    cases m with
    | zero => simp [purN] at h2
    | succ m => exact ⟨m, (by simpa [purN] using h2 : ∀ x ∈ ds, purN m x = true) z hz⟩
  cases c : (ds.any fun z => PyData.eqv z d) with
  | true =>
    obtain ⟨z, hm, q⟩ := List.any_eq_true.mp c
    obtain ⟨k, hk⟩ := hz z hm
    exact qf ((purN_eqv hk h1).mp q ▸ hm)
  | false =>
    refine qt fun hd => ?_
    have : (ds.any fun z => PyData.eqv z d) = true := List.any_eq_true.mpr ⟨d, hd, SeqAt.eqv_refl d (purN_ok n d h1).1⟩
    rw [this] at c
    cases c
/-- a heap without one object -/
def wo (a : Addr) (H : Hp) : Hp := fun b => if b = a then none else H b
theorem wo_at {a b : Addr} {o : HO} (h : wo a H b = some o) : b ≠ a ∧ H b = some o := by
  unfold wo at h
  by_cases e : b = a
  · rw [if_pos e] at h
    cases h
  · rw [if_neg e] at h
    exact ⟨e, h⟩
theorem wo_of {a b : Addr} {o : HO} (n : b ≠ a) (h : H b = some o) : wo a H b = some o := by
  unfold wo
  rw [if_neg n]
  exact h
theorem wo_ex (a : Addr) : Ex (wo a H) H := fun b o h => (wo_at h).2
theorem Kp.wo {a : Addr} (x : Kp a H H') : Ex (wo a H) (CP.wo a H') := fun b o h => by
  obtain ⟨n, q⟩ := wo_at h
  exact wo_of n (x b o n q)
theorem ex_wo {a : Addr} (x : Ex H H') : Ex (CP.wo a H) (CP.wo a H') := Kp.wo (Kp.of x)
theorem wo_seq {a p : Addr} {xs : List V} (n : p ≠ a) (h : SqL K H p xs) : SqL K (wo a H) p xs := by
  rcases h with (h | ⟨o, h⟩) | h
  · exact .inl (.inl (wo_of n h))
  · exact .inl (.inr ⟨o, wo_of n h⟩)
  · exact .inr h
end

/-! ### what an expression gives, told as data; B: the heap that the value may lean on besides what is new -/
def via (B H1 H2 : Hp) : Hp := fun b => if (B b).isNone && (H1 b).isSome then none else H2 b
section
variable {B B' H H1 H2 H3 : Hp}
theorem via_le : Ex (via B H1 H2) H2 := fun b o h => by
  unfold via at h
  split at h
  · cases h
  · exact h
theorem via_base (e : Ex B H2) : Ex B (via B H1 H2) := fun b o h => by
  unfold via
  rw [h]
  exact e b o h
theorem via_new {p : Addr} {o : HO} (n : H1 p = none) (h : H2 p = some o) : via B H1 H2 p = some o := by
  unfold via
  rw [n]
  simpa using h
theorem via_up (e : Ex H2 H3) : Ex (via B H1 H2) (via B H1 H3) := fun b o h => by
  unfold via at h ⊢
  split at h
  · cases h
  · rename_i c
    rw [if_neg c]
    exact e b o h
theorem via_down (e : Ex H1 H2) : Ex (via B H2 H3) (via B H1 H3) := fun b o h => by
  unfold via at h ⊢
  split at h
  · cases h
  · rename_i c
    rw [if_neg]
    · exact h
    · intro c2
      apply c
      simp only [Bool.and_eq_true, Option.isNone_iff_eq_none, Option.isSome_iff_exists] at c2 ⊢
      obtain ⟨c3, u, c4⟩ := c2
      exact ⟨c3, u, e b u c4⟩
theorem via_mono (e : Ex B B') : Ex (via B H1 H2) (via B' H1 H2) := fun b o h => by
  unfold via at h ⊢
  split at h
  · cases h
  · rename_i c
    rw [if_neg]
    · exact h
    · intro c2
      apply c
      simp only [Bool.and_eq_true, Option.isNone_iff_eq_none] at c2 ⊢
      refine ⟨?_, c2.2⟩
      cases q : B b with
      | none => rfl
      | some u => rw [e b u q] at c2; cases c2.1
theorem via_self : via H H H2 = H2 := by
  funext b
  unfold via
  cases H b <;> rfl
theorem via_wo {p : Addr} (nB : B p = none) (h : ∃ o, H1 p = some o) : Ex (via B H1 H2) (wo p (via B H1 H2)) := fun b o q => by
  refine wo_of (fun e => ?_) q
  subst e
  obtain ⟨u, hu⟩ := h
  unfold via at q
  rw [nB, hu] at q
  cases q
end
/-- the empty heap; what is new -/
def emp : Hp := fun _ => none
theorem emp_ex {H : Hp} : Ex emp H := fun _ _ h => by cases h
abbrev nw (H H2 : Hp) : Hp := via emp H H2
def EvB (K : PySem.W.Frag) (B : Hp) (te : TE) (σ : L2.St) (H : Hp) (d : PyData) : Prop := ∀ H1, Ex H H1 → ∀ Q : VK, (∀ v H2, Ex H1 H2 → Dp K (via B H1 H2) v d → Q v H2) → te σ H1 Q
def EvA (K : PySem.W.Frag) (B : Hp) (ta : TA) (σ : L2.St) (H : Hp) (ds : List PyData) : Prop := ∀ H1, Ex H H1 → ∀ Q : List V → Hp → Prop, (∀ vs H2, Ex H1 H2 → DpAll K (via B H1 H2) vs ds → Q vs H2) → ta σ H1 Q
def scD : PyData → Bool
  | .list _ => false
  | .tuple _ => false
  | .dict _ => false
  | _ => true
section
variable {K : PySem.W.Frag} {B B' H H' : Hp} {σ : L2.St} {ta tb te : TE} {t u : TT} {x y : V} {d e : PyData}
theorem dp_scal (hs : scD d = true) (h : Dp K H x d) : Dp K H' x d := by
  cases h with
  | non => exact .non
  | bl b => exact .bl b
  | int i => exact .int i
  | str s => exact .str s
  | lst _ _ => cases hs
  | tup _ _ => cases hs
theorem EvB.mono (h : EvB K B te σ H d) (e : Ex H H') : EvB K B te σ H' d := fun H1 a Q q => h H1 (e.trans a) Q q
theorem EvB.base (h : EvB K B te σ H d) (e : Ex B B') : EvB K B' te σ H d := fun H1 a Q q => h H1 a Q fun v H2 e2 hv => q v H2 e2 (hv.mono (via_mono e))
theorem EvB.scal (h : EvB K B te σ H d) (hs : scD d = true) : EvB K B' te σ H d := fun H1 a Q q => h H1 a Q fun v H2 e2 hv => q v H2 e2 (dp_scal hs hv)
theorem EvB.is (h : EvB K B te σ H d) (q : d = e) : EvB K B te σ H e := q ▸ h
theorem evb_run {Q : VK} (h : EvB K B te σ H d) (hB : Ex B H) (q : ∀ v H1, Ex H H1 → Dp K H1 v d → Dp K (via B H H1) v d → Q v H1) : te σ H Q := h H (Ex.refl H) Q fun v H2 e hv => q v H2 e (hv.mono via_le) hv
theorem evb_var {i : Nat} (h : σ[i]? = some (some x)) (hd : Dp K B x d) (hB : Ex B H) : EvB K B (tVar i) σ H d := fun H1 e _ q => ⟨x, h, q _ H1 (Ex.refl H1) (hd.mono (via_base (hB.trans e)))⟩
/-- a slot that holds data of the heap as it stands -/
theorem evb_v {i : Nat} (h : σ[i]? = some (some x)) (hd : Dp K H x d) : EvB K H (tVar i) σ H d := evb_var h hd (Ex.refl H)
theorem evb_sv {i : Nat} (h : σ[i]? = some (some x)) (hd : Dp K H x d) (hs : scD d = true) : EvB K B (tVar i) σ H d := (evb_v h hd).scal hs
theorem evb_int {i : Int} : EvB K B (tC (.int i)) σ H (.int i) := fun H1 _ _ q => q _ H1 (Ex.refl H1) (.int i)
theorem evb_str {s : Str} : EvB K B (tC (.str s)) σ H (.str s) := fun H1 _ _ q => q _ H1 (Ex.refl H1) (.str s)
theorem evb_bl {b : Bool} : EvB K B (tC (.bl b)) σ H (.bool b) := fun H1 _ _ q => q _ H1 (Ex.refl H1) (.bl b)
theorem evb_non : EvB K B (tC .non) σ H .none := fun H1 _ _ q => q _ H1 (Ex.refl H1) .non
theorem eva_nil : EvA K B tNil σ H [] := fun H1 _ _ q => q _ H1 (Ex.refl H1) .nil
theorem eva_cons {tr : TA} {ds : List PyData} (h : EvB K B ta σ H d) (hr : EvA K B tr σ H ds) : EvA K B (tCons ta tr) σ H (d :: ds) := fun H1 e _ q =>
  h H1 e _ fun v H2 e2 hv => hr H2 (e.trans e2) _ fun vs H3 e3 hvs => q _ H3 (e2.trans e3) (.cons (hv.mono (via_up e3)) (hvs.mono (via_down e2)))
theorem eva1 (h : EvB K B ta σ H d) : EvA K B (tCons ta tNil) σ H [d] := eva_cons h eva_nil
theorem eva2 (h : EvB K B ta σ H d) (h2 : EvB K B tb σ H e) : EvA K B (tCons ta (tCons tb tNil)) σ H [d, e] := eva_cons h (eva1 h2)
theorem evb_tup {tr : TA} {ds : List PyData} (h : EvA K B tr σ H ds) (hl : ds.length ≤ 100000) : EvB K B (tTup tr) σ H (.tuple ds) := fun H1 e _ q =>
  h H1 e _ fun vs H2 e2 hvs => ⟨sz (by rw [dp_len hvs]; exact hl), fun p hp => q _ _ (e2.trans (Ex.new hp)) (.tup (Evl.st_of (via_new (Evl.fresh_back e2 hp) upd_same)) (hvs.mono (via_up (Ex.new hp))))⟩
theorem evb_lst {tr : TA} {ds : List PyData} (h : EvA K B tr σ H ds) (hl : ds.length ≤ 100000) : EvB K B (tLst tr) σ H (.list ds) := fun H1 e _ q =>
  h H1 e _ fun vs H2 e2 hvs => ⟨sz (by rw [dp_len hvs]; exact hl), fun p hp => q _ _ (e2.trans (Ex.new hp)) (.lst (Evl.sq_of (via_new (Evl.fresh_back e2 hp) upd_same)) (hvs.mono (via_up (Ex.new hp))))⟩
theorem evb_op {r : R2} {z : PyData} (ha : EvB K B ta σ H d) (hb : EvB K B' tb σ H e) (hr : ∀ x y H1, Dp K H1 x d → Dp K H1 y e → ∀ Q : VK, (∀ v, (∀ H2, Dp K H2 v z) → Q v H1) → r x y H1 Q) {B2 : Hp} : EvB K B2 (tOp r ta tb) σ H z := fun H1 e1 Q q =>
  ha H1 e1 _ fun v H2 e2 hv => hb H2 (e1.trans e2) _ fun u H3 e3 hu => hr v u H3 ((hv.mono via_le).mono e3) (hu.mono via_le) Q fun z' hz => q _ H3 (e2.trans e3) (hz _)
theorem evb_ii {g : Int → Int → Int} {i j : Int} (ha : EvB K B ta σ H (.int i)) (hb : EvB K B' tb σ H (.int j)) {B2 : Hp} : EvB K B2 (tOp (rI0 fun i j => .int (g i j)) ta tb) σ H (.int (g i j)) := evb_op ha hb fun x y H1 hx hy Q q => by
  cases hx
  cases hy
  exact ⟨i, j, rfl, rfl, q _ fun _ => .int _⟩
theorem evb_iic {C : Int → Int → Prop} {g : Int → Int → Int} {i j : Int} (ha : EvB K B ta σ H (.int i)) (hb : EvB K B' tb σ H (.int j)) (hc : C i j) {B2 : Hp} : EvB K B2 (tOp (rI C fun i j => .int (g i j)) ta tb) σ H (.int (g i j)) := evb_op ha hb fun x y H1 hx hy Q q => by
  cases hx
  cases hy
  exact ⟨i, j, rfl, rfl, hc, q _ fun _ => .int _⟩
theorem evb_ib {g : Int → Int → Bool} {i j : Int} (ha : EvB K B ta σ H (.int i)) (hb : EvB K B' tb σ H (.int j)) {B2 : Hp} : EvB K B2 (tOp (rI0 fun i j => .bl (g i j)) ta tb) σ H (.bool (g i j)) := evb_op ha hb fun x y H1 hx hy Q q => by
  cases hx
  cases hy
  exact ⟨i, j, rfl, rfl, q _ fun _ => .bl _⟩
theorem evb_eqi {i j : Int} (ha : EvB K B ta σ H (.int i)) (hb : EvB K B' tb σ H (.int j)) {B2 : Hp} : EvB K B2 (tOp rEq ta tb) σ H (.bool (decide (i = j))) := evb_op ha hb fun x y H1 hx hy Q q => by
  cases hx
  cases hy
  refine ⟨rfl, q _ fun _ => ?_⟩
  rw [show decide (V.int i = V.int j) = decide (i = j) by simp]
  exact .bl _
theorem evb_neg {i : Int} (ha : EvB K B ta σ H (.int i)) {B2 : Hp} : EvB K B2 (tUn (rU fun i => .int (-i)) ta) σ H (.int (-i)) := fun H1 e Q q =>
  ha H1 e _ fun v H2 e2 hv => by
    cases hv
    exact ⟨i, rfl, q _ H2 e2 (.int _)⟩
theorem evb_ixL {ds : List PyData} {j : Nat} {i : Int} (ha : EvB K B ta σ H (.list ds)) (hb : EvB K B' tb σ H (.int i)) (hi : i = (j : Int)) (hj : ds[j]? = some d) : EvB K B (tOp (rIxL K) ta tb) σ H d := fun H1 e1 Q q =>
  ha H1 e1 _ fun v H2 e2 hv => hb H2 (e1.trans e2) _ fun u H3 e3 hu => by
    subst hi
    cases hu
    cases hv with
    | lst hs hall =>
      obtain ⟨w, hw, hd⟩ := dp_at' hall hj
      exact ⟨_, _, _, w, rfl, rfl, Evl.ex_l (via_le.trans e3) hs, atI_nat hw, q _ H3 (e2.trans e3) (hd.mono (via_up e3))⟩
theorem evb_ixT {ds : List PyData} {j : Nat} {i : Int} (ha : EvB K B ta σ H (.tuple ds)) (hb : EvB K B' tb σ H (.int i)) (hi : i = (j : Int)) (hj : ds[j]? = some d) : EvB K B (tOp (rIxT K) ta tb) σ H d := fun H1 e1 Q q =>
  ha H1 e1 _ fun v H2 e2 hv => hb H2 (e1.trans e2) _ fun u H3 e3 hu => by
    subst hi
    cases hu
    cases hv with
    | tup hs hall =>
      obtain ⟨w, hw, hd⟩ := dp_at' hall hj
      exact ⟨_, _, _, w, rfl, rfl, Evl.ex_t (via_le.trans e3) hs, atI_nat hw, q _ H3 (e2.trans e3) (hd.mono (via_up e3))⟩
/-- len, list, tuple, sum, all -/
def rLenS (K : PySem.W.Frag) : List V → Hp → VK → Prop := fun xs H Q => ∃ p ys, xs = [.ref p] ∧ (SqL K H p ys ∨ SqT K H p ys) ∧ Q (.int ys.length) H
def rListS (K : PySem.W.Frag) : List V → Hp → VK → Prop := fun xs H Q => ∃ p ys, xs = [.ref p] ∧ (SqL K H p ys ∨ SqT K H p ys) ∧ ∀ l, H l = none → Q (.ref l) (upd H l (.lst ys))
def rMn2 : List V → Hp → VK → Prop := fun xs H Q => ∃ i j, xs = [.int i, .int j] ∧ Q (.int (if j < i then j else i)) H
def rMx2 : List V → Hp → VK → Prop := fun xs H Q => ∃ i j, xs = [.int i, .int j] ∧ Q (.int (if j > i then j else i)) H
def rInt1 : List V → Hp → VK → Prop := fun xs H Q => (∃ i, xs = [.int i] ∧ Q (.int i) H) ∨ ∃ k, xs = [.bl k] ∧ Q (.int (if k = true then 1 else 0)) H
theorem evb_mn {i j : Int} (ha : EvB K B ta σ H (.int i)) (hb : EvB K B' tb σ H (.int j)) {B2 : Hp} : EvB K B2 (tCB rMn2 (tCons ta (tCons tb tNil))) σ H (.int (if j < i then j else i)) := fun H1 e Q q =>
  ha H1 e _ fun v H2 e2 hv => hb H2 (e.trans e2) _ fun u H3 e3 hu => by
    cases hv
    cases hu
    exact ⟨i, j, rfl, q _ H3 (e2.trans e3) (.int _)⟩
theorem evb_mx {i j : Int} (ha : EvB K B ta σ H (.int i)) (hb : EvB K B' tb σ H (.int j)) {B2 : Hp} : EvB K B2 (tCB rMx2 (tCons ta (tCons tb tNil))) σ H (.int (if j > i then j else i)) := fun H1 e Q q =>
  ha H1 e _ fun v H2 e2 hv => hb H2 (e.trans e2) _ fun u H3 e3 hu => by
    cases hv
    cases hu
    exact ⟨i, j, rfl, q _ H3 (e2.trans e3) (.int _)⟩
theorem evb_int1 {i : Int} (ha : EvB K B ta σ H (.int i)) {B2 : Hp} : EvB K B2 (tCB rInt1 (tCons ta tNil)) σ H (.int i) := fun H1 e Q q =>
  ha H1 e _ fun v H2 e2 hv => by
    cases hv
    exact .inl ⟨i, rfl, q _ H2 e2 (.int _)⟩
theorem evb_len {ds : List PyData} (h : EvB K B ta σ H (.list ds)) {B2 : Hp} : EvB K B2 (tCB (rLenS K) (tCons ta tNil)) σ H (.int (ds.length : Int)) := fun H1 e Q q =>
  h H1 e _ fun v H2 e2 hv => by
    cases hv with
    | lst hs ha => exact ⟨_, _, rfl, .inl (Evl.ex_l via_le hs), by rw [dp_len ha]; exact q _ H2 e2 (.int _)⟩
theorem evb_lenT {ds : List PyData} (h : EvB K B ta σ H (.tuple ds)) {B2 : Hp} : EvB K B2 (tCB (rLenS K) (tCons ta tNil)) σ H (.int (ds.length : Int)) := fun H1 e Q q =>
  h H1 e _ fun v H2 e2 hv => by
    cases hv with
    | tup hs ha => exact ⟨_, _, rfl, .inr (Evl.ex_t via_le hs), by rw [dp_len ha]; exact q _ H2 e2 (.int _)⟩
theorem evb_list {ds : List PyData} (h : EvB K B ta σ H (.list ds)) : EvB K B (tCB (rListS K) (tCons ta tNil)) σ H (.list ds) := fun H1 e Q q =>
  h H1 e _ fun v H2 e2 hv => by
    cases hv with
    | lst hs ha => exact ⟨_, _, rfl, .inl (Evl.ex_l via_le hs), fun l nl => q _ _ (e2.trans (Ex.new nl)) (.lst (Evl.sq_of (via_new (Evl.fresh_back e2 nl) upd_same)) (ha.mono (via_up (Ex.new nl))))⟩
theorem evb_listT {ds : List PyData} (h : EvB K B ta σ H (.tuple ds)) : EvB K B (tCB (rListS K) (tCons ta tNil)) σ H (.list ds) := fun H1 e Q q =>
  h H1 e _ fun v H2 e2 hv => by
    cases hv with
    | tup hs ha => exact ⟨_, _, rfl, .inr (Evl.ex_t via_le hs), fun l nl => q _ _ (e2.trans (Ex.new nl)) (.lst (Evl.sq_of (via_new (Evl.fresh_back e2 nl) upd_same)) (ha.mono (via_up (Ex.new nl))))⟩
/-- list(..) of ints: new -/
theorem evb_listW {ws : List Int} (h : EvB K B ta σ H (dW ws)) {B2 : Hp} : EvB K B2 (tCB (rListS K) (tCons ta tNil)) σ H (dW ws) := fun H1 e Q q =>
  h H1 e _ fun v H2 e2 hv => by
    obtain ⟨p, rfl, hs⟩ := dp_W_inv hv
    exact ⟨p, _, rfl, .inl (Evl.ex_l via_le hs), fun l nl => q _ _ (e2.trans (Ex.new nl)) (dp_W (Evl.sq_of (via_new (Evl.fresh_back e2 nl) upd_same)))⟩
theorem dp_bools_inv : ∀ {bs : List Bool} {vs : List V}, DpAll K H vs (bs.map PyData.bool) → vs = bs.map V.bl
  | [], _, h => by cases h; rfl
  | w :: ws, _, h => by
    cases h with
    | cons a b =>
      cases a
      rw [dp_bools_inv b]
      rfl
theorem evb_all {bs : List Bool} (h : EvB K B ta σ H (.list (bs.map .bool))) {B2 : Hp} : EvB K B2 (tCB (rAll K) (tCons ta tNil)) σ H (.bool (bs.all id)) := fun H1 e Q q =>
  h H1 e _ fun v H2 e2 hv => by
    cases hv with
    | lst hs ha =>
      rw [dp_bools_inv ha] at hs
      exact ⟨_, bs, rfl, Evl.ex_l via_le hs, q _ H2 e2 (.bl _)⟩
theorem evb_any {bs : List Bool} (h : EvB K B ta σ H (.list (bs.map .bool))) {B2 : Hp} : EvB K B2 (tCB (rAny K) (tCons ta tNil)) σ H (.bool (bs.any id)) := fun H1 e Q q =>
  h H1 e _ fun v H2 e2 hv => by
    cases hv with
    | lst hs ha =>
      rw [dp_bools_inv ha] at hs
      exact ⟨_, bs, rfl, Evl.ex_l via_le hs, q _ H2 e2 (.bl _)⟩
theorem evb_sum {ns : List Int} (h : EvB K B ta σ H (dW ns)) {B2 : Hp} : EvB K B2 (tCB (rSum K) (tCons ta tNil)) σ H (.int ns.sum) := fun H1 e Q q =>
  h H1 e _ fun v H2 e2 hv => by
    obtain ⟨p, rfl, hs⟩ := dp_W_inv hv
    exact ⟨p, ns, rfl, Evl.ex_l via_le hs, q _ H2 e2 (.int _)⟩
/-- a slice of a list of ints: new -/
def EvO (to : TO) (σ : L2.St) (H : Hp) (o : Option Int) : Prop := ∀ H1, Ex H H1 → ∀ Q : Option Int → Hp → Prop, (∀ H2, Ex H1 H2 → Q o H2) → to σ H1 Q
theorem evo_none : EvO tNoPart σ H none := fun H1 _ _ q => q H1 (Ex.refl H1)
theorem evo_some {i : Int} (h : EvB K B te σ H (.int i)) : EvO (tPart te) σ H (some i) := fun H1 e _ q => h H1 e _ fun v H2 e2 hv => by
  cases hv
  exact ⟨i, rfl, q H2 e2⟩
def cutI {α : Type} (xs : List α) (lo hi : Option Int) : List α := (xs.drop (HT.sIx xs.length 0 lo)).take (HT.sIx xs.length xs.length hi - HT.sIx xs.length 0 lo)
theorem cutV_map (ws : List Int) (lo hi : Option Int) : cutV (ws.map V.int) lo hi = (cutI ws lo hi).map V.int := by
  unfold cutV cutI
  rw [List.length_map, List.map_take, List.map_drop]
theorem dp_drop : ∀ {vs : List V} {ds : List PyData} (n : Nat), DpAll K H vs ds → DpAll K H (vs.drop n) (ds.drop n)
  | _, _, 0, h => h
  | _, _, _ + 1, .nil => .nil
  | _, _, n + 1, .cons _ b => dp_drop n b
theorem dp_take : ∀ {vs : List V} {ds : List PyData} (n : Nat), DpAll K H vs ds → DpAll K H (vs.take n) (ds.take n)
  | _, _, 0, _ => .nil
  | _, _, _ + 1, .nil => .nil
  | _, _, n + 1, .cons a b => .cons a (dp_take n b)
theorem dp_cut {vs : List V} {ds : List PyData} {lo hi : Option Int} (h : DpAll K H vs ds) : DpAll K H (cutV vs lo hi) (cutI ds lo hi) := by
  unfold cutV cutI
  rw [dp_len h]
  exact dp_take _ (dp_drop _ h)
theorem evb_slice {tl th : TO} {ds : List PyData} {lo hi : Option Int} (h : EvB K B te σ H (.list ds)) (h1 : EvO tl σ H lo) (h2 : EvO th σ H hi) : EvB K B (tSl (rSlL K) te tl th) σ H (.list (cutI ds lo hi)) := fun H1 e _ q =>
  h H1 e _ fun v H2 e2 hv => h1 H2 (e.trans e2) _ fun H3 e3 => h2 H3 ((e.trans e2).trans e3) _ fun H4 e4 => by
    cases hv with
    | @lst a xs _ hs ha =>
      refine ⟨_, _, rfl, Evl.ex_l (via_le.trans (e3.trans e4)) hs, fun p hp => q _ _ ((e2.trans (e3.trans e4)).trans (Ex.new hp)) (.lst (Evl.sq_of (via_new (Evl.fresh_back (e2.trans (e3.trans e4)) hp) upd_same)) ?_)⟩
      have h5 : DpAll K (via B H1 (upd H4 p (.lst (cutV xs lo hi)))) xs ds := ha.mono (via_up ((e3.trans e4).trans (Ex.new hp)))
      exact dp_cut h5
/-- truth -/
theorem evb_not {b : Bool} (h : EvB K B ta σ H (.bool b)) {B2 : Hp} : EvB K B2 (tNotV ta) σ H (.bool (!b)) := fun H1 e Q q => h H1 e _ fun v H2 e2 hv => by
  cases hv
  exact ⟨b, rfl, q _ H2 e2 (.bl _)⟩
theorem evb_and {a b : Bool} (h1 : EvB K B ta σ H (.bool a)) (h2 : a = true → EvB K B' tb σ H (.bool b)) {B2 : Hp} : EvB K B2 (tAndV ta tb) σ H (.bool (a && b)) := fun H1 e Q q => h1 H1 e _ fun v H2 e2 hv => by
  cases hv
  refine ⟨a, rfl, ?_⟩
  cases a with
  | true => exact iteT (h2 rfl H2 (e.trans e2) Q fun v H3 e3 hv => q v H3 (e2.trans e3) (dp_scal rfl hv))
  | false => exact iteF (q _ H2 e2 (.bl _))
theorem evb_or {a b : Bool} (h1 : EvB K B ta σ H (.bool a)) (h2 : a = false → EvB K B' tb σ H (.bool b)) {B2 : Hp} : EvB K B2 (tOrV ta tb) σ H (.bool (a || b)) := fun H1 e Q q => h1 H1 e _ fun v H2 e2 hv => by
  cases hv
  refine ⟨a, rfl, ?_⟩
  cases a with
  | true => exact iteT (q _ H2 e2 (.bl _))
  | false => exact iteF (h2 rfl H2 (e.trans e2) Q fun v H3 e3 hv => q v H3 (e2.trans e3) (dp_scal rfl hv))
theorem evt_B {b : Bool} (h : EvB K B te σ H (.bool b)) : Evl.EvT (tB te) σ H b := fun H1 e _ q => h H1 e _ fun v H2 e2 hv => by
  cases hv
  exact ⟨b, rfl, q H2 e2⟩
theorem evt_T {b : Bool} (h : EvB K B te σ H (.bool b)) : Evl.EvT (tTest te) σ H b := fun H1 e _ q => h H1 e _ fun v H2 e2 hv => by
  cases hv
  exact ⟨b, rfl, q H2 e2⟩
theorem evt_yes : Evl.EvT tYes σ H true := fun H1 _ _ q => q H1 (Ex.refl H1)
theorem evb_if {b : Bool} (h : Evl.EvT t σ H b) (h1 : b = true → EvB K B ta σ H d) (h2 : b = false → EvB K B tb σ H d) : EvB K B (tIf t ta tb) σ H d := fun H1 e Q q => h H1 e _ fun H2 e2 => by
  cases b with
  | true => exact iteT (h1 rfl H2 (e.trans e2) Q fun v H3 e3 hv => q v H3 (e2.trans e3) (hv.mono (via_down e2)))
  | false => exact iteF (h2 rfl H2 (e.trans e2) Q fun v H3 e3 hv => q v H3 (e2.trans e3) (hv.mono (via_down e2)))
theorem evb_eqD {n m : Nat} (ha : EvB K B ta σ H d) (hb : EvB K B' tb σ H e) (h1 : purN n d = true) (h2 : purN m e = true) (hn : n ≤ 64) (hm : m ≤ 64) {b : Bool} (hb2 : b = true ↔ d = e) {B2 : Hp} : EvB K B2 (tOp (rEqD K) ta tb) σ H (.bool b) := evb_op ha hb fun x y H1 hx hy Q q =>
  eq_data hx hy h1 h2 hn hm (fun c => by
    have : b = true := hb2.mpr c
    subst this
    exact q _ fun _ => .bl _) (fun c => by
    have : b = false := by
      cases b with
      | true => exact absurd (hb2.mp rfl) c
      | false => rfl
    subst this
    exact q _ fun _ => .bl _)
/-- a call -/
def SpD (K : PySem.W.Frag) (sp : Sp) (ds : List PyData) (d : PyData) : Prop := ∀ vs H, DpAll K H vs ds → ∀ (Q : VK) (E : XK), (∀ v H2, Ex H H2 → Dp K (nw H H2) v d → Q v H2) → sp vs H Q E
theorem evb_call {sp : Sp} {E : XK} {ta : TA} {ds : List PyData} (h : EvA K B ta σ H ds) (hs : SpD K sp ds d) {B2 : Hp} : EvB K B2 (tCall sp [] E ta) σ H d := fun H1 e Q q =>
  h H1 e _ fun vs H2 e2 hvs => by
    show sp (vs ++ []) H2 Q E
    rw [List.append_nil]
    exact hs vs H2 (hvs.mono via_le) Q E fun v H3 e3 hv => q v H3 (e2.trans e3) (hv.mono ((via_mono emp_ex).trans (via_down e2)))
/-- statements -/
theorem qd_asg {tz : TS} {D : Ends} {i : Nat} (h : EvB K B te σ H d) (k : ∀ v H1, Ex H H1 → Dp K (via B H H1) v d → tz D (σ.set i (some v)) H1) : tSeq (tAsg te (gName i)) tz D σ H := h H (Ex.refl H) _ fun v H1 e hv => k v H1 e hv
theorem qd_ret {D : Ends} (h : EvB K B te σ H d) (k : ∀ v H1, Ex H H1 → Dp K (via B H H1) v d → D.rt v H1) : tRet te D σ H := h H (Ex.refl H) _ k
theorem qd_when {tz tu : TS} {D : Ends} {b : Bool} (h : Evl.EvT t σ H b) (h1 : b = true → ∀ H1, Ex H H1 → tu { D with nx := tz D } σ H1) (h2 : b = false → ∀ H1, Ex H H1 → tz D σ H1) : tSeq (tIfS t tu tNext) tz D σ H := Evl.q_when h h1 h2
/-! comprehensions -/
def Cwd (K : PySem.W.Frag) (B H1 : Hp) (D : Addr) (out : List PyData) (H' : Hp) : Prop := H1 D = none ∧ Ex H1 H' ∧ ∃ vs, H' D = some (.lst vs) ∧ DpAll K (wo D (via B H1 H')) vs out
theorem wo_via_upd {D : Addr} {o : HO} {H1 H2 : Hp} : wo D (via B H1 (upd H2 D o)) = wo D (via B H1 H2) := by
  funext b
  unfold wo
  by_cases c : b = D
  · rw [if_pos c, if_pos c]
  · rw [if_neg c, if_neg c]
    unfold via
    rw [upd_ne c]
theorem cwd_turn {H1 H2 : Hp} {D : Addr} {out : List PyData} {σ2 : L2.St} {b : Bool} (hB : Ex B H1) (p : Cwd K B H1 D out H2) (hl : out.length < 100000) (ht : Evl.EvT t σ2 H1 b) (he : b = true → EvB K B te σ2 H1 d) :
    t σ2 H2 fun b' H3 => if b' = true then te σ2 H3 fun y H4 => ∃ acc, H4 D = some (.lst acc) ∧ acc.length < sizeLine ∧ Cwd K B H1 D (if b then out ++ [d] else out) (upd H4 D (.lst (acc ++ [y]))) else Cwd K B H1 D (if b then out ++ [d] else out) H3 := by
  obtain ⟨p1, p2, vs, p3, p4⟩ := p
  refine ht H2 p2 _ fun H3 e3 => ?_
  cases b with
  | true =>
    refine iteT ?_
    refine he rfl H3 (p2.trans e3) _ fun v H4 e4 hv => ⟨vs, e4 D _ (e3 D _ p3), szl (by rw [dp_len p4]; exact hl), p1, Ex.mut ((p2.trans e3).trans e4) p1, vs ++ [v], upd_same, ?_⟩
    rw [wo_via_upd, if_pos rfl]
    have nB : B D = none := Evl.fresh_back hB p1
    refine dp_snoc (p4.mono (ex_wo (via_up (e3.trans e4)))) ?_
    exact hv.mono ((via_wo nB ⟨_, e3 D _ p3⟩).trans (ex_wo (via_down (p2.trans e3))))
  | false =>
    refine iteF ⟨p1, p2.trans e3, vs, e3 D _ p3, ?_⟩
    rw [if_neg Bool.false_ne_true]
    exact p4.mono (ex_wo (via_up e3))
theorem cwd_end {H1 H' : Hp} {D : Addr} {out : List PyData} (p : Cwd K B H1 D out H') : Ex H1 H' ∧ Dp K (via B H1 H') (.ref D) (.list out) := by
  obtain ⟨p1, p2, vs, p3, p4⟩ := p
  exact ⟨p2, .lst (Evl.sq_of (via_new p1 p3)) (p4.mono (wo_ex D))⟩
theorem cwd_start {H1 : Hp} {D : Addr} (nD : H1 D = none) : Cwd K B H1 D [] (upd H1 D (.lst [])) := ⟨nD, Ex.new nD, [], upd_same, .nil⟩
theorem outs_len {outs : Nat → List PyData} (h0 : outs 0 = []) {n : Nat} (hs : ∀ i, i < n → ∃ (b : Bool) (d : PyData), outs (i + 1) = if b then outs i ++ [d] else outs i) : ∀ i, i ≤ n → (outs i).length ≤ i
  | 0, _ => by rw [h0]; exact Nat.le_refl _
  | i + 1, hi => by
    have h1 := outs_len h0 hs i (by omega)
    obtain ⟨b, d, e⟩ := hs i (by omega)
    rw [e]
    cases b with
    | true => rw [if_pos rfl, List.length_append, List.length_singleton]; omega
    | false => rw [if_neg Bool.false_ne_true]; omega
theorem evb_lcL {tl : TE} {j : Nat} {vs : List Nat} {ds : List PyData} (hB : Ex B H) (h : EvB K B' tl σ H (.list ds)) (hz : ds.length ≤ 50000) (hw : ∀ x, wipe ((wipe σ vs).set j (some x)) vs = wipe σ vs) (outs : Nat → List PyData) (h0 : outs 0 = [])
    (hs : ∀ i x dx H2, Ex H H2 → ds[i]? = some dx → Dp K H2 x dx → ∃ (b : Bool) (d : PyData), Evl.EvT t ((wipe σ vs).set j (some x)) H2 b ∧ (b = true → EvB K B te ((wipe σ vs).set j (some x)) H2 d) ∧ outs (i + 1) = if b then outs i ++ [d] else outs i) :
    EvB K B (tLc (iList K tl) (gName j) t te vs) σ H (.list (outs ds.length)) := fun H1 e Q q =>
  h H1 e _ fun v H2 e2 hv => by
    cases hv with
    | @lst a xs _ hsl ha =>
      have hsl2 : SqL K H2 a xs := Evl.ex_l via_le hsl
      have ha2 : DpAll K H2 xs ds := ha.mono via_le
      have el : xs.length = ds.length := dp_len ha
      have ol := outs_len h0 (n := ds.length) fun i hi => by
        obtain ⟨x, _, hx⟩ := dp_at' ha2 (List.getElem?_eq_getElem hi)
        obtain ⟨b, d, _, _, q⟩ := hs i x _ H2 (e.trans e2) (List.getElem?_eq_getElem hi) hx
        exact ⟨b, d, q⟩
      refine ⟨a, rfl, ⟨xs, hsl2⟩, fun D nD => lc_list (xs := xs) (fun i H' => Cwd K B H2 D (outs i) H') (by rw [h0]; exact cwd_start nD) (fun i H' _ p => Evl.ex_l p.2.1 hsl2) (fun i x H' hi p => ?_) fun H' p => ?_⟩
      · obtain ⟨dx, hdx, hx⟩ := dp_at ha2 hi
        obtain ⟨b, d, h1, h2, h3⟩ := hs i x dx H2 (e.trans e2) hdx hx
        have hi2 : i < ds.length := (List.getElem?_eq_some_iff.mp hdx).1
        refine ⟨hw x, ?_⟩
        rw [h3]
        exact cwd_turn (hB.trans (e.trans e2)) p (by have := ol i (by omega); omega) h1 h2
      · rw [el] at p
        obtain ⟨p1, p2⟩ := cwd_end p
        exact q _ _ (e2.trans p1) (p2.mono (via_down e2))
theorem evb_lcR {tr : TA} {j : Nat} {vs : List Nat} {n : Int} (hB : Ex B H) (h : EvA K B' tr σ H [.int n]) (hn : n ≤ 50000 ∧ -50000 ≤ n) (hw : ∀ x, wipe ((wipe σ vs).set j (some x)) vs = wipe σ vs) (outs : Nat → List PyData) (h0 : outs 0 = [])
    (hs : ∀ (i : Nat) H2, Ex H H2 → (i : Int) < n → ∃ (b : Bool) (d : PyData), Evl.EvT t ((wipe σ vs).set j (some (.int (i : Int)))) H2 b ∧ (b = true → EvB K B te ((wipe σ vs).set j (some (.int (i : Int)))) H2 d) ∧ outs (i + 1) = if b then outs i ++ [d] else outs i) :
    EvB K B (tLc (iRng1 tr) (gName j) t te vs) σ H (.list (outs n.toNat)) := fun H1 e Q q =>
  h H1 e _ fun vs' H2 e2 hv => by
    cases hv with
    | cons ha hb =>
      cases hb
      cases ha
      have ol := outs_len h0 (n := n.toNat) fun i hi => by
        obtain ⟨b, d, _, _, q⟩ := hs i H2 (e.trans e2) (by omega)
        exact ⟨b, d, q⟩
      refine ⟨n, rfl, by omega, by omega, fun D nD => lc_range (lo := 0) (n := n.toNat) (fun i H' => Cwd K B H2 D (outs i) H') (by rw [h0]; exact cwd_start nD) (fun i H' hi p => ?_) fun H' p => ?_⟩
      · obtain ⟨b, d, h1, h2, h3⟩ := hs i H2 (e.trans e2) (by omega)
        rw [show (0 : Int) + (i : Int) = (i : Int) from Int.zero_add _]
        refine ⟨hw _, ?_⟩
        rw [h3]
        exact cwd_turn (hB.trans (e.trans e2)) p (by have := ol i (by omega); omega) h1 h2
      · obtain ⟨p1, p2⟩ := cwd_end p
        exact q _ _ (e2.trans p1) (p2.mono (via_down e2))
/-- a new list of the values of a function -/
theorem evb_mapL {tl : TE} {j : Nat} {vs : List Nat} {ds : List PyData} (f : PyData → PyData) (hB : Ex B H) (h : EvB K B' tl σ H (.list ds)) (hz : ds.length ≤ 50000) (hw : ∀ x, wipe ((wipe σ vs).set j (some x)) vs = wipe σ vs)
    (hs : ∀ x dx H2, Ex H H2 → dx ∈ ds → Dp K H2 x dx → EvB K B te ((wipe σ vs).set j (some x)) H2 (f dx)) : EvB K B (tLc (iList K tl) (gName j) tYes te vs) σ H (.list (ds.map f)) := by
  have r := evb_lcL (t := tYes) (te := te) (j := j) (vs := vs) hB h hz hw (fun i => (ds.take i).map f) rfl fun i x dx H2 e hi hx => ⟨true, f dx, evt_yes, fun _ => hs x dx H2 e (List.mem_of_getElem? hi) hx, by
    rw [if_pos rfl, List.take_add_one, hi, List.map_append]
    rfl⟩
  rw [List.take_length] at r
  exact r
theorem lc_zip {K : PySem.W.Frag} {a b : Addr} {xs ys : List V} {g : TG} {tt : TT} {te : TE} {vs : List Nat} {σ : L2.St} {H1 : Hp} {D : Addr} {Qd : Hp → Prop} (Pv : Nat → Hp → Prop) (h0 : Pv 0 (upd H1 D (.lst []))) (hl : ∀ i H, Pv i H → SqL K H a xs ∧ SqL K H b ys)
    (hs : ∀ i x y T H, xs[i]? = some x → ys[i]? = some y → H T = none → Pv i H → g (.ref T) (wipe σ vs) (upd H T (.tup [x, y])) fun σ2 H2 => wipe σ2 vs = wipe σ vs ∧ tt σ2 H2 fun b H3 =>
      if b = true then te σ2 H3 fun y H4 => ∃ acc, H4 D = some (.lst acc) ∧ acc.length < sizeLine ∧ Pv (i + 1) (upd H4 D (.lst (acc ++ [y]))) else Pv (i + 1) H3) (hd : ∀ H, Pv (min xs.length ys.length) H → Qd H) :
    ∃ W : Nat → Nat → Hp → Prop, (∃ m, W 0 m (upd H1 D (.lst []))) ∧ ∀ i m H, W i m H →
      ((Itz K a b).stop i H ∧ Qd H) ∨ ((Itz K a b).go i H ∧ ∃ Nx : Hp → Prop, (∀ H', Nx H' → ∃ m', m' < m ∧ W (i + 1) m' H') ∧ ∀ x H', (Itz K a b).yld i H x H' → g x (wipe σ vs) H' fun σ2 H2 => wipe σ2 vs = wipe σ vs ∧ tt σ2 H2 fun b H3 =>
        if b = true then te σ2 H3 fun y H4 => ∃ acc, H4 D = some (.lst acc) ∧ acc.length < sizeLine ∧ Nx (upd H4 D (.lst (acc ++ [y]))) else Nx H3) := by
  refine ⟨fun i m H => m = min xs.length ys.length - i ∧ i ≤ min xs.length ys.length ∧ Pv i H, ⟨min xs.length ys.length, by simp, Nat.zero_le _, h0⟩, ?_⟩
  rintro i m H ⟨rfl, hi, p⟩
  obtain ⟨qx, qy⟩ := hl i H p
  by_cases hlt : i < min xs.length ys.length
  · have hx : xs[i]? = some xs[i] := List.getElem?_eq_getElem (by omega)
    have hy : ys[i]? = some ys[i] := List.getElem?_eq_getElem (by omega)
    refine .inr ⟨⟨xs, ys, _, _, qx, qy, hx, hy⟩, Pv (i + 1), fun H' p' => ⟨min xs.length ys.length - (i + 1), by omega, rfl, hlt, p'⟩, fun v H' y => ?_⟩
    obtain ⟨T, x', y', rfl, hT, rfl, f1, f2⟩ := y
    exact hs i x' y' T H (f1 _ qx) (f2 _ qy) hT p
  · have e : i = min xs.length ys.length := by omega
    subst e
    exact .inl ⟨⟨xs, ys, qx, qy, by omega⟩, hd H p⟩
end
/-! ### comprehensions with two for -/
theorem wo_upd {H : Hp} {a : Addr} {o : HO} : wo a (upd H a o) = wo a H := by
  funext b
  unfold wo upd
  by_cases e : b = a
  · rw [if_pos e, if_pos e]
  · rw [if_neg e, if_neg e, if_neg e]
theorem lc2_range {lo : Int} {n : Nat} {g g1 : TG} {tt tt1 : TT} {te : TE} {wi1 : TI} {vs vs1 : List Nat} {σ : L2.St} {H1 : Hp} {D : Addr} {Qd : Hp → Prop} (Pv : Nat → Hp → Prop) (h0 : Pv 0 (upd H1 D (.lst [])))
    (hs : ∀ i H, i < n → Pv i H → g (.int (lo + i)) (wipe σ vs) H fun σ2 H2 => wipe σ2 vs = wipe σ vs ∧ tt σ2 H2 fun b H3 =>
      if b = true then wi1 σ2 H3 fun J1 H4 => ∃ W1 : Nat → Nat → Hp → Prop, (∃ m, W1 0 m H4) ∧ ∀ j k H, W1 j k H →
        (J1.stop j H ∧ Pv (i + 1) H) ∨ (J1.go j H ∧ ∃ Nx1 : Hp → Prop, (∀ H', Nx1 H' → ∃ k', k' < k ∧ W1 (j + 1) k' H') ∧ ∀ x H', J1.yld j H x H' → g1 x (wipe σ2 vs1) H' fun σ3 H5 => wipe σ3 vs1 = wipe σ2 vs1 ∧ tt1 σ3 H5 fun b H6 =>
          if b = true then te σ3 H6 fun y H7 => ∃ acc, H7 D = some (.lst acc) ∧ acc.length < sizeLine ∧ Nx1 (upd H7 D (.lst (acc ++ [y]))) else Nx1 H6)
      else Pv (i + 1) H3) (hd : ∀ H, Pv n H → Qd H) :
    ∃ W : Nat → Nat → Hp → Prop, (∃ m, W 0 m (upd H1 D (.lst []))) ∧ ∀ i m H, W i m H →
      ((Itr lo n).stop i H ∧ Qd H) ∨ ((Itr lo n).go i H ∧ ∃ Nx : Hp → Prop, (∀ H', Nx H' → ∃ m', m' < m ∧ W (i + 1) m' H') ∧ ∀ x H', (Itr lo n).yld i H x H' → g x (wipe σ vs) H' fun σ2 H2 => wipe σ2 vs = wipe σ vs ∧ tt σ2 H2 fun b H3 =>
        if b = true then wi1 σ2 H3 fun J1 H4 => ∃ W1 : Nat → Nat → Hp → Prop, (∃ m, W1 0 m H4) ∧ ∀ j k H, W1 j k H →
          (J1.stop j H ∧ Nx H) ∨ (J1.go j H ∧ ∃ Nx1 : Hp → Prop, (∀ H', Nx1 H' → ∃ k', k' < k ∧ W1 (j + 1) k' H') ∧ ∀ x H', J1.yld j H x H' → g1 x (wipe σ2 vs1) H' fun σ3 H5 => wipe σ3 vs1 = wipe σ2 vs1 ∧ tt1 σ3 H5 fun b H6 =>
            if b = true then te σ3 H6 fun y H7 => ∃ acc, H7 D = some (.lst acc) ∧ acc.length < sizeLine ∧ Nx1 (upd H7 D (.lst (acc ++ [y]))) else Nx1 H6)
        else Nx H3) := by
  refine ⟨fun i m H => m = n - i ∧ i ≤ n ∧ Pv i H, ⟨n, by simp, Nat.zero_le _, h0⟩, ?_⟩
  rintro i m H ⟨rfl, hi, p⟩
  by_cases hlt : i < n
  · refine .inr ⟨hlt, Pv (i + 1), fun H' p' => ⟨n - (i + 1), by omega, rfl, hlt, p'⟩, fun x H' y => ?_⟩
    obtain ⟨e, y⟩ := y
    subst e y
    exact hs i _ hlt p
  · have e : i = n := by omega
    subst e
    exact .inl ⟨Nat.le_refl _, hd H p⟩
theorem lcin_tup {K : PySem.W.Frag} {a : Addr} {xs : List V} {g1 : TG} {tt1 : TT} {te : TE} {vs1 : List Nat} {σ2 : L2.St} {H4 : Hp} {D : Addr} {Nx : Hp → Prop} (Pw : Nat → Hp → Prop) (h0 : Pw 0 H4) (hl : ∀ j H, j ≤ xs.length → Pw j H → SqT K H a xs)
    (hs : ∀ j x H, xs[j]? = some x → Pw j H → g1 x (wipe σ2 vs1) H fun σ3 H5 => wipe σ3 vs1 = wipe σ2 vs1 ∧ tt1 σ3 H5 fun b H6 =>
      if b = true then te σ3 H6 fun y H7 => ∃ acc, H7 D = some (.lst acc) ∧ acc.length < sizeLine ∧ Pw (j + 1) (upd H7 D (.lst (acc ++ [y]))) else Pw (j + 1) H6) (hd : ∀ H, Pw xs.length H → Nx H) :
    ∃ W1 : Nat → Nat → Hp → Prop, (∃ m, W1 0 m H4) ∧ ∀ j k H, W1 j k H →
      ((Itt K a).stop j H ∧ Nx H) ∨ ((Itt K a).go j H ∧ ∃ Nx1 : Hp → Prop, (∀ H', Nx1 H' → ∃ k', k' < k ∧ W1 (j + 1) k' H') ∧ ∀ x H', (Itt K a).yld j H x H' → g1 x (wipe σ2 vs1) H' fun σ3 H5 => wipe σ3 vs1 = wipe σ2 vs1 ∧ tt1 σ3 H5 fun b H6 =>
        if b = true then te σ3 H6 fun y H7 => ∃ acc, H7 D = some (.lst acc) ∧ acc.length < sizeLine ∧ Nx1 (upd H7 D (.lst (acc ++ [y]))) else Nx1 H6) := by
  refine ⟨fun i m H => m = xs.length - i ∧ i ≤ xs.length ∧ Pw i H, ⟨xs.length, by simp, Nat.zero_le _, h0⟩, ?_⟩
  rintro i m H ⟨rfl, hi, p⟩
  have q := hl i H hi p
  by_cases hlt : i < xs.length
  · refine .inr ⟨⟨xs, xs[i], q, by simp [hlt]⟩, Pw (i + 1), fun H' p' => ⟨xs.length - (i + 1), by omega, rfl, hlt, p'⟩, fun x H' y => ?_⟩
    obtain ⟨e, y⟩ := y
    subst e
    exact hs i x _ (y xs q) p
  · have e : i = xs.length := by omega
    subst e
    exact .inl ⟨⟨xs, q, Nat.le_refl _⟩, hd H p⟩

section
variable {P : Program} {w : World} {K : PySem.W.Frag} {mg : Str → Option Value} {base : Heap}
theorem ty_list {H : Hp} {v : V} {ds : List PyData} (h : Dp K H v (.list ds)) : TyX K H v (.type "list") := by
  cases h with
  | lst hs _ =>
    rcases hs with (h | ⟨o, h⟩) | ⟨o, its, n, h1, h2, _⟩
    · exact .base (.lst h)
    · exact .base (.frz h)
    · exact .kList h1 h2
def spIsInt : Sp := fun vs H Q _ => ∃ i : Int, vs = [.int i] ∧ Q (.bl true) H
theorem ok_law_is_integer (T : Txt K mg) : FnOk P w K mg base CX0 1 T.law_is_integer.f T.law_is_integer.fd ["actual"] spIsInt := by
  refine T.law_is_integer.F.ok sc_law_is_integer (fun vs H Q E h => ?_) (fun cdv A outer s H vs Q E hr h => ?_)
  · obtain ⟨i, rfl, _⟩ := h
    rfl
  · obtain ⟨i, rfl, q⟩ := h
    refine ⟨_, (pss_one (ps_ret (pe_and (pe_callB call_isi (by rfl) T.isinstance (by decide +kernel) (pa_cons (pv 0) (pa_cons (pe_bltn (v := .ty "int") (u := .type "int") (by rfl) T.int (by decide +kernel) rfl) pa_nil))) (pe_one (pe_not (pe_callB call_isi (by rfl) T.isinstance (by decide +kernel) (pa_cons (pv 0) (pa_cons (pe_bltn (v := .ty "bool") (u := .type "bool") (by rfl) T.bool (by decide +kernel) rfl) pa_nil)))))))), ?_⟩
    refine ⟨_, rfl, _, .ty "int", _, _, true, rfl, .ty _, .base (.int i), kit_ty (by decide +kernel), true, rfl, iteT ?_⟩
    exact ⟨_, rfl, _, .ty "bool", _, _, false, rfl, .ty _, .base (.int i), kit_ty (by decide +kernel), false, rfl, q⟩
end

/-! ### families: what they are -/
def Asc (l : List Int) : Prop := l.Pairwise (· < ·)
def relB (f : Bool) (a b : Int) : Prop := if f then b < a else a ≤ b
def Chain (f : Bool) (ls : List Int) : Prop := ∀ i, i + 1 < ls.length → relB f (ls.getD i 0) (ls.getD (i + 1) 0)
def lets (ws l : List Int) : List Int := l.map fun x => ws.getD x.toNat 0
def Good (ws : List Int) (fs : List (List Int)) : Prop := (∀ l ∈ fs, ∀ x ∈ l, 0 ≤ x ∧ x < ws.length) ∧ (∀ l ∈ fs, Asc l) ∧ fs.flatten.Nodup
def Fam (ws : List Int) (fs : List (List Int)) (f : Bool) : Prop := Good ws fs ∧ ∀ l ∈ fs, Chain f (lets ws l)
open Classical in
noncomputable def famB (ws : List Int) (fs : List (List Int)) (f : Bool) : Bool := decide (Fam ws fs f)
theorem famB_iff {ws : List Int} {fs : List (List Int)} {f : Bool} : famB ws fs f = true ↔ Fam ws fs f := by
  unfold famB
  exact @decide_eq_true_iff _ (Classical.propDecidable _)
open Classical in
noncomputable def pB (p : Prop) : Bool := decide p
theorem pB_iff {p : Prop} : pB p = true ↔ p := by
  unfold pB
  exact @decide_eq_true_iff _ (Classical.propDecidable _)
theorem pB_t {p : Prop} (h : p) : pB p = true := pB_iff.mpr h
theorem pB_f {p : Prop} (h : ¬ p) : pB p = false := by
  cases c : pB p with
  | true => exact absurd (pB_iff.mp c) h
  | false => rfl
theorem bool_iff {a b : Bool} (h : a = true ↔ b = true) : a = b := by
  cases a <;> cases b <;> simp_all
/-- the part of a family that is taken -/
structure Part (ws : List Int) (done : List (List Int)) (cur : List Int) : Prop where
  r : ∀ x ∈ done.flatten ++ cur, 0 ≤ x ∧ x < ws.length
  a : ∀ l ∈ done, Asc l
  c : Asc cur
  n : (done.flatten ++ cur).Nodup
theorem Part.nil (ws : List Int) : Part ws [] [] := ⟨fun _ h => by simp at h, fun _ h => by simp at h, List.Pairwise.nil, by simp⟩
theorem Part.next {ws : List Int} {done : List (List Int)} {cur : List Int} (p : Part ws done cur) : Part ws (done ++ [cur]) [] :=
  ⟨fun x h => p.r x (by simpa using h), fun l h => by
    rcases List.mem_append.mp h with h | h
    · exact p.a l h
    · rw [List.mem_singleton] at h
      rw [h]
      exact p.c, List.Pairwise.nil, by simpa using p.n⟩
theorem Part.good {ws : List Int} {fs : List (List Int)} (p : Part ws fs []) : Good ws fs :=
  ⟨fun l hl x hx => p.r x (by rw [List.append_nil]; exact List.mem_flatten.mpr ⟨l, hl, hx⟩), p.a, by simpa using p.n⟩
theorem asc_snoc {l : List Int} {x : Int} (h : Asc l) (hx : ∀ y, l.getLast? = some y → y < x) : Asc (l ++ [x]) := by
  unfold Asc at h ⊢
  rw [List.pairwise_append]
  refine ⟨h, List.pairwise_singleton _ _, fun a ha b hb => ?_⟩
  rw [List.mem_singleton] at hb
  subst hb
  cases hl : l.getLast? with
  | none =>
    rw [List.getLast?_eq_none_iff] at hl
    subst hl
    simp at ha
  | some y =>
    have hy := hx y hl
    have e : l = l.dropLast ++ [y] := by
      have hne : l ≠ [] := fun z => by subst z; simp at hl
      have := List.dropLast_concat_getLast hne
      rw [List.getLast?_eq_getLast hne] at hl
      cases hl
      exact this.symm
    rw [e] at ha h
    rcases List.mem_append.mp ha with h1 | h1
    · have := (List.pairwise_append.mp h).2.2 a h1 y (by simp)
      omega
    · rw [List.mem_singleton] at h1
      omega
theorem Part.more {ws : List Int} {done : List (List Int)} {cur : List Int} {x : Int} (p : Part ws done cur) (h0 : 0 ≤ x ∧ x < ws.length) (h1 : ∀ y, cur.getLast? = some y → y < x) (h2 : x ∉ done.flatten ++ cur) : Part ws done (cur ++ [x]) :=
  ⟨fun z h => by
    rw [← List.append_assoc] at h
    rcases List.mem_append.mp h with h | h
    · exact p.r z h
    · rw [List.mem_singleton] at h
      rw [h]
      exact h0, p.a, asc_snoc p.c h1, by
    rw [← List.append_assoc, List.nodup_append]
    refine ⟨p.n, by simp, fun a ha b hb => ?_⟩
    rw [List.mem_singleton] at hb
    subst hb
    exact fun e => h2 (e ▸ ha)⟩
/-- what a good family's next index is -/
theorem good_next {ws : List Int} {fs : List (List Int)} (g : Good ws fs) {i k : Nat} {l : List Int} {x : Int} (hl : fs[i]? = some l) (hx : l[k]? = some x) :
    (0 ≤ x ∧ x < ws.length) ∧ (∀ y, (l.take k).getLast? = some y → y < x) ∧ x ∉ (fs.take i).flatten ++ l.take k := by
  obtain ⟨g1, g2, g3⟩ := g
  have hm := List.mem_of_getElem? hl
  refine ⟨g1 l hm x (List.mem_of_getElem? hx), fun y hy => ?_, fun hn => ?_⟩
  · have ha := g2 l hm
    have e : l = l.take k ++ l.drop k := (List.take_append_drop k l).symm
    have h1 : x ∈ l.drop k := by
      rw [List.mem_iff_getElem?]
      exact ⟨0, by rw [List.getElem?_drop]; exact hx⟩
    unfold Asc at ha
    rw [e, List.pairwise_append] at ha
    exact ha.2.2 y (List.mem_of_getLast? hy) x h1
  · have e : fs = fs.take i ++ l :: fs.drop (i + 1) := by
      have hi := (List.getElem?_eq_some_iff.mp hl).1
      have h2 := (List.getElem?_eq_some_iff.mp hl).2
      rw [← h2, ← List.drop_eq_getElem_cons hi, List.take_append_drop]
    have e2 : l = l.take k ++ x :: l.drop (k + 1) := by
      have hi := (List.getElem?_eq_some_iff.mp hx).1
      have h2 := (List.getElem?_eq_some_iff.mp hx).2
      rw [← h2, ← List.drop_eq_getElem_cons hi, List.take_append_drop]
    rw [e, List.flatten_append, List.flatten_cons, e2, List.append_assoc, ← List.append_assoc, List.nodup_append] at g3
    exact g3.2.2 x hn x (by simp) rfl
theorem Part.step {ws : List Int} {fs : List (List Int)} {i k : Nat} {l : List Int} {x : Int} (hl : fs[i]? = some l) (hx : l[k]? = some x) (p : Part ws (fs.take i) (l.take k)) (h0 : 0 ≤ x ∧ x < ws.length) (h1 : ∀ y, (l.take k).getLast? = some y → y < x) (h2 : x ∉ (fs.take i).flatten ++ l.take k) : Part ws (fs.take i) (l.take (k + 1)) := by
  rw [List.take_add_one, hx]
  exact p.more h0 h1 h2
theorem Part.row {ws : List Int} {fs : List (List Int)} {i : Nat} {l : List Int} (hl : fs[i]? = some l) (p : Part ws (fs.take i) l) : Part ws (fs.take (i + 1)) [] := by
  rw [List.take_add_one, hl]
  exact p.next
theorem last_take {l : List Int} {k : Nat} {y : Int} (h : (l.take k).getLast? = some y) (hk : k ≤ l.length) : 0 < k ∧ l[k - 1]? = some y := by
  cases k with
  | zero => simp at h
  | succ k =>
    rw [List.getLast?_eq_getElem?, List.length_take, show min (k + 1) l.length - 1 = k by omega, List.getElem?_take_of_lt (by omega)] at h
    exact ⟨by omega, h⟩
section
variable {P : Program} {w : World} {K : PySem.W.Frag} {mg : Str → Option Value} {base : Heap}
section
variable {B B' H H' : Hp} {σ : L2.St} {te : TE}
theorem Cwd.ex {H1 : Hp} {D T : Addr} {o : HO} {out : List PyData} (p : Cwd K B H1 D out H') (n : H' T = none) : Cwd K B H1 D out (upd H' T o) := by
  obtain ⟨p1, p2, vs, p3, p4⟩ := p
  exact ⟨p1, p2.trans (Ex.new n), vs, by rw [upd_ne (ne_of_none p3 n)]; exact p3, p4.mono (ex_wo (via_up (Ex.new n)))⟩
theorem evb_lcZ {ta : TA} {xs ys : List Int} {j1 j2 : Nat} {vs : List Nat} (hB : Ex B H) (h : EvA K B' ta σ H [dW xs, dW ys]) (hz : xs.length ≤ 50000) (hw : ∀ x y, wipe (((wipe σ vs).set j1 (some x)).set j2 (some y)) vs = wipe σ vs) (f : Int → Int → PyData)
    (he : ∀ x y H2, Ex H H2 → EvB K B te (((wipe σ vs).set j1 (some (.int x))).set j2 (some (.int y))) H2 (f x y)) :
    EvB K B (tLc (iZip K ta) (gTup K 2 (gCons (gName j1) (gCons (gName j2) gNil))) tYes te vs) σ H (.list (List.zipWith f xs ys)) := fun H1 e Q q =>
  h H1 e _ fun us H2 e2 hv => by
    cases hv with
    | cons ha hb =>
      cases hb with
      | cons hb hn =>
        cases hn
        obtain ⟨a, rfl, sa⟩ := dp_W_inv ha
        obtain ⟨b, rfl, sb⟩ := dp_W_inv hb
        have ha2 : SqL K H2 a (xs.map V.int) := Evl.ex_l via_le sa
        have hb2 : SqL K H2 b (ys.map V.int) := Evl.ex_l via_le sb
        refine ⟨a, b, _, _, rfl, ha2, hb2, fun D nD => lc_zip (xs := xs.map V.int) (ys := ys.map V.int) (fun i H' => Cwd K B H2 D ((List.zipWith f xs ys).take i) H') (cwd_start nD) (fun i H' p => ⟨Evl.ex_l p.2.1 ha2, Evl.ex_l p.2.1 hb2⟩) (fun i x y T H' hx hy nT p => ?_) fun H' p => ?_⟩
        · obtain ⟨x, hx1, rfl⟩ := mapAt' hx
          obtain ⟨y, hy1, rfl⟩ := mapAt' hy
          refine ⟨T, _, rfl, SqT.of upd_same, rfl, _, _, rfl, _, _, rfl, rfl, hw _ _, ?_⟩
          have ht : (List.zipWith f xs ys).take (i + 1) = if true then (List.zipWith f xs ys).take i ++ [f x y] else (List.zipWith f xs ys).take i := by
            rw [if_pos rfl, List.take_add_one, List.getElem?_zipWith, hx1, hy1]
            rfl
          rw [ht]
          exact cwd_turn (hB.trans (e.trans e2)) (Cwd.ex p nT) (by rw [List.length_take, List.length_zipWith]; omega) evt_yes fun _ => he x y H2 (e.trans e2)
        · rw [List.length_map, List.length_map, List.take_of_length_le (by rw [List.length_zipWith]; exact Nat.le_refl _)] at p
          obtain ⟨p1, p2⟩ := cwd_end p
          exact q _ _ (e2.trans p1) (p2.mono (via_down e2))
end
theorem zip_chain (f : Bool) (g : Int → Int → Bool) (hg : ∀ a b, g a b = true ↔ relB f a b) (ls : List Int) : (List.zipWith g ls (ls.drop 1)).all id = true ↔ Chain f ls := by
  rw [List.all_eq_true]
  constructor
  · intro h i hi
    have hx : ls[i]? = some (ls.getD i 0) := getD_some' (by omega)
    have hy : (ls.drop 1)[i]? = some (ls.getD (i + 1) 0) := by
      rw [List.getElem?_drop, Nat.add_comm 1 i]
      exact getD_some' hi
    have hm : g (ls.getD i 0) (ls.getD (i + 1) 0) ∈ List.zipWith g ls (ls.drop 1) := by
      rw [List.mem_iff_getElem?]
      exact ⟨i, by rw [List.getElem?_zipWith, hx, hy]⟩
    exact (hg _ _).mp (h _ hm)
  · intro h b hb
    obtain ⟨i, hi⟩ := List.mem_iff_getElem?.mp hb
    rw [List.getElem?_zipWith] at hi
    cases c1 : ls[i]? with
    | none => rw [c1] at hi; cases hi
    | some x =>
      cases c2 : (ls.drop 1)[i]? with
      | none => rw [c1, c2] at hi; cases hi
      | some y =>
        rw [c1, c2] at hi
        cases hi
        rw [List.getElem?_drop, Nat.add_comm 1 i] at c2
        have l2 := (List.getElem?_eq_some_iff.mp c2).1
        have := h i l2
        rw [List.getD_eq_getElem?_getD, c1, List.getD_eq_getElem?_getD, c2] at this
        exact (hg x y).mpr this
end

section
variable {P : Program} {w : World} {K : PySem.W.Frag} {mg : Str → Option Value} {base : Heap}
/-! ### the program's families -/
theorem drop1 (ws : List Int) : cutI (ws.map PyData.int) (some 1) none = (ws.drop 1).map PyData.int := by
  unfold cutI
  rw [show HT.sIx (ws.map PyData.int).length 0 (some 1) = min 1 (ws.map PyData.int).length from HT.sIx_nat _ 0 1, HT.sIx_none, List.length_map, ← List.map_drop]
  cases ws with
  | nil => rfl
  | cons x r =>
    rw [show min 1 (x :: r).length = 1 by rw [List.length_cons]; omega]
    exact List.take_of_length_le (by simp)
def spMono (f : Bool) (K : PySem.W.Frag) : Sp := fun vs H Q _ => ∃ (v : V) (ls : List Int), vs = [v] ∧ Dp K H v (dW ls) ∧ ls.length ≤ 40000 ∧ RetV (.bl (pB (Chain f ls))) H Q
theorem spMono_D {f : Bool} {ls : List Int} (h : ls.length ≤ 40000) : SpD K (spMono f K) [dW ls] (.bool (pB (Chain f ls))) := fun vs H hvs Q E q => by
  cases hvs with
  | cons a b =>
    cases b
    exact ⟨_, ls, rfl, a, h, fun H2 e => q _ H2 e (.bl _)⟩
theorem ok_does_not_decrease (T : Txt K mg) : FnOk P w K mg base CX0 1 T.does_not_decrease.f T.does_not_decrease.fd ["letters"] (spMono false K) := by
  refine T.does_not_decrease.F.ok sc_does_not_decrease (fun vs H Q E h => ?_) (fun cdv A outer s H vs Q E hr h => ?_)
  · obtain ⟨v, ls, rfl, _⟩ := h
    rfl
  · obtain ⟨v, ls, rfl, hv, hl, q⟩ := h
    refine ⟨_, (pss_one (ps_ret (pe_callB (cr_all rfl) (by rfl) T.all (by decide +kernel) (pa_cons (pe_lc (g := (gTup K 2 (gCons (gName 1) (gCons (gName 2) gNil)))) (tt := tYes) (te := (tOp (rI0 fun i j => .bl (decide (i ≤ j))) (tVar 1) (tVar 2))) (own := [("left", 1), ("right", 2)]) (by rfl) sc_does_not_decrease.nd (pi_zip (by rfl) T.zip (pa_cons (pv 0) (pa_cons (pe_slice sl_list (pv 0) (po_some pe_int) po_none) pa_nil))) (blkOk_by (own := [("left", 1), ("right", 2)]) (N := N_does_not_decrease) (sc := defScope s_does_not_decrease) (by decide +kernel)) (fun _ _ _ _ _ => (pg_tup (by rfl) (pgs_cons (pg_name (i := 1) sc_does_not_decrease.nd rfl (.inl rfl)) (pgs_cons (pg_name (i := 2) sc_does_not_decrease.nd rfl (.inl rfl)) pgs_nil)))) (fun _ _ _ _ _ => pts_nil) (fun _ _ _ _ _ => (pe_cmpR op_le (pv 1) (pv 2) (nomark _)))) pa_nil)))), ?_⟩
    have h1 : EvB K H (tVar 0) (L2.start N_does_not_decrease [v]) H (dW ls) := evb_v rfl hv
    have h2 := evb_slice h1 (evo_some (K := K) (i := 1) (evb_int (B := H))) evo_none
    rw [drop1] at h2
    have h3 := evb_lcZ (K := K) (B := emp) (te := tOp (rI0 fun i j => .bl (decide (i ≤ j))) (tVar 1) (tVar 2)) (j1 := 1) (j2 := 2) (vs := [1, 2]) emp_ex (eva2 h1 h2) (by omega) (fun _ _ => rfl) (fun x y => .bool (decide (x ≤ y))) fun x y H2 _ => evb_ib (K := K) (g := fun i j => decide (i ≤ j)) (evb_v rfl (.int x)) (evb_v rfl (.int y))
    have h4 : List.zipWith (fun x y => PyData.bool (decide (x ≤ y))) ls (ls.drop 1) = (List.zipWith (fun x y => decide (x ≤ y)) ls (ls.drop 1)).map PyData.bool := by rw [List.map_zipWith]
    rw [h4] at h3
    refine qd_ret (evb_all h3 (B2 := H)) fun v1 H1 e1 hv1 => ?_
    cases hv1
    rw [bool_iff (b := pB (Chain false ls)) ((zip_chain false (fun x y => decide (x ≤ y)) (fun a b => by simp [relB]) ls).trans pB_iff.symm)]
    exact q H1 e1
theorem ok_strictly_decreases (T : Txt K mg) : FnOk P w K mg base CX0 1 T.strictly_decreases.f T.strictly_decreases.fd ["letters"] (spMono true K) := by
  refine T.strictly_decreases.F.ok sc_strictly_decreases (fun vs H Q E h => ?_) (fun cdv A outer s H vs Q E hr h => ?_)
  · obtain ⟨v, ls, rfl, _⟩ := h
    rfl
  · obtain ⟨v, ls, rfl, hv, hl, q⟩ := h
    refine ⟨_, (pss_one (ps_ret (pe_callB (cr_all rfl) (by rfl) T.all (by decide +kernel) (pa_cons (pe_lc (g := (gTup K 2 (gCons (gName 1) (gCons (gName 2) gNil)))) (tt := tYes) (te := (tOp (rI0 fun i j => .bl (decide (j < i))) (tVar 1) (tVar 2))) (own := [("left", 1), ("right", 2)]) (by rfl) sc_strictly_decreases.nd (pi_zip (by rfl) T.zip (pa_cons (pv 0) (pa_cons (pe_slice sl_list (pv 0) (po_some pe_int) po_none) pa_nil))) (blkOk_by (own := [("left", 1), ("right", 2)]) (N := N_strictly_decreases) (sc := defScope s_strictly_decreases) (by decide +kernel)) (fun _ _ _ _ _ => (pg_tup (by rfl) (pgs_cons (pg_name (i := 1) sc_strictly_decreases.nd rfl (.inl rfl)) (pgs_cons (pg_name (i := 2) sc_strictly_decreases.nd rfl (.inl rfl)) pgs_nil)))) (fun _ _ _ _ _ => pts_nil) (fun _ _ _ _ _ => (pe_cmpR op_gt (pv 1) (pv 2) (nomark _)))) pa_nil)))), ?_⟩
    have h1 : EvB K H (tVar 0) (L2.start N_strictly_decreases [v]) H (dW ls) := evb_v rfl hv
    have h2 := evb_slice h1 (evo_some (K := K) (i := 1) (evb_int (B := H))) evo_none
    rw [drop1] at h2
    have h3 := evb_lcZ (K := K) (B := emp) (te := tOp (rI0 fun i j => .bl (decide (j < i))) (tVar 1) (tVar 2)) (j1 := 1) (j2 := 2) (vs := [1, 2]) emp_ex (eva2 h1 h2) (by omega) (fun _ _ => rfl) (fun x y => .bool (decide (y < x))) fun x y H2 _ => evb_ib (K := K) (g := fun i j => decide (j < i)) (evb_v rfl (.int x)) (evb_v rfl (.int y))
    have h4 : List.zipWith (fun x y => PyData.bool (decide (y < x))) ls (ls.drop 1) = (List.zipWith (fun x y => decide (y < x)) ls (ls.drop 1)).map PyData.bool := by rw [List.map_zipWith]
    rw [h4] at h3
    refine qd_ret (evb_all h3 (B2 := H)) fun v1 H1 e1 hv1 => ?_
    cases hv1
    rw [bool_iff (b := pB (Chain true ls)) ((zip_chain true (fun x y => decide (y < x)) (fun a b => by simp [relB]) ls).trans pB_iff.symm)]
    exact q H1 e1
/-- a family, bounded -/
def Small (fs : List (List Int)) : Prop := fs.length ≤ 20000 ∧ fs.flatten.length ≤ 20000
theorem mem_len {fs : List (List Int)} {l : List Int} (h : l ∈ fs) : l.length ≤ fs.flatten.length := by
  induction fs with
  | nil => simp at h
  | cons a fs ih =>
    rw [List.flatten_cons, List.length_append]
    rcases List.mem_cons.mp h with h | h
    · subst h
      omega
    · have := ih h
      omega
theorem Small.mem {fs : List (List Int)} {l : List Int} (h : Small fs) (hl : l ∈ fs) : l.length ≤ 20000 := by
  have := mem_len hl
  have := h.2
  omega
theorem dF_at {fs : List (List Int)} {i : Nat} {d : PyData} (h : (fs.map dW)[i]? = some d) : ∃ l, fs[i]? = some l ∧ d = dW l := by
  rw [List.getElem?_map] at h
  cases e : fs[i]? with
  | none => rw [e] at h; cases h
  | some l => rw [e] at h; exact ⟨l, rfl, (Option.some.inj h).symm⟩
def spCoverP (K : PySem.W.Frag) : Sp := fun vs H Q _ => ∃ (v : V) (fs : List (List Int)), vs = [v] ∧ Dp K H v (dF fs) ∧ Small fs ∧ RetV (.int (fs.flatten.length : Int)) H Q
theorem sum_lens (fs : List (List Int)) : (fs.map fun l => (l.length : Int)).sum = (fs.flatten.length : Int) := by
  induction fs with
  | nil => rfl
  | cons l fs ih => rw [List.map_cons, List.sum_cons, ih, List.flatten_cons, List.length_append]; omega
theorem ok_cover (T : Txt K mg) : FnOk P w K mg base CX0 1 T.cover.f T.cover.fd ["family"] (spCoverP K) := by
  refine T.cover.F.ok sc_cover (fun vs H Q E h => ?_) (fun cdv A outer s H vs Q E hr h => ?_)
  · obtain ⟨v, fs, rfl, _⟩ := h
    rfl
  · obtain ⟨v, fs, rfl, hv, hl, q⟩ := h
    refine ⟨_, (pss_one (ps_ret (pe_callB (cr_sum rfl) (by rfl) T.sum (by decide +kernel) (pa_cons (pe_lc (g := (gName 1)) (tt := tYes) (te := (tCB (rLenS K) (tCons (tVar 1) tNil))) (own := [("indexes", 1)]) (by rfl) sc_cover.nd (pi_list (pv 0)) (blkOk_by (own := [("indexes", 1)]) (N := N_cover) (sc := defScope s_cover) (by decide +kernel)) (fun _ _ _ _ _ => (pg_name (i := 1) sc_cover.nd rfl (.inl rfl))) (fun _ _ _ _ _ => pts_nil) (fun _ _ _ _ _ => (pe_callB call_len_seq (by rfl) T.len PySem.boot_len (pa_cons (pv 1) pa_nil)))) pa_nil)))), ?_⟩
    have h1 := evb_lcL (K := K) (B := emp) (B' := H) (t := tYes) (te := tCB (rLenS K) (tCons (tVar 1) tNil)) (j := 1) (vs := [1]) (σ := L2.start N_cover [v]) (tl := tVar 0) emp_ex (evb_v rfl hv) (by have := hl.1; rw [List.length_map]; omega) (fun _ => rfl) (fun i => ((fs.take i).map fun l => (l.length : Int)).map PyData.int) rfl fun i x dx H2 e hi hx => by
      obtain ⟨l, hl, rfl⟩ := dF_at hi
      refine ⟨true, .int l.length, evt_yes, fun _ => ?_, ?_⟩
      · have := evb_len (ds := l.map PyData.int) (B := H2) (ta := tVar 1) (σ := (wipe (L2.start N_cover [v]) [1]).set 1 (some x)) (evb_v rfl hx) (B2 := emp)
        rw [List.length_map] at this
        exact this
      · rw [if_pos rfl, List.take_add_one, hl, List.map_append, List.map_append]
        rfl
    rw [List.length_map, List.take_length] at h1
    refine qd_ret (evb_sum h1 (B2 := H)) fun v1 H1 e1 hv1 => ?_
    cases hv1
    rw [sum_lens]
    exact q H1 e1
def tk (n : Nat) (U : List Int) : List V := (List.range n).map fun (x : Nat) => V.bl (decide ((x : Int) ∈ U))
theorem tk_nil (n : Nat) : (List.replicate n [V.bl false]).flatten = tk n [] := by
  have h : ∀ m, (List.replicate m [V.bl false]).flatten = (List.range m).map fun (x : Nat) => V.bl (decide ((x : Int) ∈ ([] : List Int))) := fun m => by
    induction m with
    | zero => rfl
    | succ m ih =>
      rw [List.replicate_succ', List.flatten_append, ih, List.range_succ, List.map_append]
      simp
  exact h n
theorem tk_len (n : Nat) (U : List Int) : (tk n U).length = n := by unfold tk; rw [List.length_map, List.length_range]
theorem tk_at {n : Nat} {U : List Int} {x : Nat} (h : x < n) : (tk n U)[x]? = some (.bl (decide ((x : Int) ∈ U))) := by
  unfold tk
  rw [List.getElem?_map, List.getElem?_range h]
  rfl
theorem tk_set {n : Nat} {U : List Int} {x : Nat} (h : x < n) : (tk n U).set x (.bl true) = tk n (U ++ [(x : Int)]) := by
  apply List.ext_getElem?
  intro k
  rw [List.getElem?_set, tk_len]
  by_cases c : x = k
  · subst c
    rw [if_pos rfl, if_pos h, tk_at h]
    simp
  · rw [if_neg c]
    by_cases hk : k < n
    · rw [tk_at hk, tk_at hk]
      have : ¬ ((k : Int) = (x : Int)) := by omega
      simp [this]
    · rw [List.getElem?_eq_none (by rw [tk_len]; omega), List.getElem?_eq_none (by rw [tk_len]; omega)]
def spEach (K : PySem.W.Frag) : Sp := fun vs H Q _ => ∃ (v u : V) (ws : List Int) (fs : List (List Int)), vs = [v, u] ∧ Dp K H v (dW ws) ∧ Dp K H u (dF fs) ∧ ws.length ≤ 20000 ∧ Small fs ∧ RetV (.bl (pB (Good ws fs))) H Q
theorem ok_has_each_index_once (T : Txt K mg) : FnOk P w K mg base CX0 1 T.has_each_index_once.f T.has_each_index_once.fd ["word", "family"] (spEach K) := by
  refine T.has_each_index_once.F.ok sc_has_each_index_once (fun vs H Q E h => ?_) (fun cdv A outer s H vs Q E hr h => ?_)
  · obtain ⟨v, u, ws, fs, rfl, _⟩ := h
    rfl
  · obtain ⟨v, u, ws, fs, rfl, hv, hu, hwl, hsm, q⟩ := h
    obtain ⟨p, rfl, hS⟩ := dp_W_inv hv
    refine ⟨_, (pss_cons (ps_set (i := 2) sc_has_each_index_once.nd rfl (.inl rfl) (pe_op op_rep (pe_lst (pa_cons pe_bl pa_nil)) (pe_callB call_len_seq (by rfl) T.len PySem.boot_len (pa_cons (pv 0) pa_nil))))
      (pss_cons (ps_for PassesOwn.never rfl (pi_list (pv 1)) (pg_name (i := 3) sc_has_each_index_once.nd rfl (.inl rfl))
      (pss_cons (ps_set (i := 4) sc_has_each_index_once.nd rfl (.inl rfl) (pe_un un_neg pe_int))
        (pss_one (ps_for PassesOwn.never rfl (pi_list (pv 3)) (pg_name (i := 5) sc_has_each_index_once.nd rfl (.inl rfl))
        (pss_cons (ps_if (PW.pt (pw_or (pt_cmpR op_le (pv 5) (pv 4) (nomark _)) (pw_or (pt_cmpR op_ge (pv 5) (pe_callB call_len_seq (by rfl) T.len PySem.boot_len (pa_cons (pv 0) pa_nil)) (nomark _)) (pw_or1 (pt_val (pe_ix ix_list (pv 2) (pv 5) (fun _ _ => rfl)))))))
          (pss_one (ps_ret pe_bl))
          pss_nil)
          (pss_cons (ps_asg pe_bl (pg_sub (pv 2) (pv 5) set_list))
          (pss_one (ps_set (i := 4) sc_has_each_index_once.nd rfl (.inl rfl) (pv 5)))))))))
      (pss_one (ps_ret pe_bl)))), ?_⟩
    cases hu with
    | @lst a xs _ hsl hall =>
      refine ⟨by show 1 ≤ sizeLine; decide, fun l nl => ?_⟩
      have hS1 : SqL K (upd H l (.lst [.bl false])) p (ws.map V.int) := Evl.ex_l (Ex.new nl) hS
      refine ⟨_, rfl, p, _, rfl, .inl hS1, l, _, _, rfl, rfl, upd_same, by omega, by rw [List.length_map]; omega, ?_, fun t nt => ?_⟩
      · rw [Int.toNat_natCast, List.length_map]
        show 1 * ws.length ≤ sizeLine
        exact sz (by omega)
      rw [Int.toNat_natCast, List.length_map, tk_nil]
      have nt0 : H t = none := Evl.fresh_back (Ex.new nl) nt
      have eH : Ex H (upd (upd H l (.lst [.bl false])) t (.lst (tk ws.length []))) := (Ex.new nl).trans (Ex.new nt)
      have no : ∀ {H' : Hp}, Ex H H' → ¬ Good ws fs → Q (.bl false) H' := fun e ng => by
        have := q _ e
        rw [pB_f ng] at this
        exact this
      refine ⟨_, rfl, a, rfl, ⟨_, Evl.ex_l eH hsl⟩, for_list (K := K) (a := a) (xs := xs) (fun i σ H' => ∃ x3 x4 x5, σ = [some (.ref p), some (.ref a), some (.ref t), x3, x4, x5] ∧ Ex H H' ∧ H' t = some (.lst (tk ws.length (fs.take i).flatten)) ∧ Part ws (fs.take i) [])
        ⟨none, none, none, rfl, eH, upd_same, Part.nil ws⟩ (fun i σ H' _ ⟨_, _, _, _, e, _⟩ => Evl.ex_l e hsl) ?_ ?_⟩
      · rintro i x σ H1 hi ⟨x3, x4, x5, rfl, e1, ht1, part⟩
        obtain ⟨d, hd, hx⟩ := dp_at hall hi
        obtain ⟨l2, hl2, rfl⟩ := dF_at hd
        obtain ⟨b, rfl, hb⟩ := dp_W_inv hx
        have hb1 := Evl.ex_l e1 hb
        refine ⟨_, rfl, ?_⟩
        refine ⟨_, rfl, b, rfl, ⟨_, hb1⟩, for_list (K := K) (a := b) (xs := l2.map V.int) (fun k σ H' => ∃ x5, σ = [some (.ref p), some (.ref a), some (.ref t), some (.ref b), some (.int (((l2.take k).getLast?).getD (-1))), x5] ∧ Ex H H' ∧ H' t = some (.lst (tk ws.length ((fs.take i).flatten ++ l2.take k))) ∧ Part ws (fs.take i) (l2.take k))
          ⟨x5, rfl, e1, by rw [List.take_zero, List.append_nil]; exact ht1, part⟩ (fun k σ H' _ ⟨_, _, e, _⟩ => Evl.ex_l e hb) ?_ ?_⟩
        · rintro k y σ H2 hk ⟨x5, rfl, e2, ht2, part2⟩
          obtain ⟨z, hz, rfl⟩ := mapAt' hk
          have gn : Good ws fs → _ := fun g => good_next g hl2 hz
          have hk2 : k < l2.length := (List.getElem?_eq_some_iff.mp hz).1
          -- index <= before
          refine ⟨_, rfl, _, rfl, _, _, rfl, rfl, _, rfl, ?_⟩
          by_cases c1 : z ≤ ((l2.take k).getLast?).getD (-1)
          · refine ifT (decide_eq_true c1) ?_
            refine iteT (no e2 fun g => ?_)
            obtain ⟨g1, g2, _⟩ := gn g
            cases c : (l2.take k).getLast? with
            | none =>
              rw [c] at c1
              have : z ≤ -1 := c1
              omega
            | some y =>
              rw [c] at c1
              have : z ≤ y := c1
              have := g2 y c
              omega
          refine ifF (decide_eq_false c1) ?_
          have lastOk : ∀ y, (l2.take k).getLast? = some y → y < z := fun y hy => by
            rw [hy] at c1
            have : ¬ z ≤ y := c1
            omega
          have z0 : 0 ≤ z := by
            cases c : (l2.take k).getLast? with
            | none =>
              rw [c] at c1
              have : ¬ z ≤ -1 := c1
              omega
            | some y =>
              have h1 := lastOk y c
              have h2 := (part2.r y (List.mem_append.mpr (.inr (List.mem_of_getLast? c)))).1
              omega
          -- index >= len(word)
          refine ⟨_, rfl, _, rfl, p, _, rfl, .inl (Evl.ex_l e2 hS), _, _, rfl, rfl, _, rfl, ?_⟩
          rw [List.length_map]
          by_cases c2 : (ws.length : Int) ≤ z
          · refine ifT (decide_eq_true c2) ?_
            refine iteT (no e2 fun g => ?_)
            have := (gn g).1
            omega
          refine ifF (decide_eq_false c2) ?_
          obtain ⟨m, rfl⟩ : ∃ m : Nat, z = (m : Int) := ⟨z.toNat, by omega⟩
          have hm : m < ws.length := by omega
          -- taken[index]
          refine ⟨_, rfl, _, rfl, t, _, _, _, rfl, rfl, SqL.of ht2, atI_nat (tk_at hm), _, rfl, ?_⟩
          by_cases c3 : (m : Int) ∈ (fs.take i).flatten ++ l2.take k
          · refine ifT (decide_eq_true c3) ?_
            exact no e2 fun g => (gn g).2.2 c3
          refine ifF (decide_eq_false c3) ?_
          refine ⟨_, rfl, _, rfl, t, _, _, m, rfl, rfl, ht2, Evl.ixN_nat (by rw [tk_len]; exact hm), ?_⟩
          rw [tk_set hm]
          refine ⟨_, rfl, ?_⟩
          refine ⟨some (.int (m : Int)), ?_, Ex.mut e2 nt0, ?_, part2.step hl2 hz ⟨by omega, by omega⟩ lastOk c3⟩
          · rw [List.take_add_one, hz]
            simp
          · rw [upd_same, List.take_add_one, hz, ← List.append_assoc]
            rfl
        · rintro σ H2 ⟨x5, rfl, e2, ht2, part2⟩
          rw [List.length_map, List.take_length] at ht2 part2
          refine ⟨_, _, _, rfl, e2, ?_, part2.row hl2⟩
          rw [ht2, List.take_add_one, hl2, List.flatten_append]
          simp
      · rintro σ H1 ⟨x3, x4, x5, rfl, e1, ht1, part⟩
        have hlen : xs.length = fs.length := by rw [dp_len hall, List.length_map]
        rw [hlen, List.take_length] at part
        have := q _ e1
        rw [pB_t part.good] at this
        exact this
/-- the two kinds -/
def spFamP (f : Bool) (K : PySem.W.Frag) : Sp := fun vs H Q _ => ∃ (v u : V) (ws : List Int) (fs : List (List Int)), vs = [v, u] ∧ Dp K H v (dW ws) ∧ Dp K H u (dF fs) ∧ ws.length ≤ 20000 ∧ Small fs ∧ RetV (.bl (famB ws fs f)) H Q
theorem all_fam {ws : List Int} {fs : List (List Int)} {f : Bool} (g : Good ws fs) : (fs.map fun l => pB (Chain f (lets ws l))).all id = famB ws fs f := by
  apply bool_iff
  rw [famB_iff, List.all_map, List.all_eq_true]
  exact ⟨fun h => ⟨g, fun l hl => pB_iff.mp (h l hl)⟩, fun h l hl => pB_t (h.2 l hl)⟩
theorem mapsel {B H : Hp} {σ : L2.St} {tl te : TE} {fs : List (List Int)} {j : Nat} {vs : List Nat} {g : List Int → Bool} {B' : Hp} (hB : Ex B H) (h : EvB K B' tl σ H (dF fs)) (hz : fs.length ≤ 50000) (hw : ∀ x, wipe ((wipe σ vs).set j (some x)) vs = wipe σ vs)
    (he : ∀ x l H2, Ex H H2 → l ∈ fs → Dp K H2 x (dW l) → EvB K B te ((wipe σ vs).set j (some x)) H2 (.bool (g l))) : EvB K B (tLc (iList K tl) (gName j) tYes te vs) σ H (.list ((fs.map g).map PyData.bool)) := by
  have r := evb_lcL (t := tYes) (te := te) (j := j) (vs := vs) hB h (by rw [List.length_map]; exact hz) hw (fun i => ((fs.take i).map g).map PyData.bool) rfl fun i x dx H2 e hi hx => by
    obtain ⟨l, hl, rfl⟩ := dF_at hi
    refine ⟨true, _, evt_yes, fun _ => he x l H2 e (List.mem_of_getElem? hl) hx, ?_⟩
    rw [if_pos rfl, List.take_add_one, hl, List.map_append, List.map_append]
    rfl
  rw [List.length_map, List.take_length] at r
  exact r
theorem mapI {B H : Hp} {σ : L2.St} {tl te : TE} {ls : List Int} {j : Nat} {vs : List Nat} {g : Int → Int} {B' : Hp} (hB : Ex B H) (h : EvB K B' tl σ H (dW ls)) (hz : ls.length ≤ 50000) (hw : ∀ x, wipe ((wipe σ vs).set j (some x)) vs = wipe σ vs)
    (he : ∀ x H2, Ex H H2 → x ∈ ls → EvB K B te ((wipe σ vs).set j (some (.int x))) H2 (.int (g x))) : EvB K B (tLc (iList K tl) (gName j) tYes te vs) σ H (dW (ls.map g)) := by
  have r := evb_lcL (t := tYes) (te := te) (j := j) (vs := vs) hB h (by rw [List.length_map]; exact hz) hw (fun i => ((ls.take i).map g).map PyData.int) rfl fun i x dx H2 e hi hx => by
    rw [List.getElem?_map] at hi
    cases c : ls[i]? with
    | none => rw [c] at hi; cases hi
    | some z =>
      rw [c] at hi
      cases hi
      cases hx
      refine ⟨true, _, evt_yes, fun _ => he z H2 e (List.mem_of_getElem? c), ?_⟩
      rw [if_pos rfl, List.take_add_one, c, List.map_append, List.map_append]
      rfl
  rw [List.length_map, List.take_length] at r
  exact r
theorem letter_at {H : Hp} {σ : L2.St} {ws : List Int} {i j : Nat} {v : V} {x : Int} {B2 : Hp} (hv : σ[i]? = some (some v)) (hw : Dp K H v (dW ws)) (hx : σ[j]? = some (some (.int x))) (h0 : 0 ≤ x ∧ x < ws.length) : EvB K B2 (tOp (rIxL K) (tVar i) (tVar j)) σ H (.int (ws.getD x.toNat 0)) :=
  (evb_ixL (B := H) (B' := H) (j := x.toNat) (evb_v hv hw) (evb_v hx (.int x)) (by omega) (by rw [List.getElem?_map, getD_some' (by omega)]; rfl)).scal rfl
theorem ok_is_rising_family (T : Txt K mg) : FnOk P w K mg base CX0 2 T.is_rising_family.f T.is_rising_family.fd ["word", "family"] (spFamP false K) := by
  refine T.is_rising_family.F.ok sc_is_rising_family (fun vs H Q E h => ?_) (fun cdv A outer s H vs Q E hr h => ?_)
  · obtain ⟨v, u, ws, fs, rfl, _⟩ := h
    rfl
  · obtain ⟨v, u, ws, fs, rfl, hv, hu, hwl, hsm, q⟩ := h
    refine ⟨_, (pss_cons (ps_if (pt_not (pt_val (pe_call (ok_has_each_index_once T) (hr.mono (by decide)) rfl T.has_each_index_once.g T.has_each_index_once.F.kp T.has_each_index_once.b .nil pass0 (pa_cons (pv 0) (pa_cons (pv 1) pa_nil)))))
      (pss_one (ps_ret pe_bl))
      pss_nil)
      (pss_one (ps_ret (pe_callB (cr_all rfl) (by rfl) T.all (by decide +kernel) (pa_cons (pe_lc (g := (gName 2)) (tt := tYes) (te := (tCall _ [] E0 (tCons (tLc (iList K (tVar 2)) (gName 3) tYes (tOp (rIxL K) (tVar 0) (tVar 3)) [3]) tNil))) (own := [("indexes", 2)]) (by rfl) sc_is_rising_family.nd (pi_list (pv 1)) (blkOk_by (own := [("indexes", 2)]) (N := N_is_rising_family) (sc := defScope s_is_rising_family) (by decide +kernel)) (fun _ _ _ _ _ => (pg_name (i := 2) sc_is_rising_family.nd rfl (.inl rfl))) (fun _ _ _ _ _ => pts_nil) (fun _ _ _ _ _ => (pe_call (ok_does_not_decrease T) (hr.mono (by decide)) rfl T.does_not_decrease.g T.does_not_decrease.F.kp T.does_not_decrease.b .nil pass0 (pa_cons (pe_lc (g := (gName 3)) (tt := tYes) (te := (tOp (rIxL K) (tVar 0) (tVar 3))) (own := [("index", 3)]) (by rfl) sc_is_rising_family.nd (pi_list (pv 2)) (by exact blkOk_by (own := [("index", 3)]) (by rfl)) (fun _ _ _ _ _ => (pg_name (i := 3) sc_is_rising_family.nd rfl (.inl rfl))) (fun _ _ _ _ _ => pts_nil) (fun _ _ _ _ _ => (pe_ix ix_list (pv 0) (pv 3) (fun _ _ => rfl)))) pa_nil)))) pa_nil))))), ?_⟩
    refine ⟨_, rfl, _, rfl, v, u, ws, fs, rfl, hv, hu, hwl, hsm, fun H2 e2 => ⟨_, rfl, ?_⟩⟩
    by_cases g : Good ws fs
    · rw [pB_t g]
      refine iteF ?_
      have h1 := mapsel (K := K) (B := emp) (B' := H2) (H := H2) (σ := [some v, some u, none, none]) (tl := tVar 1) (fs := fs) (j := 2) (vs := [2]) (te := tCall (spMono false K) [] E0 (tCons (tLc (iList K (tVar 2)) (gName 3) tYes (tOp (rIxL K) (tVar 0) (tVar 3)) [3]) tNil)) (g := fun l => pB (Chain false (lets ws l))) emp_ex (evb_v rfl (hu.mono e2)) (by have := hsm.1; omega) (fun _ => rfl) fun x l H3 e3 hl hx => by
        have hl2 := hsm.mem hl
        refine evb_call (B := emp) (ds := [dW (lets ws l)]) (eva1 ?_) (spMono_D (by unfold lets; rw [List.length_map]; omega))
        exact mapI (K := K) (B := emp) (B' := H3) emp_ex (evb_v rfl hx) (by omega) (fun _ => rfl) fun z H4 e4 hz => letter_at rfl ((hv.mono (e2.trans e3)).mono e4) rfl (g.1 l hl z hz)
      refine qd_ret (evb_all h1 (B2 := H2)) fun v1 H3 e3 hv1 => ?_
      cases hv1
      rw [all_fam g]
      exact q _ (e2.trans e3)
    · rw [pB_f g]
      refine iteT ?_
      have := q _ e2
      rw [show famB ws fs false = false from bool_iff ⟨fun h => absurd (famB_iff.mp h).1 g, fun h => by cases h⟩] at this
      exact this
theorem ok_is_falling_family (T : Txt K mg) : FnOk P w K mg base CX0 2 T.is_falling_family.f T.is_falling_family.fd ["word", "family"] (spFamP true K) := by
  refine T.is_falling_family.F.ok sc_is_falling_family (fun vs H Q E h => ?_) (fun cdv A outer s H vs Q E hr h => ?_)
  · obtain ⟨v, u, ws, fs, rfl, _⟩ := h
    rfl
  · obtain ⟨v, u, ws, fs, rfl, hv, hu, hwl, hsm, q⟩ := h
    refine ⟨_, (pss_cons (ps_if (pt_not (pt_val (pe_call (ok_has_each_index_once T) (hr.mono (by decide)) rfl T.has_each_index_once.g T.has_each_index_once.F.kp T.has_each_index_once.b .nil pass0 (pa_cons (pv 0) (pa_cons (pv 1) pa_nil)))))
      (pss_one (ps_ret pe_bl))
      pss_nil)
      (pss_one (ps_ret (pe_callB (cr_all rfl) (by rfl) T.all (by decide +kernel) (pa_cons (pe_lc (g := (gName 2)) (tt := tYes) (te := (tCall _ [] E0 (tCons (tLc (iList K (tVar 2)) (gName 3) tYes (tOp (rIxL K) (tVar 0) (tVar 3)) [3]) tNil))) (own := [("indexes", 2)]) (by rfl) sc_is_falling_family.nd (pi_list (pv 1)) (blkOk_by (own := [("indexes", 2)]) (N := N_is_falling_family) (sc := defScope s_is_falling_family) (by decide +kernel)) (fun _ _ _ _ _ => (pg_name (i := 2) sc_is_falling_family.nd rfl (.inl rfl))) (fun _ _ _ _ _ => pts_nil) (fun _ _ _ _ _ => (pe_call (ok_strictly_decreases T) (hr.mono (by decide)) rfl T.strictly_decreases.g T.strictly_decreases.F.kp T.strictly_decreases.b .nil pass0 (pa_cons (pe_lc (g := (gName 3)) (tt := tYes) (te := (tOp (rIxL K) (tVar 0) (tVar 3))) (own := [("index", 3)]) (by rfl) sc_is_falling_family.nd (pi_list (pv 2)) (by exact blkOk_by (own := [("index", 3)]) (by rfl)) (fun _ _ _ _ _ => (pg_name (i := 3) sc_is_falling_family.nd rfl (.inl rfl))) (fun _ _ _ _ _ => pts_nil) (fun _ _ _ _ _ => (pe_ix ix_list (pv 0) (pv 3) (fun _ _ => rfl)))) pa_nil)))) pa_nil))))), ?_⟩
    refine ⟨_, rfl, _, rfl, v, u, ws, fs, rfl, hv, hu, hwl, hsm, fun H2 e2 => ⟨_, rfl, ?_⟩⟩
    by_cases g : Good ws fs
    · rw [pB_t g]
      refine iteF ?_
      have h1 := mapsel (K := K) (B := emp) (B' := H2) (H := H2) (σ := [some v, some u, none, none]) (tl := tVar 1) (fs := fs) (j := 2) (vs := [2]) (te := tCall (spMono true K) [] E0 (tCons (tLc (iList K (tVar 2)) (gName 3) tYes (tOp (rIxL K) (tVar 0) (tVar 3)) [3]) tNil)) (g := fun l => pB (Chain true (lets ws l))) emp_ex (evb_v rfl (hu.mono e2)) (by have := hsm.1; omega) (fun _ => rfl) fun x l H3 e3 hl hx => by
        have hl2 := hsm.mem hl
        refine evb_call (B := emp) (ds := [dW (lets ws l)]) (eva1 ?_) (spMono_D (by unfold lets; rw [List.length_map]; omega))
        exact mapI (K := K) (B := emp) (B' := H3) emp_ex (evb_v rfl hx) (by omega) (fun _ => rfl) fun z H4 e4 hz => letter_at rfl ((hv.mono (e2.trans e3)).mono e4) rfl (g.1 l hl z hz)
      refine qd_ret (evb_all h1 (B2 := H2)) fun v1 H3 e3 hv1 => ?_
      cases hv1
      rw [all_fam g]
      exact q _ (e2.trans e3)
    · rw [pB_f g]
      refine iteT ?_
      have := q _ e2
      rw [show famB ws fs true = false from bool_iff ⟨fun h => absurd (famB_iff.mp h).1 g, fun h => by cases h⟩] at this
      exact this
end

/-! ### the law's own words for families -/
theorem chain_nil (f : Bool) : Chain f [] := fun i h => by simp at h
theorem chain_snoc {f : Bool} {ls : List Int} {x : Int} (h : Chain f ls) (hl : ∀ y, ls.getLast? = some y → relB f y x) : Chain f (ls ++ [x]) := fun i hi => by
  rw [List.length_append, List.length_singleton] at hi
  by_cases c : i + 1 < ls.length
  · have := h i c
    rw [List.getD_eq_getElem?_getD, List.getD_eq_getElem?_getD, List.getElem?_append_left (by omega), List.getElem?_append_left c]
    rw [List.getD_eq_getElem?_getD, List.getD_eq_getElem?_getD] at this
    exact this
  · have e : i + 1 = ls.length := by omega
    have hy : ls.getLast? = some (ls.getD i 0) := by
      rw [List.getLast?_eq_getElem?, show ls.length - 1 = i by omega]
      exact getD_some' (by omega)
    have := hl _ hy
    rw [List.getD_eq_getElem?_getD, List.getD_eq_getElem?_getD, List.getElem?_append_left (by omega), List.getElem?_append_right (by omega), e, Nat.sub_self]
    rw [List.getD_eq_getElem?_getD] at this
    exact this
theorem chain_at {f : Bool} {ws l : List Int} {k : Nat} {x y : Int} (h : Chain f (lets ws l)) (h0 : 0 < k) (hy : l[k - 1]? = some y) (hx : l[k]? = some x) : relB f (ws.getD y.toNat 0) (ws.getD x.toNat 0) := by
  have hk := (List.getElem?_eq_some_iff.mp hx).1
  have := h (k - 1) (by unfold lets; rw [List.length_map]; omega)
  rw [show k - 1 + 1 = k by omega] at this
  unfold lets at this
  rw [List.getD_eq_getElem?_getD, List.getD_eq_getElem?_getD, List.getElem?_map, List.getElem?_map, hy, hx] at this
  exact this
theorem inV_ints (x : Int) (U : List Int) : inV (.int x) (U.map V.int) = decide (x ∈ U) := by
  apply bool_iff
  unfold inV
  rw [List.any_map, List.any_eq_true, decide_eq_true_iff]
  constructor
  · rintro ⟨y, hy, e⟩
    have : y = x := by simpa [eqV, Function.comp] using e
    exact this ▸ hy
  · intro h
    exact ⟨x, h, by simp [eqV, Function.comp]⟩
theorem flat_ints (U : List Int) : (U.map V.int).all flatV = true := by
  rw [List.all_map, List.all_eq_true]
  intro _ _
  rfl
theorem flat_take {fs : List (List Int)} {l : List Int} {i k : Nat} (h : fs[i]? = some l) : ((fs.take i).flatten ++ l.take k).length ≤ fs.flatten.length := by
  have e : fs = fs.take i ++ l :: fs.drop (i + 1) := by
    have hi := (List.getElem?_eq_some_iff.mp h).1
    have h2 := (List.getElem?_eq_some_iff.mp h).2
    rw [← h2, ← List.drop_eq_getElem_cons hi, List.take_append_drop]
  rw [congrArg (fun z => z.flatten.length) e, List.flatten_append, List.flatten_cons, List.length_append, List.length_append, List.length_append, List.length_take]
  omega
section
variable {P : Program} {w : World} {K : PySem.W.Frag} {mg : Str → Option Value} {base : Heap}
def spLFam (K : PySem.W.Frag) : Sp := fun vs H Q _ => ∃ (v u : V) (ws : List Int) (fs : List (List Int)) (f : Bool), vs = [v, u, .bl f] ∧ Dp K H v (dW ws) ∧ Dp K H u (dF fs) ∧ ws.length ≤ 20000 ∧ Small fs ∧ RetV (.bl (famB ws fs f)) H Q
theorem ok_law_is_family (T : Txt K mg) : FnOk P w K mg base CX0 2 T.law_is_family.f T.law_is_family.fd ["word", "family", "falls"] (spLFam K) := by
  refine T.law_is_family.F.ok sc_law_is_family (fun vs H Q E h => ?_) (fun cdv A outer s H vs Q E hr h => ?_)
  · obtain ⟨v, u, ws, fs, f, rfl, _⟩ := h
    rfl
  · obtain ⟨v, u, ws, fs, f, rfl, hv, hu, hwl, hsm, q⟩ := h
    obtain ⟨p, rfl, hS⟩ := dp_W_inv hv
    refine ⟨_, (pss_cons (ps_if (pt_not (pt_val (pe_callB call_isi (by rfl) T.isinstance (by decide +kernel) (pa_cons (pv 1) (pa_cons (pe_bltn (v := .ty "list") (u := .type "list") (by rfl) T.list (by decide +kernel) rfl) pa_nil)))))
      (pss_one (ps_ret pe_bl))
      pss_nil)
      (pss_cons (ps_set (i := 3) sc_law_is_family.nd rfl (.inl rfl) (pe_lst pa_nil))
      (pss_cons (ps_for PassesOwn.never rfl (pi_list (pv 1)) (pg_name (i := 4) sc_law_is_family.nd rfl (.inl rfl))
      (pss_cons (ps_if (pt_not (pt_val (pe_callB call_isi (by rfl) T.isinstance (by decide +kernel) (pa_cons (pv 4) (pa_cons (pe_bltn (v := .ty "list") (u := .type "list") (by rfl) T.list (by decide +kernel) rfl) pa_nil)))))
        (pss_one (ps_ret pe_bl))
        pss_nil)
        (pss_one (ps_for PassesOwn.never rfl (pi_range1 (by rfl) T.range (pa_cons (pe_callB call_len_seq (by rfl) T.len PySem.boot_len (pa_cons (pv 4) pa_nil)) pa_nil)) (pg_name (i := 5) sc_law_is_family.nd rfl (.inl rfl))
        (pss_cons (ps_if (PW.pt (pw_or (pt_not (pt_val (pe_call (ok_law_is_integer T) (hr.mono (by decide)) rfl T.law_is_integer.g T.law_is_integer.F.kp T.law_is_integer.b .nil pass0 (pa_cons (pe_ix ix_list (pv 4) (pv 5) (fun _ _ => rfl)) pa_nil)))) (pw_or (pt_cmpR op_lt (pe_ix ix_list (pv 4) (pv 5) (fun _ _ => rfl)) pe_int (nomark _)) (pw_or (pt_cmpR op_ge (pe_ix ix_list (pv 4) (pv 5) (fun _ _ => rfl)) (pe_callB call_len_seq (by rfl) T.len PySem.boot_len (pa_cons (pv 0) pa_nil)) (nomark _)) (pw_or1 (pt_cmpR op_in_seq (pe_ix ix_list (pv 4) (pv 5) (fun _ _ => rfl)) (pv 3) (by rfl)))))))
          (pss_one (ps_ret pe_bl))
          pss_nil)
          (pss_cons (ps_expr (pe_bm PySem.F.plainAttrs_list PySem.F.slot_list_append PySem.F.type_list_append mt_append (pv 3) (pa_cons (pe_ix ix_list (pv 4) (pv 5) (fun _ _ => rfl)) pa_nil)))
          (pss_cons (ps_if (PW.pt (pw_and (pt_cmpR op_gt (pv 5) pe_int (nomark _)) (pw_and1 (pt_cmpR op_le (pe_ix ix_list (pv 4) (pv 5) (fun _ _ => rfl)) (pe_ix ix_list (pv 4) (pe_op op_sub (pv 5) pe_int) (fun _ _ => rfl)) (nomark _)))))
          (pss_one (ps_ret pe_bl))
          pss_nil)
          (pss_cons (ps_if (PW.pt (pw_and (pt_cmpR op_gt (pv 5) pe_int (nomark _)) (pw_and (pt_val (pv 2)) (pw_and1 (pt_cmpR op_ge (pe_ix ix_list (pv 0) (pe_ix ix_list (pv 4) (pv 5) (fun _ _ => rfl)) (fun _ _ => rfl)) (pe_ix ix_list (pv 0) (pe_ix ix_list (pv 4) (pe_op op_sub (pv 5) pe_int) (fun _ _ => rfl)) (fun _ _ => rfl)) (nomark _))))))
          (pss_one (ps_ret pe_bl))
          pss_nil)
          (pss_one (ps_if (PW.pt (pw_and (pt_cmpR op_gt (pv 5) pe_int (nomark _)) (pw_and (pt_not (pt_val (pv 2))) (pw_and1 (pt_cmpR op_lt (pe_ix ix_list (pv 0) (pe_ix ix_list (pv 4) (pv 5) (fun _ _ => rfl)) (fun _ _ => rfl)) (pe_ix ix_list (pv 0) (pe_ix ix_list (pv 4) (pe_op op_sub (pv 5) pe_int) (fun _ _ => rfl)) (fun _ _ => rfl)) (nomark _))))))
          (pss_one (ps_ret pe_bl))
          pss_nil))))))))))
      (pss_one (ps_ret pe_bl))))), ?_⟩
    refine ⟨_, rfl, _, .ty "list", _, _, true, rfl, .ty _, ty_list hu, kit_ty (by decide +kernel), true, rfl, iteF ?_⟩
    cases hu with
    | @lst a xs _ hsl hall =>
      refine ⟨Nat.zero_le _, fun t nt => ?_⟩
      have eH : Ex H (upd H t (.lst [])) := Ex.new nt
      have no : ∀ {H' : Hp}, Ex H H' → ¬ Fam ws fs f → Q (.bl false) H' := fun e ng => by
        have := q _ e
        rw [show famB ws fs f = false from bool_iff ⟨fun h => absurd (famB_iff.mp h) ng, fun h => by cases h⟩] at this
        exact this
      refine ⟨_, rfl, a, rfl, ⟨_, Evl.ex_l eH hsl⟩, for_list (K := K) (a := a) (xs := xs) (fun i σ H' => ∃ x4 x5, σ = [some (.ref p), some (.ref a), some (.bl f), some (.ref t), x4, x5] ∧ Ex H H' ∧ H' t = some (.lst ((fs.take i).flatten.map V.int)) ∧ Part ws (fs.take i) [] ∧ ∀ l ∈ fs.take i, Chain f (lets ws l))
        ⟨none, none, rfl, eH, upd_same, Part.nil ws, fun l h => by simp at h⟩ (fun i σ H' _ ⟨_, _, _, e, _⟩ => Evl.ex_l e hsl) ?_ ?_⟩
      · rintro i x σ H1 hi ⟨x4, x5, rfl, e1, ht1, part, hch⟩
        obtain ⟨d, hd, hx⟩ := dp_at hall hi
        obtain ⟨l2, hl2, rfl⟩ := dF_at hd
        have hx1 := hx.mono e1
        obtain ⟨b, rfl, hb⟩ := dp_W_inv hx
        have hl2s := hsm.mem (List.mem_of_getElem? hl2)
        refine ⟨_, rfl, _, .ty "list", _, _, true, rfl, .ty _, ty_list hx1, kit_ty (by decide +kernel), true, rfl, iteF ?_⟩
        refine ⟨_, rfl, b, _, rfl, .inl (Evl.ex_l e1 hb), (((l2.map V.int).length : Nat) : Int), rfl, by omega, by rw [List.length_map]; omega, for_range (lo := 0) (n := (((l2.map V.int).length : Nat) : Int).toNat) (fun k σ H' => ∃ x5, σ = [some (.ref p), some (.ref a), some (.bl f), some (.ref t), some (.ref b), x5] ∧ Ex H H' ∧ H' t = some (.lst (((fs.take i).flatten ++ l2.take k).map V.int)) ∧ Part ws (fs.take i) (l2.take k) ∧ Chain f (lets ws (l2.take k)))
          ⟨x5, rfl, e1, by rw [List.take_zero, List.append_nil]; exact ht1, part, by rw [List.take_zero]; exact chain_nil f⟩ ?_ ?_⟩
        · rintro k σ H2 hk ⟨x5, rfl, e2, ht2, part2, hc2⟩
          rw [Int.toNat_natCast, List.length_map] at hk
          rw [show (0 : Int) + (k : Int) = (k : Int) from Int.zero_add _]
          obtain ⟨z, hz⟩ : ∃ z, l2[k]? = some z := ⟨_, List.getElem?_eq_getElem hk⟩
          have gn : Fam ws fs f → _ := fun g => good_next g.1 hl2 hz
          have hat : ∀ {H' : Hp}, Ex H H' → SqL K H' b (l2.map V.int) := fun e => Evl.ex_l e hb
          have az : atI (l2.map V.int) (k : Int) = some (.int z) := atI_nat (mapAt hz)
          -- not an integer
          refine ⟨_, rfl, _, rfl, b, _, _, _, rfl, rfl, hat e2, az, z, rfl, true, rfl, iteF ?_⟩
          -- told[k] < 0
          refine ⟨_, rfl, _, rfl, b, _, _, _, rfl, rfl, hat e2, az, _, _, rfl, rfl, _, rfl, ?_⟩
          by_cases c1 : z < 0
          · refine ifT (decide_eq_true c1) (iteT (no e2 fun g => ?_))
            have := (gn g).1
            omega
          refine ifF (decide_eq_false c1) ?_
          refine ⟨_, rfl, _, rfl, b, _, _, _, rfl, rfl, hat e2, az, _, rfl, p, _, rfl, .inl (Evl.ex_l e2 hS), _, _, rfl, rfl, _, rfl, ?_⟩
          rw [List.length_map]
          by_cases c2 : (ws.length : Int) ≤ z
          · refine ifT (decide_eq_true c2) (iteT (no e2 fun g => ?_))
            have := (gn g).1
            omega
          refine ifF (decide_eq_false c2) ?_
          -- in used
          refine ⟨_, rfl, _, rfl, b, _, _, _, rfl, rfl, hat e2, az, _, rfl, t, _, rfl, .inl (SqL.of ht2), rfl, flat_ints _, _, rfl, ?_⟩
          rw [inV_ints]
          by_cases c3 : z ∈ (fs.take i).flatten ++ l2.take k
          · refine ifT (decide_eq_true c3) ?_
            exact no e2 fun g => (gn g).2.2 c3
          refine ifF (decide_eq_false c3) ?_
          -- used.append(told[k])
          have hzk : l2.take (k + 1) = l2.take k ++ [z] := by rw [List.take_add_one, hz]; rfl
          refine ⟨_, rfl, .inl ⟨rfl, _, SqL.of ht2⟩, _, rfl, _, rfl, b, _, _, _, rfl, rfl, hat e2, az, t, _, _, rfl, rfl, ht2, szl (by
            have := flat_take (k := k) hl2
            have := hsm.2
            rw [List.length_map]
            omega), ?_⟩
          have nt0 : H t = none := nt
          have e3 : Ex H (upd H2 t (.lst (((fs.take i).flatten ++ l2.take k).map V.int ++ [.int z]))) := Ex.mut e2 nt0
          have ht3 : (upd H2 t (.lst (((fs.take i).flatten ++ l2.take k).map V.int ++ [.int z]))) t = some (.lst (((fs.take i).flatten ++ l2.take (k + 1)).map V.int)) := by
            rw [upd_same, hzk, ← List.append_assoc, List.map_append (l₂ := [z])]
            rfl
          generalize (upd H2 t (.lst (((fs.take i).flatten ++ l2.take k).map V.int ++ [.int z]))) = H3 at e3 ht3 ⊢
          by_cases k0 : 0 < k
          · obtain ⟨y, hy⟩ : ∃ y, l2[k - 1]? = some y := ⟨_, List.getElem?_eq_getElem (by omega)⟩
            have ay : atI (l2.map V.int) ((k : Int) - 1) = some (.int y) := at_of (j := k - 1) (by omega) (mapAt hy)
            have hlast : (l2.take k).getLast? = some y := by
              rw [List.getLast?_eq_getElem?, List.length_take, show min k l2.length - 1 = k - 1 by omega, List.getElem?_take_of_lt (by omega)]
              exact hy
            have yr := part2.r y (List.mem_append.mpr (.inr (List.mem_of_getLast? hlast)))
            have wz : (ws.map V.int)[z.toNat]? = some (.int (ws.getD z.toNat 0)) := mapAt (getD_some' (by omega))
            have wy : (ws.map V.int)[y.toNat]? = some (.int (ws.getD y.toNat 0)) := mapAt (getD_some' (by omega))
            have aw : atI (ws.map V.int) z = some (.int (ws.getD z.toNat 0)) := at_of (by omega) wz
            have ay2 : atI (ws.map V.int) y = some (.int (ws.getD y.toNat 0)) := at_of (by omega) wy
            have kt : decide ((0 : Int) < (k : Int)) = true := decide_eq_true (by omega)
            -- told[k] <= told[k - 1]
            refine ⟨_, rfl, _, _, rfl, rfl, _, rfl, ifT kt ?_⟩
            refine ⟨_, rfl, _, rfl, b, _, _, _, rfl, rfl, hat e3, az, _, rfl, _, rfl, _, _, rfl, rfl, b, _, _, _, rfl, rfl, hat e3, ay, _, _, rfl, rfl, _, rfl, ?_⟩
            by_cases c4 : z ≤ y
            · refine ifT (decide_eq_true c4) (no e3 fun g => ?_)
              have := (gn g).2.1 y hlast
              omega
            refine ifF (decide_eq_false c4) ?_
            have step : ∀ σ' : L2.St, relB f (ws.getD y.toNat 0) (ws.getD z.toNat 0) → σ' = [some (.ref p), some (.ref a), some (.bl f), some (.ref t), some (.ref b), some (.int (k : Int))] → ∃ x5, σ' = [some (.ref p), some (.ref a), some (.bl f), some (.ref t), some (.ref b), x5] ∧ Ex H H3 ∧ H3 t = some (.lst (((fs.take i).flatten ++ l2.take (k + 1)).map V.int)) ∧ Part ws (fs.take i) (l2.take (k + 1)) ∧ Chain f (lets ws (l2.take (k + 1))) := fun σ' hr hσ => by
              refine ⟨_, hσ, e3, ht3, part2.step hl2 hz ⟨by omega, by omega⟩ (fun y' hy' => by rw [hlast] at hy'; cases hy'; omega) c3, ?_⟩
              rw [hzk]
              unfold lets at hc2 ⊢
              rw [List.map_append]
              refine chain_snoc hc2 fun y' hy' => ?_
              rw [List.getLast?_map, hlast] at hy'
              cases hy'
              exact hr
            have bad : ¬ relB f (ws.getD y.toNat 0) (ws.getD z.toNat 0) → ¬ Fam ws fs f := fun nr g => nr (chain_at (g.2 l2 (List.mem_of_getElem? hl2)) k0 hy hz)
            cases f with
            | true =>
              refine ⟨_, rfl, _, _, rfl, rfl, _, rfl, ifT kt ⟨_, rfl, true, rfl, iteT ?_⟩⟩
              refine ⟨_, rfl, _, rfl, _, rfl, b, _, _, _, rfl, rfl, hat e3, az, p, _, _, _, rfl, rfl, Evl.ex_l e3 hS, aw, _, rfl, _, rfl, _, rfl, _, _, rfl, rfl, b, _, _, _, rfl, rfl, hat e3, ay, p, _, _, _, rfl, rfl, Evl.ex_l e3 hS, ay2, _, _, rfl, rfl, _, rfl, ?_⟩
              by_cases c5 : ws.getD y.toNat 0 ≤ ws.getD z.toNat 0
              · exact ifT (decide_eq_true c5) (no e3 (bad (by unfold relB; rw [if_pos rfl]; omega)))
              refine ifF (decide_eq_false c5) ?_
              refine ⟨_, rfl, _, _, rfl, rfl, _, rfl, ifT kt ⟨_, rfl, true, rfl, iteF ?_⟩⟩
              exact iteF (step _ (by unfold relB; rw [if_pos rfl]; omega) rfl)
            | false =>
              refine ⟨_, rfl, _, _, rfl, rfl, _, rfl, ifT kt ⟨_, rfl, false, rfl, iteF (iteF ?_)⟩⟩
              refine ⟨_, rfl, _, _, rfl, rfl, _, rfl, ifT kt ⟨_, rfl, false, rfl, iteT ?_⟩⟩
              refine ⟨_, rfl, _, rfl, _, rfl, b, _, _, _, rfl, rfl, hat e3, az, p, _, _, _, rfl, rfl, Evl.ex_l e3 hS, aw, _, rfl, _, rfl, _, rfl, _, _, rfl, rfl, b, _, _, _, rfl, rfl, hat e3, ay, p, _, _, _, rfl, rfl, Evl.ex_l e3 hS, ay2, _, _, rfl, rfl, _, rfl, ?_⟩
              by_cases c5 : ws.getD z.toNat 0 < ws.getD y.toNat 0
              · exact ifT (decide_eq_true c5) (no e3 (bad (by unfold relB; rw [if_neg (by decide)]; omega)))
              refine ifF (decide_eq_false c5) ?_
              exact step _ (by unfold relB; rw [if_neg (by decide)]; omega) rfl
          · have k00 : k = 0 := by omega
            subst k00
            have kf : decide ((0 : Int) < ((0 : Nat) : Int)) = false := by decide
            refine ⟨_, rfl, _, _, rfl, rfl, _, rfl, ifF kf (iteF ?_)⟩
            refine ⟨_, rfl, _, _, rfl, rfl, _, rfl, ifF kf (iteF ?_)⟩
            refine ⟨_, rfl, _, _, rfl, rfl, _, rfl, ifF kf (iteF ?_)⟩
            refine ⟨_, rfl, e3, ht3, part2.step hl2 hz ⟨by omega, by omega⟩ (fun y' hy' => by simp at hy') c3, ?_⟩
            rw [hzk]
            intro m hm
            unfold lets at hm
            simp at hm
        · rintro σ H2 ⟨x5, rfl, e2, ht2, part2, hc2⟩
          rw [Int.toNat_natCast, List.length_map, List.take_length] at ht2 part2 hc2
          refine ⟨_, _, rfl, e2, ?_, part2.row hl2, fun l hl => ?_⟩
          · rw [ht2, List.take_add_one, hl2, List.flatten_append]
            simp
          · rw [List.take_add_one, hl2] at hl
            rcases List.mem_append.mp hl with h | h
            · exact hch l h
            · have : l = l2 := by simpa using h
              rw [this]
              exact hc2
      · rintro σ H1 ⟨x4, x5, rfl, e1, ht1, part, hch⟩
        have hlen : xs.length = fs.length := by rw [dp_len hall, List.length_map]
        rw [hlen, List.take_length] at part hch
        have := q _ e1
        rw [famB_iff.mpr ⟨part.good, hch⟩] at this
        exact this
theorem ok_law_cover (T : Txt K mg) : FnOk P w K mg base CX0 1 T.law_cover.f T.law_cover.fd ["family"] (spCoverP K) := by
  refine T.law_cover.F.ok sc_law_cover (fun vs H Q E h => ?_) (fun cdv A outer s H vs Q E hr h => ?_)
  · obtain ⟨v, fs, rfl, _⟩ := h
    rfl
  · obtain ⟨v, fs, rfl, hv, hl, q⟩ := h
    refine ⟨_, (pss_one (ps_ret (pe_callB (cr_sum rfl) (by rfl) T.sum (by decide +kernel) (pa_cons (pe_lc (g := (gName 1)) (tt := tYes) (te := (tCB (rLenS K) (tCons (tVar 1) tNil))) (own := [("told", 1)]) (by rfl) sc_law_cover.nd (pi_list (pv 0)) (blkOk_by (own := [("told", 1)]) (N := N_law_cover) (sc := defScope s_law_cover) (by decide +kernel)) (fun _ _ _ _ _ => (pg_name (i := 1) sc_law_cover.nd rfl (.inl rfl))) (fun _ _ _ _ _ => pts_nil) (fun _ _ _ _ _ => (pe_callB call_len_seq (by rfl) T.len PySem.boot_len (pa_cons (pv 1) pa_nil)))) pa_nil)))), ?_⟩
    have h1 := evb_lcL (K := K) (B := emp) (B' := H) (t := tYes) (te := tCB (rLenS K) (tCons (tVar 1) tNil)) (j := 1) (vs := [1]) (σ := L2.start N_law_cover [v]) (tl := tVar 0) emp_ex (evb_v rfl hv) (by have := hl.1; rw [List.length_map]; omega) (fun _ => rfl) (fun i => ((fs.take i).map fun l => (l.length : Int)).map PyData.int) rfl fun i x dx H2 e hi hx => by
      obtain ⟨l, hl, rfl⟩ := dF_at hi
      refine ⟨true, .int l.length, evt_yes, fun _ => ?_, ?_⟩
      · have := evb_len (ds := l.map PyData.int) (B := H2) (ta := tVar 1) (σ := (wipe (L2.start N_law_cover [v]) [1]).set 1 (some x)) (evb_v rfl hx) (B2 := emp)
        rw [List.length_map] at this
        exact this
      · rw [if_pos rfl, List.take_add_one, hl, List.map_append, List.map_append]
        rfl
    rw [List.length_map, List.take_length] at h1
    refine qd_ret (evb_sum h1 (B2 := H)) fun v1 H1 e1 hv1 => ?_
    cases hv1
    rw [sum_lens]
    exact q H1 e1
end

-- CUT _law_drawn_family: 7
/-! ### a list of lists that is being made -/
theorem dpAll_of {K : PySem.W.Frag} {G : Hp} : ∀ {vs : List V} {ds : List PyData}, vs.length = ds.length → (∀ (i : Nat) v d, vs[i]? = some v → ds[i]? = some d → Dp K G v d) → DpAll K G vs ds
  | [], [], _, _ => .nil
  | [], _ :: _, h, _ => by simp at h
  | _ :: _, [], h, _ => by simp at h
  | v :: vs, d :: ds, h, k => .cons (k 0 v d rfl rfl) (dpAll_of (by simpa using h) fun i v' d' h1 h2 => k (i + 1) v' d' h1 h2)
structure FamAt (H0 H : Hp) (D : Addr) (ps : List Addr) (fs : List (List Int)) : Prop where
  d : H D = some (.lst (ps.map V.ref))
  len : ps.length = fs.length
  at' : ∀ (i : Nat) (p : Addr) (l : List Int), ps[i]? = some p → fs[i]? = some l → H p = some (.lst (l.map V.int))
  nd : ps.Nodup
  nD : D ∉ ps
  fD : H0 D = none
  fr : ∀ p ∈ ps, H0 p = none
theorem FamAt.dp {K : PySem.W.Frag} {H0 H : Hp} {D : Addr} {ps : List Addr} {fs : List (List Int)} (F : FamAt H0 H D ps fs) : Dp K (nw H0 H) (.ref D) (dF fs) := by
  refine .lst (Evl.sq_of (via_new F.fD F.d)) (dpAll_of (by rw [List.length_map, List.length_map, F.len]) fun i v d hv hd => ?_)
  rw [List.getElem?_map] at hv
  obtain ⟨l, hl, rfl⟩ := dF_at hd
  cases c : ps[i]? with
  | none => rw [c] at hv; cases hv
  | some p =>
    rw [c] at hv
    cases hv
    exact dp_W (Evl.sq_of (via_new (F.fr p (List.mem_of_getElem? c)) (F.at' i p l c hl)))
theorem FamAt.kp {H0 H H' : Hp} {a D : Addr} {ps : List Addr} {fs : List (List Int)} (F : FamAt H0 H D ps fs) (k : Kp a H H') (ha : ∃ o, H0 a = some o) : FamAt H0 H' D ps fs := by
  obtain ⟨o, ho⟩ := ha
  have ne : ∀ {p : Addr}, H0 p = none → p ≠ a := fun h e => by rw [e, ho] at h; cases h
  exact ⟨k _ _ (ne F.fD) F.d, F.len, fun i p l h1 h2 => k _ _ (ne (F.fr p (List.mem_of_getElem? h1))) (F.at' i p l h1 h2), F.nd, F.nD, F.fD, F.fr⟩
theorem FamAt.ex {H0 H H' : Hp} {D : Addr} {ps : List Addr} {fs : List (List Int)} (F : FamAt H0 H D ps fs) (e : Ex H H') : FamAt H0 H' D ps fs :=
  ⟨e _ _ F.d, F.len, fun i p l h1 h2 => e _ _ (F.at' i p l h1 h2), F.nd, F.nD, F.fD, F.fr⟩
theorem FamAt.set {H0 H : Hp} {D p : Addr} {ps : List Addr} {fs : List (List Int)} {i : Nat} (F : FamAt H0 H D ps fs) (hp : ps[i]? = some p) (l' : List Int) : FamAt H0 (upd H p (.lst (l'.map V.int))) D ps (fs.set i l') := by
  have hm := List.mem_of_getElem? hp
  refine ⟨by rw [upd_ne (fun e => F.nD (by rw [e]; exact hm))]; exact F.d, by rw [List.length_set]; exact F.len, fun j q l h1 h2 => ?_, F.nd, F.nD, F.fD, F.fr⟩
  rw [List.getElem?_set] at h2
  by_cases c : i = j
  · subst c
    rw [hp] at h1
    cases h1
    rw [if_pos rfl] at h2
    split at h2
    · cases h2
      exact upd_same
    · cases h2
  · rw [if_neg c] at h2
    rw [upd_ne (fun e => c (nd_ix F.nd (show ps[i]? = some q by rw [e]; exact hp) h1))]
    exact F.at' j q l h1 h2
theorem FamAt.snoc {H0 H : Hp} {D p : Addr} {ps : List Addr} {fs : List (List Int)} {l : List Int} (F : FamAt H0 H D ps fs) (hl : H p = some (.lst (l.map V.int))) (np : p ∉ ps) (nD : p ≠ D) (f0 : H0 p = none) : FamAt H0 (upd H D (.lst ((ps ++ [p]).map V.ref))) D (ps ++ [p]) (fs ++ [l]) := by
  refine ⟨upd_same, by rw [List.length_append, List.length_append, F.len]; rfl, fun i q l' h1 h2 => ?_, ?_, ?_, F.fD, ?_⟩
  · by_cases c : i < ps.length
    · rw [List.getElem?_append_left c] at h1
      rw [List.getElem?_append_left (by rw [← F.len]; exact c)] at h2
      rw [upd_ne (fun e => F.nD (by rw [← e]; exact List.mem_of_getElem? h1))]
      exact F.at' i q l' h1 h2
    · rw [List.getElem?_append_right (by omega)] at h1
      rw [List.getElem?_append_right (by rw [← F.len]; omega), ← F.len] at h2
      have hi : i - ps.length = 0 := by
        have := (List.getElem?_eq_some_iff.mp h1).1
        simp at this
        omega
      rw [hi] at h1 h2
      cases h1
      cases h2
      rw [upd_ne nD]
      exact hl
  · rw [List.nodup_append]
    refine ⟨F.nd, by simp, fun a ha b hb => ?_⟩
    rw [List.mem_singleton] at hb
    subst hb
    exact fun e => np (e ▸ ha)
  · intro h
    rcases List.mem_append.mp h with h | h
    · exact F.nD h
    · rw [List.mem_singleton] at h
      exact nD h.symm
  · intro q h
    rcases List.mem_append.mp h with h | h
    · exact F.fr q h
    · rw [List.mem_singleton] at h
      rw [h]
      exact f0
theorem FamAt.fresh {H0 H : Hp} {D p : Addr} {ps : List Addr} {fs : List (List Int)} (F : FamAt H0 H D ps fs) (np : H p = none) : p ∉ ps ∧ p ≠ D := by
  refine ⟨fun h => ?_, fun e => by rw [e, F.d] at np; cases np⟩
  obtain ⟨i, hi⟩ := List.mem_iff_getElem?.mp h
  have hl : i < fs.length := by rw [← F.len]; exact (List.getElem?_eq_some_iff.mp hi).1
  rw [F.at' i p _ hi (List.getElem?_eq_getElem hl)] at np
  cases np
theorem flatten_set_len {fs : List (List Int)} {i : Nat} {l l' : List Int} (h : fs[i]? = some l) : (fs.set i l').flatten.length + l.length = fs.flatten.length + l'.length := by
  induction fs generalizing i with
  | nil => simp at h
  | cons a fs ih =>
    cases i with
    | zero =>
      cases h
      rw [List.set_cons_zero, List.flatten_cons, List.flatten_cons, List.length_append, List.length_append]
      omega
    | succ i =>
      rw [List.getElem?_cons_succ] at h
      have := ih h
      rw [List.set_cons_succ, List.flatten_cons, List.flatten_cons, List.length_append, List.length_append]
      omega
theorem evb_ixLast {K : PySem.W.Frag} {B B' H : Hp} {ta tb : TE} {σ : L2.St} {l : List Int} {z : Int} (ha : EvB K B ta σ H (dW (l ++ [z]))) (hb : EvB K B' tb σ H (.int (-1))) {B2 : Hp} : EvB K B2 (tOp (rIxL K) ta tb) σ H (.int z) := evb_op ha hb fun x y H1 hx hy Q q => by
  cases hy
  obtain ⟨p, rfl, hs⟩ := dp_W_inv hx
  refine ⟨p, _, _, .int z, rfl, rfl, hs, ?_, q _ fun _ => .int _⟩
  rw [List.map_append]
  exact atI_last _ _
section
variable {P : Program} {w : World} {K : PySem.W.Frag} {mg : Str → Option Value} {base : Heap}
def spDrawn (K : PySem.W.Frag) : Sp := fun vs H Q _ => ∃ (a : Addr) (v : V) (ws : List Int) (f : Bool) (m : Nat), vs = [.ref a, v, .bl f, .int (m : Int)] ∧ Strm H a ∧ Dp K (wo a H) v (dW ws) ∧ m ≤ 1000 ∧ ws.length ≤ 1000 ∧
  ∀ (v' : V) (fs : List (List Int)) (H' : Hp), Dp K (nw H H') v' (dF fs) → fs.length ≤ m → fs.flatten.length ≤ ws.length → Strm H' a → Kp a H H' → Q v' H'
theorem ok_law_drawn_family (T : Txt K mg) : FnOk P w K mg base CX0 2 T.law_drawn_family.f T.law_drawn_family.fd ["stream", "word", "falls", "most"] (spDrawn K) := by
  refine T.law_drawn_family.F.ok sc_law_drawn_family (fun vs H Q E h => ?_) (fun cdv A outer s H vs Q E hr h => ?_)
  · obtain ⟨a, v, ws, f, m, rfl, _⟩ := h
    rfl
  · obtain ⟨a, v, ws, f, m, rfl, S0, hv, hm, hwl, q⟩ := h
    obtain ⟨p, rfl, hS⟩ := dp_W_inv hv
    refine ⟨_, (pss_cons (ps_setLc (g := (gName 9)) (tt := tYes) (te := (tLst tNil)) (own := [("k", 9)]) (i := 4) (by rfl) sc_law_drawn_family.nd rfl rfl (sw_true rfl rfl rfl (by decide +kernel)) (pi_range1 (by rfl) T.range (pa_cons (pe_call (ok_law_next T) (hr.mono (by decide)) rfl T.law_next.g T.law_next.F.kp T.law_next.b .nil pass0 (pa_cons (pv 0) (pa_cons (pe_op op_add (pv 3) pe_int) pa_nil))) pa_nil)) (blkOk_by (own := [("k", 9)]) (N := N_law_drawn_family) (sc := defScope s_law_drawn_family) (by decide +kernel)) (fun _ _ _ _ _ => (pg_name (i := 9) sc_law_drawn_family.nd rfl (.inl rfl))) (fun _ _ _ _ _ => pts_nil) (fun _ _ _ _ _ => (pe_lst pa_nil)))
      (pss_cons (ps_for PassesOwn.never rfl (pi_range1 (by rfl) T.range (pa_cons (pe_callB call_len_seq (by rfl) T.len PySem.boot_len (pa_cons (pv 1) pa_nil)) pa_nil)) (pg_name (i := 5) sc_law_drawn_family.nd rfl (.inl rfl))
      (pss_cons (ps_set (i := 6) sc_law_drawn_family.nd rfl (.inl rfl) (pe_call (ok_law_next T) (hr.mono (by decide)) rfl T.law_next.g T.law_next.F.kp T.law_next.b .nil pass0 (pa_cons (pv 0) (pa_cons (pe_op op_add (pe_callB call_len_seq (by rfl) T.len PySem.boot_len (pa_cons (pv 4) pa_nil)) pe_int) pa_nil))))
        (pss_one (ps_if (pt_cmpR op_lt (pv 6) (pe_callB call_len_seq (by rfl) T.len PySem.boot_len (pa_cons (pv 4) pa_nil)) (nomark _))
        (pss_cons (ps_set (i := 7) sc_law_drawn_family.nd rfl (.inl rfl) (pe_ix ix_list (pv 4) (pv 6) (fun _ _ => rfl)))
          (pss_cons (ps_set (i := 8) sc_law_drawn_family.nd rfl (.inl rfl) (pe_or (pe_cmpR op_eq (pe_callB call_len_seq (by rfl) T.len PySem.boot_len (pa_cons (pv 7) pa_nil)) pe_int (nomark _)) (pe_one (pe_cmpR op_le (pe_ix ix_list (pv 1) (pe_ix ix_list (pv 7) (pe_un un_neg pe_int) (fun _ _ => rfl)) (fun _ _ => rfl)) (pe_ix ix_list (pv 1) (pv 5) (fun _ _ => rfl)) (nomark _)))))
          (Evl.pss_cut (ps_if (pt_val (pv 2))
          (pss_one (ps_set (i := 8) sc_law_drawn_family.nd rfl (.inl rfl) (pe_or (pe_cmpR op_eq (pe_callB call_len_seq (by rfl) T.len PySem.boot_len (pa_cons (pv 7) pa_nil)) pe_int (nomark _)) (pe_one (pe_cmpR op_gt (pe_ix ix_list (pv 1) (pe_ix ix_list (pv 7) (pe_un un_neg pe_int) (fun _ _ => rfl)) (fun _ _ => rfl)) (pe_ix ix_list (pv 1) (pv 5) (fun _ _ => rfl)) (nomark _))))))
          pss_nil)
          (pss_one (ps_if (pt_val (pv 8))
          (pss_one (ps_expr (pe_bm PySem.F.plainAttrs_list PySem.F.slot_list_append PySem.F.type_list_append mt_append (pv 7) (pa_cons (pv 5) pa_nil))))
          pss_nil)))))
        pss_nil))))
      (pss_one (ps_ret (pv 4))))), ?_⟩
    refine ⟨_, rfl, _, rfl, _, _, rfl, rfl, a, _, rfl, S0, by omega, by omega, fun n H1 n0 n1 S1 K1 => ⟨n, rfl, by omega, by omega, fun D nD => ?_⟩⟩
    have hSk : ∀ {H' : Hp}, Kp a H H' → SqL K H' p (ws.map V.int) := fun k => Evl.ex_l ((wo_ex a)) (Evl.ex_l k.wo hS)
    have H0D : H D = none := K1.free (S1.ne nD) nD
    have Ha := S0.some
    refine lc_range (lo := 0) (n := n.toNat) (fun i H' => ∃ ps, FamAt H H' D ps (List.replicate i []) ∧ Strm H' a ∧ Kp a H H') ⟨[], ⟨upd_same, rfl, fun i p l h => by simp at h, List.nodup_nil, by simp, H0D, fun p h => by simp at h⟩, S1.new nD, K1.new nD⟩ ?_ ?_
    · rintro i H2 hi ⟨ps, F, S2, K2⟩
      refine ⟨rfl, ?_⟩
      refine iteT (B := ∃ ps, FamAt H H2 D ps (List.replicate (i + 1) []) ∧ Strm H2 a ∧ Kp a H H2) ?_
      refine ⟨Nat.zero_le _, fun l nl => ⟨ps.map V.ref, ?_, ?_, ps ++ [l], ?_, ?_, ?_⟩⟩
      · rw [upd_ne (ne_of_none F.d nl)]
        exact F.d
      · rw [List.length_map, F.len, List.length_replicate]
        exact szl (by omega)
      · have F2 := (F.ex (Ex.new (o := .lst []) nl)).snoc (p := l) (l := []) upd_same (F.fresh nl).1 (F.fresh nl).2 (K2.free (S2.ne nl) nl)
        rw [List.map_append] at F2
        rw [List.replicate_succ']
        exact F2
      · exact (S2.new nl).off (Ne.symm (fun e => by rw [e] at H0D; obtain ⟨o, ho⟩ := Ha; rw [ho] at H0D; cases H0D))
      · exact (K2.new nl).mut H0D
    · rintro H2 ⟨ps, F, S2, K2⟩
      have Da : D ≠ a := fun e => by rw [e] at H0D; obtain ⟨o, ho⟩ := Ha; rw [ho] at H0D; cases H0D
      refine ⟨_, rfl, p, _, rfl, .inl (hSk K2), (((ws.map V.int).length : Nat) : Int), rfl, by omega, by rw [List.length_map]; omega, ?_⟩
      refine for_range (lo := 0) (n := (((ws.map V.int).length : Nat) : Int).toNat) (fun i σ H' => ∃ ps fs x5 x6 x7 x8, σ = [some (.ref a), some (.ref p), some (.bl f), some (.int (m : Int)), some (.ref D), x5, x6, x7, x8, none] ∧ FamAt H H' D ps fs ∧ Strm H' a ∧ Kp a H H' ∧ fs.length ≤ m ∧ fs.flatten.length ≤ i ∧ ∀ l ∈ fs, ∀ x ∈ l, 0 ≤ x ∧ x < ws.length)
        ⟨ps, List.replicate n.toNat [], none, none, none, none, rfl, F, S2, K2, by rw [List.length_replicate]; omega, by simp, fun l hl x hx => by rw [List.eq_of_mem_replicate hl] at hx; simp at hx⟩ ?_ ?_
      · rintro i σ H3 hi ⟨ps, fs, x5, x6, x7, x8, rfl, F3, S3, K3, hfl, hft, hin⟩
        rw [Int.toNat_natCast, List.length_map] at hi
        rw [show (0 : Int) + (i : Int) = (i : Int) from Int.zero_add _]
        -- place
        refine ⟨_, rfl, _, rfl, D, _, rfl, .inl (SqL.of F3.d), _, _, rfl, rfl, a, _, rfl, S3, by omega, by rw [List.length_map, F3.len]; omega, fun d H4 d0 d1 S4 K4 => ?_⟩
        have F4 := F3.kp K4 Ha
        have K04 := K3.trans K4
        refine ⟨_, rfl, _, rfl, D, _, rfl, .inl (SqL.of F4.d), _, _, rfl, rfl, _, rfl, ite2 (fun c => ?_) (fun _ => ?_)⟩
        · have c1 := of_decide_eq_true c
          obtain ⟨j, rfl⟩ : ∃ j : Nat, d = (j : Int) := ⟨d.toNat, by omega⟩
          have hj : j < ps.length := by rw [List.length_map] at c1; omega
          obtain ⟨pj, hpj⟩ : ∃ q, ps[j]? = some q := ⟨_, List.getElem?_eq_getElem hj⟩
          obtain ⟨lj, hfj⟩ : ∃ l, fs[j]? = some l := ⟨_, List.getElem?_eq_getElem (by rw [← F4.len]; exact hj)⟩
          have hl4 := F4.at' j _ _ hpj hfj
          have hfm := List.mem_of_getElem? hfj
          refine ⟨_, rfl, _, rfl, D, _, _, _, rfl, rfl, SqL.of F4.d, atI_nat (v := .ref pj) (by rw [List.getElem?_map, hpj]; rfl), ?_⟩
          -- fits
          have hw4 : Dp K H4 (.ref p) (dW ws) := dp_W (hSk K04)
          have hl4d : Dp K H4 (.ref pj) (dW lj) := dp_W (SqL.of hl4)
          have evl : ∀ {σ : L2.St} {H' : Hp}, σ[7]? = some (some (.ref pj)) → Ex H4 H' → EvB K emp (tOp rEq (tCB (rLenS K) (tCons (tVar 7) tNil)) (tC (.int 0))) σ H' (.bool (decide ((lj.length : Int) = 0))) := fun h7 e => by
            have h1 := evb_len (K := K) (B2 := emp) (evb_v h7 (hl4d.mono e))
            rw [List.length_map] at h1
            exact evb_eqi h1 (evb_int (B := emp))
          have evw : ∀ {σ : L2.St} {H' : Hp}, σ[7]? = some (some (.ref pj)) → σ[1]? = some (some (.ref p)) → Ex H4 H' → decide ((lj.length : Int) = 0) = false → ∃ z, EvB K emp (tOp (rIxL K) (tVar 1) (tOp (rIxL K) (tVar 7) (tUn (rU fun i => .int (-i)) (tC (.int 1))))) σ H' (.int z) := fun {σ} {H'} h7 h1 e c => by
            have c2 := of_decide_eq_false c
            obtain ⟨l', z, hz⟩ : ∃ l' z, lj = l' ++ [z] := by
              have hne : lj ≠ [] := fun q => by rw [q] at c2; simp at c2
              exact ⟨_, _, (List.dropLast_concat_getLast hne).symm⟩
            have hz2 := hin _ hfm z (by rw [hz]; simp)
            rw [hz] at hl4d
            refine ⟨ws.getD z.toNat 0, ?_⟩
            have h2 : EvB K emp (tOp (rIxL K) (tVar 7) (tUn (rU fun i => .int (-i)) (tC (.int 1)))) σ H' (.int z) := evb_ixLast (evb_v h7 (hl4d.mono e)) (evb_neg (evb_int (B := emp)) (B2 := emp))
            exact (evb_ixL (B := H') (B' := emp) (j := z.toNat) (evb_v h1 (hw4.mono e)) h2 (by omega) (by rw [List.getElem?_map, getD_some' (by omega)]; rfl)).scal rfl
          have evi : ∀ {σ : L2.St} {H' : Hp}, σ[1]? = some (some (.ref p)) → σ[5]? = some (some (.int (i : Int))) → Ex H4 H' → EvB K emp (tOp (rIxL K) (tVar 1) (tVar 5)) σ H' (.int (ws.getD i 0)) := fun h1 h5 e => letter_at (x := (i : Int)) h1 (hw4.mono e) h5 ⟨by omega, by omega⟩
          have fits1 : ∀ {σ : L2.St} {H' : Hp}, σ[7]? = some (some (.ref pj)) → σ[1]? = some (some (.ref p)) → σ[5]? = some (some (.int (i : Int))) → Ex H4 H' → ∃ b, EvB K emp (tOrV (tOp rEq (tCB (rLenS K) (tCons (tVar 7) tNil)) (tC (.int 0))) (tOp (rI0 fun i j => .bl (decide (i ≤ j))) (tOp (rIxL K) (tVar 1) (tOp (rIxL K) (tVar 7) (tUn (rU fun i => .int (-i)) (tC (.int 1))))) (tOp (rIxL K) (tVar 1) (tVar 5)))) σ H' (.bool b) := fun h7 h1 h5 e => by
            cases c : decide ((lj.length : Int) = 0) with
            | true => exact ⟨_, evb_or (b := true) (B := emp) (B' := emp) (c ▸ evl h7 e) fun q => absurd q (by decide)⟩
            | false =>
              obtain ⟨z, hz⟩ := evw h7 h1 e c
              exact ⟨_, evb_or (B := emp) (B' := emp) (evl h7 e) fun _ => evb_ib (B := emp) (B' := emp) (g := fun i j => decide (i ≤ j)) hz (evi h1 h5 e)⟩
          have fits2 : ∀ {σ : L2.St} {H' : Hp}, σ[7]? = some (some (.ref pj)) → σ[1]? = some (some (.ref p)) → σ[5]? = some (some (.int (i : Int))) → Ex H4 H' → ∃ b, EvB K emp (tOrV (tOp rEq (tCB (rLenS K) (tCons (tVar 7) tNil)) (tC (.int 0))) (tOp (rI0 fun i j => .bl (decide (j < i))) (tOp (rIxL K) (tVar 1) (tOp (rIxL K) (tVar 7) (tUn (rU fun i => .int (-i)) (tC (.int 1))))) (tOp (rIxL K) (tVar 1) (tVar 5)))) σ H' (.bool b) := fun h7 h1 h5 e => by
            cases c : decide ((lj.length : Int) = 0) with
            | true => exact ⟨_, evb_or (b := true) (B := emp) (B' := emp) (c ▸ evl h7 e) fun q => absurd q (by decide)⟩
            | false =>
              obtain ⟨z, hz⟩ := evw h7 h1 e c
              exact ⟨_, evb_or (B := emp) (B' := emp) (evl h7 e) fun _ => evb_ib (B := emp) (B' := emp) (g := fun i j => decide (j < i)) hz (evi h1 h5 e)⟩
          obtain ⟨b1, hb1⟩ := fits1 (σ := [some (.ref a), some (.ref p), some (.bl f), some (.int (m : Int)), some (.ref D), some (.int (i : Int)), some (.int (j : Int)), some (.ref pj), x8, none]) rfl rfl rfl (Ex.refl H4)
          refine qd_asg hb1 fun v5 H5 e5 hv5 => ?_
          cases hv5
          -- if falls
          refine ⟨fun σ' H' => ∃ b : Bool, σ' = [some (.ref a), some (.ref p), some (.bl f), some (.int (m : Int)), some (.ref D), some (.int (i : Int)), some (.int (j : Int)), some (.ref pj), some (.bl b), none] ∧ Ex H4 H', ?_, ?_⟩
          · refine ⟨_, rfl, f, rfl, ite2 (fun _ => ?_) (fun _ => ?_)⟩
            · obtain ⟨b2, hb2⟩ := fits2 (σ := [some (.ref a), some (.ref p), some (.bl f), some (.int (m : Int)), some (.ref D), some (.int (i : Int)), some (.int (j : Int)), some (.ref pj), some (.bl b1), none]) rfl rfl rfl e5
              refine evb_run hb2 emp_ex fun v6 H6 e6 hv6 _ => ?_
              cases hv6
              exact ⟨b2, rfl, e5.trans e6⟩
            · exact ⟨b1, rfl, e5⟩
          · rintro σ H6 ⟨b, rfl, e6⟩
            have F6 := F4.ex e6
            have S6 := S4.ex e6
            have K6 : Kp a H H6 := K04.trans (Kp.of e6)
            refine ⟨_, rfl, b, rfl, ite2 (fun _ => ?_) (fun _ => ?_)⟩
            · have hl6 := F6.at' j _ _ hpj hfj
              refine ⟨_, rfl, .inl ⟨rfl, _, SqL.of hl6⟩, _, rfl, pj, _, _, rfl, rfl, hl6, szl (by have := mem_len hfm; rw [List.length_map]; omega), ?_⟩
              have F7 := F6.set hpj (lj ++ [(i : Int)])
              rw [List.map_append] at F7
              have hfl2 := flatten_set_len (l' := lj ++ [(i : Int)]) hfj
              rw [List.length_append, List.length_singleton] at hfl2
              have fpj := F6.fr _ (List.mem_of_getElem? hpj)
              refine ⟨ps, fs.set j (lj ++ [(i : Int)]), _, _, _, _, rfl, F7, S6.off (fun e => by obtain ⟨o, ho⟩ := Ha; rw [e, fpj] at ho; cases ho), K6.mut fpj, by rw [List.length_set]; exact hfl, by omega, fun l hl x hx => ?_⟩
              rcases List.mem_or_eq_of_mem_set hl with h | h
              · exact hin l h x hx
              · subst h
                rcases List.mem_append.mp hx with h | h
                · exact hin _ hfm x h
                · rw [List.mem_singleton] at h
                  subst h
                  exact ⟨by omega, by omega⟩
            · exact ⟨ps, fs, _, _, _, _, rfl, F6, S6, K6, hfl, by omega, hin⟩
        · exact ⟨ps, fs, _, _, _, _, rfl, F4, S4, K04, hfl, by omega, hin⟩
      · rintro σ H3 ⟨ps, fs, x5, x6, x7, x8, rfl, F3, S3, K3, hfl, hft, hin⟩
        rw [Int.toNat_natCast, List.length_map] at hft
        exact ⟨_, rfl, q _ fs _ F3.dp hfl hft S3 K3⟩
end

-- CUT _law_spoilt: 4 7 9 11
section
variable {P : Program} {w : World} {K : PySem.W.Frag} {mg : Str → Option Value} {base : Heap}
def spSpoilt (K : PySem.W.Frag) : Sp := fun vs H Q _ => ∃ (a : Addr) (v u : V) (ws : List Int) (fs : List (List Int)), vs = [.ref a, v, u] ∧ Strm H a ∧ Dp K (wo a H) v (dW ws) ∧ Dp K (wo a H) u (dF fs) ∧ ws.length ≤ 1000 ∧ fs.length ≤ 1000 ∧ fs.flatten.length ≤ 1000 ∧
  ∀ (v' : V) (fs' : List (List Int)) (H' : Hp), Dp K (nw H H') v' (dF fs') → fs'.length ≤ fs.length + 2 → fs'.flatten.length ≤ 2 * fs.flatten.length + 2 → Strm H' a → Kp a H H' → Q v' H'
/-- the state between the ways of spoiling -/
structure Spl (H H' : Hp) (a D F : Addr) (ps : List Addr) (fs : List (List Int)) (qs : List Addr) (n m : Nat) : Prop where
  f : FamAt H H' D ps fs
  hF : H' F = some (.lst (qs.map V.ref))
  F0 : H F = none
  FD : F ≠ D
  Fp : F ∉ ps
  qs' : ∀ q ∈ qs, ∃ (i : Nat) (l : List Int), ps[i]? = some q ∧ fs[i]? = some l ∧ l ≠ []
  ql : qs.length ≤ 2000
  s : Strm H' a
  k : Kp a H H'
  n' : fs.length ≤ n
  m' : fs.flatten.length ≤ m
theorem Spl.kp {H H' H2 : Hp} {a D F : Addr} {ps : List Addr} {fs : List (List Int)} {qs : List Addr} {n m : Nat} (x : Spl H H' a D F ps fs qs n m) (ha : ∃ o, H a = some o) (s : Strm H2 a) (k : Kp a H' H2) : Spl H H2 a D F ps fs qs n m := by
  have ne : F ≠ a := fun e => by obtain ⟨o, ho⟩ := ha; rw [← e, x.F0] at ho; cases ho
  exact ⟨x.f.kp k ha, k _ _ ne x.hF, x.F0, x.FD, x.Fp, x.qs', x.ql, s, x.k.trans k, x.n', x.m'⟩
theorem Spl.ex {H H' H2 : Hp} {a D F : Addr} {ps : List Addr} {fs : List (List Int)} {qs : List Addr} {n m : Nat} (x : Spl H H' a D F ps fs qs n m) (ha : ∃ o, H a = some o) (e : Ex H' H2) : Spl H H2 a D F ps fs qs n m := x.kp ha (x.s.ex e) (Kp.of e)
theorem Spl.set {H H' : Hp} {a D F : Addr} {ps : List Addr} {fs : List (List Int)} {qs : List Addr} {n m : Nat} (x : Spl H H' a D F ps fs qs n m) (ha : ∃ o, H a = some o) {i : Nat} {q : Addr} {l l' : List Int} (hq : ps[i]? = some q) (hl : fs[i]? = some l) (hn : l'.length = l.length) :
    Spl H (upd H' q (.lst (l'.map V.int))) a D F ps (fs.set i l') qs n m := by
  have hm := List.mem_of_getElem? hq
  have q0 := x.f.fr q hm
  have qa : a ≠ q := fun e => by obtain ⟨o, ho⟩ := ha; rw [e, q0] at ho; cases ho
  have hfl := flatten_set_len (l' := l') hl
  refine ⟨x.f.set hq l', by rw [upd_ne (fun e => x.Fp (by rw [e]; exact hm))]; exact x.hF, x.F0, x.FD, x.Fp, fun q2 h2 => ?_, x.ql, x.s.off qa, x.k.mut q0, by rw [List.length_set]; exact x.n', by have := x.m'; omega⟩
  obtain ⟨j, l2, h3, h4, h5⟩ := x.qs' q2 h2
  by_cases c : i = j
  · subst c
    refine ⟨i, l', h3, ?_, fun e => ?_⟩
    · rw [List.getElem?_set, if_pos rfl, if_pos (List.getElem?_eq_some_iff.mp hl).1]
    · rw [hl] at h4
      cases h4
      apply h5
      rw [e] at hn
      exact List.length_eq_zero_iff.mp hn.symm
  · exact ⟨j, l2, h3, by rw [List.getElem?_set, if_neg c]; exact h4, h5⟩
theorem Spl.snoc {H H' : Hp} {a D F : Addr} {ps : List Addr} {fs : List (List Int)} {qs : List Addr} {n m : Nat} (x : Spl H H' a D F ps fs qs n m) (ha : ∃ o, H a = some o) {p : Addr} {l : List Int} (np : H' p = none) :
    Spl H (upd (upd H' p (.lst (l.map V.int))) D (.lst ((ps ++ [p]).map V.ref))) a D F (ps ++ [p]) (fs ++ [l]) qs (n + 1) (m + l.length) := by
  have pa := x.s.ne np
  have p0 : H p = none := x.k.free pa np
  have pF : F ≠ p := fun e => by rw [← e, x.hF] at np; cases np
  have Da : a ≠ D := fun e => by obtain ⟨o, ho⟩ := ha; rw [e, x.f.fD] at ho; cases ho
  have fr := x.f.fresh np
  have y := x.ex ha (Ex.new (o := .lst (l.map V.int)) np)
  refine ⟨y.f.snoc upd_same fr.1 fr.2 p0, by rw [upd_ne x.FD, upd_ne pF]; exact x.hF, x.F0, x.FD, ?_, fun q hq => ?_, x.ql, y.s.off Da, y.k.mut x.f.fD, ?_, ?_⟩
  · intro h
    rcases List.mem_append.mp h with h | h
    · exact x.Fp h
    · rw [List.mem_singleton] at h
      exact pF h
  · obtain ⟨i, l2, h1, h2, h3⟩ := x.qs' q hq
    refine ⟨i, l2, ?_, ?_, h3⟩
    · rw [List.getElem?_append_left (List.getElem?_eq_some_iff.mp h1).1]
      exact h1
    · rw [List.getElem?_append_left (List.getElem?_eq_some_iff.mp h2).1]
      exact h2
  · rw [List.length_append, List.length_singleton]
    have := x.n'
    omega
  · rw [List.flatten_append, List.length_append]
    have := x.m'
    have e : [l].flatten.length = l.length := by simp
    omega
/-- one of the lists that aren't empty -/
theorem Spl.pick {H H' : Hp} {a D F : Addr} {ps : List Addr} {fs : List (List Int)} {qs : List Addr} {n m : Nat} (x : Spl H H' a D F ps fs qs n m) {d : Int} (d0 : 0 ≤ d) (d1 : d < ((qs.map V.ref).length : Int)) :
    ∃ (q : Addr) (i : Nat) (l : List Int), atI (qs.map V.ref) d = some (.ref q) ∧ ps[i]? = some q ∧ fs[i]? = some l ∧ l ≠ [] ∧ H' q = some (.lst (l.map V.int)) := by
  rw [List.length_map] at d1
  have hd : d.toNat < qs.length := by omega
  have hq : qs[d.toNat]? = some qs[d.toNat] := List.getElem?_eq_getElem hd
  obtain ⟨i, l, h1, h2, h3⟩ := x.qs' _ (List.mem_of_getElem? hq)
  exact ⟨_, i, l, at_of (j := d.toNat) (by omega) (by rw [List.getElem?_map, hq]; rfl), h1, h2, h3, x.f.at' i _ l h1 h2⟩
theorem ok_law_spoilt (T : Txt K mg) : FnOk P w K mg base CX0 2 T.law_spoilt.f T.law_spoilt.fd ["stream", "word", "family"] (spSpoilt K) := by
  refine T.law_spoilt.F.ok sc_law_spoilt (fun vs H Q E h => ?_) (fun cdv A outer s H vs Q E hr h => ?_)
  · obtain ⟨a, v, u, ws, fs, rfl, _⟩ := h
    rfl
  · obtain ⟨a, v, u, ws, fs, rfl, S0, hv, hu, hwl, hfl, hft, q⟩ := h
    obtain ⟨p, rfl, hS⟩ := dp_W_inv hv
    have Ha := S0.some
    have hSk : ∀ {H' : Hp}, Kp a H H' → SqL K H' p (ws.map V.int) := fun k => Evl.ex_l ((wo_ex a)) (Evl.ex_l k.wo hS)
    refine ⟨_, (pss_cons (ps_setLc (g := (gName 6)) (tt := tYes) (te := (tCB (rListS K) (tCons (tVar 6) tNil))) (own := [("indexes", 6)]) (i := 3) (by rfl) sc_law_spoilt.nd rfl rfl (sw_true rfl rfl rfl (by decide +kernel)) (pi_list (pv 2)) (blkOk_by (own := [("indexes", 6)]) (N := N_law_spoilt) (sc := defScope s_law_spoilt) (by decide +kernel)) (fun _ _ _ _ _ => (pg_name (i := 6) sc_law_spoilt.nd rfl (.inl rfl))) (fun _ _ _ _ _ => pts_nil) (fun _ _ _ _ _ => (pe_callTy call_list_of (by rfl) T.list (by decide +kernel) (pa_cons (pv 6) pa_nil))))
      (pss_cons (ps_set (i := 4) sc_law_spoilt.nd rfl (.inl rfl) (pe_call (ok_law_next T) (hr.mono (by decide)) rfl T.law_next.g T.law_next.F.kp T.law_next.b .nil pass0 (pa_cons (pv 0) (pa_cons pe_int pa_nil))))
      (pss_cons (ps_setLc (g := (gName 6)) (tt := (tTest (tOp (rI0 fun i j => .bl (decide (j < i))) (tCB (rLenS K) (tCons (tVar 6) tNil)) (tC (.int 0))))) (te := (tVar 6)) (own := [("indexes", 6)]) (i := 5) (by rfl) sc_law_spoilt.nd rfl rfl (sw_true rfl rfl rfl (by decide +kernel)) (pi_list (pv 3)) (blkOk_by (own := [("indexes", 6)]) (N := N_law_spoilt) (sc := defScope s_law_spoilt) (by decide +kernel)) (fun _ _ _ _ _ => (pg_name (i := 6) sc_law_spoilt.nd rfl (.inl rfl))) (fun _ _ _ _ _ => (pts_one (pt_cmpR op_gt (pe_callB call_len_seq (by rfl) T.len PySem.boot_len (pa_cons (pv 6) pa_nil)) pe_int (nomark _)))) (fun _ _ _ _ _ => (pv 6)))
      (Evl.pss_cut (ps_if (PW.pt (pw_and (pt_cmpR op_eq (pv 4) pe_int (nomark _)) (pw_and1 (pt_cmpR op_gt (pe_callB call_len_seq (by rfl) T.len PySem.boot_len (pa_cons (pv 5) pa_nil)) pe_int (nomark _)))))
      (pss_cons (ps_set (i := 6) sc_law_spoilt.nd rfl (.inl rfl) (pe_ix ix_list (pv 5) (pe_call (ok_law_next T) (hr.mono (by decide)) rfl T.law_next.g T.law_next.F.kp T.law_next.b .nil pass0 (pa_cons (pv 0) (pa_cons (pe_callB call_len_seq (by rfl) T.len PySem.boot_len (pa_cons (pv 5) pa_nil)) pa_nil))) (fun _ _ => rfl)))
        (pss_one (ps_asg (pe_op op_sub (pe_call (ok_law_next T) (hr.mono (by decide)) rfl T.law_next.g T.law_next.F.kp T.law_next.b .nil pass0 (pa_cons (pv 0) (pa_cons (pe_op op_add (pe_callB call_len_seq (by rfl) T.len PySem.boot_len (pa_cons (pv 1) pa_nil)) pe_int) pa_nil))) pe_int) (pg_sub (pv 6) (pe_call (ok_law_next T) (hr.mono (by decide)) rfl T.law_next.g T.law_next.F.kp T.law_next.b .nil pass0 (pa_cons (pv 0) (pa_cons (pe_callB call_len_seq (by rfl) T.len PySem.boot_len (pa_cons (pv 6) pa_nil)) pa_nil))) set_list))))
      pss_nil)
      (Evl.pss_cut (ps_if (PW.pt (pw_and (pt_cmpR op_eq (pv 4) pe_int (nomark _)) (pw_and1 (pt_cmpR op_gt (pe_callB call_len_seq (by rfl) T.len PySem.boot_len (pa_cons (pv 5) pa_nil)) pe_int (nomark _)))))
      (pss_one (ps_expr (pe_bm PySem.F.plainAttrs_list PySem.F.slot_list_append PySem.F.type_list_append mt_append (pv 3) (pa_cons (pe_callTy call_list_of (by rfl) T.list (by decide +kernel) (pa_cons (pe_ix ix_list (pv 5) (pe_call (ok_law_next T) (hr.mono (by decide)) rfl T.law_next.g T.law_next.F.kp T.law_next.b .nil pass0 (pa_cons (pv 0) (pa_cons (pe_callB call_len_seq (by rfl) T.len PySem.boot_len (pa_cons (pv 5) pa_nil)) pa_nil))) (fun _ _ => rfl)) pa_nil)) pa_nil))))
      pss_nil)
      (Evl.pss_cut (ps_if (PW.pt (pw_and (pt_cmpR op_eq (pv 4) pe_int (nomark _)) (pw_and1 (pt_cmpR op_gt (pe_callB call_len_seq (by rfl) T.len PySem.boot_len (pa_cons (pv 5) pa_nil)) pe_int (nomark _)))))
      (pss_one (ps_expr (pe_bm0 PySem.F.plainAttrs_list PySem.F.slot_list_reverse PySem.F.type_list_reverse mt_reverse (pe_ix ix_list (pv 5) (pe_call (ok_law_next T) (hr.mono (by decide)) rfl T.law_next.g T.law_next.F.kp T.law_next.b .nil pass0 (pa_cons (pv 0) (pa_cons (pe_callB call_len_seq (by rfl) T.len PySem.boot_len (pa_cons (pv 5) pa_nil)) pa_nil))) (fun _ _ => rfl)))))
      pss_nil)
      (Evl.pss_cut (ps_if (pt_cmpR op_eq (pv 4) pe_int (nomark _))
      (pss_one (ps_expr (pe_bm PySem.F.plainAttrs_list PySem.F.slot_list_append PySem.F.type_list_append mt_append (pv 3) (pa_cons (pe_lst (pa_cons (pe_op op_sub (pe_call (ok_law_next T) (hr.mono (by decide)) rfl T.law_next.g T.law_next.F.kp T.law_next.b .nil pass0 (pa_cons (pv 0) (pa_cons (pe_op op_add (pe_callB call_len_seq (by rfl) T.len PySem.boot_len (pa_cons (pv 1) pa_nil)) pe_int) pa_nil))) pe_int) pa_nil)) pa_nil))))
      pss_nil)
      (pss_one (ps_ret (pv 3)))))))))), ?_⟩
    cases hu with
    | @lst b xs _ hsl hall =>
      -- told
      refine ⟨_, rfl, b, rfl, ⟨_, Evl.ex_l (wo_ex a) hsl⟩, fun D nD => ?_⟩
      have Da : D ≠ a := S0.ne nD
      refine lc_list (xs := xs) (fun i H' => ∃ ps, FamAt H H' D ps (fs.take i) ∧ Strm H' a ∧ Ex H H') ⟨[], ⟨upd_same, rfl, fun i p l h => by simp at h, List.nodup_nil, by simp, nD, fun p h => by simp at h⟩, S0.new nD, Ex.new nD⟩ (fun i H' _ ⟨_, _, _, e⟩ => Evl.ex_l e (Evl.ex_l (wo_ex a) hsl)) ?_ ?_
      · rintro i x H2 hi ⟨ps, F, S2, e2⟩
        obtain ⟨d, hd, hx⟩ := dp_at hall hi
        obtain ⟨l, hl, rfl⟩ := dF_at hd
        obtain ⟨c, rfl, hc⟩ := dp_W_inv hx
        refine ⟨rfl, ?_⟩
        refine iteT (B := ∃ ps, FamAt H H2 D ps (fs.take (i + 1)) ∧ Strm H2 a ∧ Ex H H2) ?_
        refine ⟨_, rfl, c, _, rfl, .inl (Evl.ex_l e2 (Evl.ex_l (wo_ex a) hc)), fun z nz => ⟨ps.map V.ref, ?_, ?_, ps ++ [z], ?_, ?_, ?_⟩⟩
        · rw [upd_ne (ne_of_none F.d nz)]
          exact F.d
        · rw [List.length_map, F.len, List.length_take]
          exact szl (by omega)
        · have F2 := (F.ex (Ex.new (o := .lst (l.map V.int)) nz)).snoc (p := z) (l := l) upd_same (F.fresh nz).1 (F.fresh nz).2 (Evl.fresh_back e2 nz)
          rw [List.map_append] at F2
          rw [List.take_add_one, hl]
          exact F2
        · exact (S2.new nz).off Da.symm
        · exact Ex.mut (e2.trans (Ex.new nz)) nD
      rintro H2 ⟨ps, F2, S2, e2⟩
      rw [dp_len hall, List.length_map, List.take_length] at F2
      -- kind
      refine ⟨_, rfl, a, 4, rfl, S2, by decide, by decide, fun kd H3 k0 k1 S3 K3 => ?_⟩
      have F3 := F2.kp K3 Ha
      have K03 : Kp a H H3 := (Kp.of e2).trans K3
      -- full
      refine ⟨_, rfl, D, rfl, ⟨_, SqL.of F3.d⟩, fun F nF => ?_⟩
      have F0 : H F = none := K03.free (S3.ne nF) nF
      have FD : F ≠ D := fun e => by rw [e, F3.d] at nF; cases nF
      have Fps := (F3.fresh nF).1
      refine lc_list (xs := ps.map V.ref) (fun i H' => ∃ qs : List Addr, H' F = some (.lst (qs.map V.ref)) ∧ (∀ q ∈ qs, ∃ (i : Nat) (l : List Int), ps[i]? = some q ∧ fs[i]? = some l ∧ l ≠ []) ∧ qs.length ≤ i ∧ Ex H3 H') ⟨[], upd_same, fun q h => by simp at h, Nat.zero_le _, Ex.new nF⟩ (fun i H' _ ⟨_, _, _, _, e⟩ => SqL.of (e _ _ F3.d)) ?_ ?_
      · rintro i x H4 hi ⟨qs, hF4, hqs, hql, e4⟩
        rw [List.getElem?_map] at hi
        cases c : ps[i]? with
        | none => rw [c] at hi; cases hi
        | some pi =>
          rw [c] at hi
          cases hi
          have hil : i < fs.length := by rw [← F3.len]; exact (List.getElem?_eq_some_iff.mp c).1
          have hfi : fs[i]? = some fs[i] := List.getElem?_eq_getElem hil
          have hpi := e4 _ _ (F3.at' i pi _ c hfi)
          refine ⟨rfl, _, rfl, pi, _, rfl, .inl (SqL.of hpi), _, _, rfl, rfl, _, rfl, ite2 (fun c2 => ?_) (fun _ => ?_)⟩
          · have c3 := of_decide_eq_true c2
            refine ⟨_, rfl, qs.map V.ref, hF4, szl (by rw [List.length_map]; omega), qs ++ [pi], ?_, ?_, ?_, Ex.mut e4 nF⟩
            · rw [upd_same, List.map_append]
              rfl
            · intro q hq
              rcases List.mem_append.mp hq with h | h
              · exact hqs q h
              · rw [List.mem_singleton] at h
                subst h
                exact ⟨i, _, c, hfi, fun e => by rw [e] at c3; simp at c3⟩
            · rw [List.length_append, List.length_singleton]
              omega
          · exact ⟨qs, hF4, hqs, by omega, e4⟩
      rintro H4 ⟨qs, hF4, hqs, hql, e4⟩
      rw [List.length_map, F3.len] at hql
      have X4 : Spl H H4 a D F ps fs qs fs.length fs.flatten.length := ⟨F3.ex e4, hF4, F0, FD, Fps, hqs, by omega, S3.ex e4, K03.trans (Kp.of e4), Nat.le_refl _, Nat.le_refl _⟩
      -- kind == 0
      refine ⟨fun σ' H' => ∃ ps fs' qs x6, σ' = [some (.ref a), some (.ref p), some (.ref b), some (.ref D), some (.int kd), some (.ref F), x6] ∧ Spl H H' a D F ps fs' qs fs.length fs.flatten.length, ?_, ?_⟩
      · have skip : ∀ x6, ∃ ps' fs' qs' y6, [some (V.ref a), some (.ref p), some (.ref b), some (.ref D), some (.int kd), some (.ref F), x6] = [some (V.ref a), some (.ref p), some (.ref b), some (.ref D), some (.int kd), some (.ref F), y6] ∧ Spl H H4 a D F ps' fs' qs' fs.length fs.flatten.length := fun x6 => ⟨_, _, _, x6, rfl, X4⟩
        refine ⟨_, rfl, rfl, _, rfl, ite2 (fun _ => ?_) (fun _ => iteF (skip _))⟩
        refine ⟨_, rfl, F, _, rfl, .inl (SqL.of X4.hF), _, _, rfl, rfl, _, rfl, ite2 (fun c => ?_) (fun _ => skip _)⟩
        have c1 := of_decide_eq_true c
        refine ⟨_, rfl, _, rfl, _, rfl, F, _, rfl, .inl (SqL.of X4.hF), a, _, rfl, X4.s, c1, by rw [List.length_map]; have := X4.ql; omega, fun d H5 d0 d1 S5 K5 => ?_⟩
        have X5 := X4.kp Ha S5 K5
        obtain ⟨qa, i, l, hat, hpi, hfi, hne, hqa⟩ := X5.pick d0 d1
        refine ⟨F, _, _, _, rfl, rfl, SqL.of X5.hF, hat, ?_⟩
        refine ⟨_, rfl, _, rfl, p, _, rfl, .inl (hSk X5.k), _, _, rfl, rfl, a, _, rfl, S5, by omega, by rw [List.length_map]; omega, fun z H6 z0 z1 S6 K6 => ⟨_, _, rfl, rfl, ?_⟩⟩
        have X6 := X5.kp Ha S6 K6
        have hq6 := X6.f.at' i qa l hpi hfi
        have hlpos : 0 < l.length := List.length_pos_iff.mpr hne
        have hlm : l.length ≤ 1000 := by have := mem_len (List.mem_of_getElem? hfi); have := X6.m'; omega
        refine ⟨_, rfl, _, rfl, _, rfl, qa, _, rfl, .inl (SqL.of hq6), a, _, rfl, S6, by rw [List.length_map]; omega, by rw [List.length_map]; omega, fun j H7 j0 j1 S7 K7 => ?_⟩
        have X7 := X6.kp Ha S7 K7
        have hq7 := X7.f.at' i qa l hpi hfi
        rw [List.length_map] at j1
        refine ⟨qa, _, _, j.toNat, rfl, rfl, hq7, ?_, ?_⟩
        · have e : j = (j.toNat : Int) := by omega
          rw [List.length_map]
          conv => lhs; rw [e]
          exact Evl.ixN_nat (by omega)
        · have X8 := X7.set Ha hpi hfi (l' := l.set j.toNat (z - 1)) (by rw [List.length_set])
          rw [List.map_set] at X8
          exact ⟨_, _, _, _, rfl, X8⟩
      rintro σ H5 ⟨ps5, fs5, qs5, x6, rfl, X5⟩
      -- kind == 1
      refine ⟨fun σ' H' => ∃ ps fs' qs x6, σ' = [some (.ref a), some (.ref p), some (.ref b), some (.ref D), some (.int kd), some (.ref F), x6] ∧ Spl H H' a D F ps fs' qs (fs.length + 1) (2 * fs.flatten.length), ?_, ?_⟩
      · have wid : Spl H H5 a D F ps5 fs5 qs5 (fs.length + 1) (2 * fs.flatten.length) := ⟨X5.f, X5.hF, X5.F0, X5.FD, X5.Fp, X5.qs', X5.ql, X5.s, X5.k, by have := X5.n'; omega, by have := X5.m'; omega⟩
        refine ⟨_, rfl, rfl, _, rfl, ite2 (fun _ => ?_) (fun _ => iteF ⟨_, _, _, _, rfl, wid⟩)⟩
        refine ⟨_, rfl, F, _, rfl, .inl (SqL.of X5.hF), _, _, rfl, rfl, _, rfl, ite2 (fun c => ?_) (fun _ => ⟨_, _, _, _, rfl, wid⟩)⟩
        have c1 := of_decide_eq_true c
        refine ⟨_, rfl, .inl ⟨rfl, _, SqL.of X5.f.d⟩, ?_⟩
        refine ⟨_, rfl, _, rfl, _, rfl, F, _, rfl, .inl (SqL.of X5.hF), a, _, rfl, X5.s, c1, by rw [List.length_map]; have := X5.ql; omega, fun d H6 d0 d1 S6 K6 => ?_⟩
        have X6 := X5.kp Ha S6 K6
        obtain ⟨qa, i, l, hat, hpi, hfi, hne, hqa⟩ := X6.pick d0 d1
        refine ⟨F, _, _, _, rfl, rfl, SqL.of X6.hF, hat, qa, _, rfl, .inl (SqL.of hqa), fun z nz => ?_⟩
        have zD : D ≠ z := fun e => by rw [← e, X6.f.d] at nz; cases nz
        refine ⟨D, _, _, rfl, rfl, by rw [upd_ne zD]; exact X6.f.d, szl (by rw [List.length_map, X6.f.len]; have := X6.n'; omega), ?_⟩
        have X7 := X6.snoc Ha (l := l) nz
        rw [List.map_append] at X7
        have hlm : l.length ≤ fs.flatten.length := by have := mem_len (List.mem_of_getElem? hfi); have := X6.m'; omega
        exact ⟨_, _, _, _, rfl, X7.f, X7.hF, X7.F0, X7.FD, X7.Fp, X7.qs', X7.ql, X7.s, X7.k, X7.n', by have := X7.m'; omega⟩
      rintro σ H6 ⟨ps6, fs6, qs6, x6', rfl, X6⟩
      -- kind == 2
      refine ⟨fun σ' H' => ∃ ps fs' qs x6, σ' = [some (.ref a), some (.ref p), some (.ref b), some (.ref D), some (.int kd), some (.ref F), x6] ∧ Spl H H' a D F ps fs' qs (fs.length + 1) (2 * fs.flatten.length), ?_, ?_⟩
      · refine ⟨_, rfl, rfl, _, rfl, ite2 (fun _ => ?_) (fun _ => iteF ⟨_, _, _, _, rfl, X6⟩)⟩
        refine ⟨_, rfl, F, _, rfl, .inl (SqL.of X6.hF), _, _, rfl, rfl, _, rfl, ite2 (fun c => ?_) (fun _ => ⟨_, _, _, _, rfl, X6⟩)⟩
        have c1 := of_decide_eq_true c
        refine ⟨_, rfl, _, rfl, _, rfl, F, _, rfl, .inl (SqL.of X6.hF), a, _, rfl, X6.s, c1, by rw [List.length_map]; have := X6.ql; omega, fun d H7 d0 d1 S7 K7 => ?_⟩
        have X7 := X6.kp Ha S7 K7
        obtain ⟨qa, i, l, hat, hpi, hfi, hne, hqa⟩ := X7.pick d0 d1
        refine ⟨F, _, _, _, rfl, rfl, SqL.of X7.hF, hat, .inl ⟨rfl, _, SqL.of hqa⟩, qa, _, rfl, rfl, hqa, ?_⟩
        have X8 := X7.set Ha hpi hfi (l' := l.reverse) (by rw [List.length_reverse])
        rw [List.map_reverse] at X8
        exact ⟨_, _, _, _, rfl, X8⟩
      rintro σ H7 ⟨ps7, fs7, qs7, x7, rfl, X7⟩
      -- kind == 3
      refine ⟨fun σ' H' => ∃ ps fs' qs x6, σ' = [some (.ref a), some (.ref p), some (.ref b), some (.ref D), some (.int kd), some (.ref F), x6] ∧ Spl H H' a D F ps fs' qs (fs.length + 2) (2 * fs.flatten.length + 1), ?_, ?_⟩
      · refine ⟨_, rfl, rfl, _, rfl, ite2 (fun _ => ?_) (fun _ => ⟨_, _, _, _, rfl, X7.f, X7.hF, X7.F0, X7.FD, X7.Fp, X7.qs', X7.ql, X7.s, X7.k, by have := X7.n'; omega, by have := X7.m'; omega⟩)⟩
        refine ⟨_, rfl, .inl ⟨rfl, _, SqL.of X7.f.d⟩, ?_⟩
        refine ⟨_, rfl, _, rfl, p, _, rfl, .inl (hSk X7.k), _, _, rfl, rfl, a, _, rfl, X7.s, by omega, by rw [List.length_map]; omega, fun z H8 z0 z1 S8 K8 => ⟨_, _, rfl, rfl, by show 1 ≤ sizeLine; decide, fun y ny => ?_⟩⟩
        have X8 := X7.kp Ha S8 K8
        have yD : D ≠ y := fun e => by rw [← e, X8.f.d] at ny; cases ny
        refine ⟨D, _, _, rfl, rfl, by rw [upd_ne yD]; exact X8.f.d, szl (by rw [List.length_map, X8.f.len]; have := X8.n'; omega), ?_⟩
        have X9 := X8.snoc Ha (l := [z - 2]) ny
        rw [List.map_append] at X9
        exact ⟨_, _, _, _, rfl, X9⟩
      rintro σ H8 ⟨ps8, fs8, qs8, x8, rfl, X8⟩
      exact ⟨_, rfl, q _ fs8 _ X8.f.dp X8.n' (by have := X8.m'; omega) X8.s X8.k⟩
end

/-! ### what stands while a law runs -/
theorem ex_new_wo {H : Hp} {st : Addr} {o : HO} (n : H st = none) : Ex H (wo st (upd H st o)) := fun b u h => wo_of (fun e => by rw [e, n] at h; cases h) (Ex.new n b u h)
theorem ex_of_kp {H H' : Hp} {q : Addr} {o : HO} (n : H q = none) (k : Kp q (upd H q o) H') : Ex H H' := fun b u h => by
  have hb : b ≠ q := fun e => by rw [e, n] at h; cases h
  exact k b u hb (by rw [upd_ne hb]; exact h)
theorem nw_wo {H H' : Hp} {st : Addr} (h : ∃ o, H st = some o) : Ex (nw H H') (wo st H') := fun b u hb => by
  obtain ⟨o, ho⟩ := h
  refine wo_of (fun e => ?_) (via_le b u hb)
  subst e
  unfold nw via emp at hb
  rw [ho] at hb
  cases hb

def spLaw (K : PySem.W.Frag) : Sp := fun vs H Q _ => ∃ (a : Addr) (ns : List Int), vs = [.ref a] ∧ SqL K H a (ns.map V.int) ∧ ns.length ≤ 63 ∧ ∀ H', Q (.bl true) H'
theorem law_end {K : PySem.W.Frag} {H : Hp} {a : Addr} {ns : List Int} (hl : ns.length ≤ 63) (hO : Only H) (hS : SqL K H a (ns.map V.int)) : spLaw K [.ref a] H (fun v _ => v = .bl true) fun _ _ _ => False := ⟨a, ns, rfl, hS, hl, fun _ => rfl⟩

-- CUT law: 3 8
-- DEEP law: handed == family
-- DEEP law: given == word
-- 6 6
section
variable {P : Program} {w : World} {K : PySem.W.Frag} {mg : Str → Option Value} {base : Heap}
theorem ok_law (T : Txt K mg) {f : Addr} {fd : FuncData} (F : Fun K "law" "law" s_law f fd) : FnOk P w K mg base CX0 6 f fd ["script"] (spLaw K) := by
  refine F.ok sc_law (fun vs H Q E h => ?_) (fun cdv A outer s H vs Q E hr h => ?_)
  · obtain ⟨a, ns, rfl, _⟩ := h
    rfl
  · obtain ⟨a, ns, rfl, hS, hl, q⟩ := h
    refine ⟨_, (pss_cons (ps_set (i := 1) sc_law.nd rfl (.inl rfl) (pe_call (ok_law_stream T) (hr.mono (by decide)) rfl T.law_stream.g T.law_stream.F.kp T.law_stream.b .nil pass0 (pa_cons (pe_call (ok_law_cell T) (hr.mono (by decide)) rfl T.law_cell.g T.law_cell.F.kp T.law_cell.b .nil pass0 (pa_cons (pv 0) (pa_cons pe_int pa_nil))) pa_nil)))
      (pss_cons (ps_set (i := 2) sc_law.nd rfl (.inl rfl) pe_int)
      (Evl.pss_cut (ps_if (pt_cmpR op_eq (pe_call (ok_law_next T) (hr.mono (by decide)) rfl T.law_next.g T.law_next.F.kp T.law_next.b .nil pass0 (pa_cons (pv 1) (pa_cons pe_int pa_nil))) pe_int (nomark _))
      (pss_one (ps_set (i := 2) sc_law.nd rfl (.inl rfl) pe_int))
      pss_nil)
      (pss_cons (ps_set (i := 3) sc_law.nd rfl (.inl rfl) (pe_call (ok_law_word T) (hr.mono (by decide)) rfl T.law_word.g T.law_word.F.kp T.law_word.b .nil pass0 (pa_cons (pv 1) (pa_cons (pv 2) pa_nil))))
      (pss_cons (ps_set (i := 4) sc_law.nd rfl (.inl rfl) (pe_cmpR op_eq (pe_call (ok_law_next T) (hr.mono (by decide)) rfl T.law_next.g T.law_next.F.kp T.law_next.b .nil pass0 (pa_cons (pv 1) (pa_cons pe_int pa_nil))) pe_int (nomark _)))
      (pss_cons (ps_set (i := 5) sc_law.nd rfl (.inl rfl) (pe_call (ok_law_drawn_family T) (hr.mono (by decide)) rfl T.law_drawn_family.g T.law_drawn_family.F.kp T.law_drawn_family.b .nil pass0 (pa_cons (pe_call (ok_law_stream T) (hr.mono (by decide)) rfl T.law_stream.g T.law_stream.F.kp T.law_stream.b .nil pass0 (pa_cons (pe_call (ok_law_cell T) (hr.mono (by decide)) rfl T.law_cell.g T.law_cell.F.kp T.law_cell.b .nil pass0 (pa_cons (pv 0) (pa_cons pe_int pa_nil))) pa_nil)) (pa_cons (pv 3) (pa_cons (pv 4) (pa_cons pe_int pa_nil))))))
      (Evl.pss_cut (ps_if (pt_cmpR op_eq (pe_call (ok_law_next T) (hr.mono (by decide)) rfl T.law_next.g T.law_next.F.kp T.law_next.b .nil pass0 (pa_cons (pv 1) (pa_cons pe_int pa_nil))) pe_int (nomark _))
      (pss_one (ps_set (i := 5) sc_law.nd rfl (.inl rfl) (pe_call (ok_law_spoilt T) (hr.mono (by decide)) rfl T.law_spoilt.g T.law_spoilt.F.kp T.law_spoilt.b .nil pass0 (pa_cons (pv 1) (pa_cons (pv 3) (pa_cons (pv 5) pa_nil))))))
      pss_nil)
      (pss_cons (ps_setLc (g := (gName 9)) (tt := tYes) (te := (tCB (rListS K) (tCons (tVar 9) tNil))) (own := [("told", 9)]) (i := 6) (by rfl) sc_law.nd rfl rfl (sw_true rfl rfl rfl (by decide +kernel)) (pi_list (pv 5)) (blkOk_by (own := [("told", 9)]) (N := N_law) (sc := defScope s_law) (by decide +kernel)) (fun _ _ _ _ _ => (pg_name (i := 9) sc_law.nd rfl (.inl rfl))) (fun _ _ _ _ _ => pts_nil) (fun _ _ _ _ _ => (pe_callTy call_list_of (by rfl) T.list (by decide +kernel) (pa_cons (pv 9) pa_nil))))
      (pss_cons (ps_set (i := 7) sc_law.nd rfl (.inl rfl) (pe_callTy call_list_of (by rfl) T.list (by decide +kernel) (pa_cons (pv 3) pa_nil)))
      (pss_cons (ps_set (i := 8) sc_law.nd rfl (.inl rfl) (pe_call (ok_is_rising_family T) (hr.mono (by decide)) rfl T.is_rising_family.g T.is_rising_family.F.kp T.is_rising_family.b .nil pass0 (pa_cons (pv 7) (pa_cons (pv 6) pa_nil))))
      (pss_cons (ps_if (PW.pt (pw_or (pt_not (pt_val (pe_callB call_isi (by rfl) T.isinstance (by decide +kernel) (pa_cons (pv 8) (pa_cons (pe_bltn (v := .ty "bool") (u := .type "bool") (by rfl) T.bool (by decide +kernel) rfl) pa_nil))))) (pw_or1 (pt_cmpR op_ne (pv 8) (pe_call (ok_law_is_family T) (hr.mono (by decide)) rfl T.law_is_family.g T.law_is_family.F.kp T.law_is_family.b .nil pass0 (pa_cons (pv 3) (pa_cons (pv 5) (pa_cons pe_bl pa_nil)))) (nomark _)))))
      (pss_one (ps_ret pe_bl))
      pss_nil)
      (pss_cons (ps_set (i := 8) sc_law.nd rfl (.inl rfl) (pe_call (ok_is_falling_family T) (hr.mono (by decide)) rfl T.is_falling_family.g T.is_falling_family.F.kp T.is_falling_family.b .nil pass0 (pa_cons (pv 7) (pa_cons (pv 6) pa_nil))))
      (pss_cons (ps_if (PW.pt (pw_or (pt_not (pt_val (pe_callB call_isi (by rfl) T.isinstance (by decide +kernel) (pa_cons (pv 8) (pa_cons (pe_bltn (v := .ty "bool") (u := .type "bool") (by rfl) T.bool (by decide +kernel) rfl) pa_nil))))) (pw_or1 (pt_cmpR op_ne (pv 8) (pe_call (ok_law_is_family T) (hr.mono (by decide)) rfl T.law_is_family.g T.law_is_family.F.kp T.law_is_family.b .nil pass0 (pa_cons (pv 3) (pa_cons (pv 5) (pa_cons pe_bl pa_nil)))) (nomark _)))))
      (pss_one (ps_ret pe_bl))
      pss_nil)
      (pss_cons (ps_set (i := 8) sc_law.nd rfl (.inl rfl) (pe_call (ok_cover T) (hr.mono (by decide)) rfl T.cover.g T.cover.F.kp T.cover.b .nil pass0 (pa_cons (pv 6) pa_nil)))
      (pss_one (ps_ret (pe_and (pe_call (ok_law_is_integer T) (hr.mono (by decide)) rfl T.law_is_integer.g T.law_is_integer.F.kp T.law_is_integer.b .nil pass0 (pa_cons (pv 8) pa_nil)) (pe_and (pe_cmpR op_eq (pv 8) (pe_call (ok_law_cover T) (hr.mono (by decide)) rfl T.law_cover.g T.law_cover.F.kp T.law_cover.b .nil pass0 (pa_cons (pv 5) pa_nil)) (nomark _)) (pe_and (pe_cmpR (op_eqD hr.units) (pv 6) (pv 5) (nomark _)) (pe_one (pe_cmpR (op_eqD hr.units) (pv 7) (pv 3) (nomark _)))))))))))))))))))))), ?_⟩
    -- stream, most
    refine ⟨_, rfl, a, ns, 0, rfl, hS, fun c => ⟨c, rfl, fun st s0 s1 s2 nst => ?_⟩⟩
    have S1 : Strm (upd H st (.lst [.int s0, .int s1, .int s2])) st := ⟨s0, s1, s2, upd_same⟩
    have hS1 : SqL K (wo st (upd H st (.lst [.int s0, .int s1, .int s2]))) a (ns.map V.int) := Evl.ex_l (ex_new_wo nst) hS
    refine ⟨fun σ H' => ∃ m : Nat, m ≤ 40 ∧ σ = [some (.ref a), some (.ref st), some (.int (m : Int)), none, none, none, none, none, none, none] ∧ Strm H' st ∧ SqL K (wo st H') a (ns.map V.int), ?_, ?_⟩
    · refine ⟨_, rfl, st, 8, rfl, S1, by decide, by decide, fun d H2 d0 d1 S2 K2 => ⟨rfl, _, rfl, ite2 (fun _ => ?_) (fun _ => ?_)⟩⟩
      · exact ⟨40, by decide, rfl, S2, Evl.ex_l K2.wo hS1⟩
      · exact ⟨10, by decide, rfl, S2, Evl.ex_l K2.wo hS1⟩
    rintro σ H2 ⟨m, hm, rfl, S2, hS2⟩
    -- word
    refine ⟨_, rfl, _, rfl, st, m, rfl, by omega, S2, fun p ws H3 hw hL np3 pst hp3 S3 K3 => ?_⟩
    have hlen : ws.length ≤ 1000 := by omega
    have w3 : Dp K (wo st H3) (.ref p) (dW ws) := dp_W (SqL.of (wo_of pst hp3))
    have hS3 := Evl.ex_l K3.wo hS2
    -- falls
    refine ⟨_, rfl, st, 2, rfl, S3, by decide, by decide, fun d H4 d0 d1 S4 K4 => ⟨rfl, ?_⟩⟩
    have w4 := w3.mono K4.wo
    have hS4 := Evl.ex_l K4.wo hS3
    generalize decide (V.int d = V.int 0) = fl
    -- family
    refine ⟨_, rfl, a, ns, 1, rfl, Evl.ex_l (wo_ex st) hS4, fun c2 => ⟨c2, rfl, fun st2 t0 t1 t2 nst2 => ?_⟩⟩
    have T5 : Strm (upd H4 st2 (.lst [.int t0, .int t1, .int t2])) st2 := ⟨t0, t1, t2, upd_same⟩
    refine ⟨_, rfl, _, rfl, st2, _, ws, fl, 4, rfl, T5, ?_, by decide, hlen, fun v6 fs H6 hv6 hfl hft T6 K6 => ?_⟩
    · exact (w4.mono (wo_ex st)).mono (ex_new_wo nst2)
    have e46 : Ex H4 H6 := ex_of_kp nst2 K6
    have S6 := S4.ex e46
    have w6 := w4.mono (ex_wo e46)
    have f6 : Dp K (wo st H6) v6 (dF fs) := hv6.mono (nw_wo (by
      obtain ⟨o, ho⟩ := S4.some
      exact ⟨o, Ex.new nst2 _ _ ho⟩))
    -- spoilt
    refine ⟨fun σ H' => ∃ v6 fs, σ = [some (.ref a), some (.ref st), some (.int (m : Int)), some (.ref p), some (.bl fl), some v6, none, none, none, none] ∧ Dp K (wo st H') (.ref p) (dW ws) ∧ Dp K (wo st H') v6 (dF fs) ∧ fs.length ≤ 6 ∧ fs.flatten.length ≤ 2002, ?_, ?_⟩
    · refine ⟨_, rfl, st, 2, rfl, S6, by decide, by decide, fun d H7 d0 d1 S7 K7 => ⟨rfl, _, rfl, ite2 (fun _ => ?_) (fun _ => ?_)⟩⟩
      · refine ⟨_, rfl, _, rfl, _, rfl, st, _, _, ws, fs, rfl, S7, w6.mono K7.wo, f6.mono K7.wo, hlen, by omega, by omega, fun v8 fs8 H8 hv8 hl8 ht8 S8 K8 => ?_⟩
        exact ⟨v8, fs8, rfl, (w6.mono K7.wo).mono K8.wo, hv8.mono (nw_wo S7.some), by omega, by omega⟩
      · exact ⟨v6, fs, rfl, w6.mono K7.wo, f6.mono K7.wo, by omega, by omega⟩
    rintro σ H7 ⟨v7, fs7, rfl, w7', f7', hl7, ht7⟩
    have w7 := w7'.mono (wo_ex st)
    have f7 := f7'.mono (wo_ex st)
    have sm : Small fs7 := ⟨by omega, by omega⟩
    -- handed
    have eh : EvB K emp (tLc (iList K (tVar 5)) (gName 9) tYes (tCB (rListS K) (tCons (tVar 9) tNil)) [9]) [some (.ref a), some (.ref st), some (.int (m : Int)), some (.ref p), some (.bl fl), some v7, none, none, none, none] H7 (dF fs7) := by
      have r := evb_lcL (K := K) (B := emp) (B' := H7) (t := tYes) (te := tCB (rListS K) (tCons (tVar 9) tNil)) (j := 9) (vs := [9]) (tl := tVar 5) (σ := [some (.ref a), some (.ref st), some (.int (m : Int)), some (.ref p), some (.bl fl), some v7, none, none, none, none]) emp_ex (evb_v rfl f7) (by rw [List.length_map]; omega) (fun _ => rfl) (fun i => (fs7.take i).map dW) rfl fun i x dx H8 e hi hx => by
        obtain ⟨l, hl, rfl⟩ := dF_at hi
        refine ⟨true, _, evt_yes, fun _ => evb_listW (B := H8) (evb_v rfl hx), ?_⟩
        rw [if_pos rfl, List.take_add_one, hl, List.map_append]
        rfl
      rw [List.length_map, List.take_length] at r
      exact r
    refine qd_asg eh fun v8 H8 e8 h8 => ?_
    have h8 := h8.mono via_le
    refine qd_asg (B := emp) (evb_listW (B := H8) (evb_v rfl (w7.mono e8))) fun v9 H9 e9 h9 => ?_
    have h9 := h9.mono via_le
    -- rising
    refine ⟨_, rfl, _, rfl, _, _, ws, fs7, rfl, h9, h8.mono e9, by omega, sm, fun H10 e10 => ?_⟩
    have e710 := (e8.trans e9).trans e10
    refine ⟨_, rfl, _, .ty "bool", _, _, true, rfl, .ty _, .base (.bl _), kit_ty (by decide +kernel), true, rfl, iteF ?_⟩
    refine ⟨_, rfl, _, rfl, _, rfl, _, _, ws, fs7, false, rfl, w7.mono e710, f7.mono e710, by omega, sm, fun H11 e11 => ⟨rfl, _, rfl, iteNS rfl ?_⟩⟩
    -- falling
    have e711 := e710.trans e11
    refine ⟨_, rfl, _, rfl, _, _, ws, fs7, rfl, h9.mono (e10.trans e11), h8.mono (e9.trans (e10.trans e11)), by omega, sm, fun H12 e12 => ?_⟩
    refine ⟨_, rfl, _, .ty "bool", _, _, true, rfl, .ty _, .base (.bl _), kit_ty (by decide +kernel), true, rfl, iteF ?_⟩
    refine ⟨_, rfl, _, rfl, _, rfl, _, _, ws, fs7, true, rfl, w7.mono (e711.trans e12), f7.mono (e711.trans e12), by omega, sm, fun H13 e13 => ⟨rfl, _, rfl, iteNS rfl ?_⟩⟩
    -- cover
    have e713 := e711.trans (e12.trans e13)
    refine ⟨_, rfl, _, fs7, rfl, h8.mono (e9.trans (e10.trans (e11.trans (e12.trans e13)))), sm, fun H14 e14 => ?_⟩
    have e714 := e713.trans e14
    refine ⟨_, rfl, _, rfl, true, rfl, iteT ?_⟩
    refine ⟨_, rfl, _, rfl, _, fs7, rfl, f7.mono e714, sm, fun H15 e15 => ⟨rfl, decide (V.int (fs7.flatten.length : Int) = V.int (fs7.flatten.length : Int)), rfl, ?_⟩⟩
    rw [decide_eq_true rfl]
    refine iteT ?_
    have e715 := e714.trans e15
    have e815 := e9.trans (e10.trans (e11.trans (e12.trans (e13.trans (e14.trans e15)))))
    refine ⟨_, rfl, _, rfl, eq_data (h8.mono e815) (f7.mono e715) (pur_F _) (pur_F _) (by decide) (by decide) (fun _ => ⟨true, rfl, iteT ?_⟩) (fun h => absurd rfl h)⟩
    exact ⟨_, rfl, _, rfl, eq_data (h9.mono (e10.trans (e11.trans (e12.trans (e13.trans (e14.trans e15)))))) (w7.mono e715) (pur_W _) (pur_W _) (by decide) (by decide) (fun _ => q _) (fun h => absurd rfl h)⟩
end
theorem all_mk {l : PySem.W.OpenLaw} {w : World} {K : PySem.W.Frag} {h : Heap} {mg : Str → Option Value} {fa : Addr} (X : K.In h) (G : h.Ns mainGlobals mg) (hfa : mg "law" = some (.ref fa))
    {od1 an1 : Option Addr} {sl1 : Array (Option Value)} {oc1 kV1 dc1 pm1 cd1 ct1 : Value} {f1 : Addr}
    (a1 : PySem.W.nsIn K mainGlobals "is_rising_family" = some (some (.ref f1))) (l1 : K.lookup f1 = some ⟨oc1, od1, .func (PySem.W.fnOf "is_rising_family" "is_rising_family" (defArgs s_is_rising_family) (defBody s_is_rising_family) (defScope s_is_rising_family) .none kV1 dc1 pm1 an1 cd1 ct1), sl1⟩) (c1 : PySem.W.codeIn K cd1 "is_rising_family" = true) (k1 : PySem.W.keepIn K (.ref f1) = true)
    {od2 an2 : Option Addr} {sl2 : Array (Option Value)} {oc2 kV2 dc2 pm2 cd2 ct2 : Value} {f2 : Addr}
    (a2 : PySem.W.nsIn K mainGlobals "is_falling_family" = some (some (.ref f2))) (l2 : K.lookup f2 = some ⟨oc2, od2, .func (PySem.W.fnOf "is_falling_family" "is_falling_family" (defArgs s_is_falling_family) (defBody s_is_falling_family) (defScope s_is_falling_family) .none kV2 dc2 pm2 an2 cd2 ct2), sl2⟩) (c2 : PySem.W.codeIn K cd2 "is_falling_family" = true) (k2 : PySem.W.keepIn K (.ref f2) = true)
    {od3 an3 : Option Addr} {sl3 : Array (Option Value)} {oc3 kV3 dc3 pm3 cd3 ct3 : Value} {f3 : Addr}
    (a3 : PySem.W.nsIn K mainGlobals "cover" = some (some (.ref f3))) (l3 : K.lookup f3 = some ⟨oc3, od3, .func (PySem.W.fnOf "cover" "cover" (defArgs s_cover) (defBody s_cover) (defScope s_cover) .none kV3 dc3 pm3 an3 cd3 ct3), sl3⟩) (c3 : PySem.W.codeIn K cd3 "cover" = true) (k3 : PySem.W.keepIn K (.ref f3) = true)
    {od4 an4 : Option Addr} {sl4 : Array (Option Value)} {oc4 kV4 dc4 pm4 cd4 ct4 : Value} {f4 : Addr}
    (a4 : PySem.W.nsIn K mainGlobals "_has_each_index_once" = some (some (.ref f4))) (l4 : K.lookup f4 = some ⟨oc4, od4, .func (PySem.W.fnOf "_has_each_index_once" "_has_each_index_once" (defArgs s_has_each_index_once) (defBody s_has_each_index_once) (defScope s_has_each_index_once) .none kV4 dc4 pm4 an4 cd4 ct4), sl4⟩) (c4 : PySem.W.codeIn K cd4 "_has_each_index_once" = true) (k4 : PySem.W.keepIn K (.ref f4) = true)
    {od5 an5 : Option Addr} {sl5 : Array (Option Value)} {oc5 kV5 dc5 pm5 cd5 ct5 : Value} {f5 : Addr}
    (a5 : PySem.W.nsIn K mainGlobals "_does_not_decrease" = some (some (.ref f5))) (l5 : K.lookup f5 = some ⟨oc5, od5, .func (PySem.W.fnOf "_does_not_decrease" "_does_not_decrease" (defArgs s_does_not_decrease) (defBody s_does_not_decrease) (defScope s_does_not_decrease) .none kV5 dc5 pm5 an5 cd5 ct5), sl5⟩) (c5 : PySem.W.codeIn K cd5 "_does_not_decrease" = true) (k5 : PySem.W.keepIn K (.ref f5) = true)
    {od6 an6 : Option Addr} {sl6 : Array (Option Value)} {oc6 kV6 dc6 pm6 cd6 ct6 : Value} {f6 : Addr}
    (a6 : PySem.W.nsIn K mainGlobals "_strictly_decreases" = some (some (.ref f6))) (l6 : K.lookup f6 = some ⟨oc6, od6, .func (PySem.W.fnOf "_strictly_decreases" "_strictly_decreases" (defArgs s_strictly_decreases) (defBody s_strictly_decreases) (defScope s_strictly_decreases) .none kV6 dc6 pm6 an6 cd6 ct6), sl6⟩) (c6 : PySem.W.codeIn K cd6 "_strictly_decreases" = true) (k6 : PySem.W.keepIn K (.ref f6) = true)
    {od7 an7 : Option Addr} {sl7 : Array (Option Value)} {oc7 kV7 dc7 pm7 cd7 ct7 : Value} {f7 : Addr}
    (a7 : PySem.W.nsIn K mainGlobals "_law_cell" = some (some (.ref f7))) (l7 : K.lookup f7 = some ⟨oc7, od7, .func (PySem.W.fnOf "_law_cell" "_law_cell" (defArgs s_law_cell) (defBody s_law_cell) (defScope s_law_cell) .none kV7 dc7 pm7 an7 cd7 ct7), sl7⟩) (c7 : PySem.W.codeIn K cd7 "_law_cell" = true) (k7 : PySem.W.keepIn K (.ref f7) = true)
    {od8 an8 : Option Addr} {sl8 : Array (Option Value)} {oc8 kV8 dc8 pm8 cd8 ct8 : Value} {f8 : Addr}
    (a8 : PySem.W.nsIn K mainGlobals "_law_stream" = some (some (.ref f8))) (l8 : K.lookup f8 = some ⟨oc8, od8, .func (PySem.W.fnOf "_law_stream" "_law_stream" (defArgs s_law_stream) (defBody s_law_stream) (defScope s_law_stream) .none kV8 dc8 pm8 an8 cd8 ct8), sl8⟩) (c8 : PySem.W.codeIn K cd8 "_law_stream" = true) (k8 : PySem.W.keepIn K (.ref f8) = true)
    {od9 an9 : Option Addr} {sl9 : Array (Option Value)} {oc9 kV9 dc9 pm9 cd9 ct9 : Value} {f9 : Addr}
    (a9 : PySem.W.nsIn K mainGlobals "_law_next" = some (some (.ref f9))) (l9 : K.lookup f9 = some ⟨oc9, od9, .func (PySem.W.fnOf "_law_next" "_law_next" (defArgs s_law_next) (defBody s_law_next) (defScope s_law_next) .none kV9 dc9 pm9 an9 cd9 ct9), sl9⟩) (c9 : PySem.W.codeIn K cd9 "_law_next" = true) (k9 : PySem.W.keepIn K (.ref f9) = true)
    {od10 an10 : Option Addr} {sl10 : Array (Option Value)} {oc10 kV10 dc10 pm10 cd10 ct10 : Value} {f10 : Addr}
    (a10 : PySem.W.nsIn K mainGlobals "_law_is_integer" = some (some (.ref f10))) (l10 : K.lookup f10 = some ⟨oc10, od10, .func (PySem.W.fnOf "_law_is_integer" "_law_is_integer" (defArgs s_law_is_integer) (defBody s_law_is_integer) (defScope s_law_is_integer) .none kV10 dc10 pm10 an10 cd10 ct10), sl10⟩) (c10 : PySem.W.codeIn K cd10 "_law_is_integer" = true) (k10 : PySem.W.keepIn K (.ref f10) = true)
    {od11 an11 : Option Addr} {sl11 : Array (Option Value)} {oc11 kV11 dc11 pm11 cd11 ct11 : Value} {f11 : Addr}
    (a11 : PySem.W.nsIn K mainGlobals "_law_word" = some (some (.ref f11))) (l11 : K.lookup f11 = some ⟨oc11, od11, .func (PySem.W.fnOf "_law_word" "_law_word" (defArgs s_law_word) (defBody s_law_word) (defScope s_law_word) .none kV11 dc11 pm11 an11 cd11 ct11), sl11⟩) (c11 : PySem.W.codeIn K cd11 "_law_word" = true) (k11 : PySem.W.keepIn K (.ref f11) = true)
    {od12 an12 : Option Addr} {sl12 : Array (Option Value)} {oc12 kV12 dc12 pm12 cd12 ct12 : Value} {f12 : Addr}
    (a12 : PySem.W.nsIn K mainGlobals "_law_is_family" = some (some (.ref f12))) (l12 : K.lookup f12 = some ⟨oc12, od12, .func (PySem.W.fnOf "_law_is_family" "_law_is_family" (defArgs s_law_is_family) (defBody s_law_is_family) (defScope s_law_is_family) .none kV12 dc12 pm12 an12 cd12 ct12), sl12⟩) (c12 : PySem.W.codeIn K cd12 "_law_is_family" = true) (k12 : PySem.W.keepIn K (.ref f12) = true)
    {od13 an13 : Option Addr} {sl13 : Array (Option Value)} {oc13 kV13 dc13 pm13 cd13 ct13 : Value} {f13 : Addr}
    (a13 : PySem.W.nsIn K mainGlobals "_law_cover" = some (some (.ref f13))) (l13 : K.lookup f13 = some ⟨oc13, od13, .func (PySem.W.fnOf "_law_cover" "_law_cover" (defArgs s_law_cover) (defBody s_law_cover) (defScope s_law_cover) .none kV13 dc13 pm13 an13 cd13 ct13), sl13⟩) (c13 : PySem.W.codeIn K cd13 "_law_cover" = true) (k13 : PySem.W.keepIn K (.ref f13) = true)
    {od14 an14 : Option Addr} {sl14 : Array (Option Value)} {oc14 kV14 dc14 pm14 cd14 ct14 : Value} {f14 : Addr}
    (a14 : PySem.W.nsIn K mainGlobals "_law_drawn_family" = some (some (.ref f14))) (l14 : K.lookup f14 = some ⟨oc14, od14, .func (PySem.W.fnOf "_law_drawn_family" "_law_drawn_family" (defArgs s_law_drawn_family) (defBody s_law_drawn_family) (defScope s_law_drawn_family) .none kV14 dc14 pm14 an14 cd14 ct14), sl14⟩) (c14 : PySem.W.codeIn K cd14 "_law_drawn_family" = true) (k14 : PySem.W.keepIn K (.ref f14) = true)
    {od15 an15 : Option Addr} {sl15 : Array (Option Value)} {oc15 kV15 dc15 pm15 cd15 ct15 : Value} {f15 : Addr}
    (a15 : PySem.W.nsIn K mainGlobals "_law_spoilt" = some (some (.ref f15))) (l15 : K.lookup f15 = some ⟨oc15, od15, .func (PySem.W.fnOf "_law_spoilt" "_law_spoilt" (defArgs s_law_spoilt) (defBody s_law_spoilt) (defScope s_law_spoilt) .none kV15 dc15 pm15 an15 cd15 ct15), sl15⟩) (c15 : PySem.W.codeIn K cd15 "_law_spoilt" = true) (k15 : PySem.W.keepIn K (.ref f15) = true)
    {od16 an16 : Option Addr} {sl16 : Array (Option Value)} {oc16 kV16 dc16 pm16 cd16 ct16 : Value} {f16 : Addr}
    (a16 : PySem.W.nsIn K mainGlobals "law" = some (some (.ref f16))) (l16 : K.lookup f16 = some ⟨oc16, od16, .func (PySem.W.fnOf "law" "law" (defArgs s_law) (defBody s_law) (defScope s_law) .none kV16 dc16 pm16 an16 cd16 ct16), sl16⟩) (c16 : PySem.W.codeIn K cd16 "law" = true) (k16 : PySem.W.keepIn K (.ref f16) = true)
    (z0 : PySem.W.nsIn K mainGlobals "all" = some none)
    (z1 : PySem.W.nsIn K mainGlobals "bool" = some none)
    (z2 : PySem.W.nsIn K mainGlobals "int" = some none)
    (z3 : PySem.W.nsIn K mainGlobals "isinstance" = some none)
    (z4 : PySem.W.nsIn K mainGlobals "len" = some none)
    (z5 : PySem.W.nsIn K mainGlobals "list" = some none)
    (z6 : PySem.W.nsIn K mainGlobals "range" = some none)
    (z7 : PySem.W.nsIn K mainGlobals "sum" = some none)
    (z8 : PySem.W.nsIn K mainGlobals "zip" = some none)
    : ∃ fd : FuncData, (∀ (s : Shared) (v : Value), BindsTo s fd ⟨[v], []⟩ [("script", v)]) ∧ ∀ base : Heap, K.In base → base.Ns mainGlobals mg → FnOk l.prog w K mg base CX0 6 fa fd ["script"] (spLaw K) := by
  have e := hfa.symm.trans (PySem.W.mg_of X G a16)
  cases e
  have FL := fun_mk (st := s_law) l16 c16 k16
  have T : Txt K mg := {
    is_rising_family := D1.mk' (ps := ["word", "family"]) X G a1 l1 c1 k1 (fun _ _ _ _ _ _ us hl => match us, hl with | [_, _], _ => rfl),
    is_falling_family := D1.mk' (ps := ["word", "family"]) X G a2 l2 c2 k2 (fun _ _ _ _ _ _ us hl => match us, hl with | [_, _], _ => rfl),
    cover := D1.mk' (ps := ["family"]) X G a3 l3 c3 k3 (fun _ _ _ _ _ _ us hl => match us, hl with | [_], _ => rfl),
    has_each_index_once := D1.mk' (ps := ["word", "family"]) X G a4 l4 c4 k4 (fun _ _ _ _ _ _ us hl => match us, hl with | [_, _], _ => rfl),
    does_not_decrease := D1.mk' (ps := ["letters"]) X G a5 l5 c5 k5 (fun _ _ _ _ _ _ us hl => match us, hl with | [_], _ => rfl),
    strictly_decreases := D1.mk' (ps := ["letters"]) X G a6 l6 c6 k6 (fun _ _ _ _ _ _ us hl => match us, hl with | [_], _ => rfl),
    law_cell := D1.mk' (ps := ["script", "k"]) X G a7 l7 c7 k7 (fun _ _ _ _ _ _ us hl => match us, hl with | [_, _], _ => rfl),
    law_stream := D1.mk' (ps := ["cell"]) X G a8 l8 c8 k8 (fun _ _ _ _ _ _ us hl => match us, hl with | [_], _ => rfl),
    law_next := D1.mk' (ps := ["stream", "size"]) X G a9 l9 c9 k9 (fun _ _ _ _ _ _ us hl => match us, hl with | [_, _], _ => rfl),
    law_is_integer := D1.mk' (ps := ["actual"]) X G a10 l10 c10 k10 (fun _ _ _ _ _ _ us hl => match us, hl with | [_], _ => rfl),
    law_word := D1.mk' (ps := ["stream", "most"]) X G a11 l11 c11 k11 (fun _ _ _ _ _ _ us hl => match us, hl with | [_, _], _ => rfl),
    law_is_family := D1.mk' (ps := ["word", "family", "falls"]) X G a12 l12 c12 k12 (fun _ _ _ _ _ _ us hl => match us, hl with | [_, _, _], _ => rfl),
    law_cover := D1.mk' (ps := ["family"]) X G a13 l13 c13 k13 (fun _ _ _ _ _ _ us hl => match us, hl with | [_], _ => rfl),
    law_drawn_family := D1.mk' (ps := ["stream", "word", "falls", "most"]) X G a14 l14 c14 k14 (fun _ _ _ _ _ _ us hl => match us, hl with | [_, _, _, _], _ => rfl),
    law_spoilt := D1.mk' (ps := ["stream", "word", "family"]) X G a15 l15 c15 k15 (fun _ _ _ _ _ _ us hl => match us, hl with | [_, _, _], _ => rfl),
    all := PySem.W.mg_none_of X G z0,
    bool := PySem.W.mg_none_of X G z1,
    int := PySem.W.mg_none_of X G z2,
    isinstance := PySem.W.mg_none_of X G z3,
    len := PySem.W.mg_none_of X G z4,
    list := PySem.W.mg_none_of X G z5,
    range := PySem.W.mg_none_of X G z6,
    sum := PySem.W.mg_none_of X G z7,
    zip := PySem.W.mg_none_of X G z8 }
  exact ⟨PySem.W.fnOf "law" "law" (defArgs s_law) (defBody s_law) (defScope s_law) .none kV16 dc16 pm16 an16 cd16 ct16, fun s v => .of_eq rfl, fun base _ _ => ok_law T FL⟩
end CP
open PySem PySem.W PyProof.Rows
set_option maxRecDepth 100000 in
set_option maxHeartbeats 0 in
theorem PySem.Challenge.cw_coverpapers_k01_families_and_covers_holds : PySem.Challenge.rw_coverpapers_k01_families_and_covers.Holds := by
  w_on; o_law; k_head; (case hw => w_witness2)
  k_fill
  refine L2.walk_of (l := PySem.Challenge.rw_coverpapers_k01_families_and_covers) (n := 63) (k := 6) (x := "script") (CX := fun _ => L2.CX0) (sp := fun w => CP.spLaw _) rfl (by decide) rfl ⟨rfl, by decide, by decide⟩ (fun w h Y => PySem.W.kIn_of Y) ?F (fun _ _ a ns hl hO hS => CP.law_end hl hO hS) (fun _ _ _ _ _ h => h)
  case F =>
    intro w mg fa h KX G hmg
    refine' CP.all_mk KX G hmg ?a1 ?l1 ?c1 ?k1 ?a2 ?l2 ?c2 ?k2 ?a3 ?l3 ?c3 ?k3 ?a4 ?l4 ?c4 ?k4 ?a5 ?l5 ?c5 ?k5 ?a6 ?l6 ?c6 ?k6 ?a7 ?l7 ?c7 ?k7 ?a8 ?l8 ?c8 ?k8 ?a9 ?l9 ?c9 ?k9 ?a10 ?l10 ?c10 ?k10 ?a11 ?l11 ?c11 ?k11 ?a12 ?l12 ?c12 ?k12 ?a13 ?l13 ?c13 ?k13 ?a14 ?l14 ?c14 ?k14 ?a15 ?l15 ?c15 ?k15 ?a16 ?l16 ?c16 ?k16 ?z0 ?z1 ?z2 ?z3 ?z4 ?z5 ?z6 ?z7 ?z8
    (case a1 => k_is)
    (case l1 => k_is)
    (case c1 => k_is)
    (case k1 => k_is)
    (case a2 => k_is)
    (case l2 => k_is)
    (case c2 => k_is)
    (case k2 => k_is)
    (case a3 => k_is)
    (case l3 => k_is)
    (case c3 => k_is)
    (case k3 => k_is)
    (case a4 => k_is)
    (case l4 => k_is)
    (case c4 => k_is)
    (case k4 => k_is)
    (case a5 => k_is)
    (case l5 => k_is)
    (case c5 => k_is)
    (case k5 => k_is)
    (case a6 => k_is)
    (case l6 => k_is)
    (case c6 => k_is)
    (case k6 => k_is)
    (case a7 => k_is)
    (case l7 => k_is)
    (case c7 => k_is)
    (case k7 => k_is)
    (case a8 => k_is)
    (case l8 => k_is)
    (case c8 => k_is)
    (case k8 => k_is)
    (case a9 => k_is)
    (case l9 => k_is)
    (case c9 => k_is)
    (case k9 => k_is)
    (case a10 => k_is)
    (case l10 => k_is)
    (case c10 => k_is)
    (case k10 => k_is)
    (case a11 => k_is)
    (case l11 => k_is)
    (case c11 => k_is)
    (case k11 => k_is)
    (case a12 => k_is)
    (case l12 => k_is)
    (case c12 => k_is)
    (case k12 => k_is)
    (case a13 => k_is)
    (case l13 => k_is)
    (case c13 => k_is)
    (case k13 => k_is)
    (case a14 => k_is)
    (case l14 => k_is)
    (case c14 => k_is)
    (case k14 => k_is)
    (case a15 => k_is)
    (case l15 => k_is)
    (case c15 => k_is)
    (case k15 => k_is)
    (case a16 => k_is)
    (case l16 => k_is)
    (case c16 => k_is)
    (case k16 => k_is)
    (case z0 => k_is)
    (case z1 => k_is)
    (case z2 => k_is)
    (case z3 => k_is)
    (case z4 => k_is)
    (case z5 => k_is)
    (case z6 => k_is)
    (case z7 => k_is)
    (case z8 => k_is)

