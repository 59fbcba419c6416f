import PyProof.Rows.All
import Wide.All
import OpenK.AllK
import Wide.FinOn
import HandS.ForMost
import HandS.ForExc
import HandS.Evl
import HandS.Wide
import HandS.IsInst
import HandS.ExcIs
import HandS.TryOnly
import HandS.WordsExc
import HandS.Conv
import HandS.Deep
import HandS.SortInts
import PySem.Challenge.RW_coverpapers_k03_moves
set_option Elab.async false
set_option linter.all false
set_option maxRecDepth 100000
set_option maxHeartbeats 4000000
namespace CP
open PySem PySem.Spec PyProof.Rows L2
open Evl (Ex RetV RetL)
def topS (i : Nat) : Stmt := PySem.Challenge.pw_coverpapers_k03_moves.main.body.getD i (.Pass ⟨0, 0, 0, 0⟩)
abbrev s_allowed_moves : Stmt := topS 6
abbrev N_allowed_moves : List Str := ["word", "index", "side"]
theorem sc_allowed_moves : FnScope N_allowed_moves ["word"] (defScope s_allowed_moves) := ⟨rfl, rfl, rfl, by decide +kernel, rfl, by decide +kernel, by decide +kernel⟩
abbrev s_make_move : Stmt := topS 7
abbrev N_make_move : List Str := ["word", "move", "index", "side", "place", "after"]
theorem sc_make_move : FnScope N_make_move ["word", "move"] (defScope s_make_move) := ⟨rfl, rfl, rfl, by decide +kernel, rfl, by decide +kernel, by decide +kernel⟩
abbrev s_is_allowed : Stmt := topS 8
abbrev N_is_allowed : List Str := ["word", "index", "side", "a", "b", "c"]
theorem sc_is_allowed : FnScope N_is_allowed ["word", "index", "side"] (defScope s_is_allowed) := ⟨rfl, rfl, rfl, by decide +kernel, rfl, by decide +kernel, by decide +kernel⟩
abbrev s_law_cell : Stmt := topS 10
abbrev N_law_cell : List Str := ["script", "k"]
theorem sc_law_cell : FnScope N_law_cell ["script", "k"] (defScope s_law_cell) := ⟨rfl, rfl, rfl, by decide +kernel, rfl, by decide +kernel, by decide +kernel⟩
abbrev s_law_stream : Stmt := topS 11
abbrev N_law_stream : List Str := ["cell"]
theorem sc_law_stream : FnScope N_law_stream ["cell"] (defScope s_law_stream) := ⟨rfl, rfl, rfl, by decide +kernel, rfl, by decide +kernel, by decide +kernel⟩
abbrev s_law_next : Stmt := topS 12
abbrev N_law_next : List Str := ["stream", "size", "drawn", "mixed"]
theorem sc_law_next : FnScope N_law_next ["stream", "size"] (defScope s_law_next) := ⟨rfl, rfl, rfl, by decide +kernel, rfl, by decide +kernel, by decide +kernel⟩
abbrev s_law_is_integer : Stmt := topS 13
abbrev N_law_is_integer : List Str := ["actual"]
theorem sc_law_is_integer : FnScope N_law_is_integer ["actual"] (defScope s_law_is_integer) := ⟨rfl, rfl, rfl, by decide +kernel, rfl, by decide +kernel, by decide +kernel⟩
abbrev s_law_word : Stmt := topS 14
abbrev N_law_word : List Str := ["stream", "most", "count", "kind", "size", "low", "word", "k"]
theorem sc_law_word : FnScope N_law_word ["stream", "most"] (defScope s_law_word) := ⟨rfl, rfl, rfl, by decide +kernel, rfl, by decide +kernel, by decide +kernel⟩
abbrev s_law_is_allowed : Stmt := topS 15
abbrev N_law_is_allowed : List Str := ["word", "index", "side", "a", "b", "c"]
theorem sc_law_is_allowed : FnScope N_law_is_allowed ["word", "index", "side"] (defScope s_law_is_allowed) := ⟨rfl, rfl, rfl, by decide +kernel, rfl, by decide +kernel, by decide +kernel⟩
abbrev s_law_allowed : Stmt := topS 16
abbrev N_law_allowed : List Str := ["word", "found", "index", "side"]
theorem sc_law_allowed : FnScope N_law_allowed ["word"] (defScope s_law_allowed) := ⟨rfl, rfl, rfl, by decide +kernel, rfl, by decide +kernel, by decide +kernel⟩
abbrev s_law_moved : Stmt := topS 17
abbrev N_law_moved : List Str := ["word", "move", "place", "told"]
theorem sc_law_moved : FnScope N_law_moved ["word", "move"] (defScope s_law_moved) := ⟨rfl, rfl, rfl, by decide +kernel, rfl, by decide +kernel, by decide +kernel⟩
abbrev s_law_is_word : Stmt := topS 18
abbrev N_law_is_word : List Str := ["actual", "letter"]
theorem sc_law_is_word : FnScope N_law_is_word ["actual"] (defScope s_law_is_word) := ⟨rfl, rfl, rfl, by decide +kernel, rfl, by decide +kernel, by decide +kernel⟩
abbrev s_law_refused : Stmt := topS 19
abbrev N_law_refused : List Str := ["word", "move", "e"]
theorem sc_law_refused : FnScope N_law_refused ["word", "move"] (defScope s_law_refused) := ⟨rfl, rfl, rfl, by decide +kernel, rfl, by decide +kernel, by decide +kernel⟩
abbrev s_law : Stmt := topS 20
abbrev N_law : List Str := ["script", "stream", "most", "word", "handed", "allowed", "actual", "index", "side", "move", "after", "far"]
theorem sc_law : FnScope N_law ["script"] (defScope s_law) := ⟨rfl, rfl, rfl, by decide +kernel, rfl, by decide +kernel, by decide +kernel⟩
/-! ### a def of the top, a class of errors -/
structure D1 (K : PySem.W.Frag) (mg : Str → Option Value) (x : Str) (st : Stmt) (ps : List Str) where
  f : Addr
  fd : FuncData
  F : Fun K x x st f fd
  g : mg x = some (.ref f)
  b : Binds K fd ps []
def D1.mk' {K : PySem.W.Frag} {h : Heap} {mg : Str → Option Value} (X : K.In h) (G : h.Ns mainGlobals mg) {x : Str} {st : Stmt} {ps : List Str} {f : Addr} {oc : Value} {od an : Option Addr} {osl : Array (Option Value)} {kV doc pm cdv ct : Value}
    (a : PySem.W.nsIn K mainGlobals x = some (some (.ref f))) (l : K.lookup f = some ⟨oc, od, .func (PySem.W.fnOf x x (defArgs st) (defBody st) (defScope st) .none kV doc pm an cdv ct), osl⟩) (c : PySem.W.codeIn K cdv x = true) (k : PySem.W.keepIn K (.ref f) = true)
    (hb : ∀ (kV doc pm : Value) (an : Option Addr) (cdv ct : Value) (us : List Value), us.length = ps.length → bindArgs (PySem.W.fnOf x x (defArgs st) (defBody st) (defScope st) .none kV doc pm an cdv ct) ⟨us, []⟩ = pure (ps.zip us)) : D1 K mg x st ps :=
  ⟨f, _, fun_mk l c k, PySem.W.mg_of X G a, (fun_mk l c k).binds hb⟩
structure ErrC (K : PySem.W.Frag) (mg : Str → Option Value) (x : Str) where
  C : Addr
  g : mg x = some (.ref C)
  x : PySem.W.excIn K C [.type "ValueError", .type "Exception", .type "BaseException", .type "object"] "ValueError.__new__" = true
  k : PySem.W.keepIn K (.ref C) = true
  b : PySem.W.subIn K (.ref C) (.type "BaseException") = some true
  t : PySem.W.typeIn K (.ref C) = some (.type "type")
  e : PySem.W.exmOne K (.ref C) (.ref C) = some true
  hg : PySem.W.findIn K (.ref C) "__getattribute__" = some (some (.builtin "BaseException.__getattribute__"))
  hk : PySem.W.findIn K (.ref C) "__getattr__" = some none
  hd : PySem.W.hasDictIn K C = true
  ha : PySem.W.findIn K (.ref C) "__class__" = some (some (.builtin "object.__class__"))
  hn : PySem.W.specialIn K (.builtin "object.__class__") "__get__" = some (some (.builtin "getset_descriptor.__get__"))
  ht : PySem.W.takesIn K (.builtin "object.__class__") = some true
  hm : PySem.W.mroIn K C (.type "object") = some true
  kv : PySem.W.kitOne K (.ref C) (.type "ValueError") = some true
theorem ErrC.c {K : PySem.W.Frag} {mg : Str → Option Value} {x : Str} (e : ErrC K mg x) : ExcC K e.C := ⟨e.hg, e.hk, e.b, e.hd, e.ha, e.hn, e.ht, e.hm⟩
theorem hr65 {k : Nat} {A : Around} (hr : Room k A) : A.units + 65 < cLine := by
  have := hr.un
  omega
theorem pss_when {X : Cx} {p : Prop} {body : List Stmt} {t : TS} (h : p → PSs X body t) : PSs X body (fun D σ H => p ∧ t D σ H) := ⟨fun pins s σ H D I hh => (h hh.1).run pins s σ H D I hh.2⟩
theorem exm_self {K : PySem.W.Frag} {S : Addr} (h1 : PySem.W.subIn K (.ref S) (.type "BaseException") = some true) (h2 : PySem.W.isClsIn K S = true) (h3 : PySem.W.typeIn K (.ref S) = some (.type "type")) (h4 : PySem.W.subIn K (.ref S) (.ref S) = some true) :
    PySem.W.exmOne K (.ref S) (.ref S) = some true := by
  have e1 : (PySem.W.subIn K (.ref S) (.type "BaseException") == some true) = true := by rw [h1] <;> rfl
  have e2 : ((PySem.W.clsIn K S).isSome && PySem.W.typeIn K (.ref S) == some (.type "type")) = true := by
    have h2' : (PySem.W.clsIn K S).isSome = true := h2
    rw [h2', h3] <;> rfl
  show (if (PySem.W.subIn K (.ref S) (.type "BaseException") == some true) = true then (if ((PySem.W.clsIn K S).isSome && PySem.W.typeIn K (.ref S) == some (.type "type")) = true then PySem.W.subIn K (.ref S) (.ref S) else none) else none) = some true
  rw [if_pos e1, if_pos e2]
  exact h4
theorem kit_sub {K : PySem.W.Frag} {A B : Addr} {r : Bool} (n : (Value.ref A == Value.ref B) = false) (h : PySem.W.subIn K (.ref A) (.ref B) = some r) (i : PySem.W.isClsIn K B = true) (t : PySem.W.typeIn K (.ref B) = some (.type "type")) : PySem.W.kitOne K (.ref A) (.ref B) = some r := by
  unfold PySem.W.kitOne
  rw [n, if_neg Bool.false_ne_true]
  show (if ((PySem.W.clsIn K B).isSome && PySem.W.typeIn K (.ref B) == some (.type "type")) = true then PySem.W.subIn K (.ref A) (.ref B) else none) = some r
  have i' : (PySem.W.clsIn K B).isSome = true := i
  rw [i', t]
  exact h
theorem kit_val {K : PySem.W.Frag} {A : Addr} (h : PySem.W.subIn K (.ref A) (.type "ValueError") = some true) : PySem.W.kitOne K (.ref A) (.type "ValueError") = some true := by
  unfold PySem.W.kitOne
  rw [show (Value.ref A == Value.type "ValueError") = false from rfl, if_neg Bool.false_ne_true]
  show (if PySem.W.kitMeta "ValueError" = true then PySem.W.subIn K (.ref A) (.type "ValueError") else none) = some true
  rw [if_pos (by decide +kernel)]
  exact h
structure Txt (K : PySem.W.Frag) (mg : Str → Option Value) where
  allowed_moves : D1 K mg "allowed_moves" s_allowed_moves ["word"]
  make_move : D1 K mg "make_move" s_make_move ["word", "move"]
  is_allowed : D1 K mg "_is_allowed" s_is_allowed ["word", "index", "side"]
  law_cell : D1 K mg "_law_cell" s_law_cell ["script", "k"]
  law_stream : D1 K mg "_law_stream" s_law_stream ["cell"]
  law_next : D1 K mg "_law_next" s_law_next ["stream", "size"]
  law_is_integer : D1 K mg "_law_is_integer" s_law_is_integer ["actual"]
  law_word : D1 K mg "_law_word" s_law_word ["stream", "most"]
  law_is_allowed : D1 K mg "_law_is_allowed" s_law_is_allowed ["word", "index", "side"]
  law_allowed : D1 K mg "_law_allowed" s_law_allowed ["word"]
  law_moved : D1 K mg "_law_moved" s_law_moved ["word", "move"]
  law_is_word : D1 K mg "_law_is_word" s_law_is_word ["actual"]
  law_refused : D1 K mg "_law_refused" s_law_refused ["word", "move"]
  ValueError : mg "ValueError" = none
  bool : mg "bool" = none
  int : mg "int" = none
  isinstance : mg "isinstance" = none
  len : mg "len" = none
  list : mg "list" = none
  max : mg "max" = none
  min : mg "min" = none
  range : mg "range" = none
  LEFT_t : Tok
  LEFT : mg "LEFT" = some (.str "left" LEFT_t)
  RIGHT_t : Tok
  RIGHT : mg "RIGHT" = some (.str "right" RIGHT_t)
  CoverError : ErrC K mg "CoverError"
  WrongMove : ErrC K mg "WrongMove"
  CoverError_WrongMove : PySem.W.kitOne K (.ref CoverError.C) (.ref WrongMove.C) = some false
  WrongMove_CoverError : PySem.W.kitOne K (.ref WrongMove.C) (.ref CoverError.C) = some true
/-! ### heaps: all but one kept; the stream -/
def Kp (a : Addr) (H H' : Hp) : Prop := ∀ b o, b ≠ a → H b = some o → H' b = some o
theorem Kp.refl (a : Addr) (H : Hp) : Kp a H H := fun _ _ _ h => h
theorem Kp.trans {a : Addr} {H H1 H2 : Hp} (x : Kp a H H1) (y : Kp a H1 H2) : Kp a H H2 := fun b o n h => y b o n (x b o n h)
theorem Kp.upd {a : Addr} {H H1 : Hp} {o : HO} (x : Kp a H H1) : Kp a H (L2.upd H1 a o) := fun b u n h => by
  rw [upd_ne n]
  exact x b u n h
theorem Kp.free {a : Addr} {H H1 : Hp} (x : Kp a H H1) {b : Addr} (n : b ≠ a) (h : H1 b = none) : H b = none := by
  cases e : H b with
  | none => rfl
  | some o =>
    rw [x b o n e] at h
    cases h
theorem Kp.of {a : Addr} {H H1 : Hp} (x : Ex H H1) : Kp a H H1 := fun b o _ h => x b o h
theorem Kp.new {a : Addr} {H H1 : Hp} {p : Addr} {o : HO} (x : Kp a H H1) (np : H1 p = none) : Kp a H (L2.upd H1 p o) := fun b u n h => by
  have h1 := x b u n h
  rw [upd_ne (ne_of_none h1 np)]
  exact h1
/-- an object that the first heap didn't know changes -/
theorem Kp.mut {a : Addr} {H H1 : Hp} {p : Addr} {o : HO} (x : Kp a H H1) (np : H p = none) : Kp a H (L2.upd H1 p o) := fun b u n h => by
  rw [upd_ne (ne_of_none h np)]
  exact x b u n h
theorem Kp.seq {K : PySem.W.Frag} {a : Addr} {H H1 : Hp} (x : Kp a H H1) {p : Addr} {xs : List V} (n : p ≠ a) (h : SqL K H p xs) : SqL K H1 p xs := by
  rcases h with (h | ⟨o, h⟩) | h
  · exact .inl (.inl (x _ _ n h))
  · exact .inl (.inr ⟨o, x _ _ n h⟩)
  · exact .inr h
def Strm (H : Hp) (a : Addr) : Prop := ∃ s0 s1 s2 : Int, H a = some (.lst [.int s0, .int s1, .int s2])
theorem Strm.some {H : Hp} {a : Addr} (h : Strm H a) : ∃ o, H a = some o := by
  obtain ⟨_, _, _, e⟩ := h
  exact ⟨_, e⟩
theorem Strm.ne {H : Hp} {a p : Addr} (h : Strm H a) (np : H p = none) : p ≠ a := fun e => by
  obtain ⟨_, _, _, q⟩ := h
  rw [e, q] at np
  cases np
theorem Strm.new {H : Hp} {a p : Addr} {o : HO} (h : Strm H a) (np : H p = none) : Strm (upd H p o) a := by
  obtain ⟨s0, s1, s2, q⟩ := h
  exact ⟨s0, s1, s2, by rw [upd_ne (ne_of_none q np)]; exact q⟩
theorem Strm.off {H : Hp} {a p : Addr} {o : HO} (h : Strm H a) (n : a ≠ p) : Strm (upd H p o) a := by
  obtain ⟨s0, s1, s2, q⟩ := h
  exact ⟨s0, s1, s2, by rw [upd_ne n]; exact q⟩
theorem Strm.ex {H H' : Hp} {a : Addr} (h : Strm H a) (x : Ex H H') : Strm H' a := by
  obtain ⟨s0, s1, s2, q⟩ := h
  exact ⟨s0, s1, s2, x _ _ q⟩
theorem ifT {c : Bool} {A B : Prop} (hc : c = true) (h : A) : if c = true then A else B := by
  rw [if_pos hc]
  exact h
theorem ifF {c : Bool} {A B : Prop} (hc : c = false) (h : B) : if c = true then A else B := by
  rw [hc, if_neg Bool.false_ne_true]
  exact h
theorem sz {n : Nat} (h : n ≤ 100000) : n ≤ sizeLine := Nat.le_trans h (by decide)
theorem szl {n : Nat} (h : n < 100000) : n < sizeLine := Nat.lt_of_lt_of_le h (by decide)
theorem mapAt {ws : List Int} {j : Nat} {x : Int} (h : ws[j]? = some x) : (ws.map V.int)[j]? = some (.int x) := by
  rw [List.getElem?_map, h]
  rfl
theorem mapAt' {ws : List Int} {j : Nat} {v : V} (h : (ws.map V.int)[j]? = some v) : ∃ x, ws[j]? = some x ∧ v = .int x := by
  rw [List.getElem?_map] at h
  cases e : ws[j]? with
  | none => rw [e] at h; cases h
  | some x => rw [e] at h; exact ⟨x, rfl, (Option.some.inj h).symm⟩
section
variable {P : Program} {w : World} {K : PySem.W.Frag} {mg : Str → Option Value} {base : Heap}
/-! ### what every law draws -/
def spCell (K : PySem.W.Frag) : Sp := fun vs H Q _ => ∃ (a : Addr) (ns : List Int) (k : Nat), vs = [.ref a, .int (k : Int)] ∧ SqL K H a (ns.map V.int) ∧ ∀ c : Int, Q (.int c) H
theorem ok_law_cell (T : Txt K mg) : FnOk P w K mg base CX0 1 T.law_cell.f T.law_cell.fd ["script", "k"] (spCell K) := by
  refine T.law_cell.F.ok sc_law_cell (fun vs H Q E h => ?_) (fun cdv A outer s H vs Q E hr h => ?_)
  · obtain ⟨a, ns, k, rfl, _⟩ := h
    rfl
  · obtain ⟨a, ns, k, rfl, hS, q⟩ := h
    refine ⟨_, (pss_cons (ps_if (pt_cmpR op_lt (pv 1) (pe_callB call_len_seq (by rfl) T.len PySem.boot_len (pa_cons (pv 0) pa_nil)) (nomark _))
      (pss_one (ps_ret (pe_ix ix_list (pv 0) (pv 1) (fun _ _ => rfl))))
      pss_nil)
      (pss_one (ps_ret pe_int))), ?_⟩
    refine ⟨_, rfl, _, rfl, a, _, rfl, .inl hS, _, _, rfl, rfl, _, rfl, ite2 (fun c => ?_) (fun c => ?_)⟩
    · have c1 := of_decide_eq_true c
      have c2 : k < ns.length := by rw [List.length_map] at c1; omega
      exact ⟨_, rfl, _, rfl, a, _, _, _, rfl, rfl, hS, atI_nat (mapAt (List.getElem?_eq_getElem c2)), q _⟩
    · exact q 0
def spStream : Sp := fun vs H Q _ => ∃ c : Int, vs = [.int c] ∧ ∀ (p : Addr) (s0 s1 s2 : Int), H p = none → Q (.ref p) (upd H p (.lst [.int s0, .int s1, .int s2]))
theorem ok_law_stream (T : Txt K mg) : FnOk P w K mg base CX0 1 T.law_stream.f T.law_stream.fd ["cell"] spStream := by
  refine T.law_stream.F.ok sc_law_stream (fun vs H Q E h => ?_) (fun cdv A outer s H vs Q E hr h => ?_)
  · obtain ⟨c, rfl, _⟩ := h
    rfl
  · obtain ⟨c, rfl, q⟩ := h
    refine ⟨_, (pss_cons (ps_if (pt_cmpR op_ge (pv 0) (pe_op op_pow pe_int pe_int) (nomark _))
      (pss_one (ps_ret (pe_lst (pa_cons (pv 0) (pa_cons pe_int (pa_cons (pe_op op_mod (pe_callTy call_int1 (by rfl) T.int (by decide +kernel) (pa_cons (pv 0) pa_nil)) pe_int) pa_nil))))))
      pss_nil)
      (pss_one (ps_ret (pe_lst (pa_cons pe_int (pa_cons pe_int (pa_cons (pe_op op_mod (pe_callTy call_int1 (by rfl) T.int (by decide +kernel) (pa_cons (pv 0) pa_nil)) pe_int) pa_nil))))))), ?_⟩
    refine ⟨_, rfl, _, _, rfl, rfl, ⟨by decide, by decide, by decide⟩, _, _, rfl, rfl, _, rfl, ite2 (fun _ => ?_) (fun _ => ?_)⟩
    · exact ⟨_, rfl, _, rfl, .inl ⟨_, rfl, _, _, rfl, rfl, (by show (0 : Int) < _; decide), (by show 3 ≤ sizeLine; decide), fun p np => q p _ _ _ np⟩⟩
    · exact ⟨_, rfl, .inl ⟨_, rfl, _, _, rfl, rfl, (by show (0 : Int) < _; decide), (by show 3 ≤ sizeLine; decide), fun p np => q p _ _ _ np⟩⟩
def spNext : Sp := fun vs H Q _ => ∃ (a : Addr) (n : Int), vs = [.ref a, .int n] ∧ Strm H a ∧ 0 < n ∧ n < 2 ^ 200 ∧ ∀ (d : Int) (H' : Hp), 0 ≤ d → d < n → Strm H' a → Kp a H H' → Q (.int d) H'
theorem ok_law_next (T : Txt K mg) : FnOk P w K mg base CX0 1 T.law_next.f T.law_next.fd ["stream", "size"] spNext := by
  refine T.law_next.F.ok sc_law_next (fun vs H Q E h => ?_) (fun cdv A outer s H vs Q E hr h => ?_)
  · obtain ⟨a, n, rfl, _⟩ := h
    rfl
  · obtain ⟨a, n, rfl, ⟨s0, s1, s2, hH⟩, n0, n1, q⟩ := h
    have nb : n.natAbs < 2 ^ 200 := by
      have : (n.natAbs : Int) < 2 ^ 200 := by omega
      exact_mod_cast this
    refine ⟨_, (pss_cons (ps_if (pt_cmpR op_gt (pe_ix ix_list (pv 0) pe_int (fun _ _ => rfl)) pe_int (nomark _))
      (pss_cons (ps_set (i := 2) sc_law_next.nd rfl (.inl rfl) (pe_op op_mod (pe_callTy call_int1 (by rfl) T.int (by decide +kernel) (pa_cons (pe_ix ix_list (pv 0) pe_int (fun _ _ => rfl)) pa_nil)) (pv 1)))
        (pss_cons (ps_asg (pe_op op_fdivW (pe_ix ix_list (pv 0) pe_int (fun _ _ => rfl)) (pv 1)) (pg_sub (pv 0) pe_int set_list))
        (pss_one (ps_ret (pv 2)))))
      pss_nil)
      (pss_cons (ps_asg (pe_op op_add (pe_ix ix_list (pv 0) pe_int (fun _ _ => rfl)) pe_int) (pg_sub (pv 0) pe_int set_list))
      (pss_cons (ps_set (i := 3) sc_law_next.nd rfl (.inl rfl) (pe_op op_mod (pe_callTy call_int1 (by rfl) T.int (by decide +kernel) (pa_cons (pe_op op_add (pe_op op_mul (pe_ix ix_list (pv 0) pe_int (fun _ _ => rfl)) pe_int) (pe_op op_mul (pe_ix ix_list (pv 0) pe_int (fun _ _ => rfl)) pe_int)) pa_nil)) pe_int))
      (pss_cons (ps_set (i := 3) sc_law_next.nd rfl (.inl rfl) (pe_op op_mod (pe_callTy call_int1 (by rfl) T.int (by decide +kernel) (pa_cons (pe_op op_add (pe_op op_mul (pv 3) (pv 3)) (pe_op op_mul (pe_ix ix_list (pv 0) pe_int (fun _ _ => rfl)) pe_int)) pa_nil)) pe_int))
      (pss_cons (ps_set (i := 3) sc_law_next.nd rfl (.inl rfl) (pe_op op_mod (pe_callTy call_int1 (by rfl) T.int (by decide +kernel) (pa_cons (pe_op op_add (pe_op op_mul (pv 3) pe_int) (pe_ix ix_list (pv 0) pe_int (fun _ _ => rfl))) pa_nil)) pe_int))
      (pss_one (ps_ret (pe_op op_mod (pe_callTy call_int1 (by rfl) T.int (by decide +kernel) (pa_cons (pv 3) pa_nil)) (pv 1))))))))), ?_⟩
    refine ⟨_, rfl, a, _, _, _, rfl, rfl, SqL.of hH, atI_nat (j := 0) rfl, _, _, rfl, rfl, _, rfl, ite2 (fun _ => ?_) (fun _ => ?_)⟩
    · refine ⟨_, rfl, a, _, _, _, rfl, rfl, SqL.of hH, atI_nat (j := 0) rfl, .inl ⟨_, rfl, _, rfl, _, _, rfl, rfl, n0, ?_⟩⟩
      refine ⟨_, rfl, a, _, _, _, rfl, rfl, SqL.of hH, atI_nat (j := 0) rfl, _, rfl, _, _, rfl, rfl, wide_div n0 nb (by decide) (by decide), ?_⟩
      refine ⟨_, rfl, a, _, _, 0, rfl, rfl, hH, rfl, ?_⟩
      refine ⟨_, rfl, ?_⟩
      exact q _ _ (Int.emod_nonneg _ (by omega)) (Int.emod_lt_of_pos _ n0) ⟨_, _, _, upd_same⟩ (Kp.refl a H).upd
    · refine ⟨_, rfl, a, _, _, _, rfl, rfl, SqL.of hH, atI_nat (j := 1) rfl, _, _, rfl, rfl, _, rfl, a, _, _, 1, rfl, rfl, hH, rfl, ?_⟩
      have h1 : (upd H a (.lst [.int s0, .int (s1 + 1), .int s2])) a = some (.lst [.int s0, .int (s1 + 1), .int s2]) := upd_same
      -- mixed = int(stream[2] * 48271 + stream[1] * 69621) % 2147483647
      refine ⟨_, rfl, a, _, _, _, rfl, rfl, SqL.of h1, atI_nat (j := 2) rfl, _, _, rfl, rfl, .inr ⟨by decide, by decide⟩, _, rfl, a, _, _, _, rfl, rfl, SqL.of h1, atI_nat (j := 1) rfl, _, _, rfl, rfl, .inr ⟨by decide, by decide⟩, _, _, rfl, rfl, .inl ⟨_, rfl, _, _, rfl, rfl, (by show (0 : Int) < _; decide), ?_⟩⟩
      -- mixed = int(mixed * mixed + stream[1] * 40692) % 2147483399
      have b1 := Int.emod_nonneg (s2 * 48271 + (s1 + 1) * 69621) (show (2147483647 : Int) ≠ 0 by decide)
      have b2 := Int.emod_lt_of_pos (s2 * 48271 + (s1 + 1) * 69621) (show (0 : Int) < 2147483647 by decide)
      refine ⟨_, rfl, _, rfl, _, _, rfl, rfl, .inl ⟨by omega, by omega⟩, _, rfl, a, _, _, _, rfl, rfl, SqL.of h1, atI_nat (j := 1) rfl, _, _, rfl, rfl, .inr ⟨by decide, by decide⟩, _, _, rfl, rfl, .inl ⟨_, rfl, _, _, rfl, rfl, (by show (0 : Int) < _; decide), ?_⟩⟩
      -- mixed = int(mixed * 16807 + stream[2]) % 2147483647
      refine ⟨_, rfl, _, _, rfl, rfl, .inr ⟨by decide, by decide⟩, _, rfl, a, _, _, _, rfl, rfl, SqL.of h1, atI_nat (j := 2) rfl, _, _, rfl, rfl, .inl ⟨_, rfl, _, _, rfl, rfl, (by show (0 : Int) < _; decide), ?_⟩⟩
      refine ⟨_, rfl, .inl ⟨_, rfl, _, rfl, _, _, rfl, rfl, n0, ?_⟩⟩
      exact q _ _ (Int.emod_nonneg _ (by omega)) (Int.emod_lt_of_pos _ n0) ⟨_, _, _, upd_same⟩ (Kp.refl a H).upd
end

theorem kinds (k : Int) (h0 : 0 ≤ k) (h1 : k < 6) : ∃ s l : Int, atI [V.int 2, .int 3, .int 6, .int 20, .int (10 ^ (15 : Int).toNat), .int (10 ^ (30 : Int).toNat)] k = some (.int s) ∧
    atI [V.int 1, .int 1, .int 0, .int (-9), .int (-(10 ^ (14 : Int).toNat)), .int (-(10 ^ (29 : Int).toNat))] k = some (.int l) ∧ 0 < s ∧ l + s ≤ 10 ^ 30 ∧ -(10 ^ 29) ≤ l ∧ s ≤ 10 ^ 30 := by
  have c : k = 0 ∨ k = 1 ∨ k = 2 ∨ k = 3 ∨ k = 4 ∨ k = 5 := by omega
  rcases c with rfl | rfl | rfl | rfl | rfl | rfl <;> exact ⟨_, _, rfl, rfl, by decide, by decide, by decide, by decide⟩
/-- the letters that a law draws -/
def Lets (ws : List Int) : Prop := ∀ x ∈ ws, -(10 ^ 30) - 1000 ≤ x ∧ x ≤ 10 ^ 30 + 1000
theorem lets_of {ws : List Int} {b : Nat} (h : ∀ x ∈ ws, -(10 ^ 30) - (b : Int) ≤ x ∧ x ≤ 10 ^ 30 + (b : Int)) (hb : b ≤ 1000) : Lets ws := fun x hx => by
  have := h x hx
  omega
section
variable {P : Program} {w : World} {K : PySem.W.Frag} {mg : Str → Option Value} {base : Heap}
def spWord : Sp := fun vs H Q _ => ∃ (a : Addr) (m : Nat), vs = [.ref a, .int (m : Int)] ∧ m ≤ 1000 ∧ Strm H a ∧
  ∀ (p : Addr) (ws : List Int) (H' : Hp), ws.length ≤ m → Lets ws → H p = none → p ≠ a → H' p = some (.lst (ws.map V.int)) → Strm H' a → Kp a H H' → Q (.ref p) H'
theorem ok_law_word (T : Txt K mg) : FnOk P w K mg base CX0 2 T.law_word.f T.law_word.fd ["stream", "most"] spWord := by
  refine T.law_word.F.ok sc_law_word (fun vs H Q E h => ?_) (fun cdv A outer s H vs Q E hr h => ?_)
  · obtain ⟨a, m, rfl, _⟩ := h
    rfl
  · obtain ⟨a, m, rfl, hm, S0, q⟩ := h
    refine ⟨_, (pss_cons (ps_set (i := 2) sc_law_word.nd rfl (.inl rfl) (pe_call (ok_law_next T) (hr.mono (by decide)) rfl T.law_next.g T.law_next.F.kp T.law_next.b .nil pass0 (pa_cons (pv 0) (pa_cons (pe_op op_add (pv 1) pe_int) pa_nil))))
      (pss_cons (ps_set (i := 3) sc_law_word.nd rfl (.inl rfl) (pe_call (ok_law_next T) (hr.mono (by decide)) rfl T.law_next.g T.law_next.F.kp T.law_next.b .nil pass0 (pa_cons (pv 0) (pa_cons pe_int pa_nil))))
      (pss_cons (ps_set (i := 4) sc_law_word.nd rfl (.inl rfl) (pe_ix ix_list (pe_lst (pa_cons pe_int (pa_cons pe_int (pa_cons pe_int (pa_cons pe_int (pa_cons (pe_op op_pow pe_int pe_int) (pa_cons (pe_op op_pow pe_int pe_int) pa_nil))))))) (pv 3) (fun _ _ => rfl)))
      (pss_cons (ps_set (i := 5) sc_law_word.nd rfl (.inl rfl) (pe_ix ix_list (pe_lst (pa_cons pe_int (pa_cons pe_int (pa_cons pe_int (pa_cons (pe_un un_neg pe_int) (pa_cons (pe_un un_neg (pe_op op_pow pe_int pe_int)) (pa_cons (pe_un un_neg (pe_op op_pow pe_int pe_int)) pa_nil))))))) (pv 3) (fun _ _ => rfl)))
      (pss_cons (ps_set (i := 6) sc_law_word.nd rfl (.inl rfl) (pe_lst pa_nil))
      (pss_cons (ps_for PassesOwn.never rfl (pi_range1 (by rfl) T.range (pa_cons (pv 2) pa_nil)) (pg_name (i := 7) sc_law_word.nd rfl (.inl rfl))
      (pss_cons (ps_expr (pe_bm PySem.F.plainAttrs_list PySem.F.slot_list_append PySem.F.type_list_append mt_append (pv 6) (pa_cons (pe_op op_add (pv 5) (pe_call (ok_law_next T) (hr.mono (by decide)) rfl T.law_next.g T.law_next.F.kp T.law_next.b .nil pass0 (pa_cons (pv 0) (pa_cons (pv 4) pa_nil)))) pa_nil)))
        (pss_one (ps_if (PW.pt (pw_and (pt_cmpR op_gt (pv 7) pe_int (nomark _)) (pw_and1 (pt_cmpR op_eq (pe_call (ok_law_next T) (hr.mono (by decide)) rfl T.law_next.g T.law_next.F.kp T.law_next.b .nil pass0 (pa_cons (pv 0) (pa_cons pe_int pa_nil))) pe_int (nomark _)))))
        (pss_one (ps_asg (pe_op op_sub (pe_op op_add (pe_ix ix_list (pv 6) (pe_op op_sub (pv 7) pe_int) (fun _ _ => rfl)) (pe_call (ok_law_next T) (hr.mono (by decide)) rfl T.law_next.g T.law_next.F.kp T.law_next.b .nil pass0 (pa_cons (pv 0) (pa_cons pe_int pa_nil)))) pe_int) (pg_sub (pv 6) (pv 7) set_list)))
        pss_nil))))
      (pss_one (ps_ret (pv 6))))))))), ?_⟩
    refine ⟨_, rfl, _, rfl, _, _, rfl, rfl, a, _, rfl, S0, by omega, by omega, fun cnt H1 c0 c1 S1 K1 => ?_⟩
    refine ⟨_, rfl, a, _, rfl, S1, by omega, by omega, fun kind H2 k0 k1 S2 K2 => ?_⟩
    obtain ⟨sz, lo, es, el, z0, z1, z2, z3⟩ := kinds kind k0 k1
    refine ⟨_, _, rfl, rfl, ⟨by decide, by decide, by decide⟩, _, _, rfl, rfl, ⟨by decide, by decide, by decide⟩, (by show 6 ≤ sizeLine; decide), fun l1 n1 => ?_⟩
    refine ⟨_, rfl, l1, _, _, _, rfl, rfl, SqL.of upd_same, es, ?_⟩
    refine ⟨_, rfl, _, _, rfl, rfl, ⟨by decide, by decide, by decide⟩, _, rfl, _, _, rfl, rfl, ⟨by decide, by decide, by decide⟩, _, rfl, (by show 6 ≤ sizeLine; decide), fun l2 n2 => ?_⟩
    refine ⟨_, rfl, l2, _, _, _, rfl, rfl, SqL.of upd_same, el, ?_⟩
    refine ⟨Nat.zero_le _, fun p np => ?_⟩
    have S3 := (S2.new (o := .lst [V.int 2, .int 3, .int 6, .int 20, .int (10 ^ (15 : Int).toNat), .int (10 ^ (30 : Int).toNat)]) n1).new (o := .lst [V.int 1, .int 1, .int 0, .int (-9), .int (-(10 ^ (14 : Int).toNat)), .int (-(10 ^ (29 : Int).toNat))]) n2
    have K3 := (((K1.trans K2).new (o := .lst [V.int 2, .int 3, .int 6, .int 20, .int (10 ^ (15 : Int).toNat), .int (10 ^ (30 : Int).toNat)]) n1).new (o := .lst [V.int 1, .int 1, .int 0, .int (-9), .int (-(10 ^ (14 : Int).toNat)), .int (-(10 ^ (29 : Int).toNat))]) n2)
    have pa : p ≠ a := S3.ne np
    have pH : H p = none := K3.free pa np
    refine ⟨_, rfl, cnt, rfl, by omega, by omega, for_range (lo := 0) (n := cnt.toNat) (fun i σ H' => ∃ (ws : List Int) (x7 : Option V), σ = [some (.ref a), some (.int m), some (.int cnt), some (.int kind), some (.int sz), some (.int lo), some (.ref p), x7] ∧ ws.length = i ∧
      (∀ x ∈ ws, -(10 ^ 30) - (i : Int) ≤ x ∧ x ≤ 10 ^ 30 + (i : Int)) ∧ H' p = some (.lst (ws.map V.int)) ∧ Strm H' a ∧ Kp a H H')
      ⟨[], none, rfl, rfl, fun x h => absurd h List.not_mem_nil, upd_same, S3.new np, K3.new np⟩ ?_ ?_⟩
    · rintro i σ H' hi ⟨ws, x7, rfl, hl, hb, hp, S, Kh⟩
      -- word.append(low + next)
      refine ⟨_, rfl, .inl ⟨rfl, _, SqL.of hp⟩, _, rfl, _, rfl, _, rfl, a, sz, rfl, S, z0, by omega, fun d H4 d0 d1 S4 K4 => ?_⟩
      have hp4 := K4 _ _ pa hp
      refine ⟨_, _, rfl, rfl, p, _, _, rfl, rfl, hp4, szl (by rw [List.length_map]; omega), ?_⟩
      have hp5 : (upd H4 p (.lst (ws.map V.int ++ [.int (lo + d)]))) p = some (.lst ((ws ++ [lo + d]).map V.int)) := by
        rw [upd_same, List.map_append]
        rfl
      have S5 : Strm (upd H4 p (.lst (ws.map V.int ++ [.int (lo + d)]))) a := S4.off pa.symm
      have K5 : Kp a H (upd H4 p (.lst (ws.map V.int ++ [.int (lo + d)]))) := (Kh.trans K4).mut pH
      have hb5 : ∀ x ∈ ws ++ [lo + d], -(10 ^ 30) - ((i + 1 : Nat) : Int) ≤ x ∧ x ≤ 10 ^ 30 + ((i + 1 : Nat) : Int) := fun x hx => by
        rcases List.mem_append.mp hx with h | h
        · have := hb x h
          omega
        · rw [List.mem_singleton] at h
          subst h
          omega
      -- if k > 0 and next == 0
      refine ⟨_, rfl, _, _, rfl, rfl, _, rfl, ?_⟩
      by_cases c0 : (0 : Int) < 0 + (i : Int)
      · refine ifT (decide_eq_true c0) ?_
        refine ⟨_, rfl, a, _, rfl, S5, by omega, by omega, fun e H6 e0 e1 S6 K6 => ?_⟩
        have hp6 := K6 _ _ pa hp5
        refine ⟨rfl, _, rfl, ite2 (fun _ => ?_) (fun _ => ?_)⟩
        · -- word[k] = word[k - 1] + next - 1
          obtain ⟨y, hy⟩ : ∃ y, (ws ++ [lo + d])[i - 1]? = some y := ⟨_, List.getElem?_eq_getElem (by rw [List.length_append, List.length_singleton]; omega)⟩
          have yb := hb y (by
            have e : (ws ++ [lo + d])[i - 1]? = ws[i - 1]? := List.getElem?_append_left (by omega)
            rw [e] at hy
            exact List.mem_of_getElem? hy)
          refine ⟨_, rfl, _, rfl, _, _, rfl, rfl, p, _, _, _, rfl, rfl, SqL.of hp6, at_of (j := i - 1) (by omega) (mapAt hy), _, rfl, a, _, rfl, S6, by omega, by omega, fun f H7 f0 f1 S7 K7 => ?_⟩
          have hp7 := K7 _ _ pa hp6
          refine ⟨_, _, rfl, rfl, _, _, rfl, rfl, _, rfl, _, rfl, p, _, _, i, rfl, rfl, hp7, ?_, ?_⟩
          · rw [show (0 : Int) + (i : Int) = (i : Int) from Int.zero_add _]
            exact Evl.ixN_nat (by rw [List.length_map, List.length_append, List.length_singleton]; omega)
          · refine ⟨(ws ++ [lo + d]).set i (y + f - 1), _, rfl, by rw [List.length_set, List.length_append, List.length_singleton]; omega, fun x hx => ?_, by rw [upd_same, List.map_set], S7.off pa.symm, (K5.trans (K6.trans K7)).mut pH⟩
            rcases List.mem_or_eq_of_mem_set hx with h | h
            · exact hb5 x h
            · subst h
              omega
        · exact ⟨ws ++ [lo + d], _, rfl, by rw [List.length_append, List.length_singleton]; omega, hb5, hp6, S6, K5.trans K6⟩
      · refine ifF (decide_eq_false c0) ?_
        refine iteF ?_
        exact ⟨ws ++ [lo + d], _, rfl, by rw [List.length_append, List.length_singleton]; omega, hb5, hp5, S5, K5⟩
    · rintro σ H' ⟨ws, x7, rfl, hl, hb, hp, S, Kh⟩
      exact ⟨_, rfl, q p ws H' (by omega) (lets_of hb (by omega)) pH pa hp S Kh⟩
end

/-! ### data: lists and tuples of ints and texts, at any depth -/
def purN : Nat → PyData → Bool
  | _, .none => true
  | _, .int _ => true
  | _, .str x => PyData.strOk x
  | n + 1, .list xs => xs.all (purN n)
  | n + 1, .tuple xs => xs.all (purN n)
  | _, _ => false
theorem layAll_of : ∀ {xs : List PyData}, (∀ x ∈ xs, x.canLay0 = true) → PyData.canLayAll0 xs = true
  | [], _ => by simp [PyData.canLayAll0]
  | x :: xs, h => by
    simp only [PyData.canLayAll0, Bool.and_eq_true]
    exact ⟨h x List.mem_cons_self, layAll_of fun y hy => h y (List.mem_cons_of_mem _ hy)⟩
theorem depthAll_of {n : Nat} : ∀ {xs : List PyData}, (∀ x ∈ xs, x.depth ≤ n) → PyData.depthAll xs ≤ n
  | [], _ => by simp [PyData.depthAll]
  | x :: xs, h => by
    have h1 := h x List.mem_cons_self
    have h2 := depthAll_of (n := n) (xs := xs) fun y hy => h y (List.mem_cons_of_mem _ hy)
    simp only [PyData.depthAll]
    omega
theorem purN_ok : ∀ (n : Nat) (d : PyData), purN n d = true → d.canLay0 = true ∧ d.depth ≤ n
  | _, .none, _ => by simp [PyData.canLay0, PyData.depth]
  | _, .int _, _ => by simp [PyData.canLay0, PyData.depth]
  | n, .str x, h => by
    have h' : PyData.strOk x = true := by cases n <;> simpa [purN] using h
    simp [PyData.canLay0, PyData.depth, h']
  | n + 1, .list xs, h => by
    have h' : ∀ x ∈ xs, purN n x = true := by simpa [purN] using h
    simp only [PyData.canLay0, PyData.depth]
    exact ⟨layAll_of fun x hx => (purN_ok n x (h' x hx)).1, Nat.succ_le_succ (depthAll_of fun x hx => (purN_ok n x (h' x hx)).2)⟩
  | n + 1, .tuple xs, h => by
    have h' : ∀ x ∈ xs, purN n x = true := by simpa [purN] using h
    simp only [PyData.canLay0, PyData.depth]
    exact ⟨layAll_of fun x hx => (purN_ok n x (h' x hx)).1, Nat.succ_le_succ (depthAll_of fun x hx => (purN_ok n x (h' x hx)).2)⟩
  | 0, .list _, h => by simp [purN] at h
  | 0, .tuple _, h => by simp [purN] at h
  | n, .bool _, h => by cases n <;> simp [purN] at h
  | n, .dict _, h => by cases n <;> simp [purN] at h
theorem purN_shaped {n : Nat} {d : PyData} (h : purN n d = true) (hn : n ≤ 64) : SeqAt.shaped d = true := by
  obtain ⟨a, b⟩ := purN_ok n d h
  show (d.canLay0 && decide (d.depth ≤ 64)) = true
  rw [Bool.and_eq_true]
  exact ⟨a, decide_eq_true (by omega)⟩
theorem eqvAll_iff : ∀ {xs ys : List PyData}, (∀ x ∈ xs, ∀ y ∈ ys, PyData.eqv x y = true → x = y) → PyData.eqvAll xs ys = true → xs = ys
  | [], [], _, _ => rfl
  | [], _ :: _, _, h => by simp [PyData.eqvAll] at h
  | _ :: _, [], _, h => by simp [PyData.eqvAll] at h
  | x :: xs, y :: ys, h, e => by
    simp only [PyData.eqvAll, Bool.and_eq_true] at e
    rw [h x List.mem_cons_self y List.mem_cons_self e.1, eqvAll_iff (fun u hu v hv => h u (List.mem_cons_of_mem _ hu) v (List.mem_cons_of_mem _ hv)) e.2]
theorem purN_inj : ∀ (n m : Nat) (d e : PyData), purN n d = true → purN m e = true → PyData.eqv d e = true → d = e
  | n, m, .none, e, _, h2, q => by cases e <;> simp [PyData.eqv] at q <;> rfl
  | n, m, .int i, e, _, h2, q => by
    cases e with
    | int j => simp [PyData.eqv] at q; rw [q]
    | bool b => cases m <;> simp [purN] at h2
    | _ => simp [PyData.eqv] at q
  | n, m, .str x, e, _, h2, q => by
    cases e with
    | str y => simp [PyData.eqv] at q; rw [q]
    | _ => simp [PyData.eqv] at q
  | n + 1, m, .list xs, e, h1, h2, q => by
    cases e with
    | list ys =>
      cases m with
      | zero => simp [purN] at h2
      | succ m =>
        have h1' : ∀ x ∈ xs, purN n x = true := by simpa [purN] using h1
        have h2' : ∀ x ∈ ys, purN m x = true := by simpa [purN] using h2
        simp only [PyData.eqv] at q
        rw [eqvAll_iff (fun x hx y hy => purN_inj n m x y (h1' x hx) (h2' y hy)) q]
    | _ => simp [PyData.eqv] at q
  | n + 1, m, .tuple xs, e, h1, h2, q => by
    cases e with
    | tuple ys =>
      cases m with
      | zero => simp [purN] at h2
      | succ m =>
        have h1' : ∀ x ∈ xs, purN n x = true := by simpa [purN] using h1
        have h2' : ∀ x ∈ ys, purN m x = true := by simpa [purN] using h2
        simp only [PyData.eqv] at q
        rw [eqvAll_iff (fun x hx y hy => purN_inj n m x y (h1' x hx) (h2' y hy)) q]
    | _ => simp [PyData.eqv] at q
  | 0, _, .list _, _, h, _, _ => by simp [purN] at h
  | 0, _, .tuple _, _, h, _, _ => by simp [purN] at h
  | n, _, .bool _, _, h, _, _ => by cases n <;> simp [purN] at h
  | n, _, .dict _, _, h, _, _ => by cases n <;> simp [purN] at h
theorem purN_eqv {n m : Nat} {d e : PyData} (h1 : purN n d = true) (h2 : purN m e = true) : PyData.eqv d e = true ↔ d = e := by
  refine ⟨purN_inj n m d e h1 h2, fun q => ?_⟩
  subst q
  exact SeqAt.eqv_refl d (purN_ok n d h1).1
/-- a list of ints; of such; a tuple of such -/
abbrev dW (ws : List Int) : PyData := .list (ws.map .int)
abbrev dR (ws : List Int) : PyData := .tuple (ws.map .int)
abbrev dF (fs : List (List Int)) : PyData := .list (fs.map dW)
abbrev dT (fs : List (List Int)) : PyData := .tuple (fs.map dR)
theorem pur_ints (n : Nat) (ws : List Int) : (ws.map PyData.int).all (purN n) = true := by
  rw [List.all_map, List.all_eq_true]
  intro x _
  cases n <;> rfl
theorem pur_W (ws : List Int) : purN 1 (dW ws) = true := pur_ints 0 ws
theorem pur_R (ws : List Int) : purN 1 (dR ws) = true := pur_ints 0 ws
theorem pur_F (fs : List (List Int)) : purN 2 (dF fs) = true := by
  show (fs.map dW).all (purN 1) = true
  rw [List.all_map, List.all_eq_true]
  intro x _
  exact pur_W x
theorem pur_T (fs : List (List Int)) : purN 2 (dT fs) = true := by
  show (fs.map dR).all (purN 1) = true
  rw [List.all_map, List.all_eq_true]
  intro x _
  exact pur_R x
theorem map_int_inj {xs ys : List Int} (h : xs.map PyData.int = ys.map PyData.int) : xs = ys := by
  induction xs generalizing ys with
  | nil => cases ys with
    | nil => rfl
    | cons _ _ => cases h
  | cons x xs ih => cases ys with
    | nil => cases h
    | cons y ys =>
      simp only [List.map_cons, List.cons.injEq, PyData.int.injEq] at h
      rw [h.1, ih h.2]
theorem dW_inj {xs ys : List Int} (h : dW xs = dW ys) : xs = ys := map_int_inj (PyData.list.inj h)
theorem dR_inj {xs ys : List Int} (h : dR xs = dR ys) : xs = ys := map_int_inj (PyData.tuple.inj h)
theorem map_inj_of {α β : Type} {f : α → β} (hf : ∀ x y, f x = f y → x = y) : ∀ {xs ys : List α}, xs.map f = ys.map f → xs = ys
  | [], [], _ => rfl
  | [], _ :: _, h => by cases h
  | _ :: _, [], h => by cases h
  | x :: xs, y :: ys, h => by
    simp only [List.map_cons, List.cons.injEq] at h
    rw [hf x y h.1, map_inj_of hf h.2]
theorem dF_inj {xs ys : List (List Int)} (h : dF xs = dF ys) : xs = ys := map_inj_of (fun _ _ => dW_inj) (PyData.list.inj h)
theorem dT_inj {xs ys : List (List Int)} (h : dT xs = dT ys) : xs = ys := map_inj_of (fun _ _ => dR_inj) (PyData.tuple.inj h)

/-! ### data in the heap -/
section
variable {K : PySem.W.Frag} {H H' : Hp}
mutual
theorem Dp.ex (e : Ex H H') : ∀ (d : PyData) (v : V), Dp K H v d → Dp K H' v d
  | .none, _, h => by cases h; exact .non
  | .bool _, _, h => by cases h; exact .bl _
  | .int _, _, h => by cases h; exact .int _
  | .str _, _, h => by cases h; exact .str _
  | .list ds, _, h => by cases h with | lst hs ha => exact .lst (Evl.ex_l e hs) (DpAll.ex e ds _ ha)
  | .tuple ds, _, h => by cases h with | tup hs ha => exact .tup (Evl.ex_t e hs) (DpAll.ex e ds _ ha)
  | .dict _, _, h => by cases h
theorem DpAll.ex (e : Ex H H') : ∀ (ds : List PyData) (vs : List V), DpAll K H vs ds → DpAll K H' vs ds
  | [], _, h => by cases h; exact .nil
  | d :: ds, _, h => by cases h with | cons a b => exact .cons (Dp.ex e d _ a) (DpAll.ex e ds _ b)
end
theorem _root_.L2.Dp.mono {v : V} {d : PyData} (h : Dp K H v d) (e : Ex H H') : Dp K H' v d := Dp.ex e d v h
theorem _root_.L2.DpAll.mono {vs : List V} {ds : List PyData} (h : DpAll K H vs ds) (e : Ex H H') : DpAll K H' vs ds := DpAll.ex e ds vs h
theorem dp_ints : ∀ ws : List Int, DpAll K H (ws.map V.int) (ws.map PyData.int)
  | [] => .nil
  | w :: ws => .cons (.int w) (dp_ints ws)
theorem dp_ints_inv : ∀ {ws : List Int} {vs : List V}, DpAll K H vs (ws.map PyData.int) → vs = ws.map V.int
  | [], _, h => by cases h; rfl
  | w :: ws, _, h => by
    cases h with
    | cons a b =>
      cases a
      rw [dp_ints_inv b]
      rfl
theorem dp_W {p : Addr} {ws : List Int} (h : SqL K H p (ws.map V.int)) : Dp K H (.ref p) (dW ws) := .lst h (dp_ints ws)
theorem dp_R {p : Addr} {ws : List Int} (h : SqT K H p (ws.map V.int)) : Dp K H (.ref p) (dR ws) := .tup h (dp_ints ws)
theorem dp_W_inv {v : V} {ws : List Int} (h : Dp K H v (dW ws)) : ∃ p, v = .ref p ∧ SqL K H p (ws.map V.int) := by
  cases h with
  | lst hs ha =>
    rw [dp_ints_inv ha] at hs
    exact ⟨_, rfl, hs⟩
theorem dp_R_inv {v : V} {ws : List Int} (h : Dp K H v (dR ws)) : ∃ p, v = .ref p ∧ SqT K H p (ws.map V.int) := by
  cases h with
  | tup hs ha =>
    rw [dp_ints_inv ha] at hs
    exact ⟨_, rfl, hs⟩
theorem dp_len : ∀ {vs : List V} {ds : List PyData}, DpAll K H vs ds → vs.length = ds.length
  | _, _, .nil => rfl
  | _, _, .cons _ b => by rw [List.length_cons, List.length_cons, dp_len b]
theorem dp_at : ∀ {vs : List V} {ds : List PyData} {j : Nat} {v : V}, DpAll K H vs ds → vs[j]? = some v → ∃ d, ds[j]? = some d ∧ Dp K H v d
  | _, _, _, _, .nil, h => by simp at h
  | _, _, 0, _, .cons a _, h => by
    simp only [List.getElem?_cons_zero, Option.some.injEq] at h
    subst h
    exact ⟨_, rfl, a⟩
  | _, _, j + 1, v, .cons _ b, h => by
    rw [List.getElem?_cons_succ] at h
    obtain ⟨d, e, q⟩ := dp_at b h
    exact ⟨d, by rw [List.getElem?_cons_succ]; exact e, q⟩
theorem dp_at' {vs : List V} {ds : List PyData} {j : Nat} {d : PyData} (h : DpAll K H vs ds) (e : ds[j]? = some d) : ∃ v, vs[j]? = some v ∧ Dp K H v d := by
  have hj : j < vs.length := by rw [dp_len h]; exact (List.getElem?_eq_some_iff.mp e).1
  obtain ⟨d', e', q⟩ := dp_at h (List.getElem?_eq_getElem hj)
  rw [e] at e'
  cases e'
  exact ⟨_, List.getElem?_eq_getElem hj, q⟩
theorem dp_snoc : ∀ {vs : List V} {ds : List PyData} {v : V} {d : PyData}, DpAll K H vs ds → Dp K H v d → DpAll K H (vs ++ [v]) (ds ++ [d])
  | _, _, _, _, .nil, h => .cons h .nil
  | _, _, _, _, .cons a b, h => .cons a (dp_snoc b h)
/-- == and != of such data -/
theorem eq_data {x y : V} {d e : PyData} {n m : Nat} {Q : VK} (hx : Dp K H x d) (hy : Dp K H y e) (h1 : purN n d = true) (h2 : purN m e = true) (hn : n ≤ 64) (hm : m ≤ 64) (qt : d = e → Q (.bl true) H) (qf : d ≠ e → Q (.bl false) H) : rEqD K x y H Q := by
  refine ⟨d, e, hx, hy, purN_shaped h1 hn, purN_shaped h2 hm, ?_⟩
  cases c : PyData.eqv d e with
  | true => exact qt ((purN_eqv h1 h2).mp c)
  | false => exact qf fun z => by rw [(purN_eqv h1 h2).mpr z] at c; cases c
theorem ne_data {x y : V} {d e : PyData} {n m : Nat} {Q : VK} (hx : Dp K H x d) (hy : Dp K H y e) (h1 : purN n d = true) (h2 : purN m e = true) (hn : n ≤ 64) (hm : m ≤ 64) (qt : d ≠ e → Q (.bl true) H) (qf : d = e → Q (.bl false) H) : rNeD K x y H Q := by
  refine ⟨d, e, hx, hy, purN_shaped h1 hn, purN_shaped h2 hm, ?_⟩
  cases c : PyData.eqv d e with
  | true => exact qf ((purN_eqv h1 h2).mp c)
  | false => exact qt fun z => by rw [(purN_eqv h1 h2).mpr z] at c; cases c
theorem notIn_data {x y : V} {d : PyData} {ds : List PyData} {n m : Nat} {Q : VK} (hx : Dp K H x d) (hy : Dp K H y (.list ds)) (h1 : purN n d = true) (h2 : purN m (.list ds) = true) (hn : n ≤ 64) (hm : m ≤ 64) (qt : d ∉ ds → Q (.bl true) H) (qf : d ∈ ds → Q (.bl false) H) : rNotInD K x y H Q := by
  refine ⟨d, ds, hx, hy, purN_shaped h1 hn, purN_shaped h2 hm, ?_⟩
  have hz : ∀ z ∈ ds, ∃ k, purN k z = true := fun z hz => by
    cases m with
    | zero => simp [purN] at h2
    | succ m => exact ⟨m, (by simpa [purN] using h2 : ∀ x ∈ ds, purN m x = true) z hz⟩
  cases c : (ds.any fun z => PyData.eqv z d) with
  | true =>
    obtain ⟨z, hm, q⟩ := List.any_eq_true.mp c
    obtain ⟨k, hk⟩ := hz z hm
    exact qf ((purN_eqv hk h1).mp q ▸ hm)
  | false =>
    refine qt fun hd => ?_
    have : (ds.any fun z => PyData.eqv z d) = true := List.any_eq_true.mpr ⟨d, hd, SeqAt.eqv_refl d (purN_ok n d h1).1⟩
    rw [this] at c
    cases c
/-- a heap without one object -/
def wo (a : Addr) (H : Hp) : Hp := fun b => if b = a then none else H b
theorem wo_at {a b : Addr} {o : HO} (h : wo a H b = some o) : b ≠ a ∧ H b = some o := by
  unfold wo at h
  by_cases e : b = a
  · rw [if_pos e] at h
    cases h
  · rw [if_neg e] at h
    exact ⟨e, h⟩
theorem wo_of {a b : Addr} {o : HO} (n : b ≠ a) (h : H b = some o) : wo a H b = some o := by
  unfold wo
  rw [if_neg n]
  exact h
theorem wo_ex (a : Addr) : Ex (wo a H) H := fun b o h => (wo_at h).2
theorem Kp.wo {a : Addr} (x : Kp a H H') : Ex (wo a H) (CP.wo a H') := fun b o h => by
  obtain ⟨n, q⟩ := wo_at h
  exact wo_of n (x b o n q)
theorem ex_wo {a : Addr} (x : Ex H H') : Ex (CP.wo a H) (CP.wo a H') := Kp.wo (Kp.of x)
theorem wo_seq {a p : Addr} {xs : List V} (n : p ≠ a) (h : SqL K H p xs) : SqL K (wo a H) p xs := by
  rcases h with (h | ⟨o, h⟩) | h
  · exact .inl (.inl (wo_of n h))
  · exact .inl (.inr ⟨o, wo_of n h⟩)
  · exact .inr h
end

/-! ### what an expression gives, told as data -/
def EvD (K : PySem.W.Frag) (te : TE) (σ : L2.St) (H : Hp) (d : PyData) : Prop := ∀ H1, Ex H H1 → ∀ Q : VK, (∀ v H2, Ex H1 H2 → Dp K H2 v d → Q v H2) → te σ H1 Q
def EvDA (K : PySem.W.Frag) (ta : TA) (σ : L2.St) (H : Hp) (ds : List PyData) : Prop := ∀ H1, Ex H H1 → ∀ Q : List V → Hp → Prop, (∀ vs H2, Ex H1 H2 → DpAll K H2 vs ds → Q vs H2) → ta σ H1 Q
section
variable {K : PySem.W.Frag} {σ : L2.St} {H H' : Hp} {ta tb te : TE} {t u : TT} {x y : V} {d e : PyData}
theorem EvD.mono (h : EvD K te σ H d) (e : Ex H H') : EvD K te σ H' d := fun H1 a Q q => h H1 (e.trans a) Q q
theorem evd_var {i : Nat} (h : σ[i]? = some (some x)) (hd : Dp K H x d) : EvD K (tVar i) σ H d := fun H1 e _ q => ⟨x, h, q _ H1 (Ex.refl H1) (hd.mono e)⟩
theorem evd_int {i : Int} : EvD K (tC (.int i)) σ H (.int i) := fun H1 _ _ q => q _ H1 (Ex.refl H1) (.int i)
theorem evd_str {s : Str} : EvD K (tC (.str s)) σ H (.str s) := fun H1 _ _ q => q _ H1 (Ex.refl H1) (.str s)
theorem evd_bl {b : Bool} : EvD K (tC (.bl b)) σ H (.bool b) := fun H1 _ _ q => q _ H1 (Ex.refl H1) (.bl b)
theorem evd_non : EvD K (tC .non) σ H .none := fun H1 _ _ q => q _ H1 (Ex.refl H1) .non
theorem evd_nil : EvDA K tNil σ H [] := fun H1 _ _ q => q _ H1 (Ex.refl H1) .nil
theorem evd_cons {tr : TA} {ds : List PyData} (h : EvD K ta σ H d) (hr : EvDA K tr σ H ds) : EvDA K (tCons ta tr) σ H (d :: ds) := fun H1 e _ q =>
  h H1 e _ fun v H2 e2 hv => hr H2 (e.trans e2) _ fun vs H3 e3 hvs => q _ H3 (e2.trans e3) (.cons (hv.mono e3) hvs)
theorem evd_tup {tr : TA} {ds : List PyData} (h : EvDA K tr σ H ds) (hl : ds.length ≤ 100000) : EvD K (tTup tr) σ H (.tuple ds) := fun H1 e _ q =>
  h H1 e _ fun vs H2 e2 hvs => ⟨sz (by rw [dp_len hvs]; exact hl), fun p hp => q _ _ (e2.trans (Ex.new hp)) (.tup (Evl.st_of upd_same) (hvs.mono (Ex.new hp)))⟩
theorem evd_lst {tr : TA} {ds : List PyData} (h : EvDA K tr σ H ds) (hl : ds.length ≤ 100000) : EvD K (tLst tr) σ H (.list ds) := fun H1 e _ q =>
  h H1 e _ fun vs H2 e2 hvs => ⟨sz (by rw [dp_len hvs]; exact hl), fun p hp => q _ _ (e2.trans (Ex.new hp)) (.lst (Evl.sq_of upd_same) (hvs.mono (Ex.new hp)))⟩
theorem evd_op {r : R2} {z : PyData} (ha : EvD K ta σ H d) (hb : EvD K tb σ H e) (hr : ∀ x y H1, Ex H H1 → Dp K H1 x d → Dp K H1 y e → ∀ Q : VK, (∀ v H2, Ex H1 H2 → Dp K H2 v z → Q v H2) → r x y H1 Q) : EvD K (tOp r ta tb) σ H z := fun H1 e1 Q q =>
  ha H1 e1 _ fun v H2 e2 hv => hb H2 (e1.trans e2) _ fun u H3 e3 hu => hr v u H3 ((e1.trans e2).trans e3) (hv.mono e3) hu Q fun z' H4 e4 hz => q _ H4 ((e2.trans e3).trans e4) hz
theorem evd_ii {g : Int → Int → Int} {i j : Int} (ha : EvD K ta σ H (.int i)) (hb : EvD K tb σ H (.int j)) : EvD K (tOp (rI0 fun i j => .int (g i j)) ta tb) σ H (.int (g i j)) := evd_op ha hb fun x y H1 _ hx hy Q q => by
  cases hx
  cases hy
  exact ⟨i, j, rfl, rfl, q _ H1 (Ex.refl H1) (.int _)⟩
theorem evd_ib {g : Int → Int → Bool} {i j : Int} (ha : EvD K ta σ H (.int i)) (hb : EvD K tb σ H (.int j)) : EvD K (tOp (rI0 fun i j => .bl (g i j)) ta tb) σ H (.bool (g i j)) := evd_op ha hb fun x y H1 _ hx hy Q q => by
  cases hx
  cases hy
  exact ⟨i, j, rfl, rfl, q _ H1 (Ex.refl H1) (.bl _)⟩
theorem evd_ixL {ds : List PyData} {j : Nat} {i : Int} (ha : EvD K ta σ H (.list ds)) (hb : EvD K tb σ H (.int i)) (hi : i = (j : Int)) (hj : ds[j]? = some d) : EvD K (tOp (rIxL K) ta tb) σ H d := evd_op ha hb fun x y H1 _ hx hy Q q => by
  subst hi
  cases hy
  cases hx with
  | lst hs hall =>
    obtain ⟨v, hv, hd⟩ := dp_at' hall hj
    exact ⟨_, _, _, v, rfl, rfl, hs, atI_nat hv, q _ H1 (Ex.refl H1) hd⟩
theorem evd_ixT {ds : List PyData} {j : Nat} {i : Int} (ha : EvD K ta σ H (.tuple ds)) (hb : EvD K tb σ H (.int i)) (hi : i = (j : Int)) (hj : ds[j]? = some d) : EvD K (tOp (rIxT K) ta tb) σ H d := evd_op ha hb fun x y H1 _ hx hy Q q => by
  subst hi
  cases hy
  cases hx with
  | tup hs hall =>
    obtain ⟨v, hv, hd⟩ := dp_at' hall hj
    exact ⟨_, _, _, v, rfl, rfl, hs, atI_nat hv, q _ H1 (Ex.refl H1) hd⟩
/-- the same as a value of the layer's own -/
theorem evd_ev {v : V} (h : Evl.Ev te σ H v) (hd : ∀ H1, Ex H H1 → Dp K H1 v d) : EvD K te σ H d := fun H1 e Q q => h H1 e Q fun H2 e2 => q v H2 e2 (hd H2 (e.trans e2))
theorem evd_run {Q : VK} (h : EvD K te σ H d) (q : ∀ v H1, Ex H H1 → Dp K H1 v d → Q v H1) : te σ H Q := h H (Ex.refl H) Q q
end

/-! ### comprehensions with two for -/
theorem wo_upd {H : Hp} {a : Addr} {o : HO} : wo a (upd H a o) = wo a H := by
  funext b
  unfold wo upd
  by_cases e : b = a
  · rw [if_pos e, if_pos e]
  · rw [if_neg e, if_neg e, if_neg e]
theorem lc2_range {lo : Int} {n : Nat} {g g1 : TG} {tt tt1 : TT} {te : TE} {wi1 : TI} {vs vs1 : List Nat} {σ : L2.St} {H1 : Hp} {D : Addr} {Qd : Hp → Prop} (Pv : Nat → Hp → Prop) (h0 : Pv 0 (upd H1 D (.lst [])))
    (hs : ∀ i H, i < n → Pv i H → g (.int (lo + i)) (wipe σ vs) H fun σ2 H2 => wipe σ2 vs = wipe σ vs ∧ tt σ2 H2 fun b H3 =>
      if b = true then wi1 σ2 H3 fun J1 H4 => ∃ W1 : Nat → Nat → Hp → Prop, (∃ m, W1 0 m H4) ∧ ∀ j k H, W1 j k H →
        (J1.stop j H ∧ Pv (i + 1) H) ∨ (J1.go j H ∧ ∃ Nx1 : Hp → Prop, (∀ H', Nx1 H' → ∃ k', k' < k ∧ W1 (j + 1) k' H') ∧ ∀ x H', J1.yld j H x H' → g1 x (wipe σ2 vs1) H' fun σ3 H5 => wipe σ3 vs1 = wipe σ2 vs1 ∧ tt1 σ3 H5 fun b H6 =>
          if b = true then te σ3 H6 fun y H7 => ∃ acc, H7 D = some (.lst acc) ∧ acc.length < sizeLine ∧ Nx1 (upd H7 D (.lst (acc ++ [y]))) else Nx1 H6)
      else Pv (i + 1) H3) (hd : ∀ H, Pv n H → Qd H) :
    ∃ W : Nat → Nat → Hp → Prop, (∃ m, W 0 m (upd H1 D (.lst []))) ∧ ∀ i m H, W i m H →
      ((Itr lo n).stop i H ∧ Qd H) ∨ ((Itr lo n).go i H ∧ ∃ Nx : Hp → Prop, (∀ H', Nx H' → ∃ m', m' < m ∧ W (i + 1) m' H') ∧ ∀ x H', (Itr lo n).yld i H x H' → g x (wipe σ vs) H' fun σ2 H2 => wipe σ2 vs = wipe σ vs ∧ tt σ2 H2 fun b H3 =>
        if b = true then wi1 σ2 H3 fun J1 H4 => ∃ W1 : Nat → Nat → Hp → Prop, (∃ m, W1 0 m H4) ∧ ∀ j k H, W1 j k H →
          (J1.stop j H ∧ Nx H) ∨ (J1.go j H ∧ ∃ Nx1 : Hp → Prop, (∀ H', Nx1 H' → ∃ k', k' < k ∧ W1 (j + 1) k' H') ∧ ∀ x H', J1.yld j H x H' → g1 x (wipe σ2 vs1) H' fun σ3 H5 => wipe σ3 vs1 = wipe σ2 vs1 ∧ tt1 σ3 H5 fun b H6 =>
            if b = true then te σ3 H6 fun y H7 => ∃ acc, H7 D = some (.lst acc) ∧ acc.length < sizeLine ∧ Nx1 (upd H7 D (.lst (acc ++ [y]))) else Nx1 H6)
        else Nx H3) := by
  refine ⟨fun i m H => m = n - i ∧ i ≤ n ∧ Pv i H, ⟨n, by simp, Nat.zero_le _, h0⟩, ?_⟩
  rintro i m H ⟨rfl, hi, p⟩
  by_cases hlt : i < n
  · refine .inr ⟨hlt, Pv (i + 1), fun H' p' => ⟨n - (i + 1), by omega, rfl, hlt, p'⟩, fun x H' y => ?_⟩
    obtain ⟨e, y⟩ := y
    subst e y
    exact hs i _ hlt p
  · have e : i = n := by omega
    subst e
    exact .inl ⟨Nat.le_refl _, hd H p⟩
theorem lcin_tup {K : PySem.W.Frag} {a : Addr} {xs : List V} {g1 : TG} {tt1 : TT} {te : TE} {vs1 : List Nat} {σ2 : L2.St} {H4 : Hp} {D : Addr} {Nx : Hp → Prop} (Pw : Nat → Hp → Prop) (h0 : Pw 0 H4) (hl : ∀ j H, j ≤ xs.length → Pw j H → SqT K H a xs)
    (hs : ∀ j x H, xs[j]? = some x → Pw j H → g1 x (wipe σ2 vs1) H fun σ3 H5 => wipe σ3 vs1 = wipe σ2 vs1 ∧ tt1 σ3 H5 fun b H6 =>
      if b = true then te σ3 H6 fun y H7 => ∃ acc, H7 D = some (.lst acc) ∧ acc.length < sizeLine ∧ Pw (j + 1) (upd H7 D (.lst (acc ++ [y]))) else Pw (j + 1) H6) (hd : ∀ H, Pw xs.length H → Nx H) :
    ∃ W1 : Nat → Nat → Hp → Prop, (∃ m, W1 0 m H4) ∧ ∀ j k H, W1 j k H →
      ((Itt K a).stop j H ∧ Nx H) ∨ ((Itt K a).go j H ∧ ∃ Nx1 : Hp → Prop, (∀ H', Nx1 H' → ∃ k', k' < k ∧ W1 (j + 1) k' H') ∧ ∀ x H', (Itt K a).yld j H x H' → g1 x (wipe σ2 vs1) H' fun σ3 H5 => wipe σ3 vs1 = wipe σ2 vs1 ∧ tt1 σ3 H5 fun b H6 =>
        if b = true then te σ3 H6 fun y H7 => ∃ acc, H7 D = some (.lst acc) ∧ acc.length < sizeLine ∧ Nx1 (upd H7 D (.lst (acc ++ [y]))) else Nx1 H6) := by
  refine ⟨fun i m H => m = xs.length - i ∧ i ≤ xs.length ∧ Pw i H, ⟨xs.length, by simp, Nat.zero_le _, h0⟩, ?_⟩
  rintro i m H ⟨rfl, hi, p⟩
  have q := hl i H hi p
  by_cases hlt : i < xs.length
  · refine .inr ⟨⟨xs, xs[i], q, by simp [hlt]⟩, Pw (i + 1), fun H' p' => ⟨xs.length - (i + 1), by omega, rfl, hlt, p'⟩, fun x H' y => ?_⟩
    obtain ⟨e, y⟩ := y
    subst e
    exact hs i x _ (y xs q) p
  · have e : i = xs.length := by omega
    subst e
    exact .inl ⟨⟨xs, q, Nat.le_refl _⟩, hd H p⟩

-- DEEP law: actual != allowed
-- DEEP law: handed != word
-- DEEP law: handed == word
-- DEEP law: move not in allowed
-- DEEP law: after != _law_moved(word, move)
-- DEEP law: make_move(after, move) != word
-- TUP _law_moved: move
-- RAISES make_move: WrongMove
/-! ### the mathematics of moves -/
def mn (i j : Int) : Int := if j < i then j else i
def mx (i j : Int) : Int := if j > i then j else i
def alwN (a b c : Int) (r : Bool) : Bool := if r then decide (mn b c < a) && decide (a ≤ mx b c) else decide (mn a b ≤ c) && decide (c < mx a b)
def alwW (ws : List Int) (i : Nat) (r : Bool) : Bool := alwN (ws.getD i 0) (ws.getD (i + 1) 0) (ws.getD (i + 2) 0) r
abbrev sd (r : Bool) : Str := if r then "right" else "left"
def alw (ws : List Int) (i : Int) (s : Str) : Bool := if i < 0 ∨ (ws.length : Int) < i + 3 then false else if s = "left" then alwW ws i.toNat false else if s = "right" then alwW ws i.toNat true else false
def moved (ws : List Int) (i : Nat) (r : Bool) : List Int := let p := if r then i + 1 else i; (ws.set p (ws.getD (p + 1) 0)).set (p + 1) (ws.getD p 0)
theorem getD_at {ws : List Int} {i : Nat} (h : i < ws.length) : ws.getD i 0 = ws[i] := by
  rw [List.getD_eq_getElem?_getD, List.getElem?_eq_getElem h]
  rfl
theorem getD_some {ws : List Int} {i : Nat} (h : i < ws.length) : ws[i]? = some (ws.getD i 0) := by
  rw [getD_at h]
  exact List.getElem?_eq_getElem h
theorem cut3 {ws : List Int} {i : Nat} (h : i + 2 < ws.length) : cutV (ws.map V.int) (some (i : Int)) (some ((i : Int) + 3)) = [.int (ws.getD i 0), .int (ws.getD (i + 1) 0), .int (ws.getD (i + 2) 0)] := by
  unfold cutV
  have e : ((i : Int) + 3) = ((i + 3 : Nat) : Int) := rfl
  rw [e, HT.sIx_nat, HT.sIx_nat, List.length_map, show min i ws.length = i by omega, show min (i + 3) ws.length = i + 3 by omega, show i + 3 - i = 3 by omega, ← List.map_drop, ← List.map_take]
  have e1 : ws.drop i = ws[i] :: ws.drop (i + 1) := List.drop_eq_getElem_cons (by omega)
  have e2 : ws.drop (i + 1) = ws[i + 1] :: ws.drop (i + 2) := List.drop_eq_getElem_cons (by omega)
  have e3 : ws.drop (i + 2) = ws[i + 2] :: ws.drop (i + 3) := List.drop_eq_getElem_cons (by omega)
  rw [e1, e2, e3, getD_at (show i < ws.length by omega), getD_at (show i + 1 < ws.length by omega), getD_at h]
  rfl
section
variable {P : Program} {w : World} {K : PySem.W.Frag} {mg : Str → Option Value} {base : Heap}
theorem ty_list {H : Hp} {v : V} {ds : List PyData} (h : Dp K H v (.list ds)) : TyX K H v (.type "list") := by
  cases h with
  | lst hs _ =>
    rcases hs with (h | ⟨o, h⟩) | ⟨o, its, n, h1, h2, _⟩
    · exact .base (.lst h)
    · exact .base (.frz h)
    · exact .kList h1 h2
def spIsInt : Sp := fun vs H Q _ => ∃ i : Int, vs = [.int i] ∧ Q (.bl true) H
theorem ok_law_is_integer (T : Txt K mg) : FnOk P w K mg base CX0 1 T.law_is_integer.f T.law_is_integer.fd ["actual"] spIsInt := by
  refine T.law_is_integer.F.ok sc_law_is_integer (fun vs H Q E h => ?_) (fun cdv A outer s H vs Q E hr h => ?_)
  · obtain ⟨i, rfl, _⟩ := h
    rfl
  · obtain ⟨i, rfl, q⟩ := h
    refine ⟨_, (pss_one (ps_ret (pe_and (pe_callB call_isi (by rfl) T.isinstance (by decide +kernel) (pa_cons (pv 0) (pa_cons (pe_bltn (v := .ty "int") (u := .type "int") (by rfl) T.int (by decide +kernel) rfl) pa_nil))) (pe_one (pe_not (pe_callB call_isi (by rfl) T.isinstance (by decide +kernel) (pa_cons (pv 0) (pa_cons (pe_bltn (v := .ty "bool") (u := .type "bool") (by rfl) T.bool (by decide +kernel) rfl) pa_nil)))))))), ?_⟩
    refine ⟨_, rfl, _, .ty "int", _, _, true, rfl, .ty _, .base (.int i), kit_ty (by decide +kernel), true, rfl, iteT ?_⟩
    exact ⟨_, rfl, _, .ty "bool", _, _, false, rfl, .ty _, .base (.int i), kit_ty (by decide +kernel), false, rfl, q⟩
def spIsWord (K : PySem.W.Frag) : Sp := fun vs H Q _ => ∃ (v : V) (ws : List Int), vs = [v] ∧ Dp K H v (dW ws) ∧ ws.length ≤ 100000 ∧ Q (.bl true) H
theorem ok_law_is_word (T : Txt K mg) : FnOk P w K mg base CX0 2 T.law_is_word.f T.law_is_word.fd ["actual"] (spIsWord K) := by
  refine T.law_is_word.F.ok sc_law_is_word (fun vs H Q E h => ?_) (fun cdv A outer s H vs Q E hr h => ?_)
  · obtain ⟨v, ws, rfl, _⟩ := h
    rfl
  · obtain ⟨v, ws, rfl, hv, hl, q⟩ := h
    refine ⟨_, (pss_cons (ps_if (pt_not (pt_val (pe_callB call_isi (by rfl) T.isinstance (by decide +kernel) (pa_cons (pv 0) (pa_cons (pe_bltn (v := .ty "list") (u := .type "list") (by rfl) T.list (by decide +kernel) rfl) pa_nil)))))
      (pss_one (ps_ret pe_bl))
      pss_nil)
      (pss_cons (ps_for PassesOwn.never rfl (pi_list (pv 0)) (pg_name (i := 1) sc_law_is_word.nd rfl (.inl rfl))
      (pss_one (ps_if (pt_not (pt_val (pe_call (ok_law_is_integer T) (hr.mono (by decide)) rfl T.law_is_integer.g T.law_is_integer.F.kp T.law_is_integer.b .nil pass0 (pa_cons (pv 1) pa_nil))))
        (pss_one (ps_ret pe_bl))
        pss_nil)))
      (pss_one (ps_ret pe_bl)))), ?_⟩
    refine ⟨_, rfl, _, .ty "list", _, _, true, rfl, .ty _, ty_list hv, kit_ty (by decide +kernel), true, rfl, iteF ?_⟩
    obtain ⟨p, rfl, hS⟩ := dp_W_inv hv
    refine ⟨_, rfl, p, rfl, ⟨_, hS⟩, for_list (K := K) (a := p) (xs := ws.map V.int) (fun i σ H' => H' = H ∧ ∃ x, σ = [some (.ref p), x]) ⟨rfl, none, rfl⟩ (fun i σ H' _ ⟨e, _⟩ => by rw [e]; exact hS) ?_ ?_⟩
    · rintro i y σ H' hi ⟨rfl, x, rfl⟩
      obtain ⟨z, hz, rfl⟩ := mapAt' hi
      exact ⟨_, rfl, z, rfl, true, rfl, iteF ⟨rfl, _, rfl⟩⟩
    · rintro σ H' ⟨rfl, x, rfl⟩
      exact q
/-- allowed, in the law's own words -/
def spLAlw (K : PySem.W.Frag) : Sp := fun vs H Q _ => ∃ (v : V) (ws : List Int) (i : Nat) (r : Bool), vs = [v, .int (i : Int), .str (sd r)] ∧ Dp K H v (dW ws) ∧ i + 2 < ws.length ∧ RetV (.bl (alwW ws i r)) H Q
theorem ok_law_is_allowed (T : Txt K mg) : FnOk P w K mg base CX0 1 T.law_is_allowed.f T.law_is_allowed.fd ["word", "index", "side"] (spLAlw K) := by
  refine T.law_is_allowed.F.ok sc_law_is_allowed (fun vs H Q E h => ?_) (fun cdv A outer s H vs Q E hr h => ?_)
  · obtain ⟨v, ws, i, r, rfl, _⟩ := h
    rfl
  · obtain ⟨v, ws, i, r, rfl, hv, hi, q⟩ := h
    obtain ⟨p, rfl, hS⟩ := dp_W_inv hv
    refine ⟨_, (pss_cons (ps_asg (pe_slice sl_list (pv 0) (po_some (pv 1)) (po_some (pe_op op_add (pv 1) pe_int))) (pg_lst (by rfl) (pgs_cons (pg_name (i := 3) sc_law_is_allowed.nd rfl (.inl rfl)) (pgs_cons (pg_name (i := 4) sc_law_is_allowed.nd rfl (.inl rfl)) (pgs_cons (pg_name (i := 5) sc_law_is_allowed.nd rfl (.inl rfl)) pgs_nil)))))
      (pss_cons (ps_if (pt_cmpR op_eq (pv 2) pe_str (nomark _))
      (pss_one (ps_ret (pe_and (pe_cmpR op_lt (pe_callB (call_min2 rfl) (by rfl) T.min (by decide +kernel) (pa_cons (pv 4) (pa_cons (pv 5) pa_nil))) (pv 3) (nomark _)) (pe_one (pe_cmpR op_le (pv 3) (pe_callB (call_max2 rfl) (by rfl) T.max (by decide +kernel) (pa_cons (pv 4) (pa_cons (pv 5) pa_nil))) (nomark _))))))
      pss_nil)
      (pss_one (ps_ret (pe_and (pe_cmpR op_le (pe_callB (call_min2 rfl) (by rfl) T.min (by decide +kernel) (pa_cons (pv 3) (pa_cons (pv 4) pa_nil))) (pv 5) (nomark _)) (pe_one (pe_cmpR op_lt (pv 5) (pe_callB (call_max2 rfl) (by rfl) T.max (by decide +kernel) (pa_cons (pv 3) (pa_cons (pv 4) pa_nil))) (nomark _)))))))), ?_⟩
    refine ⟨_, rfl, _, rfl, _, rfl, _, rfl, _, _, rfl, rfl, _, rfl, p, _, rfl, hS, fun t nt => ?_⟩
    have e1 : Ex H (upd H t (.lst (cutV (ws.map V.int) (some (i : Int)) (some ((i : Int) + 3))))) := Ex.new nt
    refine ⟨t, _, rfl, SqL.of upd_same, by rw [cut3 hi]; rfl, ?_⟩
    rw [cut3 hi] at e1 ⊢
    refine ⟨_, _, rfl, _, _, rfl, _, _, rfl, rfl, ?_⟩
    cases r with
    | true =>
      refine ⟨_, rfl, rfl, true, rfl, iteT ?_⟩
      refine ⟨_, rfl, _, rfl, _, _, rfl, _, rfl, _, _, rfl, rfl, _, rfl, ?_⟩
      by_cases c1 : mn (ws.getD (i + 1) 0) (ws.getD (i + 2) 0) < ws.getD i 0
      · refine ifT (decide_eq_true c1) ?_
        refine ⟨_, rfl, _, rfl, _, rfl, _, _, rfl, _, _, rfl, rfl, ?_⟩
        have q1 := q _ e1
        unfold alwW alwN at q1
        rw [if_pos rfl, decide_eq_true c1, Bool.true_and] at q1
        exact q1
      · refine ifF (decide_eq_false c1) ?_
        have q1 := q _ e1
        unfold alwW alwN at q1
        rw [if_pos rfl, decide_eq_false c1, Bool.false_and] at q1
        exact q1
    | false =>
      refine ⟨_, rfl, rfl, false, rfl, iteF ?_⟩
      refine ⟨_, rfl, _, rfl, _, _, rfl, _, rfl, _, _, rfl, rfl, _, rfl, ?_⟩
      by_cases c1 : mn (ws.getD i 0) (ws.getD (i + 1) 0) ≤ ws.getD (i + 2) 0
      · refine ifT (decide_eq_true c1) ?_
        refine ⟨_, rfl, _, rfl, _, rfl, _, _, rfl, _, _, rfl, rfl, ?_⟩
        have q1 := q _ e1
        unfold alwW alwN at q1
        rw [if_neg (by decide), decide_eq_true c1, Bool.true_and] at q1
        exact q1
      · refine ifF (decide_eq_false c1) ?_
        have q1 := q _ e1
        unfold alwW alwN at q1
        rw [if_neg (by decide), decide_eq_false c1, Bool.false_and] at q1
        exact q1
/-- allowed, in the program's -/
def spAlw (K : PySem.W.Frag) : Sp := fun vs H Q _ => ∃ (v : V) (ws : List Int) (i : Int) (s : Str), vs = [v, .int i, .str s] ∧ Dp K H v (dW ws) ∧ RetV (.bl (alw ws i s)) H Q
theorem ok_is_allowed (T : Txt K mg) : FnOk P w K mg base CX0 1 T.is_allowed.f T.is_allowed.fd ["word", "index", "side"] (spAlw K) := by
  refine T.is_allowed.F.ok sc_is_allowed (fun vs H Q E h => ?_) (fun cdv A outer s H vs Q E hr h => ?_)
  · obtain ⟨v, ws, i, r, rfl, _⟩ := h
    rfl
  · obtain ⟨v, ws, i, z, rfl, hv, q⟩ := h
    obtain ⟨p, rfl, hS⟩ := dp_W_inv hv
    refine ⟨_, (pss_cons (ps_if (PW.pt (pw_or (pt_cmpR op_lt (pv 1) pe_int (nomark _)) (pw_or1 (pt_cmpR op_gt (pe_op op_add (pv 1) pe_int) (pe_callB call_len_seq (by rfl) T.len PySem.boot_len (pa_cons (pv 0) pa_nil)) (nomark _)))))
      (pss_one (ps_ret pe_bl))
      pss_nil)
      (pss_cons (ps_asg (pe_slice sl_list (pv 0) (po_some (pv 1)) (po_some (pe_op op_add (pv 1) pe_int))) (pg_lst (by rfl) (pgs_cons (pg_name (i := 3) sc_is_allowed.nd rfl (.inl rfl)) (pgs_cons (pg_name (i := 4) sc_is_allowed.nd rfl (.inl rfl)) (pgs_cons (pg_name (i := 5) sc_is_allowed.nd rfl (.inl rfl)) pgs_nil)))))
      (pss_cons (ps_if (pt_cmpR op_eq (pv 2) (pe_glob (x := "LEFT") (v := .str "left") (by rfl) T.LEFT ⟨_, rfl⟩) (nomark _))
      (pss_one (ps_ret (pe_chain op_le op_lt (pe_callB (call_min2 rfl) (by rfl) T.min (by decide +kernel) (pa_cons (pv 3) (pa_cons (pv 4) pa_nil))) (pv 5) (pe_callB (call_max2 rfl) (by rfl) T.max (by decide +kernel) (pa_cons (pv 3) (pa_cons (pv 4) pa_nil))))))
      pss_nil)
      (pss_cons (ps_if (pt_cmpR op_eq (pv 2) (pe_glob (x := "RIGHT") (v := .str "right") (by rfl) T.RIGHT ⟨_, rfl⟩) (nomark _))
      (pss_one (ps_ret (pe_chain op_lt op_le (pe_callB (call_min2 rfl) (by rfl) T.min (by decide +kernel) (pa_cons (pv 4) (pa_cons (pv 5) pa_nil))) (pv 3) (pe_callB (call_max2 rfl) (by rfl) T.max (by decide +kernel) (pa_cons (pv 4) (pa_cons (pv 5) pa_nil))))))
      pss_nil)
      (pss_one (ps_ret pe_bl)))))), ?_⟩
    refine ⟨_, rfl, _, _, rfl, rfl, _, rfl, ?_⟩
    by_cases c1 : i < 0
    · refine ifT (decide_eq_true c1) (iteT ?_)
      have q1 := q _ (Ex.refl H)
      unfold alw at q1
      rw [if_pos (.inl c1)] at q1
      exact q1
    refine ifF (decide_eq_false c1) ?_
    refine ⟨_, rfl, _, _, rfl, rfl, _, rfl, p, _, rfl, .inl hS, _, _, rfl, rfl, _, rfl, ?_⟩
    rw [List.length_map]
    by_cases c2 : (ws.length : Int) < i + 3
    · refine ifT (decide_eq_true c2) ?_
      have q1 := q _ (Ex.refl H)
      unfold alw at q1
      rw [if_pos (.inr c2)] at q1
      exact q1
    refine ifF (decide_eq_false c2) ?_
    obtain ⟨j, rfl⟩ : ∃ j : Nat, i = (j : Int) := ⟨i.toNat, by omega⟩
    have hi : j + 2 < ws.length := by omega
    have qa : ∀ H2, Ex H H2 → Q (.bl (if z = "left" then alwW ws j false else if z = "right" then alwW ws j true else false)) H2 := fun H2 e2 => by
      have q1 := q H2 e2
      unfold alw at q1
      rw [if_neg (by omega), Int.toNat_natCast] at q1
      exact q1
    refine ⟨_, rfl, _, rfl, _, rfl, _, rfl, _, _, rfl, rfl, _, rfl, p, _, rfl, hS, fun t nt => ?_⟩
    have e1 : Ex H (upd H t (.lst (cutV (ws.map V.int) (some (j : Int)) (some ((j : Int) + 3))))) := Ex.new nt
    refine ⟨t, _, rfl, SqL.of upd_same, by rw [cut3 hi]; rfl, ?_⟩
    rw [cut3 hi] at e1 ⊢
    refine ⟨_, _, rfl, _, _, rfl, _, _, rfl, rfl, ?_⟩
    refine ⟨_, rfl, rfl, _, rfl, ?_⟩
    by_cases c3 : z = "left"
    · subst c3
      refine ifT (decide_eq_true rfl) ?_
      refine ⟨_, rfl, _, rfl, _, _, rfl, _, rfl, _, _, rfl, rfl, _, rfl, ?_⟩
      have q1 := qa _ e1
      rw [if_pos rfl] at q1
      unfold alwW alwN at q1
      rw [if_neg (by decide)] at q1
      by_cases c4 : mn (ws.getD j 0) (ws.getD (j + 1) 0) ≤ ws.getD (j + 2) 0
      · refine ifT (decide_eq_true c4) ?_
        refine ⟨_, rfl, _, rfl, _, _, rfl, _, _, rfl, rfl, ?_⟩
        rw [decide_eq_true c4, Bool.true_and] at q1
        exact q1
      · refine ifF (decide_eq_false c4) ?_
        rw [decide_eq_false c4, Bool.false_and] at q1
        exact q1
    refine ifF (decide_eq_false fun y => c3 (V.str.inj y)) ?_
    refine ⟨_, rfl, rfl, _, rfl, ?_⟩
    by_cases c5 : z = "right"
    · subst c5
      refine ifT (decide_eq_true rfl) ?_
      refine ⟨_, rfl, _, rfl, _, _, rfl, _, rfl, _, _, rfl, rfl, _, rfl, ?_⟩
      have q1 := qa _ e1
      rw [if_neg (by decide), if_pos rfl] at q1
      unfold alwW alwN at q1
      rw [if_pos rfl] at q1
      by_cases c4 : mn (ws.getD (j + 1) 0) (ws.getD (j + 2) 0) < ws.getD j 0
      · refine ifT (decide_eq_true c4) ?_
        refine ⟨_, rfl, _, rfl, _, _, rfl, _, _, rfl, rfl, ?_⟩
        rw [decide_eq_true c4, Bool.true_and] at q1
        exact q1
      · refine ifF (decide_eq_false c4) ?_
        rw [decide_eq_false c4, Bool.false_and] at q1
        exact q1
    refine ifF (decide_eq_false fun y => c5 (V.str.inj y)) ?_
    have q1 := qa _ e1
    rw [if_neg c3, if_neg c5] at q1
    exact q1

abbrev mvD (i : Int) (s : Str) : PyData := .tuple [.int i, .str s]
theorem dp_mv_inv {H : Hp} {u : V} {i : Int} {s : Str} (h : Dp K H u (mvD i s)) : ∃ q, u = .ref q ∧ SqT K H q [.int i, .str s] := by
  cases h with
  | tup hs ha =>
    cases ha with
    | cons a b =>
      cases b with
      | cons a' b' =>
        cases b'
        cases a
        cases a'
        exact ⟨_, rfl, hs⟩
theorem moved_at {ws : List Int} {i : Nat} {r : Bool} (p : Nat) (e : (if r then i + 1 else i) = p) : (((ws.map V.int).set p (.int (ws.getD (p + 1) 0))).set (p + 1) (.int (ws.getD p 0))) = (moved ws i r).map V.int := by
  subst e
  unfold moved
  rw [List.map_set, List.map_set]
/-- the law's own exchange -/
def spMoved (K : PySem.W.Frag) : Sp := fun vs H Q _ => ∃ (v u : V) (ws : List Int) (i : Nat) (r : Bool), vs = [v, u] ∧ Dp K H v (dW ws) ∧ Dp K H u (mvD i (sd r)) ∧ i + 2 < ws.length ∧ ws.length ≤ 1000 ∧ RetL ((moved ws i r).map V.int) H Q
theorem ok_law_moved (T : Txt K mg) : FnOk P w K mg base CX0 1 T.law_moved.f T.law_moved.fd ["word", "move"] (spMoved K) := by
  refine T.law_moved.F.ok sc_law_moved (fun vs H Q E h => ?_) (fun cdv A outer s H vs Q E hr h => ?_)
  · obtain ⟨v, u, ws, i, r, rfl, _⟩ := h
    rfl
  · obtain ⟨v, u, ws, i, r, rfl, hv, hu, hi, hl, q⟩ := h
    obtain ⟨p, rfl, hS⟩ := dp_W_inv hv
    obtain ⟨m, rfl, hM⟩ := dp_mv_inv hu
    refine ⟨_, (pss_cons (ps_set (i := 2) sc_law_moved.nd rfl (.inl rfl) (pe_op op_add (pe_ix ix_tup (pv 1) pe_int (fun _ _ => rfl)) (pe_callTy call_int1 (by rfl) T.int (by decide +kernel) (pa_cons (pe_cmpR op_eq (pe_ix ix_tup (pv 1) pe_int (fun _ _ => rfl)) pe_str (nomark _)) pa_nil))))
      (pss_cons (ps_set (i := 3) sc_law_moved.nd rfl (.inl rfl) (pe_callTy call_list_of (by rfl) T.list (by decide +kernel) (pa_cons (pv 0) pa_nil)))
      (pss_cons (ps_asg (pe_ix ix_list (pv 0) (pe_op op_add (pv 2) pe_int) (fun _ _ => rfl)) (pg_sub (pv 3) (pv 2) set_list))
      (pss_cons (ps_asg (pe_ix ix_list (pv 0) (pv 2) (fun _ _ => rfl)) (pg_sub (pv 3) (pe_op op_add (pv 2) pe_int) set_list))
      (pss_one (ps_ret (pv 3))))))), ?_⟩
    obtain ⟨pl, ep, hp1⟩ : ∃ pl : Nat, (if r then i + 1 else i) = pl ∧ pl + 1 < ws.length := by
      cases r with
      | true => exact ⟨i + 1, rfl, by omega⟩
      | false => exact ⟨i, rfl, by omega⟩
    refine ⟨_, rfl, m, _, _, _, rfl, rfl, hM, atI_nat (j := 0) rfl, _, rfl, m, _, _, _, rfl, rfl, hM, atI_nat (j := 1) rfl, rfl, .inr ⟨decide (V.str (sd r) = V.str "right"), rfl, _, _, rfl, rfl, ?_⟩⟩
    have epl : (i : Int) + (if decide (V.str (sd r) = V.str "right") = true then (1 : Int) else 0) = (pl : Int) := by
      rw [← ep]
      cases r with
      | true => rfl
      | false =>
        show (i : Int) + 0 = (i : Int)
        omega
    refine ⟨_, rfl, p, _, rfl, .inl hS, fun l nl => ?_⟩
    have hS1 : SqL K (upd H l (.lst (ws.map V.int))) p (ws.map V.int) := Evl.ex_l (Ex.new nl) hS
    have g1 : (ws.map V.int)[pl + 1]? = some (.int (ws.getD (pl + 1) 0)) := mapAt (getD_some hp1)
    have g0 : (ws.map V.int)[pl]? = some (.int (ws.getD pl 0)) := mapAt (getD_some (by omega))
    refine ⟨_, rfl, _, rfl, _, _, rfl, rfl, p, _, _, _, rfl, rfl, hS1, at_of (j := pl + 1) (by rw [epl]; rfl) g1, _, rfl, _, rfl, l, _, _, pl, rfl, rfl, upd_same, by rw [epl]; exact Evl.ixN_nat (by rw [List.length_map]; omega), ?_⟩
    rw [upd_upd]
    have hS2 : SqL K (upd H l (.lst ((ws.map V.int).set pl (.int (ws.getD (pl + 1) 0))))) p (ws.map V.int) := Evl.ex_l (Ex.new nl) hS
    refine ⟨_, rfl, _, rfl, p, _, _, _, rfl, rfl, hS2, at_of (j := pl) epl g0, _, rfl, _, rfl, _, _, rfl, rfl, l, _, _, pl + 1, rfl, rfl, upd_same, by rw [epl]; exact Evl.ixN_nat (j := pl + 1) (by rw [List.length_set, List.length_map]; omega), ?_⟩
    rw [upd_upd]
    exact ⟨_, rfl, q l _ nl (Ex.new nl) (by rw [upd_same, moved_at pl ep])⟩
/-- the program's: it may raise -/
def spMake (K : PySem.W.Frag) (C : Addr) : Sp := fun vs H Q E => ∃ (v u : V) (ws : List Int) (i : Int) (s : Str), vs = [v, u] ∧ Dp K H v (dW ws) ∧ Dp K H u (mvD i s) ∧ ws.length ≤ 1000 ∧
  (alw ws i s = false → ∀ H2, Ex H H2 → E (.ref C) none H2) ∧ (alw ws i s = true → ∀ (j : Nat) (r : Bool), i = (j : Int) → s = sd r → RetL ((moved ws j r).map V.int) H Q)
theorem alw_true {ws : List Int} {i : Int} {s : Str} (h : alw ws i s = true) : ∃ (j : Nat) (r : Bool), i = (j : Int) ∧ s = sd r ∧ j + 2 < ws.length ∧ alwW ws j r = true := by
  unfold alw at h
  by_cases c : i < 0 ∨ (ws.length : Int) < i + 3
  · rw [if_pos c] at h
    cases h
  · rw [if_neg c] at h
    refine ⟨i.toNat, ?_⟩
    by_cases c1 : s = "left"
    · rw [if_pos c1] at h
      exact ⟨false, by omega, c1, by omega, h⟩
    · rw [if_neg c1] at h
      by_cases c2 : s = "right"
      · rw [if_pos c2] at h
        exact ⟨true, by omega, c2, by omega, h⟩
      · rw [if_neg c2] at h
        cases h
theorem ok_make_move (T : Txt K mg) : FnOk P w K mg base (L2.CX P w) 2 T.make_move.f T.make_move.fd ["word", "move"] (spMake K T.WrongMove.C) := by
  refine T.make_move.F.okX sc_make_move (fun vs H Q E h => ?_) (fun cdv A outer s H vs Q E hr h => ?_)
  · obtain ⟨v, u, ws, i, r, rfl, _⟩ := h
    rfl
  · obtain ⟨v, u, ws, i, z, rfl, hv, hu, hl, qe, q⟩ := h
    obtain ⟨m, rfl, hM⟩ := dp_mv_inv hu
    refine ⟨_, (pss_cons (ps_asg (pv 1) (pg_tup (by rfl) (pgs_cons (pg_name (i := 2) sc_make_move.nd rfl (.inl rfl)) (pgs_cons (pg_name (i := 3) sc_make_move.nd rfl (.inl rfl)) pgs_nil))))
      (pss_cons (ps_if (pt_not (pt_val (pe_call (ok_is_allowed T) (hr.mono (by decide)) rfl T.is_allowed.g T.is_allowed.F.kp T.is_allowed.b .nil pass0 (pa_cons (pv 0) (pa_cons (pv 2) (pa_cons (pv 3) pa_nil))))))
      (pss_one (ps_raise rfl (takes_of rfl rfl rfl rfl) (pmk_own PySem.F.excBase_ValueError T.WrongMove.x T.WrongMove.g T.WrongMove.k (raises_own T.WrongMove.b T.WrongMove.t) rfl)))
      pss_nil)
      (pss_cons (ps_set (i := 4) sc_make_move.nd rfl (.inl rfl) (pe_ifExp (pt_cmpR op_eq (pv 3) (pe_glob (x := "LEFT") (v := .str "left") (by rfl) T.LEFT ⟨_, rfl⟩) (nomark _)) (pv 2) (pe_op op_add (pv 2) pe_int)))
      (pss_cons (ps_set (i := 5) sc_make_move.nd rfl (.inl rfl) (pe_callTy call_list_of (by rfl) T.list (by decide +kernel) (pa_cons (pv 0) pa_nil)))
      (pss_cons (ps_asg (pe_tup (pa_cons (pe_ix ix_list (pv 0) (pe_op op_add (pv 4) pe_int) (fun _ _ => rfl)) (pa_cons (pe_ix ix_list (pv 0) (pv 4) (fun _ _ => rfl)) pa_nil))) (pg_tup (by rfl) (pgs_cons (pg_sub (pv 5) (pv 4) set_list) (pgs_cons (pg_sub (pv 5) (pe_op op_add (pv 4) pe_int) set_list) pgs_nil))))
      (pss_one (ps_ret (pv 5)))))))), ?_⟩
    refine ⟨_, rfl, m, _, rfl, hM, rfl, _, _, rfl, _, _, rfl, rfl, ?_⟩
    refine ⟨_, rfl, _, rfl, _, rfl, _, ws, i, z, rfl, hv, fun H2 e2 => ⟨_, rfl, ?_⟩⟩
    cases c : alw ws i z with
    | false =>
      refine iteT ?_
      exact qe c _ e2
    | true =>
      refine iteF ?_
      obtain ⟨j, r, rfl, rfl, hj, _⟩ := alw_true c
      have q := q c j r rfl rfl
      obtain ⟨p, rfl, hS⟩ := dp_W_inv (hv.mono e2)
      obtain ⟨pl, ep, hp1⟩ : ∃ pl : Nat, (if r then j + 1 else j) = pl ∧ pl + 1 < ws.length := by
        cases r with
        | true => exact ⟨j + 1, rfl, by omega⟩
        | false => exact ⟨j, rfl, by omega⟩
      have g1 : (ws.map V.int)[pl + 1]? = some (.int (ws.getD (pl + 1) 0)) := mapAt (getD_some hp1)
      have g0 : (ws.map V.int)[pl]? = some (.int (ws.getD pl 0)) := mapAt (getD_some (by omega))
      have rest : ∀ x : V, x = .int (pl : Int) → ∀ D : Ends, D.rt = Q → (tSeq (tAsg (tCB (fun xs H Q => ∃ p ys, xs = [.ref p] ∧ (SqL K H p ys ∨ SqT K H p ys) ∧ ∀ l, H l = none → Q (.ref l) (upd H l (.lst ys))) (tCons (tVar 0) tNil)) (gName 5))
          (tSeq (tAsg (tTup (tCons (tOp (rIxL K) (tVar 0) (tOp (rI0 fun i j => .int (i + j)) (tVar 4) (tC (.int 1)))) (tCons (tOp (rIxL K) (tVar 0) (tVar 4)) tNil))) (gTup K 2 (gCons (gSub (tVar 5) (tVar 4) rSetL) (gCons (gSub (tVar 5) (tOp (rI0 fun i j => .int (i + j)) (tVar 4) (tC (.int 1))) rSetL) gNil)))) (tRet (tVar 5)))) D
          [some (.ref p), some (.ref m), some (.int (j : Int)), some (.str (sd r)), some x, none] H2 := by
        intro x ex D eD
        subst ex
        refine ⟨_, rfl, p, _, rfl, .inl hS, fun l nl => ?_⟩
        have hS1 : SqL K (upd H2 l (.lst (ws.map V.int))) p (ws.map V.int) := Evl.ex_l (Ex.new nl) hS
        refine ⟨_, rfl, _, rfl, _, _, rfl, rfl, p, _, _, _, rfl, rfl, hS1, at_of (j := pl + 1) rfl g1, _, rfl, _, rfl, p, _, _, _, rfl, rfl, hS1, at_of (j := pl) rfl g0, by show 2 ≤ sizeLine; decide, fun t nt => ?_⟩
        have ntl : l ≠ t := ne_of_none upd_same nt
        refine ⟨t, _, rfl, SqT.of upd_same, rfl, _, _, rfl, _, rfl, _, rfl, l, ws.map V.int, _, pl, rfl, rfl, by rw [upd_ne ntl]; exact upd_same, Evl.ixN_nat (by rw [List.length_map]; omega), ?_⟩
        refine ⟨_, _, rfl, _, rfl, _, rfl, _, _, rfl, rfl, l, _, _, pl + 1, rfl, rfl, upd_same, Evl.ixN_nat (j := pl + 1) (by rw [List.length_set, List.length_map]; omega), rfl, ?_⟩
        refine ⟨_, rfl, ?_⟩
        rw [eD]
        have n2 : H l = none := Evl.fresh_back e2 nl
        refine q l _ n2 (Ex.mut (Ex.mut ((e2.trans (Ex.new nl)).trans (Ex.new nt)) n2) n2) (by rw [upd_same, moved_at pl ep])
      refine ⟨_, rfl, rfl, _, rfl, ?_⟩
      cases r with
      | true =>
        refine iteF ⟨_, rfl, _, _, rfl, rfl, ?_⟩
        exact rest _ (by rw [← ep]; rfl) _ rfl
      | false =>
        refine iteT ⟨_, rfl, ?_⟩
        exact rest _ (by rw [← ep]; rfl) _ rfl

/-! ### the list of the allowed moves -/
def opts (ws : List Int) (i : Nat) (l : List Bool) : List (Nat × Bool) := (l.filter (alwW ws i)).map fun r => (i, r)
def mvs (ws : List Int) (n : Nat) : List (Nat × Bool) := (List.range n).flatMap fun i => opts ws i [false, true]
theorem mvs_succ (ws : List Int) (n : Nat) : mvs ws (n + 1) = mvs ws n ++ opts ws n [false, true] := by
  unfold mvs
  rw [List.range_succ, List.flatMap_append, List.flatMap_singleton]
theorem opts_snoc (ws : List Int) (i : Nat) (l : List Bool) (r : Bool) : opts ws i (l ++ [r]) = opts ws i l ++ (if alwW ws i r then [(i, r)] else []) := by
  unfold opts
  rw [List.filter_append, List.map_append]
  cases h : alwW ws i r <;> simp [h]
theorem opts_len (ws : List Int) (i : Nat) (l : List Bool) : (opts ws i l).length ≤ l.length := by
  unfold opts
  rw [List.length_map]
  exact List.length_filter_le _ _
theorem mvs_len (ws : List Int) : ∀ n, (mvs ws n).length ≤ 2 * n
  | 0 => by simp [mvs]
  | n + 1 => by
    have h := mvs_len ws n
    have h2 := opts_len ws n [false, true]
    rw [mvs_succ, List.length_append]
    simp only [List.length_cons, List.length_nil] at h2
    omega
theorem mem_mvs {ws : List Int} {n i : Nat} {r : Bool} : (i, r) ∈ mvs ws n ↔ i < n ∧ alwW ws i r = true := by
  unfold mvs opts
  simp only [List.mem_flatMap, List.mem_range, List.mem_map, List.mem_filter, Prod.mk.injEq]
  constructor
  · rintro ⟨j, hj, r', ⟨_, h⟩, rfl, rfl⟩
    exact ⟨hj, h⟩
  · rintro ⟨h, a⟩
    exact ⟨i, h, r, ⟨by cases r <;> simp, a⟩, rfl, rfl⟩
def dMs (ms : List (Nat × Bool)) : List PyData := ms.map fun m => mvD m.1 (sd m.2)
theorem alw_nat {ws : List Int} {i : Nat} {r : Bool} (h : i + 2 < ws.length) : alw ws (i : Int) (sd r) = alwW ws i r := by
  unfold alw
  rw [if_neg (by omega), Int.toNat_natCast]
  cases r with
  | true => rw [if_neg (by decide), if_pos (show sd true = "right" from rfl)]
  | false => rw [if_pos (show sd false = "left" from rfl)]
def spMvs (K : PySem.W.Frag) : Sp := fun vs H Q _ => ∃ (v : V) (ws : List Int), vs = [v] ∧ Dp K H v (dW ws) ∧ ws.length ≤ 1000 ∧ ∀ v' H2, Ex H H2 → Dp K H2 v' (.list (dMs (mvs ws (ws.length - 2)))) → Q v' H2
theorem ok_allowed_moves (T : Txt K mg) : FnOk P w K mg base CX0 2 T.allowed_moves.f T.allowed_moves.fd ["word"] (spMvs K) := by
  refine T.allowed_moves.F.ok sc_allowed_moves (fun vs H Q E h => ?_) (fun cdv A outer s H vs Q E hr h => ?_)
  · obtain ⟨v, ws, rfl, _⟩ := h
    rfl
  · obtain ⟨v, ws, rfl, hv, hl, q⟩ := h
    obtain ⟨p, rfl, hS⟩ := dp_W_inv hv
    refine ⟨_, (pss_one (ps_ret (pe_lc2 (wi1 := (iTup K (tTup (tCons (tC (.str "left")) (tCons (tC (.str "right")) tNil))))) (own := [("index", 1), ("side", 2)]) (vs1 := [2]) (by rfl) sc_allowed_moves.nd (pi_range1 (by rfl) T.range (pa_cons (pe_op op_sub (pe_callB call_len_seq (by rfl) T.len PySem.boot_len (pa_cons (pv 0) pa_nil)) pe_int) pa_nil)) (blkOk_by (own := [("index", 1), ("side", 2)]) (N := N_allowed_moves) (sc := defScope s_allowed_moves) (by decide +kernel)) (by decide) (fun _ _ _ _ _ => (pg_name (i := 1) sc_allowed_moves.nd rfl (.inl rfl))) (fun _ _ _ _ _ => pts_nil) (fun _ _ _ _ _ => (pi_tup (pe_tup (pa_cons (pe_glob (x := "LEFT") (v := .str "left") (by rfl) T.LEFT ⟨_, rfl⟩) (pa_cons (pe_glob (x := "RIGHT") (v := .str "right") (by rfl) T.RIGHT ⟨_, rfl⟩) pa_nil))))) (fun _ _ _ _ _ => (pg_name (i := 2) sc_allowed_moves.nd rfl (.inl rfl))) (fun _ _ _ _ _ => (pts_one (pt_val (pe_call (ok_is_allowed T) (hr.mono (by decide)) rfl T.is_allowed.g T.is_allowed.F.kp T.is_allowed.b .nil pass0 (pa_cons (pv 0) (pa_cons (pv 1) (pa_cons (pv 2) pa_nil))))))) (fun _ _ _ _ _ => (pe_tup (pa_cons (pv 1) (pa_cons (pv 2) pa_nil))))))), ?_⟩
    refine ⟨_, rfl, p, _, rfl, .inl hS, _, _, rfl, rfl, (ws.map V.int).length - 2, rfl, by omega, by rw [List.length_map]; omega, fun D nD => ?_⟩
    refine lc2_range (lo := 0) (n := (((ws.map V.int).length : Int) - 2).toNat) (fun i H' => ∃ vs, H' D = some (.lst vs) ∧ DpAll K (wo D H') vs (dMs (mvs ws i)) ∧ Ex H H') ⟨[], upd_same, .nil, Ex.new nD⟩ ?_ ?_
    · rintro i H' hi ⟨vs, hD, hall, e1⟩
      rw [List.length_map] at hi
      have hi2 : i + 2 < ws.length := by omega
      refine ⟨rfl, ?_⟩
      refine iteT (B := ∃ vs, H' D = some (HO.lst vs) ∧ DpAll K (wo D H') vs (dMs (mvs ws (i + 1))) ∧ Ex H H') ?_
      refine ⟨by show 2 ≤ sizeLine; decide, fun t nt => ⟨t, rfl, ⟨_, SqT.of upd_same⟩, ?_⟩⟩
      refine lcin_tup (xs := [.str "left", .str "right"]) (fun j H' => ∃ vs, H' D = some (.lst vs) ∧ DpAll K (wo D H') vs (dMs (mvs ws i ++ opts ws i ([false, true].take j))) ∧ Ex H H' ∧ H' t = some (.tup [.str "left", .str "right"]))
        ⟨vs, by rw [upd_ne (ne_of_none hD nt)]; exact hD, by rw [List.take_zero]; simpa [opts] using hall.mono (ex_wo (Ex.new nt)), e1.trans (Ex.new nt), upd_same⟩ (fun j H' _ ⟨_, _, _, _, ht⟩ => SqT.of ht) ?_ ?_
      · rintro j x H5 hj ⟨vs5, hD5, hall5, e5, ht5⟩
        obtain ⟨r, rfl, hr5, hj2⟩ : ∃ r : Bool, x = .str (sd r) ∧ [false, true].take (j + 1) = [false, true].take j ++ [r] ∧ j < 2 := by
          match j, hj with
          | 0, hj => cases hj; exact ⟨false, rfl, rfl, by omega⟩
          | 1, hj => cases hj; exact ⟨true, rfl, rfl, by omega⟩
        refine ⟨rfl, _, rfl, _, rfl, _, rfl, .ref p, ws, _, _, rfl, dp_W (Evl.ex_l e5 hS), fun H6 e6 => ⟨_, rfl, ?_⟩⟩
        rw [show ((0 : Int) + (i : Int)) = (i : Int) from Int.zero_add _, alw_nat hi2, hr5]
        have hlen : vs5.length < 100000 := by
          have := dp_len hall5
          unfold dMs at this
          rw [List.length_map, List.length_append] at this
          have h1 := mvs_len ws i
          have h2 := opts_len ws i ([false, true].take j)
          have h3 : ([false, true].take j).length ≤ 2 := by rw [List.length_take]; exact Nat.min_le_right _ _
          omega
        cases c : alwW ws i r with
        | true =>
          refine iteT ⟨_, rfl, _, rfl, by show 2 ≤ sizeLine; decide, fun z nz => ⟨vs5, ?_, szl hlen, vs5 ++ [.ref z], upd_same, ?_, ?_, ?_⟩⟩
          · rw [upd_ne (ne_of_none (e6 _ _ hD5) nz)]
            exact e6 _ _ hD5
          · rw [wo_upd, opts_snoc, c, if_pos rfl, ← List.append_assoc]
            unfold dMs
            rw [List.map_append (l₂ := [(i, r)])]
            refine dp_snoc (hall5.mono (ex_wo (e6.trans (Ex.new nz)))) ?_
            exact .tup (Evl.st_of (wo_of (fun q => by rw [q, e6 _ _ hD5] at nz; cases nz) upd_same)) (.cons (.int _) (.cons (.str _) .nil))
          · exact Ex.mut (e5.trans (e6.trans (Ex.new nz))) nD
          · rw [upd_ne (ne_of ht5 hD5 (fun z => by cases z)), upd_ne (ne_of_none (e6 _ _ ht5) nz)]
            exact e6 _ _ ht5
        | false =>
          refine iteF ⟨vs5, e6 _ _ hD5, ?_, e5.trans e6, e6 _ _ ht5⟩
          rw [opts_snoc, c, if_neg (by decide), List.append_nil]
          exact hall5.mono (ex_wo e6)
      · rintro H5 ⟨vs5, hD5, hall5, e5, _⟩
        refine ⟨vs5, hD5, ?_, e5⟩
        rw [mvs_succ]
        exact hall5
    · rintro H5 ⟨vs5, hD5, hall5, e5⟩
      refine q _ _ e5 (.lst (SqL.of hD5) ?_)
      have en : (((ws.map V.int).length : Int) - 2).toNat = ws.length - 2 := by rw [List.length_map]; omega
      rw [en] at hall5
      exact hall5.mono (wo_ex D)
theorem ok_law_allowed (T : Txt K mg) : FnOk P w K mg base CX0 2 T.law_allowed.f T.law_allowed.fd ["word"] (spMvs K) := by
  refine T.law_allowed.F.ok sc_law_allowed (fun vs H Q E h => ?_) (fun cdv A outer s H vs Q E hr h => ?_)
  · obtain ⟨v, ws, rfl, _⟩ := h
    rfl
  · obtain ⟨v, ws, rfl, hv, hl, q⟩ := h
    obtain ⟨p, rfl, hS⟩ := dp_W_inv hv
    refine ⟨_, (pss_cons (ps_set (i := 1) sc_law_allowed.nd rfl (.inl rfl) (pe_lst pa_nil))
      (pss_cons (ps_for PassesOwn.never rfl (pi_range1 (by rfl) T.range (pa_cons (pe_op op_sub (pe_callB call_len_seq (by rfl) T.len PySem.boot_len (pa_cons (pv 0) pa_nil)) pe_int) pa_nil)) (pg_name (i := 2) sc_law_allowed.nd rfl (.inl rfl))
      (pss_one (ps_for PassesOwn.never rfl (pi_list (pe_lst (pa_cons pe_str (pa_cons pe_str pa_nil)))) (pg_name (i := 3) sc_law_allowed.nd rfl (.inl rfl))
        (pss_one (ps_if (pt_val (pe_call (ok_law_is_allowed T) (hr.mono (by decide)) rfl T.law_is_allowed.g T.law_is_allowed.F.kp T.law_is_allowed.b .nil pass0 (pa_cons (pv 0) (pa_cons (pv 2) (pa_cons (pv 3) pa_nil)))))
          (pss_one (ps_expr (pe_bm PySem.F.plainAttrs_list PySem.F.slot_list_append PySem.F.type_list_append mt_append (pv 1) (pa_cons (pe_tup (pa_cons (pv 2) (pa_cons (pv 3) pa_nil))) pa_nil))))
          pss_nil)))))
      (pss_one (ps_ret (pv 1))))), ?_⟩
    refine ⟨Nat.zero_le _, fun D nD => ?_⟩
    refine ⟨_, rfl, p, _, rfl, .inl (Evl.ex_l (Ex.new nD) hS), _, _, rfl, rfl, (ws.map V.int).length - 2, rfl, by omega, by rw [List.length_map]; omega, ?_⟩
    refine for_range (lo := 0) (n := (((ws.map V.int).length : Int) - 2).toNat) (fun i σ H' => ∃ vs x2 x3, σ = [some (.ref p), some (.ref D), x2, x3] ∧ H' D = some (.lst vs) ∧ DpAll K (wo D H') vs (dMs (mvs ws i)) ∧ Ex H H') ⟨[], none, none, rfl, upd_same, .nil, Ex.new nD⟩ ?_ ?_
    · rintro i σ H' hi ⟨vs, x2, x3, rfl, hD, hall, e1⟩
      rw [List.length_map] at hi
      have hi2 : i + 2 < ws.length := by omega
      refine ⟨by show 2 ≤ sizeLine; decide, fun t nt => ⟨t, rfl, ⟨_, SqL.of upd_same⟩, ?_⟩⟩
      have Dt : D ≠ t := ne_of_none hD nt
      refine for_list (K := K) (a := t) (xs := [.str "left", .str "right"]) (fun j σ H' => ∃ vs x3, σ = [some (.ref p), some (.ref D), some (.int (0 + (i : Int))), x3] ∧ H' D = some (.lst vs) ∧ DpAll K (wo D H') vs (dMs (mvs ws i ++ opts ws i ([false, true].take j))) ∧ Ex H H' ∧ H' t = some (.lst [.str "left", .str "right"]))
        ⟨vs, x3, rfl, by rw [upd_ne (ne_of_none hD nt)]; exact hD, by rw [List.take_zero]; simpa [opts] using hall.mono (ex_wo (Ex.new nt)), e1.trans (Ex.new nt), upd_same⟩ (fun j σ H' _ ⟨_, _, _, _, _, _, ht⟩ => SqL.of ht) ?_ ?_
      · rintro j x σ H5 hj ⟨vs5, x3, rfl, hD5, hall5, e5, ht5⟩
        obtain ⟨r, rfl, hr5, hj2⟩ : ∃ r : Bool, x = .str (sd r) ∧ [false, true].take (j + 1) = [false, true].take j ++ [r] ∧ j < 2 := by
          match j, hj with
          | 0, hj => cases hj; exact ⟨false, rfl, rfl, by omega⟩
          | 1, hj => cases hj; exact ⟨true, rfl, rfl, by omega⟩
        have ei : ((0 : Int) + (i : Int)) = (i : Int) := Int.zero_add _
        refine ⟨_, rfl, _, rfl, _, rfl, .ref p, ws, i, r, by rw [ei]; rfl, dp_W (Evl.ex_l e5 hS), hi2, fun H6 e6 => ⟨_, rfl, ?_⟩⟩
        have hlen : vs5.length < 100000 := by
          have := dp_len hall5
          unfold dMs at this
          rw [List.length_map, List.length_append] at this
          have h1 := mvs_len ws i
          have h2 := opts_len ws i ([false, true].take j)
          have h3 : ([false, true].take j).length ≤ 2 := by rw [List.length_take]; exact Nat.min_le_right _ _
          omega
        cases c : alwW ws i r with
        | true =>
          refine iteT ⟨_, rfl, .inl ⟨rfl, _, SqL.of (e6 _ _ hD5)⟩, _, rfl, _, rfl, by show 2 ≤ sizeLine; decide, fun z nz => ?_⟩
          refine ⟨D, vs5, _, rfl, rfl, by rw [upd_ne (ne_of_none (e6 _ _ hD5) nz)]; exact e6 _ _ hD5, szl hlen, vs5 ++ [.ref z], _, rfl, upd_same, ?_, ?_, ?_⟩
          · rw [wo_upd, hr5, opts_snoc, c, if_pos rfl, ← List.append_assoc, ei]
            unfold dMs
            rw [List.map_append (l₂ := [(i, r)])]
            refine dp_snoc (hall5.mono (ex_wo (e6.trans (Ex.new nz)))) ?_
            exact .tup (Evl.st_of (wo_of (fun q => by rw [q, e6 _ _ hD5] at nz; cases nz) upd_same)) (.cons (.int _) (.cons (.str _) .nil))
          · exact Ex.mut (e5.trans (e6.trans (Ex.new nz))) nD
          · rw [upd_ne Dt.symm, upd_ne (ne_of_none (e6 _ _ ht5) nz)]
            exact e6 _ _ ht5
        | false =>
          refine iteF ⟨vs5, _, rfl, e6 _ _ hD5, ?_, e5.trans e6, e6 _ _ ht5⟩
          rw [hr5, opts_snoc, c, if_neg (by decide), List.append_nil]
          exact hall5.mono (ex_wo e6)
      · rintro σ H5 ⟨vs5, x3, rfl, hD5, hall5, e5, _⟩
        refine ⟨vs5, _, _, rfl, hD5, ?_, e5⟩
        rw [mvs_succ]
        exact hall5
    · rintro σ H5 ⟨vs5, x2, x3, rfl, hD5, hall5, e5⟩
      refine ⟨_, rfl, q _ _ e5 (.lst (SqL.of hD5) ?_)⟩
      have en : (((ws.map V.int).length : Int) - 2).toNat = ws.length - 2 := by rw [List.length_map]; omega
      rw [en] at hall5
      exact hall5.mono (wo_ex D)
/-- a move that is refused -/
def spRefused (K : PySem.W.Frag) : Sp := fun vs H Q _ => ∃ (v u : V) (ws : List Int) (i : Int) (s : Str), vs = [v, u] ∧ Dp K H v (dW ws) ∧ Dp K H u (mvD i s) ∧ ws.length ≤ 1000 ∧ alw ws i s = false ∧ RetV (.bl true) H Q
theorem ok_law_refused (T : Txt K mg) : FnOk P w K mg base CX0 3 T.law_refused.f T.law_refused.fd ["word", "move"] (spRefused K) := by
  refine T.law_refused.F.ok sc_law_refused (fun vs H Q E h => ?_) (fun cdv A outer s H vs Q E hr h => ?_)
  · obtain ⟨v, u, ws, i, s, rfl, _⟩ := h
    rfl
  · obtain ⟨v, u, ws, i, z, rfl, hv, hu, hl, c, q⟩ := h
    refine ⟨_, (pss_cons (ps_try_as (i := 2) rfl rfl sc_law_refused.nd rfl rfl ⟨rfl, by decide, .inl T.WrongMove.g⟩ takes0
      (fun W pn xe tk _ => (pss_one (ps_expr (pe_callS (ok_make_move T) (hr.mono (by decide)) rfl T.make_move.g T.make_move.F.kp T.make_move.b (fun σ => passAt tk σ) (pa_cons (pv 0) (pa_cons (pv 1) pa_nil))))))
      (fun a oe cls d pn hz hf => pss_when (p := cls = .ref T.WrongMove.C ∧ d = none) (fun hw => (pss_one (ps_ret (pe_and (pe_callB (call_isE T.WrongMove.c (hw.1 ▸ hw.2 ▸ hz) hf) (by rfl) T.isinstance (by decide +kernel) (pa_cons (pv 2) (pa_cons (pe_glob (x := "CoverError") (v := .ref T.CoverError.C) (by rfl) T.CoverError.g rfl) pa_nil))) (pe_one (pe_callB (call_isE T.WrongMove.c (hw.1 ▸ hw.2 ▸ hz) hf) (by rfl) T.isinstance (by decide +kernel) (pa_cons (pv 2) (pa_cons (pe_bltn (v := .ty "ValueError") (u := .type "ValueError") (by rfl) T.ValueError (by decide +kernel) rfl) pa_nil))))))))))
      (pss_one (ps_ret pe_bl))), ?_⟩
    refine ⟨_, rfl, _, rfl, v, u, ws, i, z, rfl, hv, hu, hl, fun _ H2 e2 => ?_, fun c' => by rw [c] at c'; cases c'⟩
    refine ⟨true, T.WrongMove.e, fun _ a na => ⟨⟨rfl, rfl⟩, ?_⟩, fun z => Bool.noConfusion z⟩
    refine ⟨_, rfl, .ref T.CoverError.C, _, true, rfl, fun u h => h, T.WrongMove_CoverError, true, rfl, iteT ?_⟩
    exact ⟨_, rfl, .ty "ValueError", _, true, rfl, fun u h => h, T.WrongMove.kv, q _ e2⟩
end

def spLaw (K : PySem.W.Frag) : Sp := fun vs H Q _ => ∃ (a : Addr) (ns : List Int), vs = [.ref a] ∧ SqL K H a (ns.map V.int) ∧ ns.length ≤ 63 ∧ ∀ H', Q (.bl true) H'
theorem law_end {K : PySem.W.Frag} {H : Hp} {a : Addr} {ns : List Int} (hl : ns.length ≤ 63) (hO : Only H) (hS : SqL K H a (ns.map V.int)) : spLaw K [.ref a] H (fun v _ => v = .bl true) fun _ _ _ => False := ⟨a, ns, rfl, hS, hl, fun _ => rfl⟩

-- CUT law: 3
-- DEEP law: [index for index in range(len(word)) if not _law_refused(handed, (index, side))] == []
-- 6 6
theorem sd_inj {r s : Bool} (h : sd r = sd s) : r = s := by
  cases r <;> cases s <;> first | rfl | (exfalso; revert h; decide)
theorem set2_get {ws : List Int} {p n : Nat} {x y : Int} (h : p + 1 < ws.length) : ((ws.set p x).set (p + 1) y)[n]? = if n = p + 1 then some y else if n = p then some x else ws[n]? := by
  rw [List.getElem?_set, List.getElem?_set, List.length_set]
  by_cases c : n = p + 1
  · subst c
    simp [h]
  · rw [if_neg (fun e => c e.symm), if_neg c]
    by_cases c2 : n = p
    · subst c2
      simp [show n < ws.length by omega]
    · rw [if_neg (fun e => c2 e.symm), if_neg c2]
theorem moved_len (ws : List Int) (i : Nat) (r : Bool) : (moved ws i r).length = ws.length := by
  unfold moved
  rw [List.length_set, List.length_set]
theorem moved_get {ws : List Int} {i : Nat} {r : Bool} (h : i + 2 < ws.length) (n : Nat) : (moved ws i r)[n]? = ws[if r then (if n = i + 1 then i + 2 else if n = i + 2 then i + 1 else n) else (if n = i then i + 1 else if n = i + 1 then i else n)]? := by
  unfold moved
  cases r with
  | true =>
    show (((ws.set (i + 1) (ws.getD (i + 1 + 1) 0)).set (i + 1 + 1) (ws.getD (i + 1) 0))[n]?) = ws[if n = i + 1 then i + 2 else if n = i + 2 then i + 1 else n]?
    rw [set2_get (show (i + 1) + 1 < ws.length by omega)]
    by_cases c : n = i + 1 + 1
    · subst c
      rw [if_pos rfl, if_neg (by omega), if_pos rfl, getD_some (by omega)]
    · rw [if_neg c]
      by_cases c2 : n = i + 1
      · subst c2
        rw [if_pos rfl, if_pos rfl, getD_some (by omega)]
      · rw [if_neg c2, if_neg c2, if_neg c]
  | false =>
    show (((ws.set i (ws.getD (i + 1) 0)).set (i + 1) (ws.getD i 0))[n]?) = ws[if n = i then i + 1 else if n = i + 1 then i else n]?
    rw [set2_get (show i + 1 < ws.length by omega)]
    by_cases c : n = i + 1
    · subst c
      rw [if_pos rfl, if_neg (by omega), if_pos rfl, getD_some (by omega)]
    · rw [if_neg c]
      by_cases c2 : n = i
      · subst c2
        rw [if_pos rfl, if_pos rfl, getD_some (by omega)]
      · rw [if_neg c2, if_neg c2, if_neg c]
theorem moved_back {ws : List Int} {i : Nat} {r : Bool} (h : i + 2 < ws.length) : moved (moved ws i r) i r = ws := by
  apply List.ext_getElem?
  intro n
  rw [moved_get (by rw [moved_len]; exact h), moved_get h]
  congr 1
  cases r with
  | true =>
    show (if (if n = i + 1 then i + 2 else if n = i + 2 then i + 1 else n) = i + 1 then i + 2 else if (if n = i + 1 then i + 2 else if n = i + 2 then i + 1 else n) = i + 2 then i + 1 else (if n = i + 1 then i + 2 else if n = i + 2 then i + 1 else n)) = n
    split <;> split <;> (try split) <;> omega
  | false =>
    show (if (if n = i then i + 1 else if n = i + 1 then i else n) = i then i + 1 else if (if n = i then i + 1 else if n = i + 1 then i else n) = i + 1 then i else (if n = i then i + 1 else if n = i + 1 then i else n)) = n
    split <;> split <;> (try split) <;> omega
theorem getD_of {ws : List Int} {n : Nat} {o : Option Int} (h : ws[n]? = o) : ws.getD n 0 = o.getD 0 := by
  rw [List.getD_eq_getElem?_getD, h]
theorem mn_comm (i j : Int) : mn i j = mn j i := by
  unfold mn
  split <;> split <;> omega
theorem mx_comm (i j : Int) : mx i j = mx j i := by
  unfold mx
  split <;> split <;> omega
theorem moved_alw {ws : List Int} {i : Nat} {r : Bool} (h : i + 2 < ws.length) (a : alwW ws i r = true) : alwW (moved ws i r) i r = true := by
  have g : ∀ n, (moved ws i r).getD n 0 = ws.getD (if r then (if n = i + 1 then i + 2 else if n = i + 2 then i + 1 else n) else (if n = i then i + 1 else if n = i + 1 then i else n)) 0 := fun n => by
    rw [List.getD_eq_getElem?_getD, moved_get h, List.getD_eq_getElem?_getD]
  unfold alwW at a ⊢
  rw [g, g, g]
  cases r with
  | true =>
    simp only [if_true, show ¬ (i = i + 1) by omega, show ¬ (i = i + 2) by omega, show ¬ (i + 2 = i + 1) by omega, if_false]
    unfold alwN at a ⊢
    rw [mn_comm, mx_comm]
    exact a
  | false =>
    simp only [Bool.false_eq_true, if_false, if_true, show ¬ (i + 1 = i) by omega, show ¬ (i + 2 = i) by omega, show ¬ (i + 2 = i + 1) by omega]
    unfold alwN at a ⊢
    simp only [Bool.false_eq_true, if_false] at a ⊢
    rw [mn_comm, mx_comm]
    exact a
theorem pur_mv {i : Int} {s : Str} (h : PyData.strOk s = true) : purN 1 (mvD i s) = true := by
  show ([PyData.int i, .str s].all (purN 0)) = true
  simp [purN, h]
theorem sd_ok (r : Bool) : PyData.strOk (sd r) = true := by cases r <;> decide +kernel
theorem pur_mvs (ms : List (Nat × Bool)) : purN 2 (.list (dMs ms)) = true := by
  show (dMs ms).all (purN 1) = true
  unfold dMs
  rw [List.all_map, List.all_eq_true]
  intro m _
  exact pur_mv (sd_ok m.2)
theorem mem_dMs {ms : List (Nat × Bool)} {i : Int} {r : Bool} (h : mvD i (sd r) ∈ dMs ms) : ∃ j : Nat, i = (j : Int) ∧ (j, r) ∈ ms := by
  unfold dMs at h
  obtain ⟨m, hm, e⟩ := List.mem_map.mp h
  simp only [PyData.tuple.injEq, List.cons.injEq, PyData.int.injEq, PyData.str.injEq, and_true] at e
  obtain ⟨m1, m2⟩ := m
  refine ⟨m1, e.1.symm, ?_⟩
  have := sd_inj e.2
  subst this
  exact hm
theorem dMs_mem {ms : List (Nat × Bool)} {j : Nat} {r : Bool} (h : (j, r) ∈ ms) : mvD (j : Int) (sd r) ∈ dMs ms := List.mem_map.mpr ⟨(j, r), h, rfl⟩
theorem alw_far {ws : List Int} {i : Int} {s : Str} (h : i < 0 ∨ (ws.length : Int) < i + 3) : alw ws i s = false := by
  unfold alw
  rw [if_pos h]
theorem alw_word {ws : List Int} {i : Int} {s : Str} (h1 : s ≠ "left") (h2 : s ≠ "right") : alw ws i s = false := by
  unfold alw
  by_cases c : i < 0 ∨ (ws.length : Int) < i + 3
  · rw [if_pos c]
  · rw [if_neg c, if_neg h1, if_neg h2]
theorem fars {d e L k : Int} (hd : 0 ≤ d) (he : 0 ≤ e) (hL : L ≤ 1000) (h0 : 0 ≤ k) (h1 : k < 4) : ∃ f : Int, atI [V.int (-1 - d), .int (L + e), .int (10 ^ (20 : Int).toNat), .int (0 - 10 ^ (20 : Int).toNat)] k = some (.int f) ∧ (f < 0 ∨ L < f + 3) := by
  have c : k = 0 ∨ k = 1 ∨ k = 2 ∨ k = 3 := by omega
  have p20 : (10 : Int) ^ (20 : Int).toNat = 100000000000000000000 := by decide
  rcases c with rfl | rfl | rfl | rfl
  · exact ⟨_, rfl, .inl (by omega)⟩
  · exact ⟨_, rfl, .inr (by omega)⟩
  · exact ⟨_, rfl, .inr (by rw [p20]; omega)⟩
  · exact ⟨_, rfl, .inl (by rw [p20]; omega)⟩
theorem twoS {k : Int} (h0 : 0 ≤ k) (h1 : k < 2) : ∃ s : Str, atI [V.str "left", .str "right"] k = some (.str s) ∧ PyData.strOk s = true := by
  have c : k = 0 ∨ k = 1 := by omega
  rcases c with rfl | rfl <;> exact ⟨_, rfl, by decide +kernel⟩
theorem sixS {k : Int} (h0 : 0 ≤ k) (h1 : k < 6) : ∃ s : Str, atI [V.str "up", .str "", .str "Left", .str "right ", .str "l", .str "leftright"] k = some (.str s) ∧ s ≠ "left" ∧ s ≠ "right" ∧ PyData.strOk s = true := by
  have c : k = 0 ∨ k = 1 ∨ k = 2 ∨ k = 3 ∨ k = 4 ∨ k = 5 := by omega
  rcases c with rfl | rfl | rfl | rfl | rfl | rfl <;> exact ⟨_, rfl, by decide +kernel, by decide +kernel, by decide +kernel⟩
section
variable {P : Program} {w : World} {K : PySem.W.Frag} {mg : Str → Option Value} {base : Heap}
/-- what stands while the law runs: the stream, the word, the list that was handed -/
structure Jw (K : PySem.W.Frag) (st p q : Addr) (ws : List Int) (H : Hp) : Prop where
  s : Strm H st
  p : Dp K (wo st H) (.ref p) (dW ws)
  q : Dp K (wo st H) (.ref q) (dW ws)
theorem Jw.ex {st p q : Addr} {ws : List Int} {H H' : Hp} (j : Jw K st p q ws H) (e : Ex H H') : Jw K st p q ws H' := ⟨j.s.ex e, j.p.mono (ex_wo e), j.q.mono (ex_wo e)⟩
theorem Jw.kp {st p q : Addr} {ws : List Int} {H H' : Hp} (j : Jw K st p q ws H) (s : Strm H' st) (k : Kp st H H') : Jw K st p q ws H' := ⟨s, j.p.mono k.wo, j.q.mono k.wo⟩
theorem Jw.hp {st p q : Addr} {ws : List Int} {H : Hp} (j : Jw K st p q ws H) : Dp K H (.ref p) (dW ws) := j.p.mono (wo_ex st)
theorem Jw.hq {st p q : Addr} {ws : List Int} {H : Hp} (j : Jw K st p q ws H) : Dp K H (.ref q) (dW ws) := j.q.mono (wo_ex st)
theorem Jw.sp {st p q : Addr} {ws : List Int} {H : Hp} (j : Jw K st p q ws H) : SqL K H p (ws.map V.int) := by
  obtain ⟨_, e, h⟩ := dp_W_inv j.hp
  cases e
  exact h
theorem ok_law (T : Txt K mg) {f : Addr} {fd : FuncData} (F : Fun K "law" "law" s_law f fd) : FnOk P w K mg base CX0 6 f fd ["script"] (spLaw K) := by
  refine F.ok sc_law (fun vs H Q E h => ?_) (fun cdv A outer s H vs Q E hr h => ?_)
  · obtain ⟨a, ns, rfl, _⟩ := h
    rfl
  · obtain ⟨a, ns, rfl, hS, hl, q⟩ := h
    refine ⟨_, (pss_cons (ps_set (i := 1) sc_law.nd rfl (.inl rfl) (pe_call (ok_law_stream T) (hr.mono (by decide)) rfl T.law_stream.g T.law_stream.F.kp T.law_stream.b .nil pass0 (pa_cons (pe_call (ok_law_cell T) (hr.mono (by decide)) rfl T.law_cell.g T.law_cell.F.kp T.law_cell.b .nil pass0 (pa_cons (pv 0) (pa_cons pe_int pa_nil))) pa_nil)))
      (pss_cons (ps_set (i := 2) sc_law.nd rfl (.inl rfl) pe_int)
      (Evl.pss_cut (ps_if (pt_cmpR op_eq (pe_call (ok_law_next T) (hr.mono (by decide)) rfl T.law_next.g T.law_next.F.kp T.law_next.b .nil pass0 (pa_cons (pv 1) (pa_cons pe_int pa_nil))) pe_int (nomark _))
      (pss_one (ps_set (i := 2) sc_law.nd rfl (.inl rfl) pe_int))
      pss_nil)
      (pss_cons (ps_set (i := 3) sc_law.nd rfl (.inl rfl) (pe_call (ok_law_word T) (hr.mono (by decide)) rfl T.law_word.g T.law_word.F.kp T.law_word.b .nil pass0 (pa_cons (pv 1) (pa_cons (pv 2) pa_nil))))
      (pss_cons (ps_set (i := 4) sc_law.nd rfl (.inr rfl) (pe_callTy call_list_of (by rfl) T.list (by decide +kernel) (pa_cons (pv 3) pa_nil)))
      (pss_cons (ps_set (i := 5) sc_law.nd rfl (.inl rfl) (pe_call (ok_law_allowed T) (hr.mono (by decide)) rfl T.law_allowed.g T.law_allowed.F.kp T.law_allowed.b .nil pass0 (pa_cons (pv 3) pa_nil)))
      (pss_cons (ps_set (i := 6) sc_law.nd rfl (.inl rfl) (pe_call (ok_allowed_moves T) (hr.mono (by decide)) rfl T.allowed_moves.g T.allowed_moves.F.kp T.allowed_moves.b .nil pass0 (pa_cons (pv 4) pa_nil)))
      (pss_cons (ps_if (PW.pt (pw_or (pt_not (pt_val (pe_callB call_isi (by rfl) T.isinstance (by decide +kernel) (pa_cons (pv 6) (pa_cons (pe_bltn (v := .ty "list") (u := .type "list") (by rfl) T.list (by decide +kernel) rfl) pa_nil))))) (pw_or (pt_cmpR (op_neD hr.units) (pv 6) (pv 5) (nomark _)) (pw_or1 (pt_cmpR (op_neD hr.units) (pv 4) (pv 3) (nomark _))))))
      (pss_one (ps_ret pe_bl))
      pss_nil)
      (pss_cons (ps_for PassesOwn.never rfl (pi_range2 (by rfl) T.range (pa_cons (pe_un un_neg pe_int) (pa_cons (pe_op op_add (pe_callB call_len_seq (by rfl) T.len PySem.boot_len (pa_cons (pv 3) pa_nil)) pe_int) pa_nil))) (pg_name (i := 7) sc_law.nd rfl (.inl rfl))
      (pss_one (ps_for PassesOwn.never rfl (pi_list (pe_lst (pa_cons pe_str (pa_cons pe_str pa_nil)))) (pg_name (i := 8) sc_law.nd rfl (.inr rfl))
        (pss_cons (ps_set (i := 9) sc_law.nd rfl (.inl rfl) (pe_tup (pa_cons (pv 7) (pa_cons (pv 8) pa_nil))))
          (pss_one (ps_if (pt_cmpR (op_notInD (hr65 hr)) (pv 9) (pv 5) (by rfl))
          (pss_one (ps_if (pt_not (pt_val (pe_call (ok_law_refused T) (hr.mono (by decide)) rfl T.law_refused.g T.law_refused.F.kp T.law_refused.b .nil pass0 (pa_cons (pv 4) (pa_cons (pv 9) pa_nil)))))
            (pss_one (ps_ret pe_bl))
            pss_nil))
          (pss_cons (ps_set (i := 10) sc_law.nd rfl (.inl rfl) (pe_call (ok_make_move T) (hr.mono (by decide)) rfl T.make_move.g T.make_move.F.kp T.make_move.b .nil passL (pa_cons (pv 4) (pa_cons (pv 9) pa_nil))))
            (pss_cons (ps_if (PW.pt (pw_or (pt_not (pt_val (pe_call (ok_law_is_word T) (hr.mono (by decide)) rfl T.law_is_word.g T.law_is_word.F.kp T.law_is_word.b .nil pass0 (pa_cons (pv 10) pa_nil)))) (pw_or (pt_cmpR (op_neD hr.units) (pv 10) (pe_call (ok_law_moved T) (hr.mono (by decide)) rfl T.law_moved.g T.law_moved.F.kp T.law_moved.b .nil pass0 (pa_cons (pv 3) (pa_cons (pv 9) pa_nil))) (nomark _)) (pw_or1 (pt_cmpR (op_neD hr.units) (pv 4) (pv 3) (nomark _))))))
            (pss_one (ps_ret pe_bl))
            pss_nil)
            (pss_one (ps_if (pt_cmpR (op_neD hr.units) (pe_call (ok_make_move T) (hr.mono (by decide)) rfl T.make_move.g T.make_move.F.kp T.make_move.b .nil passL (pa_cons (pv 10) (pa_cons (pv 9) pa_nil))) (pv 3) (nomark _))
            (pss_one (ps_ret pe_bl))
            pss_nil))))))))))
      (pss_cons (ps_set (i := 11) sc_law.nd rfl (.inl rfl) (pe_ix ix_list (pe_lst (pa_cons (pe_op op_sub (pe_un un_neg pe_int) (pe_call (ok_law_next T) (hr.mono (by decide)) rfl T.law_next.g T.law_next.F.kp T.law_next.b .nil pass0 (pa_cons (pv 1) (pa_cons pe_int pa_nil)))) (pa_cons (pe_op op_add (pe_callB call_len_seq (by rfl) T.len PySem.boot_len (pa_cons (pv 3) pa_nil)) (pe_call (ok_law_next T) (hr.mono (by decide)) rfl T.law_next.g T.law_next.F.kp T.law_next.b .nil pass0 (pa_cons (pv 1) (pa_cons pe_int pa_nil)))) (pa_cons (pe_op op_pow pe_int pe_int) (pa_cons (pe_op op_sub pe_int (pe_op op_pow pe_int pe_int)) pa_nil))))) (pe_call (ok_law_next T) (hr.mono (by decide)) rfl T.law_next.g T.law_next.F.kp T.law_next.b .nil pass0 (pa_cons (pv 1) (pa_cons pe_int pa_nil))) (fun _ _ => rfl)))
      (pss_cons (ps_if (pt_not (pt_val (pe_call (ok_law_refused T) (hr.mono (by decide)) rfl T.law_refused.g T.law_refused.F.kp T.law_refused.b .nil pass0 (pa_cons (pv 4) (pa_cons (pe_tup (pa_cons (pv 11) (pa_cons (pe_ix ix_list (pe_lst (pa_cons pe_str (pa_cons pe_str pa_nil))) (pe_call (ok_law_next T) (hr.mono (by decide)) rfl T.law_next.g T.law_next.F.kp T.law_next.b .nil pass0 (pa_cons (pv 1) (pa_cons pe_int pa_nil))) (fun _ _ => rfl)) pa_nil))) pa_nil)))))
      (pss_one (ps_ret pe_bl))
      pss_nil)
      (pss_cons (ps_set (i := 8) sc_law.nd rfl (.inr rfl) (pe_ix ix_list (pe_lst (pa_cons pe_str (pa_cons pe_str (pa_cons pe_str (pa_cons pe_str (pa_cons pe_str (pa_cons pe_str pa_nil))))))) (pe_call (ok_law_next T) (hr.mono (by decide)) rfl T.law_next.g T.law_next.F.kp T.law_next.b .nil pass0 (pa_cons (pv 1) (pa_cons pe_int pa_nil))) (fun _ _ => rfl)))
      (pss_one (ps_ret (pe_and (pe_cmpR (op_eqD hr.units) (pe_lc (own := [("index", 7)]) (by rfl) sc_law.nd (pi_range1 (by rfl) T.range (pa_cons (pe_callB call_len_seq (by rfl) T.len PySem.boot_len (pa_cons (pv 3) pa_nil)) pa_nil)) (blkOk_by (own := [("index", 7)]) (N := N_law) (sc := defScope s_law) (by decide +kernel)) (fun _ _ _ _ _ => (pg_name (i := 7) sc_law.nd rfl (.inl rfl))) (fun _ _ _ _ _ => (pts_one (pt_not (pt_val (pe_call (ok_law_refused T) (hr.mono (by decide)) rfl T.law_refused.g T.law_refused.F.kp T.law_refused.b .nil pass0 (pa_cons (pv 4) (pa_cons (pe_tup (pa_cons (pv 7) (pa_cons (pv 8) pa_nil))) pa_nil))))))) (fun _ _ _ _ _ => (pv 7))) (pe_lst pa_nil) (nomark _)) (pe_one (pe_cmpR (op_eqD hr.units) (pv 4) (pv 3) (nomark _)))))))))))))))))), ?_⟩
    -- stream, most
    refine ⟨_, rfl, a, ns, 0, rfl, hS, fun c => ⟨c, rfl, fun st s0 s1 s2 nst => ?_⟩⟩
    have S1 : Strm (upd H st (.lst [.int s0, .int s1, .int s2])) st := ⟨s0, s1, s2, upd_same⟩
    refine ⟨fun σ H' => ∃ m : Nat, m ≤ 30 ∧ σ = [some (.ref a), some (.ref st), some (.int (m : Int)), none, none, none, none, none, none, none, none, none] ∧ Strm H' st, ?_, ?_⟩
    · refine ⟨_, rfl, st, 8, rfl, S1, by decide, by decide, fun d H2 d0 d1 S2 K2 => ⟨rfl, _, rfl, ite2 (fun _ => ?_) (fun _ => ?_)⟩⟩
      · exact ⟨30, by decide, rfl, S2⟩
      · exact ⟨9, by decide, rfl, S2⟩
    rintro σ H2 ⟨m, hm, rfl, S2⟩
    -- word, handed
    refine ⟨_, rfl, _, rfl, st, m, rfl, by omega, S2, fun p ws H3 hw hL np3 pst hp3 S3 K3 => ?_⟩
    have hlen : ws.length ≤ 1000 := by omega
    refine ⟨_, rfl, p, _, rfl, .inl (SqL.of hp3), fun p2 np2 => ?_⟩
    have J4 : Jw K st p p2 ws (upd H3 p2 (.lst (ws.map V.int))) :=
      ⟨S3.new np2, dp_W (SqL.of (wo_of pst (by rw [upd_ne (ne_of_none hp3 np2)]; exact hp3))), dp_W (SqL.of (wo_of (S3.ne np2) upd_same))⟩
    -- allowed, actual
    refine ⟨_, rfl, _, ws, rfl, J4.hp, hlen, fun va H5 e5 hva => ?_⟩
    have J5 := J4.ex e5
    refine ⟨_, rfl, _, ws, rfl, J5.hq, hlen, fun vb H6 e6 hvb => ?_⟩
    have J6 := J5.ex e6
    have hva := hva.mono e6
    -- if not isinstance(actual, list) or ..
    refine ⟨_, rfl, _, .ty "list", _, _, true, rfl, .ty _, ty_list hvb, kit_ty (by decide +kernel), true, rfl, iteF ?_⟩
    refine ⟨_, rfl, _, rfl, ne_data hvb hva (pur_mvs _) (pur_mvs _) (by decide) (by decide) (fun h => absurd rfl h) fun _ => ⟨false, rfl, iteF ?_⟩⟩
    refine ⟨_, rfl, _, rfl, ne_data J6.hq J6.hp (pur_W _) (pur_W _) (by decide) (by decide) (fun h => absurd rfl h) fun _ => ⟨false, rfl, iteF ?_⟩⟩
    -- the loops
    refine ⟨_, rfl, _, rfl, p, _, rfl, .inl J6.sp, _, _, rfl, rfl, -1, _, rfl, ⟨by decide, by decide, by rw [List.length_map]; omega, by rw [List.length_map]; omega⟩, ?_⟩
    refine for_range (lo := -1) (n := (((ws.map V.int).length : Int) + 1 - -1).toNat) (fun i σ H' => ∃ x7 x8 x9 x10, σ = [some (.ref a), some (.ref st), some (.int (m : Int)), some (.ref p), some (.ref p2), some va, some vb, x7, x8, x9, x10, none] ∧ Ex H6 H')
      ⟨none, none, none, none, rfl, Ex.refl H6⟩ ?_ ?_
    · rintro i σ H7 hi ⟨x7, x8, x9, x10, rfl, e7⟩
      refine ⟨by show 2 ≤ sizeLine; decide, fun t nt => ⟨t, rfl, ⟨_, SqL.of upd_same⟩, ?_⟩⟩
      refine for_list (K := K) (a := t) (xs := [.str "left", .str "right"]) (fun j σ H' => ∃ x8 x9 x10, σ = [some (.ref a), some (.ref st), some (.int (m : Int)), some (.ref p), some (.ref p2), some va, some vb, some (.int (-1 + (i : Int))), x8, x9, x10, none] ∧ Ex (upd H7 t (.lst [.str "left", .str "right"])) H')
        ⟨x8, x9, x10, rfl, Ex.refl _⟩ (fun j σ H' _ ⟨_, _, _, _, e⟩ => SqL.of (e _ _ upd_same)) ?_ ?_
      · rintro j x σ H8 hj ⟨x8, x9, x10, rfl, e8⟩
        obtain ⟨r, rfl⟩ : ∃ r : Bool, x = .str (sd r) := by
          match j, hj with
          | 0, hj => cases hj; exact ⟨false, rfl⟩
          | 1, hj => cases hj; exact ⟨true, rfl⟩
        have e68 : Ex H6 H8 := (e7.trans (Ex.new nt)).trans e8
        refine ⟨_, rfl, _, rfl, by show 2 ≤ sizeLine; decide, fun z nz => ?_⟩
        have e9 : Ex H8 (upd H8 z (.tup [.int (-1 + (i : Int)), .str (sd r)])) := Ex.new nz
        have hz : Dp K (upd H8 z (.tup [.int (-1 + (i : Int)), .str (sd r)])) (.ref z) (mvD (-1 + (i : Int)) (sd r)) := .tup (SqT.of upd_same) (.cons (.int _) (.cons (.str _) .nil))
        have J9 := J6.ex (e68.trans e9)
        refine ⟨_, rfl, _, rfl, notIn_data hz (hva.mono (e68.trans e9)) (pur_mv (sd_ok r)) (pur_mvs _) (by decide) (by decide) (fun hno => ⟨true, rfl, iteT ?_⟩) (fun hin => ⟨false, rfl, iteF ?_⟩)⟩
        · -- a move that is not allowed
          have hf : alw ws (-1 + (i : Int)) (sd r) = false := by
            cases c : alw ws (-1 + (i : Int)) (sd r) with
            | false => rfl
            | true =>
              obtain ⟨j', r', ej, er, hj', ha⟩ := alw_true c
              have := sd_inj er
              subst this
              rw [ej] at hno
              exact absurd (dMs_mem (mem_mvs.mpr ⟨by omega, ha⟩)) hno
          refine ⟨_, rfl, _, rfl, _, _, ws, _, _, rfl, J9.hq, hz, hlen, hf, fun H10 e10 => ⟨_, rfl, iteF ?_⟩⟩
          exact ⟨_, _, _, rfl, e8.trans (e9.trans e10)⟩
        · -- an allowed one
          obtain ⟨k, ek, hk⟩ := mem_dMs hin
          obtain ⟨hk2, hka⟩ := mem_mvs.mp hk
          have hk3 : k + 2 < ws.length := by omega
          have hal : alw ws (-1 + (i : Int)) (sd r) = true := by rw [ek, alw_nat hk3]; exact hka
          refine ⟨_, rfl, _, rfl, _, _, ws, _, _, rfl, J9.hq, hz, hlen, fun c => absurd (hal.symm.trans c) (by decide), fun _ k' r' ek' er' y H10 ny e10 hy => ?_⟩
          have := sd_inj er'
          subst this
          have ekk : k' = k := by omega
          subst ekk
          have J10 := J9.ex e10
          have hy1 : Dp K H10 (.ref y) (dW (moved ws k' r)) := dp_W (SqL.of hy)
          have hz10 := hz.mono e10
          have hml := moved_len ws k' r
          refine ⟨_, rfl, _, moved ws k' r, rfl, hy1, by omega, ⟨_, rfl, iteF ?_⟩⟩
          have hz10' : Dp K H10 (.ref z) (mvD (k' : Int) (sd r)) := by rw [← ek]; exact hz10
          refine ⟨_, rfl, _, rfl, _, rfl, _, _, ws, k', r, rfl, J10.hp, hz10', hk3, hlen, fun y2 H11 ny2 e11 hy2 => ?_⟩
          refine ne_data (hy1.mono e11) (dp_W (SqL.of hy2)) (pur_W _) (pur_W _) (by decide) (by decide) (fun h => absurd rfl h) fun _ => ⟨false, rfl, iteF ?_⟩
          have J11 := J10.ex e11
          refine ⟨_, rfl, _, rfl, ne_data J11.hq J11.hp (pur_W _) (pur_W _) (by decide) (by decide) (fun h => absurd rfl h) fun _ => ⟨false, rfl, iteF ?_⟩⟩
          have hal2 : alw (moved ws k' r) (-1 + (i : Int)) (sd r) = true := by rw [ek, alw_nat (by omega)]; exact moved_alw hk3 hka
          refine ⟨_, rfl, _, rfl, _, _, moved ws k' r, _, _, rfl, hy1.mono e11, hz10.mono e11, by omega, fun c => absurd (hal2.symm.trans c) (by decide), fun _ k2 r2 ek2 er2 y3 H12 ny3 e12 hy3 => ?_⟩
          have := sd_inj er2
          subst this
          have ekk : k2 = k' := by omega
          subst ekk
          rw [moved_back hk3] at hy3
          refine ⟨_, rfl, ne_data (dp_W (SqL.of hy3)) (J11.ex e12).hp (pur_W _) (pur_W _) (by decide) (by decide) (fun h => absurd rfl h) fun _ => ⟨false, rfl, iteF ?_⟩⟩
          exact ⟨_, _, _, rfl, e8.trans (e9.trans (e10.trans (e11.trans e12)))⟩
      · rintro σ H8 ⟨x8, x9, x10, rfl, e8⟩
        exact ⟨_, _, _, _, rfl, (e7.trans (Ex.new nt)).trans e8⟩
    · rintro σ H7 ⟨x7, x8, x9, x10, rfl, e7⟩
      have J7 := J6.ex e7
      -- far
      refine ⟨_, rfl, _, rfl, st, 5, rfl, J7.s, by decide, by decide, fun d H8 d0 d1 S8 K8 => ?_⟩
      have J8 := J7.kp S8 K8
      refine ⟨_, _, rfl, rfl, _, rfl, p, _, rfl, .inl J8.sp, _, rfl, st, 5, rfl, S8, by decide, by decide, fun e H9 e0 e1 S9 K9 => ?_⟩
      have J9 := J8.kp S9 K9
      refine ⟨_, _, rfl, rfl, _, _, rfl, rfl, ⟨by decide, by decide, by decide⟩, _, _, rfl, rfl, ⟨by decide, by decide, by decide⟩, _, _, rfl, rfl, by show 4 ≤ sizeLine; decide, fun l nl => ?_⟩
      have J10 := J9.ex (Ex.new (o := .lst [.int (-1 - d), .int (((ws.map V.int).length : Int) + e), .int (10 ^ (20 : Int).toNat), .int (0 - 10 ^ (20 : Int).toNat)]) nl)
      have lst1 : l ≠ st := S9.ne nl
      refine ⟨_, rfl, st, 4, rfl, J10.s, by decide, by decide, fun k H11 k0 k1 S11 K11 => ?_⟩
      have J11 := J10.kp S11 K11
      obtain ⟨far, hfar, hfar2⟩ := fars d0 e0 (L := ((ws.map V.int).length : Int)) (by rw [List.length_map]; omega) k0 k1
      refine ⟨l, _, _, _, rfl, rfl, SqL.of (K11 _ _ lst1 upd_same), hfar, ?_⟩
      rw [List.length_map] at hfar2
      -- if not _law_refused(handed, (far, ..))
      refine ⟨_, rfl, _, rfl, by show 2 ≤ sizeLine; decide, fun l2 nl2 => ?_⟩
      have J12 := J11.ex (Ex.new (o := .lst [.str "left", .str "right"]) nl2)
      have lst2 : l2 ≠ st := S11.ne nl2
      refine ⟨_, rfl, st, 2, rfl, J12.s, by decide, by decide, fun k2 H13 k20 k21 S13 K13 => ?_⟩
      have J13 := J12.kp S13 K13
      obtain ⟨sw, hsw, hok⟩ := twoS k20 k21
      refine ⟨l2, _, _, _, rfl, rfl, SqL.of (K13 _ _ lst2 upd_same), hsw, by show 2 ≤ sizeLine; decide, fun t nt => ?_⟩
      have J14 := J13.ex (Ex.new (o := .tup [.int far, .str sw]) nt)
      refine ⟨_, _, ws, far, sw, rfl, J14.hq, .tup (SqT.of upd_same) (.cons (.int _) (.cons (.str _) .nil)), hlen, alw_far hfar2, fun H15 e15 => ⟨_, rfl, iteF ?_⟩⟩
      have J15 := J14.ex e15
      -- side
      refine ⟨by show 6 ≤ sizeLine; decide, fun l3 nl3 => ?_⟩
      have J16 := J15.ex (Ex.new (o := .lst [.str "up", .str "", .str "Left", .str "right ", .str "l", .str "leftright"]) nl3)
      have lst3 : l3 ≠ st := J15.s.ne nl3
      refine ⟨_, rfl, st, 6, rfl, J16.s, by decide, by decide, fun k3 H17 k30 k31 S17 K17 => ?_⟩
      have J17 := J16.kp S17 K17
      obtain ⟨s6, hs6, n61, n62, ok6⟩ := sixS k30 k31
      refine ⟨l3, _, _, _, rfl, rfl, SqL.of (K17 _ _ lst3 upd_same), hs6, ?_⟩
      -- the comprehension
      refine ⟨_, rfl, p, _, rfl, .inl J17.sp, _, rfl, by omega, by rw [List.length_map]; omega, fun D nD => ?_⟩
      refine lc_range (lo := 0) (n := (((ws.map V.int).length : Int)).toNat) (fun i H' => H' D = some (.lst []) ∧ Ex H17 H') ⟨upd_same, Ex.new nD⟩ ?_ ?_
      · rintro i H18 hi ⟨hD, e18⟩
        have J18 := J17.ex e18
        refine ⟨rfl, _, rfl, _, rfl, _, rfl, by show 2 ≤ sizeLine; decide, fun t nt => ?_⟩
        have J19 := J18.ex (Ex.new (o := .tup [.int (0 + (i : Int)), .str s6]) nt)
        refine ⟨_, _, ws, _, s6, rfl, J19.hq, .tup (SqT.of upd_same) (.cons (.int _) (.cons (.str _) .nil)), hlen, alw_word n61 n62, fun H20 e20 => ⟨_, rfl, iteF ?_⟩⟩
        exact ⟨e20 _ _ (by rw [upd_ne (ne_of_none hD nt)]; exact hD), e18.trans ((Ex.new nt).trans e20)⟩
      · rintro H18 ⟨hD, e18⟩
        have J18 := J17.ex e18
        refine ⟨Nat.zero_le _, fun t nt => ?_⟩
        have J19 := J18.ex (Ex.new (o := .lst []) nt)
        refine eq_data (d := dW []) (e := dW []) (dp_W (SqL.of (by rw [upd_ne (ne_of_none hD nt)]; exact hD))) (dp_W (SqL.of upd_same)) (pur_W _) (pur_W _) (by decide) (by decide) (fun _ => ⟨true, rfl, iteT ?_⟩) (fun h => absurd rfl h)
        exact ⟨_, rfl, _, rfl, eq_data J19.hq J19.hp (pur_W _) (pur_W _) (by decide) (by decide) (fun _ => q _) (fun h => absurd rfl h)⟩
end
theorem all_mk {l : PySem.W.OpenLaw} {w : World} {K : PySem.W.Frag} {h : Heap} {mg : Str → Option Value} {fa : Addr} (X : K.In h) (G : h.Ns mainGlobals mg) (hfa : mg "law" = some (.ref fa))
    {od1 an1 : Option Addr} {sl1 : Array (Option Value)} {oc1 kV1 dc1 pm1 cd1 ct1 : Value} {f1 : Addr}
    (a1 : PySem.W.nsIn K mainGlobals "allowed_moves" = some (some (.ref f1))) (l1 : K.lookup f1 = some ⟨oc1, od1, .func (PySem.W.fnOf "allowed_moves" "allowed_moves" (defArgs s_allowed_moves) (defBody s_allowed_moves) (defScope s_allowed_moves) .none kV1 dc1 pm1 an1 cd1 ct1), sl1⟩) (c1 : PySem.W.codeIn K cd1 "allowed_moves" = true) (k1 : PySem.W.keepIn K (.ref f1) = true)
    {od2 an2 : Option Addr} {sl2 : Array (Option Value)} {oc2 kV2 dc2 pm2 cd2 ct2 : Value} {f2 : Addr}
    (a2 : PySem.W.nsIn K mainGlobals "make_move" = some (some (.ref f2))) (l2 : K.lookup f2 = some ⟨oc2, od2, .func (PySem.W.fnOf "make_move" "make_move" (defArgs s_make_move) (defBody s_make_move) (defScope s_make_move) .none kV2 dc2 pm2 an2 cd2 ct2), sl2⟩) (c2 : PySem.W.codeIn K cd2 "make_move" = true) (k2 : PySem.W.keepIn K (.ref f2) = true)
    {od3 an3 : Option Addr} {sl3 : Array (Option Value)} {oc3 kV3 dc3 pm3 cd3 ct3 : Value} {f3 : Addr}
    (a3 : PySem.W.nsIn K mainGlobals "_is_allowed" = some (some (.ref f3))) (l3 : K.lookup f3 = some ⟨oc3, od3, .func (PySem.W.fnOf "_is_allowed" "_is_allowed" (defArgs s_is_allowed) (defBody s_is_allowed) (defScope s_is_allowed) .none kV3 dc3 pm3 an3 cd3 ct3), sl3⟩) (c3 : PySem.W.codeIn K cd3 "_is_allowed" = true) (k3 : PySem.W.keepIn K (.ref f3) = true)
    {od4 an4 : Option Addr} {sl4 : Array (Option Value)} {oc4 kV4 dc4 pm4 cd4 ct4 : Value} {f4 : Addr}
    (a4 : PySem.W.nsIn K mainGlobals "_law_cell" = some (some (.ref f4))) (l4 : K.lookup f4 = some ⟨oc4, od4, .func (PySem.W.fnOf "_law_cell" "_law_cell" (defArgs s_law_cell) (defBody s_law_cell) (defScope s_law_cell) .none kV4 dc4 pm4 an4 cd4 ct4), sl4⟩) (c4 : PySem.W.codeIn K cd4 "_law_cell" = true) (k4 : PySem.W.keepIn K (.ref f4) = true)
    {od5 an5 : Option Addr} {sl5 : Array (Option Value)} {oc5 kV5 dc5 pm5 cd5 ct5 : Value} {f5 : Addr}
    (a5 : PySem.W.nsIn K mainGlobals "_law_stream" = some (some (.ref f5))) (l5 : K.lookup f5 = some ⟨oc5, od5, .func (PySem.W.fnOf "_law_stream" "_law_stream" (defArgs s_law_stream) (defBody s_law_stream) (defScope s_law_stream) .none kV5 dc5 pm5 an5 cd5 ct5), sl5⟩) (c5 : PySem.W.codeIn K cd5 "_law_stream" = true) (k5 : PySem.W.keepIn K (.ref f5) = true)
    {od6 an6 : Option Addr} {sl6 : Array (Option Value)} {oc6 kV6 dc6 pm6 cd6 ct6 : Value} {f6 : Addr}
    (a6 : PySem.W.nsIn K mainGlobals "_law_next" = some (some (.ref f6))) (l6 : K.lookup f6 = some ⟨oc6, od6, .func (PySem.W.fnOf "_law_next" "_law_next" (defArgs s_law_next) (defBody s_law_next) (defScope s_law_next) .none kV6 dc6 pm6 an6 cd6 ct6), sl6⟩) (c6 : PySem.W.codeIn K cd6 "_law_next" = true) (k6 : PySem.W.keepIn K (.ref f6) = true)
    {od7 an7 : Option Addr} {sl7 : Array (Option Value)} {oc7 kV7 dc7 pm7 cd7 ct7 : Value} {f7 : Addr}
    (a7 : PySem.W.nsIn K mainGlobals "_law_is_integer" = some (some (.ref f7))) (l7 : K.lookup f7 = some ⟨oc7, od7, .func (PySem.W.fnOf "_law_is_integer" "_law_is_integer" (defArgs s_law_is_integer) (defBody s_law_is_integer) (defScope s_law_is_integer) .none kV7 dc7 pm7 an7 cd7 ct7), sl7⟩) (c7 : PySem.W.codeIn K cd7 "_law_is_integer" = true) (k7 : PySem.W.keepIn K (.ref f7) = true)
    {od8 an8 : Option Addr} {sl8 : Array (Option Value)} {oc8 kV8 dc8 pm8 cd8 ct8 : Value} {f8 : Addr}
    (a8 : PySem.W.nsIn K mainGlobals "_law_word" = some (some (.ref f8))) (l8 : K.lookup f8 = some ⟨oc8, od8, .func (PySem.W.fnOf "_law_word" "_law_word" (defArgs s_law_word) (defBody s_law_word) (defScope s_law_word) .none kV8 dc8 pm8 an8 cd8 ct8), sl8⟩) (c8 : PySem.W.codeIn K cd8 "_law_word" = true) (k8 : PySem.W.keepIn K (.ref f8) = true)
    {od9 an9 : Option Addr} {sl9 : Array (Option Value)} {oc9 kV9 dc9 pm9 cd9 ct9 : Value} {f9 : Addr}
    (a9 : PySem.W.nsIn K mainGlobals "_law_is_allowed" = some (some (.ref f9))) (l9 : K.lookup f9 = some ⟨oc9, od9, .func (PySem.W.fnOf "_law_is_allowed" "_law_is_allowed" (defArgs s_law_is_allowed) (defBody s_law_is_allowed) (defScope s_law_is_allowed) .none kV9 dc9 pm9 an9 cd9 ct9), sl9⟩) (c9 : PySem.W.codeIn K cd9 "_law_is_allowed" = true) (k9 : PySem.W.keepIn K (.ref f9) = true)
    {od10 an10 : Option Addr} {sl10 : Array (Option Value)} {oc10 kV10 dc10 pm10 cd10 ct10 : Value} {f10 : Addr}
    (a10 : PySem.W.nsIn K mainGlobals "_law_allowed" = some (some (.ref f10))) (l10 : K.lookup f10 = some ⟨oc10, od10, .func (PySem.W.fnOf "_law_allowed" "_law_allowed" (defArgs s_law_allowed) (defBody s_law_allowed) (defScope s_law_allowed) .none kV10 dc10 pm10 an10 cd10 ct10), sl10⟩) (c10 : PySem.W.codeIn K cd10 "_law_allowed" = true) (k10 : PySem.W.keepIn K (.ref f10) = true)
    {od11 an11 : Option Addr} {sl11 : Array (Option Value)} {oc11 kV11 dc11 pm11 cd11 ct11 : Value} {f11 : Addr}
    (a11 : PySem.W.nsIn K mainGlobals "_law_moved" = some (some (.ref f11))) (l11 : K.lookup f11 = some ⟨oc11, od11, .func (PySem.W.fnOf "_law_moved" "_law_moved" (defArgs s_law_moved) (defBody s_law_moved) (defScope s_law_moved) .none kV11 dc11 pm11 an11 cd11 ct11), sl11⟩) (c11 : PySem.W.codeIn K cd11 "_law_moved" = true) (k11 : PySem.W.keepIn K (.ref f11) = true)
    {od12 an12 : Option Addr} {sl12 : Array (Option Value)} {oc12 kV12 dc12 pm12 cd12 ct12 : Value} {f12 : Addr}
    (a12 : PySem.W.nsIn K mainGlobals "_law_is_word" = some (some (.ref f12))) (l12 : K.lookup f12 = some ⟨oc12, od12, .func (PySem.W.fnOf "_law_is_word" "_law_is_word" (defArgs s_law_is_word) (defBody s_law_is_word) (defScope s_law_is_word) .none kV12 dc12 pm12 an12 cd12 ct12), sl12⟩) (c12 : PySem.W.codeIn K cd12 "_law_is_word" = true) (k12 : PySem.W.keepIn K (.ref f12) = true)
    {od13 an13 : Option Addr} {sl13 : Array (Option Value)} {oc13 kV13 dc13 pm13 cd13 ct13 : Value} {f13 : Addr}
    (a13 : PySem.W.nsIn K mainGlobals "_law_refused" = some (some (.ref f13))) (l13 : K.lookup f13 = some ⟨oc13, od13, .func (PySem.W.fnOf "_law_refused" "_law_refused" (defArgs s_law_refused) (defBody s_law_refused) (defScope s_law_refused) .none kV13 dc13 pm13 an13 cd13 ct13), sl13⟩) (c13 : PySem.W.codeIn K cd13 "_law_refused" = true) (k13 : PySem.W.keepIn K (.ref f13) = true)
    {od14 an14 : Option Addr} {sl14 : Array (Option Value)} {oc14 kV14 dc14 pm14 cd14 ct14 : Value} {f14 : Addr}
    (a14 : PySem.W.nsIn K mainGlobals "law" = some (some (.ref f14))) (l14 : K.lookup f14 = some ⟨oc14, od14, .func (PySem.W.fnOf "law" "law" (defArgs s_law) (defBody s_law) (defScope s_law) .none kV14 dc14 pm14 an14 cd14 ct14), sl14⟩) (c14 : PySem.W.codeIn K cd14 "law" = true) (k14 : PySem.W.keepIn K (.ref f14) = true)
    (z0 : PySem.W.nsIn K mainGlobals "ValueError" = some none)
    (z1 : PySem.W.nsIn K mainGlobals "bool" = some none)
    (z2 : PySem.W.nsIn K mainGlobals "int" = some none)
    (z3 : PySem.W.nsIn K mainGlobals "isinstance" = some none)
    (z4 : PySem.W.nsIn K mainGlobals "len" = some none)
    (z5 : PySem.W.nsIn K mainGlobals "list" = some none)
    (z6 : PySem.W.nsIn K mainGlobals "max" = some none)
    (z7 : PySem.W.nsIn K mainGlobals "min" = some none)
    (z8 : PySem.W.nsIn K mainGlobals "range" = some none)
    {u0 : Tok} (y0 : PySem.W.nsIn K mainGlobals "LEFT" = some (some (.str "left" u0)))
    {u1 : Tok} (y1 : PySem.W.nsIn K mainGlobals "RIGHT" = some (some (.str "right" u1)))
    {C0 : Addr} (e0a : PySem.W.nsIn K mainGlobals "CoverError" = some (some (.ref C0))) (e0x : PySem.W.excIn K C0 [.type "ValueError", .type "Exception", .type "BaseException", .type "object"] "ValueError.__new__" = true) (e0k : PySem.W.keepIn K (.ref C0) = true) (e0b : PySem.W.subIn K (.ref C0) (.type "BaseException") = some true) (e0t : PySem.W.typeIn K (.ref C0) = some (.type "type")) (e0i : PySem.W.isClsIn K C0 = true) (e0s : PySem.W.subIn K (.ref C0) (.ref C0) = some true)
    (e0g : PySem.W.findIn K (.ref C0) "__getattribute__" = some (some (.builtin "BaseException.__getattribute__"))) (e0h : PySem.W.findIn K (.ref C0) "__getattr__" = some none) (e0d : PySem.W.hasDictIn K C0 = true) (e0c : PySem.W.findIn K (.ref C0) "__class__" = some (some (.builtin "object.__class__"))) (e0m : PySem.W.mroIn K C0 (.type "object") = some true) (e0v : PySem.W.subIn K (.ref C0) (.type "ValueError") = some true)
    {C1 : Addr} (e1a : PySem.W.nsIn K mainGlobals "WrongMove" = some (some (.ref C1))) (e1x : PySem.W.excIn K C1 [.type "ValueError", .type "Exception", .type "BaseException", .type "object"] "ValueError.__new__" = true) (e1k : PySem.W.keepIn K (.ref C1) = true) (e1b : PySem.W.subIn K (.ref C1) (.type "BaseException") = some true) (e1t : PySem.W.typeIn K (.ref C1) = some (.type "type")) (e1i : PySem.W.isClsIn K C1 = true) (e1s : PySem.W.subIn K (.ref C1) (.ref C1) = some true)
    (e1g : PySem.W.findIn K (.ref C1) "__getattribute__" = some (some (.builtin "BaseException.__getattribute__"))) (e1h : PySem.W.findIn K (.ref C1) "__getattr__" = some none) (e1d : PySem.W.hasDictIn K C1 = true) (e1c : PySem.W.findIn K (.ref C1) "__class__" = some (some (.builtin "object.__class__"))) (e1m : PySem.W.mroIn K C1 (.type "object") = some true) (e1v : PySem.W.subIn K (.ref C1) (.type "ValueError") = some true)
    (gn : PySem.W.specialIn K (.builtin "object.__class__") "__get__" = some (some (.builtin "getset_descriptor.__get__"))) (gt : PySem.W.takesIn K (.builtin "object.__class__") = some true)
    (r0_1 : PySem.W.subIn K (.ref C0) (.ref C1) = some false) (q0_1 : (Value.ref C0 == Value.ref C1) = false)
    (r1_0 : PySem.W.subIn K (.ref C1) (.ref C0) = some true) (q1_0 : (Value.ref C1 == Value.ref C0) = false)
    : ∃ fd : FuncData, (∀ (s : Shared) (v : Value), BindsTo s fd ⟨[v], []⟩ [("script", v)]) ∧ ∀ base : Heap, K.In base → base.Ns mainGlobals mg → FnOk l.prog w K mg base CX0 6 fa fd ["script"] (spLaw K) := by
  have e := hfa.symm.trans (PySem.W.mg_of X G a14)
  cases e
  have FL := fun_mk (st := s_law) l14 c14 k14
  have T : Txt K mg := {
    allowed_moves := D1.mk' (ps := ["word"]) X G a1 l1 c1 k1 (fun _ _ _ _ _ _ us hl => match us, hl with | [_], _ => rfl),
    make_move := D1.mk' (ps := ["word", "move"]) X G a2 l2 c2 k2 (fun _ _ _ _ _ _ us hl => match us, hl with | [_, _], _ => rfl),
    is_allowed := D1.mk' (ps := ["word", "index", "side"]) X G a3 l3 c3 k3 (fun _ _ _ _ _ _ us hl => match us, hl with | [_, _, _], _ => rfl),
    law_cell := D1.mk' (ps := ["script", "k"]) X G a4 l4 c4 k4 (fun _ _ _ _ _ _ us hl => match us, hl with | [_, _], _ => rfl),
    law_stream := D1.mk' (ps := ["cell"]) X G a5 l5 c5 k5 (fun _ _ _ _ _ _ us hl => match us, hl with | [_], _ => rfl),
    law_next := D1.mk' (ps := ["stream", "size"]) X G a6 l6 c6 k6 (fun _ _ _ _ _ _ us hl => match us, hl with | [_, _], _ => rfl),
    law_is_integer := D1.mk' (ps := ["actual"]) X G a7 l7 c7 k7 (fun _ _ _ _ _ _ us hl => match us, hl with | [_], _ => rfl),
    law_word := D1.mk' (ps := ["stream", "most"]) X G a8 l8 c8 k8 (fun _ _ _ _ _ _ us hl => match us, hl with | [_, _], _ => rfl),
    law_is_allowed := D1.mk' (ps := ["word", "index", "side"]) X G a9 l9 c9 k9 (fun _ _ _ _ _ _ us hl => match us, hl with | [_, _, _], _ => rfl),
    law_allowed := D1.mk' (ps := ["word"]) X G a10 l10 c10 k10 (fun _ _ _ _ _ _ us hl => match us, hl with | [_], _ => rfl),
    law_moved := D1.mk' (ps := ["word", "move"]) X G a11 l11 c11 k11 (fun _ _ _ _ _ _ us hl => match us, hl with | [_, _], _ => rfl),
    law_is_word := D1.mk' (ps := ["actual"]) X G a12 l12 c12 k12 (fun _ _ _ _ _ _ us hl => match us, hl with | [_], _ => rfl),
    law_refused := D1.mk' (ps := ["word", "move"]) X G a13 l13 c13 k13 (fun _ _ _ _ _ _ us hl => match us, hl with | [_, _], _ => rfl),
    ValueError := PySem.W.mg_none_of X G z0,
    bool := PySem.W.mg_none_of X G z1,
    int := PySem.W.mg_none_of X G z2,
    isinstance := PySem.W.mg_none_of X G z3,
    len := PySem.W.mg_none_of X G z4,
    list := PySem.W.mg_none_of X G z5,
    max := PySem.W.mg_none_of X G z6,
    min := PySem.W.mg_none_of X G z7,
    range := PySem.W.mg_none_of X G z8,
    LEFT_t := u0,
    LEFT := PySem.W.mg_of X G y0,
    RIGHT_t := u1,
    RIGHT := PySem.W.mg_of X G y1,
    CoverError := ⟨C0, PySem.W.mg_of X G e0a, e0x, e0k, e0b, e0t, exm_self e0b e0i e0t e0s, e0g, e0h, e0d, e0c, gn, gt, e0m, kit_val e0v⟩,
    WrongMove := ⟨C1, PySem.W.mg_of X G e1a, e1x, e1k, e1b, e1t, exm_self e1b e1i e1t e1s, e1g, e1h, e1d, e1c, gn, gt, e1m, kit_val e1v⟩,
    CoverError_WrongMove := kit_sub q0_1 r0_1 e1i e1t,
    WrongMove_CoverError := kit_sub q1_0 r1_0 e0i e0t }
  exact ⟨PySem.W.fnOf "law" "law" (defArgs s_law) (defBody s_law) (defScope s_law) .none kV14 dc14 pm14 an14 cd14 ct14, fun s v => .of_eq rfl, fun base _ _ => ok_law T FL⟩
end CP
open PySem PySem.W PyProof.Rows
set_option maxRecDepth 100000 in
set_option maxHeartbeats 0 in
theorem PySem.Challenge.cw_coverpapers_k03_moves_holds : PySem.Challenge.rw_coverpapers_k03_moves.Holds := by
  w_on; o_law; k_head; (case hw => w_witness2)
  k_fill
  refine L2.walk_of (l := PySem.Challenge.rw_coverpapers_k03_moves) (n := 63) (k := 6) (x := "script") (CX := fun _ => L2.CX0) (sp := fun w => CP.spLaw _) rfl (by decide) rfl ⟨rfl, by decide, by decide⟩ (fun w h Y => PySem.W.kIn_of Y) ?F (fun _ _ a ns hl hO hS => CP.law_end hl hO hS) (fun _ _ _ _ _ h => h)
  case F =>
    intro w mg fa h KX G hmg
    refine' CP.all_mk KX G hmg ?a1 ?l1 ?c1 ?k1 ?a2 ?l2 ?c2 ?k2 ?a3 ?l3 ?c3 ?k3 ?a4 ?l4 ?c4 ?k4 ?a5 ?l5 ?c5 ?k5 ?a6 ?l6 ?c6 ?k6 ?a7 ?l7 ?c7 ?k7 ?a8 ?l8 ?c8 ?k8 ?a9 ?l9 ?c9 ?k9 ?a10 ?l10 ?c10 ?k10 ?a11 ?l11 ?c11 ?k11 ?a12 ?l12 ?c12 ?k12 ?a13 ?l13 ?c13 ?k13 ?a14 ?l14 ?c14 ?k14 ?z0 ?z1 ?z2 ?z3 ?z4 ?z5 ?z6 ?z7 ?z8 ?y0 ?y1 ?e0a ?e0x ?e0k ?e0b ?e0t ?e0i ?e0s ?e0g ?e0h ?e0d ?e0c ?e0m ?e0v ?e1a ?e1x ?e1k ?e1b ?e1t ?e1i ?e1s ?e1g ?e1h ?e1d ?e1c ?e1m ?e1v ?gn ?gt ?r0_1 ?q0_1 ?r1_0 ?q1_0
    (case a1 => k_is)
    (case l1 => k_is)
    (case c1 => k_is)
    (case k1 => k_is)
    (case a2 => k_is)
    (case l2 => k_is)
    (case c2 => k_is)
    (case k2 => k_is)
    (case a3 => k_is)
    (case l3 => k_is)
    (case c3 => k_is)
    (case k3 => k_is)
    (case a4 => k_is)
    (case l4 => k_is)
    (case c4 => k_is)
    (case k4 => k_is)
    (case a5 => k_is)
    (case l5 => k_is)
    (case c5 => k_is)
    (case k5 => k_is)
    (case a6 => k_is)
    (case l6 => k_is)
    (case c6 => k_is)
    (case k6 => k_is)
    (case a7 => k_is)
    (case l7 => k_is)
    (case c7 => k_is)
    (case k7 => k_is)
    (case a8 => k_is)
    (case l8 => k_is)
    (case c8 => k_is)
    (case k8 => k_is)
    (case a9 => k_is)
    (case l9 => k_is)
    (case c9 => k_is)
    (case k9 => k_is)
    (case a10 => k_is)
    (case l10 => k_is)
    (case c10 => k_is)
    (case k10 => k_is)
    (case a11 => k_is)
    (case l11 => k_is)
    (case c11 => k_is)
    (case k11 => k_is)
    (case a12 => k_is)
    (case l12 => k_is)
    (case c12 => k_is)
    (case k12 => k_is)
    (case a13 => k_is)
    (case l13 => k_is)
    (case c13 => k_is)
    (case k13 => k_is)
    (case a14 => k_is)
    (case l14 => k_is)
    (case c14 => k_is)
    (case k14 => k_is)
    (case z0 => k_is)
    (case z1 => k_is)
    (case z2 => k_is)
    (case z3 => k_is)
    (case z4 => k_is)
    (case z5 => k_is)
    (case z6 => k_is)
    (case z7 => k_is)
    (case z8 => k_is)
    (case y0 => k_is)
    (case y1 => k_is)
    (case e0a => k_is)
    (case e0x => k_exc)
    (case e0k => k_is)
    (case e0b => k_is)
    (case e0t => k_is)
    (case e0i => k_is)
    (case e0s => first | rfl | k_is)
    (case e0g => k_is)
    (case e0h => k_is)
    (case e0d => k_is)
    (case e0c => k_is)
    (case e0m => k_is)
    (case e0v => k_is)
    (case e1a => k_is)
    (case e1x => k_exc)
    (case e1k => k_is)
    (case e1b => k_is)
    (case e1t => k_is)
    (case e1i => k_is)
    (case e1s => first | rfl | k_is)
    (case e1g => k_is)
    (case e1h => k_is)
    (case e1d => k_is)
    (case e1c => k_is)
    (case e1m => k_is)
    (case e1v => k_is)
    (case gn => k_is)
    (case gt => k_is)
    (case r0_1 => k_is)
    (case q0_1 => first | rfl | decide +kernel)
    (case r1_0 => k_is)
    (case q1_0 => first | rfl | decide +kernel)

