import PyProof.Rows.All
import Wide.All
import OpenK.AllK
import Wide.FinOn
import HandS.ForMost
import HandS.ForExc
import HandS.Evl
import HandS.Wide
import HandS.IsInst
import HandS.ExcIs
import HandS.TryOnly
import HandS.WordsExc
import HandS.Conv
import HandS.Deep
import HandS.SortInts
import HandS.Rev
import HandS.Zip
import HandS.TupAny
import HandS.Style
import PyProof.TupleOfSeq
import PySem.Challenge.RW_coverpapers_k05_tables
set_option Elab.async false
set_option linter.all false
set_option maxRecDepth 100000
set_option maxHeartbeats 4000000
namespace CP
open PySem PySem.Spec PyProof.Rows L2
open Evl (Ex RetV RetL)
def topS (i : Nat) : Stmt := PySem.Challenge.pw_coverpapers_k05_tables.main.body.getD i (.Pass ⟨0, 0, 0, 0⟩)
abbrev s_is_table : Stmt := topS 1
abbrev N_is_table : List Str := ["rows", "row", "upper", "lower"]
theorem sc_is_table : FnScope N_is_table ["rows"] (defScope s_is_table) := ⟨rfl, rfl, rfl, by decide +kernel, rfl, by decide +kernel, by decide +kernel⟩
abbrev s_is_record : Stmt := topS 2
abbrev N_is_record : List Str := ["table", "letters"]
theorem sc_is_record : FnScope N_is_record ["table"] (defScope s_is_record) := ⟨rfl, rfl, rfl, by decide +kernel, rfl, by decide +kernel, by decide +kernel⟩
abbrev s_shape_of : Stmt := topS 3
abbrev N_shape_of : List Str := ["table", "row"]
theorem sc_shape_of : FnScope N_shape_of ["table"] (defScope s_shape_of) := ⟨rfl, rfl, rfl, by decide +kernel, rfl, by decide +kernel, by decide +kernel⟩
abbrev s_reading_word : Stmt := topS 4
abbrev N_reading_word : List Str := ["table", "row", "letter"]
theorem sc_reading_word : FnScope N_reading_word ["table"] (defScope s_reading_word) := ⟨rfl, rfl, rfl, by decide +kernel, rfl, by decide +kernel, by decide +kernel⟩
abbrev s_corners : Stmt := topS 5
abbrev N_corners : List Str := ["table", "lengths", "row"]
theorem sc_corners : FnScope N_corners ["table"] (defScope s_corners) := ⟨rfl, rfl, rfl, by decide +kernel, rfl, by decide +kernel, by decide +kernel⟩
abbrev s_conjugate : Stmt := topS 6
abbrev N_conjugate : List Str := ["shape", "columns", "height"]
theorem sc_conjugate : FnScope N_conjugate ["shape"] (defScope s_conjugate) := ⟨rfl, rfl, rfl, by decide +kernel, rfl, by decide +kernel, by decide +kernel⟩
abbrev s_is_row : Stmt := topS 7
abbrev N_is_row : List Str := ["row"]
theorem sc_is_row : FnScope N_is_row ["row"] (defScope s_is_row) := ⟨rfl, rfl, rfl, by decide +kernel, rfl, by decide +kernel, by decide +kernel⟩
abbrev s_may_stand_below : Stmt := topS 8
abbrev N_may_stand_below : List Str := ["lower", "upper", "above", "below"]
theorem sc_may_stand_below : FnScope N_may_stand_below ["lower", "upper"] (defScope s_may_stand_below) := ⟨rfl, rfl, rfl, by decide +kernel, rfl, by decide +kernel, by decide +kernel⟩
abbrev s_law_cell : Stmt := topS 10
abbrev N_law_cell : List Str := ["script", "k"]
theorem sc_law_cell : FnScope N_law_cell ["script", "k"] (defScope s_law_cell) := ⟨rfl, rfl, rfl, by decide +kernel, rfl, by decide +kernel, by decide +kernel⟩
abbrev s_law_stream : Stmt := topS 11
abbrev N_law_stream : List Str := ["cell"]
theorem sc_law_stream : FnScope N_law_stream ["cell"] (defScope s_law_stream) := ⟨rfl, rfl, rfl, by decide +kernel, rfl, by decide +kernel, by decide +kernel⟩
abbrev s_law_next : Stmt := topS 12
abbrev N_law_next : List Str := ["stream", "size", "drawn", "mixed"]
theorem sc_law_next : FnScope N_law_next ["stream", "size"] (defScope s_law_next) := ⟨rfl, rfl, rfl, by decide +kernel, rfl, by decide +kernel, by decide +kernel⟩
abbrev s_law_is_integer : Stmt := topS 13
abbrev N_law_is_integer : List Str := ["actual"]
theorem sc_law_is_integer : FnScope N_law_is_integer ["actual"] (defScope s_law_is_integer) := ⟨rfl, rfl, rfl, by decide +kernel, rfl, by decide +kernel, by decide +kernel⟩
abbrev s_law_word : Stmt := topS 14
abbrev N_law_word : List Str := ["stream", "most", "count", "kind", "size", "low", "word", "k"]
theorem sc_law_word : FnScope N_law_word ["stream", "most"] (defScope s_law_word) := ⟨rfl, rfl, rfl, by decide +kernel, rfl, by decide +kernel, by decide +kernel⟩
abbrev s_law_insert : Stmt := topS 15
abbrev N_law_insert : List Str := ["rows", "letter", "row", "place", "told"]
theorem sc_law_insert : FnScope N_law_insert ["rows", "letter"] (defScope s_law_insert) := ⟨rfl, rfl, rfl, by decide +kernel, rfl, by decide +kernel, by decide +kernel⟩
abbrev s_law_table : Stmt := topS 16
abbrev N_law_table : List Str := ["word", "rows", "letter", "row"]
theorem sc_law_table : FnScope N_law_table ["word"] (defScope s_law_table) := ⟨rfl, rfl, rfl, by decide +kernel, rfl, by decide +kernel, by decide +kernel⟩
abbrev s_law_is_table_kind : Stmt := topS 17
abbrev N_law_is_table_kind : List Str := ["actual", "row", "letter"]
theorem sc_law_is_table_kind : FnScope N_law_is_table_kind ["actual"] (defScope s_law_is_table_kind) := ⟨rfl, rfl, rfl, by decide +kernel, rfl, by decide +kernel, by decide +kernel⟩
abbrev s_law_reading : Stmt := topS 18
abbrev N_law_reading : List Str := ["table", "word", "row"]
theorem sc_law_reading : FnScope N_law_reading ["table"] (defScope s_law_reading) := ⟨rfl, rfl, rfl, by decide +kernel, rfl, by decide +kernel, by decide +kernel⟩
abbrev s_law_is_word : Stmt := topS 19
abbrev N_law_is_word : List Str := ["actual", "letter"]
theorem sc_law_is_word : FnScope N_law_is_word ["actual"] (defScope s_law_is_word) := ⟨rfl, rfl, rfl, by decide +kernel, rfl, by decide +kernel, by decide +kernel⟩
abbrev s_law_spoilt : Stmt := topS 20
abbrev N_law_spoilt : List Str := ["stream", "table", "rows", "kind", "k", "row"]
theorem sc_law_spoilt : FnScope N_law_spoilt ["stream", "table"] (defScope s_law_spoilt) := ⟨rfl, rfl, rfl, by decide +kernel, rfl, by decide +kernel, by decide +kernel⟩
abbrev s_law_holds : Stmt := topS 21
abbrev N_law_holds : List Str := ["rows", "k", "m"]
theorem sc_law_holds : FnScope N_law_holds ["rows"] (defScope s_law_holds) := ⟨rfl, rfl, rfl, by decide +kernel, rfl, by decide +kernel, by decide +kernel⟩
abbrev s_law : Stmt := topS 22
abbrev N_law : List Str := ["script", "stream", "word", "rest", "rows", "actual", "lengths", "heights", "ends", "reading", "told", "row", "k"]
theorem sc_law : FnScope N_law ["script"] (defScope s_law) := ⟨rfl, rfl, rfl, by decide +kernel, rfl, by decide +kernel, by decide +kernel⟩
/-! ### a def of the top, a class of errors -/
structure D1 (K : PySem.W.Frag) (mg : Str → Option Value) (x : Str) (st : Stmt) (ps : List Str) where
  f : Addr
  fd : FuncData
  F : Fun K x x st f fd
  g : mg x = some (.ref f)
  b : Binds K fd ps []
def D1.mk' {K : PySem.W.Frag} {h : Heap} {mg : Str → Option Value} (X : K.In h) (G : h.Ns mainGlobals mg) {x : Str} {st : Stmt} {ps : List Str} {f : Addr} {oc : Value} {od an : Option Addr} {osl : Array (Option Value)} {kV doc pm cdv ct : Value}
    (a : PySem.W.nsIn K mainGlobals x = some (some (.ref f))) (l : K.lookup f = some ⟨oc, od, .func (PySem.W.fnOf x x (defArgs st) (defBody st) (defScope st) .none kV doc pm an cdv ct), osl⟩) (c : PySem.W.codeIn K cdv x = true) (k : PySem.W.keepIn K (.ref f) = true)
    (hb : ∀ (kV doc pm : Value) (an : Option Addr) (cdv ct : Value) (us : List Value), us.length = ps.length → bindArgs (PySem.W.fnOf x x (defArgs st) (defBody st) (defScope st) .none kV doc pm an cdv ct) ⟨us, []⟩ = pure (ps.zip us)) : D1 K mg x st ps :=
  ⟨f, _, fun_mk l c k, PySem.W.mg_of X G a, (fun_mk l c k).binds hb⟩
structure ErrC (K : PySem.W.Frag) (mg : Str → Option Value) (x : Str) where
  C : Addr
  g : mg x = some (.ref C)
  x : PySem.W.excIn K C [.type "ValueError", .type "Exception", .type "BaseException", .type "object"] "ValueError.__new__" = true
  k : PySem.W.keepIn K (.ref C) = true
  b : PySem.W.subIn K (.ref C) (.type "BaseException") = some true
  t : PySem.W.typeIn K (.ref C) = some (.type "type")
  e : PySem.W.exmOne K (.ref C) (.ref C) = some true
  hg : PySem.W.findIn K (.ref C) "__getattribute__" = some (some (.builtin "BaseException.__getattribute__"))
  hk : PySem.W.findIn K (.ref C) "__getattr__" = some none
  hd : PySem.W.hasDictIn K C = true
  ha : PySem.W.findIn K (.ref C) "__class__" = some (some (.builtin "object.__class__"))
  hn : PySem.W.specialIn K (.builtin "object.__class__") "__get__" = some (some (.builtin "getset_descriptor.__get__"))
  ht : PySem.W.takesIn K (.builtin "object.__class__") = some true
  hm : PySem.W.mroIn K C (.type "object") = some true
  kv : PySem.W.kitOne K (.ref C) (.type "ValueError") = some true
theorem ErrC.c {K : PySem.W.Frag} {mg : Str → Option Value} {x : Str} (e : ErrC K mg x) : ExcC K e.C := ⟨e.hg, e.hk, e.b, e.hd, e.ha, e.hn, e.ht, e.hm⟩
theorem hr65 {k : Nat} {A : Around} (hr : Room k A) : A.units + 65 < cLine := by
  have := hr.un
  omega
theorem pss_when {X : Cx} {p : Prop} {body : List Stmt} {t : TS} (h : p → PSs X body t) : PSs X body (fun D σ H => p ∧ t D σ H) := ⟨fun pins s σ H D I hh => (h hh.1).run pins s σ H D I hh.2⟩
theorem exm_self {K : PySem.W.Frag} {S : Addr} (h1 : PySem.W.subIn K (.ref S) (.type "BaseException") = some true) (h2 : PySem.W.isClsIn K S = true) (h3 : PySem.W.typeIn K (.ref S) = some (.type "type")) (h4 : PySem.W.subIn K (.ref S) (.ref S) = some true) :
    PySem.W.exmOne K (.ref S) (.ref S) = some true := by
  have e1 : (PySem.W.subIn K (.ref S) (.type "BaseException") == some true) = true := by rw [h1] <;> rfl
  have e2 : ((PySem.W.clsIn K S).isSome && PySem.W.typeIn K (.ref S) == some (.type "type")) = true := by
    have h2' : (PySem.W.clsIn K S).isSome = true := h2
    rw [h2', h3] <;> rfl
  show (if (PySem.W.subIn K (.ref S) (.type "BaseException") == some true) = true then (if ((PySem.W.clsIn K S).isSome && PySem.W.typeIn K (.ref S) == some (.type "type")) = true then PySem.W.subIn K (.ref S) (.ref S) else none) else none) = some true
  rw [if_pos e1, if_pos e2]
  exact h4
theorem kit_sub {K : PySem.W.Frag} {A B : Addr} {r : Bool} (n : (Value.ref A == Value.ref B) = false) (h : PySem.W.subIn K (.ref A) (.ref B) = some r) (i : PySem.W.isClsIn K B = true) (t : PySem.W.typeIn K (.ref B) = some (.type "type")) : PySem.W.kitOne K (.ref A) (.ref B) = some r := by
  unfold PySem.W.kitOne
  rw [n, if_neg Bool.false_ne_true]
  show (if ((PySem.W.clsIn K B).isSome && PySem.W.typeIn K (.ref B) == some (.type "type")) = true then PySem.W.subIn K (.ref A) (.ref B) else none) = some r
  have i' : (PySem.W.clsIn K B).isSome = true := i
  rw [i', t]
  exact h
theorem kit_val {K : PySem.W.Frag} {A : Addr} (h : PySem.W.subIn K (.ref A) (.type "ValueError") = some true) : PySem.W.kitOne K (.ref A) (.type "ValueError") = some true := by
  unfold PySem.W.kitOne
  rw [show (Value.ref A == Value.type "ValueError") = false from rfl, if_neg Bool.false_ne_true]
  show (if PySem.W.kitMeta "ValueError" = true then PySem.W.subIn K (.ref A) (.type "ValueError") else none) = some true
  rw [if_pos (by decide +kernel)]
  exact h
structure Txt (K : PySem.W.Frag) (mg : Str → Option Value) where
  is_table : D1 K mg "is_table" s_is_table ["rows"]
  is_record : D1 K mg "is_record" s_is_record ["table"]
  shape_of : D1 K mg "shape_of" s_shape_of ["table"]
  reading_word : D1 K mg "reading_word" s_reading_word ["table"]
  corners : D1 K mg "corners" s_corners ["table"]
  conjugate : D1 K mg "conjugate" s_conjugate ["shape"]
  is_row : D1 K mg "_is_row" s_is_row ["row"]
  may_stand_below : D1 K mg "_may_stand_below" s_may_stand_below ["lower", "upper"]
  law_cell : D1 K mg "_law_cell" s_law_cell ["script", "k"]
  law_stream : D1 K mg "_law_stream" s_law_stream ["cell"]
  law_next : D1 K mg "_law_next" s_law_next ["stream", "size"]
  law_is_integer : D1 K mg "_law_is_integer" s_law_is_integer ["actual"]
  law_word : D1 K mg "_law_word" s_law_word ["stream", "most"]
  law_insert : D1 K mg "_law_insert" s_law_insert ["rows", "letter"]
  law_table : D1 K mg "_law_table" s_law_table ["word"]
  law_reading : D1 K mg "_law_reading" s_law_reading ["table"]
  law_is_word : D1 K mg "_law_is_word" s_law_is_word ["actual"]
  law_spoilt : D1 K mg "_law_spoilt" s_law_spoilt ["stream", "table"]
  law_holds : D1 K mg "_law_holds" s_law_holds ["rows"]
  all : mg "all" = none
  bool : mg "bool" = none
  int : mg "int" = none
  isinstance : mg "isinstance" = none
  len : mg "len" = none
  list : mg "list" = none
  max : mg "max" = none
  range : mg "range" = none
  reversed : mg "reversed" = none
  sorted : mg "sorted" = none
  tuple : mg "tuple" = none
  zip : mg "zip" = none
/-! ### heaps: all but one kept; the stream -/
def Kp (a : Addr) (H H' : Hp) : Prop := ∀ b o, b ≠ a → H b = some o → H' b = some o
theorem Kp.refl (a : Addr) (H : Hp) : Kp a H H := fun _ _ _ h => h
theorem Kp.trans {a : Addr} {H H1 H2 : Hp} (x : Kp a H H1) (y : Kp a H1 H2) : Kp a H H2 := fun b o n h => y b o n (x b o n h)
theorem Kp.upd {a : Addr} {H H1 : Hp} {o : HO} (x : Kp a H H1) : Kp a H (L2.upd H1 a o) := fun b u n h => by
  rw [upd_ne n]
  exact x b u n h
theorem Kp.free {a : Addr} {H H1 : Hp} (x : Kp a H H1) {b : Addr} (n : b ≠ a) (h : H1 b = none) : H b = none := by
  cases e : H b with
  | none => rfl
  | some o =>
    rw [x b o n e] at h
    cases h
theorem Kp.of {a : Addr} {H H1 : Hp} (x : Ex H H1) : Kp a H H1 := fun b o _ h => x b o h
theorem Kp.new {a : Addr} {H H1 : Hp} {p : Addr} {o : HO} (x : Kp a H H1) (np : H1 p = none) : Kp a H (L2.upd H1 p o) := fun b u n h => by
  have h1 := x b u n h
  rw [upd_ne (ne_of_none h1 np)]
  exact h1
/-- an object that the first heap didn't know changes -/
theorem Kp.mut {a : Addr} {H H1 : Hp} {p : Addr} {o : HO} (x : Kp a H H1) (np : H p = none) : Kp a H (L2.upd H1 p o) := fun b u n h => by
  rw [upd_ne (ne_of_none h np)]
  exact x b u n h
theorem Kp.seq {K : PySem.W.Frag} {a : Addr} {H H1 : Hp} (x : Kp a H H1) {p : Addr} {xs : List V} (n : p ≠ a) (h : SqL K H p xs) : SqL K H1 p xs := by
  rcases h with (h | ⟨o, h⟩) | h
  · exact .inl (.inl (x _ _ n h))
  · exact .inl (.inr ⟨o, x _ _ n h⟩)
  · exact .inr h
def Strm (H : Hp) (a : Addr) : Prop := ∃ s0 s1 s2 : Int, H a = some (.lst [.int s0, .int s1, .int s2])
theorem Strm.some {H : Hp} {a : Addr} (h : Strm H a) : ∃ o, H a = some o := by
  obtain ⟨_, _, _, e⟩ := h
  exact ⟨_, e⟩
theorem Strm.ne {H : Hp} {a p : Addr} (h : Strm H a) (np : H p = none) : p ≠ a := fun e => by
  obtain ⟨_, _, _, q⟩ := h
  rw [e, q] at np
  cases np
theorem Strm.new {H : Hp} {a p : Addr} {o : HO} (h : Strm H a) (np : H p = none) : Strm (upd H p o) a := by
  obtain ⟨s0, s1, s2, q⟩ := h
  exact ⟨s0, s1, s2, by rw [upd_ne (ne_of_none q np)]; exact q⟩
theorem Strm.off {H : Hp} {a p : Addr} {o : HO} (h : Strm H a) (n : a ≠ p) : Strm (upd H p o) a := by
  obtain ⟨s0, s1, s2, q⟩ := h
  exact ⟨s0, s1, s2, by rw [upd_ne n]; exact q⟩
theorem Strm.ex {H H' : Hp} {a : Addr} (h : Strm H a) (x : Ex H H') : Strm H' a := by
  obtain ⟨s0, s1, s2, q⟩ := h
  exact ⟨s0, s1, s2, x _ _ q⟩
theorem ifT {c : Bool} {A B : Prop} (hc : c = true) (h : A) : if c = true then A else B := by
  rw [if_pos hc]
  exact h
theorem ifF {c : Bool} {A B : Prop} (hc : c = false) (h : B) : if c = true then A else B := by
  rw [hc, if_neg Bool.false_ne_true]
  exact h
theorem sz {n : Nat} (h : n ≤ 100000) : n ≤ sizeLine := Nat.le_trans h (by decide)
theorem szl {n : Nat} (h : n < 100000) : n < sizeLine := Nat.lt_of_lt_of_le h (by decide)
theorem mapAt {ws : List Int} {j : Nat} {x : Int} (h : ws[j]? = some x) : (ws.map V.int)[j]? = some (.int x) := by
  rw [List.getElem?_map, h]
  rfl
theorem mapAt' {ws : List Int} {j : Nat} {v : V} (h : (ws.map V.int)[j]? = some v) : ∃ x, ws[j]? = some x ∧ v = .int x := by
  rw [List.getElem?_map] at h
  cases e : ws[j]? with
  | none => rw [e] at h; cases h
  | some x => rw [e] at h; exact ⟨x, rfl, (Option.some.inj h).symm⟩
theorem getD_some' {ws : List Int} {i : Nat} (h : i < ws.length) : ws[i]? = some (ws.getD i 0) := by
  rw [List.getD_eq_getElem?_getD, List.getElem?_eq_getElem h]
  rfl
section
variable {P : Program} {w : World} {K : PySem.W.Frag} {mg : Str → Option Value} {base : Heap}
/-! ### what every law draws -/
def spCell (K : PySem.W.Frag) : Sp := fun vs H Q _ => ∃ (a : Addr) (ns : List Int) (k : Nat), vs = [.ref a, .int (k : Int)] ∧ SqL K H a (ns.map V.int) ∧ ∀ c : Int, Q (.int c) H
theorem ok_law_cell (T : Txt K mg) : FnOk P w K mg base CX0 1 T.law_cell.f T.law_cell.fd ["script", "k"] (spCell K) := by
  refine T.law_cell.F.ok sc_law_cell (fun vs H Q E h => ?_) (fun cdv A outer s H vs Q E hr h => ?_)
  · obtain ⟨a, ns, k, rfl, _⟩ := h
    rfl
  · obtain ⟨a, ns, k, rfl, hS, q⟩ := h
    refine ⟨_, (pss_cons (ps_if (pt_cmpR op_lt (pv 1) (pe_callB call_len_seq (by rfl) T.len PySem.boot_len (pa_cons (pv 0) pa_nil)) (nomark _))
      (pss_one (ps_ret (pe_ix ix_list (pv 0) (pv 1) (fun _ _ => rfl))))
      pss_nil)
      (pss_one (ps_ret pe_int))), ?_⟩
    refine ⟨_, rfl, _, rfl, a, _, rfl, .inl hS, _, _, rfl, rfl, _, rfl, ite2 (fun c => ?_) (fun c => ?_)⟩
    · have c1 := of_decide_eq_true c
      have c2 : k < ns.length := by rw [List.length_map] at c1; omega
      exact ⟨_, rfl, _, rfl, a, _, _, _, rfl, rfl, hS, atI_nat (mapAt (List.getElem?_eq_getElem c2)), q _⟩
    · exact q 0
def spStream : Sp := fun vs H Q _ => ∃ c : Int, vs = [.int c] ∧ ∀ (p : Addr) (s0 s1 s2 : Int), H p = none → Q (.ref p) (upd H p (.lst [.int s0, .int s1, .int s2]))
theorem ok_law_stream (T : Txt K mg) : FnOk P w K mg base CX0 1 T.law_stream.f T.law_stream.fd ["cell"] spStream := by
  refine T.law_stream.F.ok sc_law_stream (fun vs H Q E h => ?_) (fun cdv A outer s H vs Q E hr h => ?_)
  · obtain ⟨c, rfl, _⟩ := h
    rfl
  · obtain ⟨c, rfl, q⟩ := h
    refine ⟨_, (pss_cons (ps_if (pt_cmpR op_ge (pv 0) (pe_op op_pow pe_int pe_int) (nomark _))
      (pss_one (ps_ret (pe_lst (pa_cons (pv 0) (pa_cons pe_int (pa_cons (pe_op op_mod (pe_callTy call_int1 (by rfl) T.int (by decide +kernel) (pa_cons (pv 0) pa_nil)) pe_int) pa_nil))))))
      pss_nil)
      (pss_one (ps_ret (pe_lst (pa_cons pe_int (pa_cons pe_int (pa_cons (pe_op op_mod (pe_callTy call_int1 (by rfl) T.int (by decide +kernel) (pa_cons (pv 0) pa_nil)) pe_int) pa_nil))))))), ?_⟩
    refine ⟨_, rfl, _, _, rfl, rfl, ⟨by decide, by decide, by decide⟩, _, _, rfl, rfl, _, rfl, ite2 (fun _ => ?_) (fun _ => ?_)⟩
    · exact ⟨_, rfl, _, rfl, .inl ⟨_, rfl, _, _, rfl, rfl, (by show (0 : Int) < _; decide), (by show 3 ≤ sizeLine; decide), fun p np => q p _ _ _ np⟩⟩
    · exact ⟨_, rfl, .inl ⟨_, rfl, _, _, rfl, rfl, (by show (0 : Int) < _; decide), (by show 3 ≤ sizeLine; decide), fun p np => q p _ _ _ np⟩⟩
def spNext : Sp := fun vs H Q _ => ∃ (a : Addr) (n : Int), vs = [.ref a, .int n] ∧ Strm H a ∧ 0 < n ∧ n < 2 ^ 200 ∧ ∀ (d : Int) (H' : Hp), 0 ≤ d → d < n → Strm H' a → Kp a H H' → Q (.int d) H'
theorem ok_law_next (T : Txt K mg) : FnOk P w K mg base CX0 1 T.law_next.f T.law_next.fd ["stream", "size"] spNext := by
  refine T.law_next.F.ok sc_law_next (fun vs H Q E h => ?_) (fun cdv A outer s H vs Q E hr h => ?_)
  · obtain ⟨a, n, rfl, _⟩ := h
    rfl
  · obtain ⟨a, n, rfl, ⟨s0, s1, s2, hH⟩, n0, n1, q⟩ := h
    have nb : n.natAbs < 2 ^ 200 := by
      have : (n.natAbs : Int) < 2 ^ 200 := by omega
      exact_mod_cast this
    refine ⟨_, (pss_cons (ps_if (pt_cmpR op_gt (pe_ix ix_list (pv 0) pe_int (fun _ _ => rfl)) pe_int (nomark _))
      (pss_cons (ps_set (i := 2) sc_law_next.nd rfl (.inl rfl) (pe_op op_mod (pe_callTy call_int1 (by rfl) T.int (by decide +kernel) (pa_cons (pe_ix ix_list (pv 0) pe_int (fun _ _ => rfl)) pa_nil)) (pv 1)))
        (pss_cons (ps_asg (pe_op op_fdivW (pe_ix ix_list (pv 0) pe_int (fun _ _ => rfl)) (pv 1)) (pg_sub (pv 0) pe_int set_list))
        (pss_one (ps_ret (pv 2)))))
      pss_nil)
      (pss_cons (ps_asg (pe_op op_add (pe_ix ix_list (pv 0) pe_int (fun _ _ => rfl)) pe_int) (pg_sub (pv 0) pe_int set_list))
      (pss_cons (ps_set (i := 3) sc_law_next.nd rfl (.inl rfl) (pe_op op_mod (pe_callTy call_int1 (by rfl) T.int (by decide +kernel) (pa_cons (pe_op op_add (pe_op op_mul (pe_ix ix_list (pv 0) pe_int (fun _ _ => rfl)) pe_int) (pe_op op_mul (pe_ix ix_list (pv 0) pe_int (fun _ _ => rfl)) pe_int)) pa_nil)) pe_int))
      (pss_cons (ps_set (i := 3) sc_law_next.nd rfl (.inl rfl) (pe_op op_mod (pe_callTy call_int1 (by rfl) T.int (by decide +kernel) (pa_cons (pe_op op_add (pe_op op_mul (pv 3) (pv 3)) (pe_op op_mul (pe_ix ix_list (pv 0) pe_int (fun _ _ => rfl)) pe_int)) pa_nil)) pe_int))
      (pss_cons (ps_set (i := 3) sc_law_next.nd rfl (.inl rfl) (pe_op op_mod (pe_callTy call_int1 (by rfl) T.int (by decide +kernel) (pa_cons (pe_op op_add (pe_op op_mul (pv 3) pe_int) (pe_ix ix_list (pv 0) pe_int (fun _ _ => rfl))) pa_nil)) pe_int))
      (pss_one (ps_ret (pe_op op_mod (pe_callTy call_int1 (by rfl) T.int (by decide +kernel) (pa_cons (pv 3) pa_nil)) (pv 1))))))))), ?_⟩
    refine ⟨_, rfl, a, _, _, _, rfl, rfl, SqL.of hH, atI_nat (j := 0) rfl, _, _, rfl, rfl, _, rfl, ite2 (fun _ => ?_) (fun _ => ?_)⟩
    · refine ⟨_, rfl, a, _, _, _, rfl, rfl, SqL.of hH, atI_nat (j := 0) rfl, .inl ⟨_, rfl, _, rfl, _, _, rfl, rfl, n0, ?_⟩⟩
      refine ⟨_, rfl, a, _, _, _, rfl, rfl, SqL.of hH, atI_nat (j := 0) rfl, _, rfl, _, _, rfl, rfl, wide_div n0 nb (by decide) (by decide), ?_⟩
      refine ⟨_, rfl, a, _, _, 0, rfl, rfl, hH, rfl, ?_⟩
      refine ⟨_, rfl, ?_⟩
      exact q _ _ (Int.emod_nonneg _ (by omega)) (Int.emod_lt_of_pos _ n0) ⟨_, _, _, upd_same⟩ (Kp.refl a H).upd
    · refine ⟨_, rfl, a, _, _, _, rfl, rfl, SqL.of hH, atI_nat (j := 1) rfl, _, _, rfl, rfl, _, rfl, a, _, _, 1, rfl, rfl, hH, rfl, ?_⟩
      have h1 : (upd H a (.lst [.int s0, .int (s1 + 1), .int s2])) a = some (.lst [.int s0, .int (s1 + 1), .int s2]) := upd_same
      -- mixed = int(stream[2] * 48271 + stream[1] * 69621) % 2147483647
      refine ⟨_, rfl, a, _, _, _, rfl, rfl, SqL.of h1, atI_nat (j := 2) rfl, _, _, rfl, rfl, .inr ⟨by decide, by decide⟩, _, rfl, a, _, _, _, rfl, rfl, SqL.of h1, atI_nat (j := 1) rfl, _, _, rfl, rfl, .inr ⟨by decide, by decide⟩, _, _, rfl, rfl, .inl ⟨_, rfl, _, _, rfl, rfl, (by show (0 : Int) < _; decide), ?_⟩⟩
      -- mixed = int(mixed * mixed + stream[1] * 40692) % 2147483399
      have b1 := Int.emod_nonneg (s2 * 48271 + (s1 + 1) * 69621) (show (2147483647 : Int) ≠ 0 by decide)
      have b2 := Int.emod_lt_of_pos (s2 * 48271 + (s1 + 1) * 69621) (show (0 : Int) < 2147483647 by decide)
      refine ⟨_, rfl, _, rfl, _, _, rfl, rfl, .inl ⟨by omega, by omega⟩, _, rfl, a, _, _, _, rfl, rfl, SqL.of h1, atI_nat (j := 1) rfl, _, _, rfl, rfl, .inr ⟨by decide, by decide⟩, _, _, rfl, rfl, .inl ⟨_, rfl, _, _, rfl, rfl, (by show (0 : Int) < _; decide), ?_⟩⟩
      -- mixed = int(mixed * 16807 + stream[2]) % 2147483647
      refine ⟨_, rfl, _, _, rfl, rfl, .inr ⟨by decide, by decide⟩, _, rfl, a, _, _, _, rfl, rfl, SqL.of h1, atI_nat (j := 2) rfl, _, _, rfl, rfl, .inl ⟨_, rfl, _, _, rfl, rfl, (by show (0 : Int) < _; decide), ?_⟩⟩
      refine ⟨_, rfl, .inl ⟨_, rfl, _, rfl, _, _, rfl, rfl, n0, ?_⟩⟩
      exact q _ _ (Int.emod_nonneg _ (by omega)) (Int.emod_lt_of_pos _ n0) ⟨_, _, _, upd_same⟩ (Kp.refl a H).upd
end

theorem kinds (k : Int) (h0 : 0 ≤ k) (h1 : k < 6) : ∃ s l : Int, atI [V.int 2, .int 3, .int 6, .int 20, .int (10 ^ (15 : Int).toNat), .int (10 ^ (30 : Int).toNat)] k = some (.int s) ∧
    atI [V.int 1, .int 1, .int 0, .int (-9), .int (-(10 ^ (14 : Int).toNat)), .int (-(10 ^ (29 : Int).toNat))] k = some (.int l) ∧ 0 < s ∧ l + s ≤ 10 ^ 30 ∧ -(10 ^ 29) ≤ l ∧ s ≤ 10 ^ 30 := by
  have c : k = 0 ∨ k = 1 ∨ k = 2 ∨ k = 3 ∨ k = 4 ∨ k = 5 := by omega
  rcases c with rfl | rfl | rfl | rfl | rfl | rfl <;> exact ⟨_, _, rfl, rfl, by decide, by decide, by decide, by decide⟩
/-- the letters that a law draws -/
def Lets (ws : List Int) : Prop := ∀ x ∈ ws, -(10 ^ 30) - 1000 ≤ x ∧ x ≤ 10 ^ 30 + 1000
theorem lets_of {ws : List Int} {b : Nat} (h : ∀ x ∈ ws, -(10 ^ 30) - (b : Int) ≤ x ∧ x ≤ 10 ^ 30 + (b : Int)) (hb : b ≤ 1000) : Lets ws := fun x hx => by
  have := h x hx
  omega
section
variable {P : Program} {w : World} {K : PySem.W.Frag} {mg : Str → Option Value} {base : Heap}
def spWord : Sp := fun vs H Q _ => ∃ (a : Addr) (m : Nat), vs = [.ref a, .int (m : Int)] ∧ m ≤ 1000 ∧ Strm H a ∧
  ∀ (p : Addr) (ws : List Int) (H' : Hp), ws.length ≤ m → Lets ws → H p = none → p ≠ a → H' p = some (.lst (ws.map V.int)) → Strm H' a → Kp a H H' → Q (.ref p) H'
theorem ok_law_word (T : Txt K mg) : FnOk P w K mg base CX0 2 T.law_word.f T.law_word.fd ["stream", "most"] spWord := by
  refine T.law_word.F.ok sc_law_word (fun vs H Q E h => ?_) (fun cdv A outer s H vs Q E hr h => ?_)
  · obtain ⟨a, m, rfl, _⟩ := h
    rfl
  · obtain ⟨a, m, rfl, hm, S0, q⟩ := h
    refine ⟨_, (pss_cons (ps_set (i := 2) sc_law_word.nd rfl (.inl rfl) (pe_call (ok_law_next T) (hr.mono (by decide)) rfl T.law_next.g T.law_next.F.kp T.law_next.b .nil pass0 (pa_cons (pv 0) (pa_cons (pe_op op_add (pv 1) pe_int) pa_nil))))
      (pss_cons (ps_set (i := 3) sc_law_word.nd rfl (.inl rfl) (pe_call (ok_law_next T) (hr.mono (by decide)) rfl T.law_next.g T.law_next.F.kp T.law_next.b .nil pass0 (pa_cons (pv 0) (pa_cons pe_int pa_nil))))
      (pss_cons (ps_set (i := 4) sc_law_word.nd rfl (.inl rfl) (pe_ix ix_list (pe_lst (pa_cons pe_int (pa_cons pe_int (pa_cons pe_int (pa_cons pe_int (pa_cons (pe_op op_pow pe_int pe_int) (pa_cons (pe_op op_pow pe_int pe_int) pa_nil))))))) (pv 3) (fun _ _ => rfl)))
      (pss_cons (ps_set (i := 5) sc_law_word.nd rfl (.inl rfl) (pe_ix ix_list (pe_lst (pa_cons pe_int (pa_cons pe_int (pa_cons pe_int (pa_cons (pe_un un_neg pe_int) (pa_cons (pe_un un_neg (pe_op op_pow pe_int pe_int)) (pa_cons (pe_un un_neg (pe_op op_pow pe_int pe_int)) pa_nil))))))) (pv 3) (fun _ _ => rfl)))
      (pss_cons (ps_set (i := 6) sc_law_word.nd rfl (.inl rfl) (pe_lst pa_nil))
      (pss_cons (ps_for PassesOwn.never rfl (pi_range1 (by rfl) T.range (pa_cons (pv 2) pa_nil)) (pg_name (i := 7) sc_law_word.nd rfl (.inl rfl))
      (pss_cons (ps_expr (pe_bm PySem.F.plainAttrs_list PySem.F.slot_list_append PySem.F.type_list_append mt_append (pv 6) (pa_cons (pe_op op_add (pv 5) (pe_call (ok_law_next T) (hr.mono (by decide)) rfl T.law_next.g T.law_next.F.kp T.law_next.b .nil pass0 (pa_cons (pv 0) (pa_cons (pv 4) pa_nil)))) pa_nil)))
        (pss_one (ps_if (PW.pt (pw_and (pt_cmpR op_gt (pv 7) pe_int (nomark _)) (pw_and1 (pt_cmpR op_eq (pe_call (ok_law_next T) (hr.mono (by decide)) rfl T.law_next.g T.law_next.F.kp T.law_next.b .nil pass0 (pa_cons (pv 0) (pa_cons pe_int pa_nil))) pe_int (nomark _)))))
        (pss_one (ps_asg (pe_op op_sub (pe_op op_add (pe_ix ix_list (pv 6) (pe_op op_sub (pv 7) pe_int) (fun _ _ => rfl)) (pe_call (ok_law_next T) (hr.mono (by decide)) rfl T.law_next.g T.law_next.F.kp T.law_next.b .nil pass0 (pa_cons (pv 0) (pa_cons pe_int pa_nil)))) pe_int) (pg_sub (pv 6) (pv 7) set_list)))
        pss_nil))))
      (pss_one (ps_ret (pv 6))))))))), ?_⟩
    refine ⟨_, rfl, _, rfl, _, _, rfl, rfl, a, _, rfl, S0, by omega, by omega, fun cnt H1 c0 c1 S1 K1 => ?_⟩
    refine ⟨_, rfl, a, _, rfl, S1, by omega, by omega, fun kind H2 k0 k1 S2 K2 => ?_⟩
    obtain ⟨sz, lo, es, el, z0, z1, z2, z3⟩ := kinds kind k0 k1
    refine ⟨_, _, rfl, rfl, ⟨by decide, by decide, by decide⟩, _, _, rfl, rfl, ⟨by decide, by decide, by decide⟩, (by show 6 ≤ sizeLine; decide), fun l1 n1 => ?_⟩
    refine ⟨_, rfl, l1, _, _, _, rfl, rfl, SqL.of upd_same, es, ?_⟩
    refine ⟨_, rfl, _, _, rfl, rfl, ⟨by decide, by decide, by decide⟩, _, rfl, _, _, rfl, rfl, ⟨by decide, by decide, by decide⟩, _, rfl, (by show 6 ≤ sizeLine; decide), fun l2 n2 => ?_⟩
    refine ⟨_, rfl, l2, _, _, _, rfl, rfl, SqL.of upd_same, el, ?_⟩
    refine ⟨Nat.zero_le _, fun p np => ?_⟩
    have S3 := (S2.new (o := .lst [V.int 2, .int 3, .int 6, .int 20, .int (10 ^ (15 : Int).toNat), .int (10 ^ (30 : Int).toNat)]) n1).new (o := .lst [V.int 1, .int 1, .int 0, .int (-9), .int (-(10 ^ (14 : Int).toNat)), .int (-(10 ^ (29 : Int).toNat))]) n2
    have K3 := (((K1.trans K2).new (o := .lst [V.int 2, .int 3, .int 6, .int 20, .int (10 ^ (15 : Int).toNat), .int (10 ^ (30 : Int).toNat)]) n1).new (o := .lst [V.int 1, .int 1, .int 0, .int (-9), .int (-(10 ^ (14 : Int).toNat)), .int (-(10 ^ (29 : Int).toNat))]) n2)
    have pa : p ≠ a := S3.ne np
    have pH : H p = none := K3.free pa np
    refine ⟨_, rfl, cnt, rfl, by omega, by omega, for_range (lo := 0) (n := cnt.toNat) (fun i σ H' => ∃ (ws : List Int) (x7 : Option V), σ = [some (.ref a), some (.int m), some (.int cnt), some (.int kind), some (.int sz), some (.int lo), some (.ref p), x7] ∧ ws.length = i ∧
      (∀ x ∈ ws, -(10 ^ 30) - (i : Int) ≤ x ∧ x ≤ 10 ^ 30 + (i : Int)) ∧ H' p = some (.lst (ws.map V.int)) ∧ Strm H' a ∧ Kp a H H')
      ⟨[], none, rfl, rfl, fun x h => absurd h List.not_mem_nil, upd_same, S3.new np, K3.new np⟩ ?_ ?_⟩
    · rintro i σ H' hi ⟨ws, x7, rfl, hl, hb, hp, S, Kh⟩
      -- word.append(low + next)
      refine ⟨_, rfl, .inl ⟨rfl, _, SqL.of hp⟩, _, rfl, _, rfl, _, rfl, a, sz, rfl, S, z0, by omega, fun d H4 d0 d1 S4 K4 => ?_⟩
      have hp4 := K4 _ _ pa hp
      refine ⟨_, _, rfl, rfl, p, _, _, rfl, rfl, hp4, szl (by rw [List.length_map]; omega), ?_⟩
      have hp5 : (upd H4 p (.lst (ws.map V.int ++ [.int (lo + d)]))) p = some (.lst ((ws ++ [lo + d]).map V.int)) := by
        rw [upd_same, List.map_append]
        rfl
      have S5 : Strm (upd H4 p (.lst (ws.map V.int ++ [.int (lo + d)]))) a := S4.off pa.symm
      have K5 : Kp a H (upd H4 p (.lst (ws.map V.int ++ [.int (lo + d)]))) := (Kh.trans K4).mut pH
      have hb5 : ∀ x ∈ ws ++ [lo + d], -(10 ^ 30) - ((i + 1 : Nat) : Int) ≤ x ∧ x ≤ 10 ^ 30 + ((i + 1 : Nat) : Int) := fun x hx => by
        rcases List.mem_append.mp hx with h | h
        · have := hb x h
          omega
        · rw [List.mem_singleton] at h
          subst h
          omega
      -- if k > 0 and next == 0
      refine ⟨_, rfl, _, _, rfl, rfl, _, rfl, ?_⟩
      by_cases c0 : (0 : Int) < 0 + (i : Int)
      · refine ifT (decide_eq_true c0) ?_
        refine ⟨_, rfl, a, _, rfl, S5, by omega, by omega, fun e H6 e0 e1 S6 K6 => ?_⟩
        have hp6 := K6 _ _ pa hp5
        refine ⟨rfl, _, rfl, ite2 (fun _ => ?_) (fun _ => ?_)⟩
        · -- word[k] = word[k - 1] + next - 1
          obtain ⟨y, hy⟩ : ∃ y, (ws ++ [lo + d])[i - 1]? = some y := ⟨_, List.getElem?_eq_getElem (by rw [List.length_append, List.length_singleton]; omega)⟩
          have yb := hb y (by
            have e : (ws ++ [lo + d])[i - 1]? = ws[i - 1]? := List.getElem?_append_left (by omega)
            rw [e] at hy
            exact List.mem_of_getElem? hy)
          refine ⟨_, rfl, _, rfl, _, _, rfl, rfl, p, _, _, _, rfl, rfl, SqL.of hp6, at_of (j := i - 1) (by omega) (mapAt hy), _, rfl, a, _, rfl, S6, by omega, by omega, fun f H7 f0 f1 S7 K7 => ?_⟩
          have hp7 := K7 _ _ pa hp6
          refine ⟨_, _, rfl, rfl, _, _, rfl, rfl, _, rfl, _, rfl, p, _, _, i, rfl, rfl, hp7, ?_, ?_⟩
          · rw [show (0 : Int) + (i : Int) = (i : Int) from Int.zero_add _]
            exact Evl.ixN_nat (by rw [List.length_map, List.length_append, List.length_singleton]; omega)
          · refine ⟨(ws ++ [lo + d]).set i (y + f - 1), _, rfl, by rw [List.length_set, List.length_append, List.length_singleton]; omega, fun x hx => ?_, by rw [upd_same, List.map_set], S7.off pa.symm, (K5.trans (K6.trans K7)).mut pH⟩
            rcases List.mem_or_eq_of_mem_set hx with h | h
            · exact hb5 x h
            · subst h
              omega
        · exact ⟨ws ++ [lo + d], _, rfl, by rw [List.length_append, List.length_singleton]; omega, hb5, hp6, S6, K5.trans K6⟩
      · refine ifF (decide_eq_false c0) ?_
        refine iteF ?_
        exact ⟨ws ++ [lo + d], _, rfl, by rw [List.length_append, List.length_singleton]; omega, hb5, hp5, S5, K5⟩
    · rintro σ H' ⟨ws, x7, rfl, hl, hb, hp, S, Kh⟩
      exact ⟨_, rfl, q p ws H' (by omega) (lets_of hb (by omega)) pH pa hp S Kh⟩
end

/-! ### data: lists and tuples of ints and texts, at any depth -/
def purN : Nat → PyData → Bool
  | _, .none => true
  | _, .int _ => true
  | _, .str x => PyData.strOk x
  | n + 1, .list xs => xs.all (purN n)
  | n + 1, .tuple xs => xs.all (purN n)
  | _, _ => false
theorem layAll_of : ∀ {xs : List PyData}, (∀ x ∈ xs, x.canLay0 = true) → PyData.canLayAll0 xs = true
  | [], _ => by simp [PyData.canLayAll0]
  | x :: xs, h => by
    simp only [PyData.canLayAll0, Bool.and_eq_true]
    exact ⟨h x List.mem_cons_self, layAll_of fun y hy => h y (List.mem_cons_of_mem _ hy)⟩
theorem depthAll_of {n : Nat} : ∀ {xs : List PyData}, (∀ x ∈ xs, x.depth ≤ n) → PyData.depthAll xs ≤ n
  | [], _ => by simp [PyData.depthAll]
  | x :: xs, h => by
    have h1 := h x List.mem_cons_self
    have h2 := depthAll_of (n := n) (xs := xs) fun y hy => h y (List.mem_cons_of_mem _ hy)
    simp only [PyData.depthAll]
    omega
theorem purN_ok : ∀ (n : Nat) (d : PyData), purN n d = true → d.canLay0 = true ∧ d.depth ≤ n
  | _, .none, _ => by simp [PyData.canLay0, PyData.depth]
  | _, .int _, _ => by simp [PyData.canLay0, PyData.depth]
  | n, .str x, h => by
    have h' : PyData.strOk x = true := by cases n <;> simpa [purN] using h
    simp [PyData.canLay0, PyData.depth, h']
  | n + 1, .list xs, h => by
    have h' : ∀ x ∈ xs, purN n x = true := by simpa [purN] using h
    simp only [PyData.canLay0, PyData.depth]
    exact ⟨layAll_of fun x hx => (purN_ok n x (h' x hx)).1, Nat.succ_le_succ (depthAll_of fun x hx => (purN_ok n x (h' x hx)).2)⟩
  | n + 1, .tuple xs, h => by
    have h' : ∀ x ∈ xs, purN n x = true := by simpa [purN] using h
    simp only [PyData.canLay0, PyData.depth]
    exact ⟨layAll_of fun x hx => (purN_ok n x (h' x hx)).1, Nat.succ_le_succ (depthAll_of fun x hx => (purN_ok n x (h' x hx)).2)⟩
  | 0, .list _, h => by simp [purN] at h
  | 0, .tuple _, h => by simp [purN] at h
  | n, .bool _, h => by cases n <;> simp [purN] at h
  | n, .dict _, h => by cases n <;> simp [purN] at h
theorem purN_shaped {n : Nat} {d : PyData} (h : purN n d = true) (hn : n ≤ 64) : SeqAt.shaped d = true := by
  obtain ⟨a, b⟩ := purN_ok n d h
  show (d.canLay0 && decide (d.depth ≤ 64)) = true
  rw [Bool.and_eq_true]
  exact ⟨a, decide_eq_true (by omega)⟩
theorem eqvAll_iff : ∀ {xs ys : List PyData}, (∀ x ∈ xs, ∀ y ∈ ys, PyData.eqv x y = true → x = y) → PyData.eqvAll xs ys = true → xs = ys
  | [], [], _, _ => rfl
  | [], _ :: _, _, h => by simp [PyData.eqvAll] at h
  | _ :: _, [], _, h => by simp [PyData.eqvAll] at h
  | x :: xs, y :: ys, h, e => by
    simp only [PyData.eqvAll, Bool.and_eq_true] at e
    rw [h x List.mem_cons_self y List.mem_cons_self e.1, eqvAll_iff (fun u hu v hv => h u (List.mem_cons_of_mem _ hu) v (List.mem_cons_of_mem _ hv)) e.2]
theorem purN_inj : ∀ (n m : Nat) (d e : PyData), purN n d = true → purN m e = true → PyData.eqv d e = true → d = e
  | n, m, .none, e, _, h2, q => by cases e <;> simp [PyData.eqv] at q <;> rfl
  | n, m, .int i, e, _, h2, q => by
    cases e with
    | int j => simp [PyData.eqv] at q; rw [q]
    | bool b => cases m <;> simp [purN] at h2
    | _ => simp [PyData.eqv] at q
  | n, m, .str x, e, _, h2, q => by
    cases e with
    | str y => simp [PyData.eqv] at q; rw [q]
    | _ => simp [PyData.eqv] at q
  | n + 1, m, .list xs, e, h1, h2, q => by
    cases e with
    | list ys =>
      cases m with
      | zero => simp [purN] at h2
      | succ m =>
        have h1' : ∀ x ∈ xs, purN n x = true := by simpa [purN] using h1
        have h2' : ∀ x ∈ ys, purN m x = true := by simpa [purN] using h2
        simp only [PyData.eqv] at q
        rw [eqvAll_iff (fun x hx y hy => purN_inj n m x y (h1' x hx) (h2' y hy)) q]
    | _ => simp [PyData.eqv] at q
  | n + 1, m, .tuple xs, e, h1, h2, q => by
    cases e with
    | tuple ys =>
      cases m with
      | zero => simp [purN] at h2
      | succ m =>
        have h1' : ∀ x ∈ xs, purN n x = true := by simpa [purN] using h1
        have h2' : ∀ x ∈ ys, purN m x = true := by simpa [purN] using h2
        simp only [PyData.eqv] at q
        rw [eqvAll_iff (fun x hx y hy => purN_inj n m x y (h1' x hx) (h2' y hy)) q]
    | _ => simp [PyData.eqv] at q
  | 0, _, .list _, _, h, _, _ => by simp [purN] at h
  | 0, _, .tuple _, _, h, _, _ => by simp [purN] at h
  | n, _, .bool _, _, h, _, _ => by cases n <;> simp [purN] at h
  | n, _, .dict _, _, h, _, _ => by cases n <;> simp [purN] at h
theorem purN_eqv {n m : Nat} {d e : PyData} (h1 : purN n d = true) (h2 : purN m e = true) : PyData.eqv d e = true ↔ d = e := by
  refine ⟨purN_inj n m d e h1 h2, fun q => ?_⟩
  subst q
  exact SeqAt.eqv_refl d (purN_ok n d h1).1
/-- a list of ints; of such; a tuple of such -/
abbrev dW (ws : List Int) : PyData := .list (ws.map .int)
abbrev dR (ws : List Int) : PyData := .tuple (ws.map .int)
abbrev dF (fs : List (List Int)) : PyData := .list (fs.map dW)
abbrev dT (fs : List (List Int)) : PyData := .tuple (fs.map dR)
theorem pur_ints (n : Nat) (ws : List Int) : (ws.map PyData.int).all (purN n) = true := by
  rw [List.all_map, List.all_eq_true]
  intro x _
  cases n <;> rfl
theorem pur_W (ws : List Int) : purN 1 (dW ws) = true := pur_ints 0 ws
theorem pur_R (ws : List Int) : purN 1 (dR ws) = true := pur_ints 0 ws
theorem pur_F (fs : List (List Int)) : purN 2 (dF fs) = true := by
  show (fs.map dW).all (purN 1) = true
  rw [List.all_map, List.all_eq_true]
  intro x _
  exact pur_W x
theorem pur_T (fs : List (List Int)) : purN 2 (dT fs) = true := by
  show (fs.map dR).all (purN 1) = true
  rw [List.all_map, List.all_eq_true]
  intro x _
  exact pur_R x
theorem map_int_inj {xs ys : List Int} (h : xs.map PyData.int = ys.map PyData.int) : xs = ys := by
  induction xs generalizing ys with
  | nil => cases ys with
    | nil => rfl
    | cons _ _ => cases h
  | cons x xs ih => cases ys with
    | nil => cases h
    | cons y ys =>
      simp only [List.map_cons, List.cons.injEq, PyData.int.injEq] at h
      rw [h.1, ih h.2]
theorem dW_inj {xs ys : List Int} (h : dW xs = dW ys) : xs = ys := map_int_inj (PyData.list.inj h)
theorem dR_inj {xs ys : List Int} (h : dR xs = dR ys) : xs = ys := map_int_inj (PyData.tuple.inj h)
theorem map_inj_of {α β : Type} {f : α → β} (hf : ∀ x y, f x = f y → x = y) : ∀ {xs ys : List α}, xs.map f = ys.map f → xs = ys
  | [], [], _ => rfl
  | [], _ :: _, h => by cases h
  | _ :: _, [], h => by cases h
  | x :: xs, y :: ys, h => by
    simp only [List.map_cons, List.cons.injEq] at h
    rw [hf x y h.1, map_inj_of hf h.2]
theorem dF_inj {xs ys : List (List Int)} (h : dF xs = dF ys) : xs = ys := map_inj_of (fun _ _ => dW_inj) (PyData.list.inj h)
theorem dT_inj {xs ys : List (List Int)} (h : dT xs = dT ys) : xs = ys := map_inj_of (fun _ _ => dR_inj) (PyData.tuple.inj h)

/-! ### data in the heap -/
section
variable {K : PySem.W.Frag} {H H' : Hp}
mutual
theorem Dp.ex (e : Ex H H') : ∀ (d : PyData) (v : V), Dp K H v d → Dp K H' v d
  | .none, _, h => by cases h; exact .non
  | .bool _, _, h => by cases h; exact .bl _
  | .int _, _, h => by cases h; exact .int _
  | .str _, _, h => by cases h; exact .str _
  | .list ds, _, h => by cases h with | lst hs ha => exact .lst (Evl.ex_l e hs) (DpAll.ex e ds _ ha)
  | .tuple ds, _, h => by cases h with | tup hs ha => exact .tup (Evl.ex_t e hs) (DpAll.ex e ds _ ha)
  | .dict _, _, h => by cases h
theorem DpAll.ex (e : Ex H H') : ∀ (ds : List PyData) (vs : List V), DpAll K H vs ds → DpAll K H' vs ds
  | [], _, h => by cases h; exact .nil
  | d :: ds, _, h => by cases h with | cons a b => exact .cons (Dp.ex e d _ a) (DpAll.ex e ds _ b)
end
theorem _root_.L2.Dp.mono {v : V} {d : PyData} (h : Dp K H v d) (e : Ex H H') : Dp K H' v d := Dp.ex e d v h
theorem _root_.L2.DpAll.mono {vs : List V} {ds : List PyData} (h : DpAll K H vs ds) (e : Ex H H') : DpAll K H' vs ds := DpAll.ex e ds vs h
theorem dp_ints : ∀ ws : List Int, DpAll K H (ws.map V.int) (ws.map PyData.int)
  | [] => .nil
  | w :: ws => .cons (.int w) (dp_ints ws)
theorem dp_ints_inv : ∀ {ws : List Int} {vs : List V}, DpAll K H vs (ws.map PyData.int) → vs = ws.map V.int
  | [], _, h => by cases h; rfl
  | w :: ws, _, h => by
    cases h with
    | cons a b =>
      cases a
      rw [dp_ints_inv b]
      rfl
theorem dp_W {p : Addr} {ws : List Int} (h : SqL K H p (ws.map V.int)) : Dp K H (.ref p) (dW ws) := .lst h (dp_ints ws)
theorem dp_R {p : Addr} {ws : List Int} (h : SqT K H p (ws.map V.int)) : Dp K H (.ref p) (dR ws) := .tup h (dp_ints ws)
theorem dp_W_inv {v : V} {ws : List Int} (h : Dp K H v (dW ws)) : ∃ p, v = .ref p ∧ SqL K H p (ws.map V.int) := by
  cases h with
  | lst hs ha =>
    rw [dp_ints_inv ha] at hs
    exact ⟨_, rfl, hs⟩
theorem dp_R_inv {v : V} {ws : List Int} (h : Dp K H v (dR ws)) : ∃ p, v = .ref p ∧ SqT K H p (ws.map V.int) := by
  cases h with
  | tup hs ha =>
    rw [dp_ints_inv ha] at hs
    exact ⟨_, rfl, hs⟩
theorem dp_len : ∀ {vs : List V} {ds : List PyData}, DpAll K H vs ds → vs.length = ds.length
  | _, _, .nil => rfl
  | _, _, .cons _ b => by rw [List.length_cons, List.length_cons, dp_len b]
theorem dp_at : ∀ {vs : List V} {ds : List PyData} {j : Nat} {v : V}, DpAll K H vs ds → vs[j]? = some v → ∃ d, ds[j]? = some d ∧ Dp K H v d
  | _, _, _, _, .nil, h => by simp at h
  | _, _, 0, _, .cons a _, h => by
    simp only [List.getElem?_cons_zero, Option.some.injEq] at h
    subst h
    exact ⟨_, rfl, a⟩
  | _, _, j + 1, v, .cons _ b, h => by
    rw [List.getElem?_cons_succ] at h
    obtain ⟨d, e, q⟩ := dp_at b h
    exact ⟨d, by rw [List.getElem?_cons_succ]; exact e, q⟩
theorem dp_at' {vs : List V} {ds : List PyData} {j : Nat} {d : PyData} (h : DpAll K H vs ds) (e : ds[j]? = some d) : ∃ v, vs[j]? = some v ∧ Dp K H v d := by
  have hj : j < vs.length := by rw [dp_len h]; exact (List.getElem?_eq_some_iff.mp e).1
  obtain ⟨d', e', q⟩ := dp_at h (List.getElem?_eq_getElem hj)
  rw [e] at e'
  cases e'
  exact ⟨_, List.getElem?_eq_getElem hj, q⟩
theorem dp_snoc : ∀ {vs : List V} {ds : List PyData} {v : V} {d : PyData}, DpAll K H vs ds → Dp K H v d → DpAll K H (vs ++ [v]) (ds ++ [d])
  | _, _, _, _, .nil, h => .cons h .nil
  | _, _, _, _, .cons a b, h => .cons a (dp_snoc b h)
/-- == and != of such data -/
theorem eq_data {x y : V} {d e : PyData} {n m : Nat} {Q : VK} (hx : Dp K H x d) (hy : Dp K H y e) (h1 : purN n d = true) (h2 : purN m e = true) (hn : n ≤ 64) (hm : m ≤ 64) (qt : d = e → Q (.bl true) H) (qf : d ≠ e → Q (.bl false) H) : rEqD K x y H Q := by
  refine ⟨d, e, hx, hy, purN_shaped h1 hn, purN_shaped h2 hm, ?_⟩
  cases c : PyData.eqv d e with
  | true => exact qt ((purN_eqv h1 h2).mp c)
  | false => exact qf fun z => by rw [(purN_eqv h1 h2).mpr z] at c; cases c
theorem ne_data {x y : V} {d e : PyData} {n m : Nat} {Q : VK} (hx : Dp K H x d) (hy : Dp K H y e) (h1 : purN n d = true) (h2 : purN m e = true) (hn : n ≤ 64) (hm : m ≤ 64) (qt : d ≠ e → Q (.bl true) H) (qf : d = e → Q (.bl false) H) : rNeD K x y H Q := by
  refine ⟨d, e, hx, hy, purN_shaped h1 hn, purN_shaped h2 hm, ?_⟩
  cases c : PyData.eqv d e with
  | true => exact qf ((purN_eqv h1 h2).mp c)
  | false => exact qt fun z => by rw [(purN_eqv h1 h2).mpr z] at c; cases c
theorem notIn_data {x y : V} {d : PyData} {ds : List PyData} {n m : Nat} {Q : VK} (hx : Dp K H x d) (hy : Dp K H y (.list ds)) (h1 : purN n d = true) (h2 : purN m (.list ds) = true) (hn : n ≤ 64) (hm : m ≤ 64) (qt : d ∉ ds → Q (.bl true) H) (qf : d ∈ ds → Q (.bl false) H) : rNotInD K x y H Q := by
  refine ⟨d, ds, hx, hy, purN_shaped h1 hn, purN_shaped h2 hm, ?_⟩
  have hz : ∀ z ∈ ds, ∃ k, purN k z = true := fun z hz => by
    cases m with
    | zero => simp [purN] at h2
    | succ m => exact ⟨m, (by simpa [purN] using h2 : ∀ x ∈ ds, purN m x = true) z hz⟩
  cases c : (ds.any fun z => PyData.eqv z d) with
  | true =>
    obtain ⟨z, hm, q⟩ := List.any_eq_true.mp c
    obtain ⟨k, hk⟩ := hz z hm
    exact qf ((purN_eqv hk h1).mp q ▸ hm)
  | false =>
    refine qt fun hd => ?_
    have : (ds.any fun z => PyData.eqv z d) = true := List.any_eq_true.mpr ⟨d, hd, SeqAt.eqv_refl d (purN_ok n d h1).1⟩
    rw [this] at c
    cases c
/-- a heap without one object -/
def wo (a : Addr) (H : Hp) : Hp := fun b => if b = a then none else H b
theorem wo_at {a b : Addr} {o : HO} (h : wo a H b = some o) : b ≠ a ∧ H b = some o := by
  unfold wo at h
  by_cases e : b = a
  · rw [if_pos e] at h
    cases h
  · rw [if_neg e] at h
    exact ⟨e, h⟩
theorem wo_of {a b : Addr} {o : HO} (n : b ≠ a) (h : H b = some o) : wo a H b = some o := by
  unfold wo
  rw [if_neg n]
  exact h
theorem wo_ex (a : Addr) : Ex (wo a H) H := fun b o h => (wo_at h).2
theorem Kp.wo {a : Addr} (x : Kp a H H') : Ex (wo a H) (CP.wo a H') := fun b o h => by
  obtain ⟨n, q⟩ := wo_at h
  exact wo_of n (x b o n q)
theorem ex_wo {a : Addr} (x : Ex H H') : Ex (CP.wo a H) (CP.wo a H') := Kp.wo (Kp.of x)
theorem wo_seq {a p : Addr} {xs : List V} (n : p ≠ a) (h : SqL K H p xs) : SqL K (wo a H) p xs := by
  rcases h with (h | ⟨o, h⟩) | h
  · exact .inl (.inl (wo_of n h))
  · exact .inl (.inr ⟨o, wo_of n h⟩)
  · exact .inr h
end

/-! ### what an expression gives, told as data; B: the heap that the value may lean on besides what is new -/
def via (B H1 H2 : Hp) : Hp := fun b => if (B b).isNone && (H1 b).isSome then none else H2 b
section
variable {B B' H H1 H2 H3 : Hp}
theorem via_le : Ex (via B H1 H2) H2 := fun b o h => by
  unfold via at h
  split at h
  · cases h
  · exact h
theorem via_base (e : Ex B H2) : Ex B (via B H1 H2) := fun b o h => by
  unfold via
  rw [h]
  exact e b o h
theorem via_new {p : Addr} {o : HO} (n : H1 p = none) (h : H2 p = some o) : via B H1 H2 p = some o := by
  unfold via
  rw [n]
  simpa using h
theorem via_up (e : Ex H2 H3) : Ex (via B H1 H2) (via B H1 H3) := fun b o h => by
  unfold via at h ⊢
  split at h
  · cases h
  · rename_i c
    rw [if_neg c]
    exact e b o h
theorem via_down (e : Ex H1 H2) : Ex (via B H2 H3) (via B H1 H3) := fun b o h => by
  unfold via at h ⊢
  split at h
  · cases h
  · rename_i c
    rw [if_neg]
    · exact h
    · intro c2
      apply c
      simp only [Bool.and_eq_true, Option.isNone_iff_eq_none, Option.isSome_iff_exists] at c2 ⊢
      obtain ⟨c3, u, c4⟩ := c2
      exact ⟨c3, u, e b u c4⟩
theorem via_mono (e : Ex B B') : Ex (via B H1 H2) (via B' H1 H2) := fun b o h => by
  unfold via at h ⊢
  split at h
  · cases h
  · rename_i c
    rw [if_neg]
    · exact h
    · intro c2
      apply c
      simp only [Bool.and_eq_true, Option.isNone_iff_eq_none] at c2 ⊢
      refine ⟨?_, c2.2⟩
      cases q : B b with
      | none => rfl
      | some u => rw [e b u q] at c2; cases c2.1
theorem via_self : via H H H2 = H2 := by
  funext b
  unfold via
  cases H b <;> rfl
theorem via_wo {p : Addr} (nB : B p = none) (h : ∃ o, H1 p = some o) : Ex (via B H1 H2) (wo p (via B H1 H2)) := fun b o q => by
  refine wo_of (fun e => ?_) q
  subst e
  obtain ⟨u, hu⟩ := h
  unfold via at q
  rw [nB, hu] at q
  cases q
end
/-- the empty heap; what is new -/
def emp : Hp := fun _ => none
theorem emp_ex {H : Hp} : Ex emp H := fun _ _ h => by cases h
abbrev nw (H H2 : Hp) : Hp := via emp H H2
def EvB (K : PySem.W.Frag) (B : Hp) (te : TE) (σ : L2.St) (H : Hp) (d : PyData) : Prop := ∀ H1, Ex H H1 → ∀ Q : VK, (∀ v H2, Ex H1 H2 → Dp K (via B H1 H2) v d → Q v H2) → te σ H1 Q
def EvA (K : PySem.W.Frag) (B : Hp) (ta : TA) (σ : L2.St) (H : Hp) (ds : List PyData) : Prop := ∀ H1, Ex H H1 → ∀ Q : List V → Hp → Prop, (∀ vs H2, Ex H1 H2 → DpAll K (via B H1 H2) vs ds → Q vs H2) → ta σ H1 Q
def scD : PyData → Bool
  | .list _ => false
  | .tuple _ => false
  | .dict _ => false
  | _ => true
section
variable {K : PySem.W.Frag} {B B' H H' : Hp} {σ : L2.St} {ta tb te : TE} {t u : TT} {x y : V} {d e : PyData}
theorem dp_scal (hs : scD d = true) (h : Dp K H x d) : Dp K H' x d := by
  cases h with
  | non => exact .non
  | bl b => exact .bl b
  | int i => exact .int i
  | str s => exact .str s
  | lst _ _ => cases hs
  | tup _ _ => cases hs
theorem EvB.mono (h : EvB K B te σ H d) (e : Ex H H') : EvB K B te σ H' d := fun H1 a Q q => h H1 (e.trans a) Q q
theorem EvB.base (h : EvB K B te σ H d) (e : Ex B B') : EvB K B' te σ H d := fun H1 a Q q => h H1 a Q fun v H2 e2 hv => q v H2 e2 (hv.mono (via_mono e))
theorem EvB.scal (h : EvB K B te σ H d) (hs : scD d = true) : EvB K B' te σ H d := fun H1 a Q q => h H1 a Q fun v H2 e2 hv => q v H2 e2 (dp_scal hs hv)
theorem EvB.is (h : EvB K B te σ H d) (q : d = e) : EvB K B te σ H e := q ▸ h
theorem evb_run {Q : VK} (h : EvB K B te σ H d) (hB : Ex B H) (q : ∀ v H1, Ex H H1 → Dp K H1 v d → Dp K (via B H H1) v d → Q v H1) : te σ H Q := h H (Ex.refl H) Q fun v H2 e hv => q v H2 e (hv.mono via_le) hv
theorem evb_var {i : Nat} (h : σ[i]? = some (some x)) (hd : Dp K B x d) (hB : Ex B H) : EvB K B (tVar i) σ H d := fun H1 e _ q => ⟨x, h, q _ H1 (Ex.refl H1) (hd.mono (via_base (hB.trans e)))⟩
/-- a slot that holds data of the heap as it stands -/
theorem evb_v {i : Nat} (h : σ[i]? = some (some x)) (hd : Dp K H x d) : EvB K H (tVar i) σ H d := evb_var h hd (Ex.refl H)
theorem evb_sv {i : Nat} (h : σ[i]? = some (some x)) (hd : Dp K H x d) (hs : scD d = true) : EvB K B (tVar i) σ H d := (evb_v h hd).scal hs
theorem evb_int {i : Int} : EvB K B (tC (.int i)) σ H (.int i) := fun H1 _ _ q => q _ H1 (Ex.refl H1) (.int i)
theorem evb_str {s : Str} : EvB K B (tC (.str s)) σ H (.str s) := fun H1 _ _ q => q _ H1 (Ex.refl H1) (.str s)
theorem evb_bl {b : Bool} : EvB K B (tC (.bl b)) σ H (.bool b) := fun H1 _ _ q => q _ H1 (Ex.refl H1) (.bl b)
theorem evb_non : EvB K B (tC .non) σ H .none := fun H1 _ _ q => q _ H1 (Ex.refl H1) .non
theorem eva_nil : EvA K B tNil σ H [] := fun H1 _ _ q => q _ H1 (Ex.refl H1) .nil
theorem eva_cons {tr : TA} {ds : List PyData} (h : EvB K B ta σ H d) (hr : EvA K B tr σ H ds) : EvA K B (tCons ta tr) σ H (d :: ds) := fun H1 e _ q =>
  h H1 e _ fun v H2 e2 hv => hr H2 (e.trans e2) _ fun vs H3 e3 hvs => q _ H3 (e2.trans e3) (.cons (hv.mono (via_up e3)) (hvs.mono (via_down e2)))
theorem eva1 (h : EvB K B ta σ H d) : EvA K B (tCons ta tNil) σ H [d] := eva_cons h eva_nil
theorem eva2 (h : EvB K B ta σ H d) (h2 : EvB K B tb σ H e) : EvA K B (tCons ta (tCons tb tNil)) σ H [d, e] := eva_cons h (eva1 h2)
theorem evb_tup {tr : TA} {ds : List PyData} (h : EvA K B tr σ H ds) (hl : ds.length ≤ 100000) : EvB K B (tTup tr) σ H (.tuple ds) := fun H1 e _ q =>
  h H1 e _ fun vs H2 e2 hvs => ⟨sz (by rw [dp_len hvs]; exact hl), fun p hp => q _ _ (e2.trans (Ex.new hp)) (.tup (Evl.st_of (via_new (Evl.fresh_back e2 hp) upd_same)) (hvs.mono (via_up (Ex.new hp))))⟩
theorem evb_lst {tr : TA} {ds : List PyData} (h : EvA K B tr σ H ds) (hl : ds.length ≤ 100000) : EvB K B (tLst tr) σ H (.list ds) := fun H1 e _ q =>
  h H1 e _ fun vs H2 e2 hvs => ⟨sz (by rw [dp_len hvs]; exact hl), fun p hp => q _ _ (e2.trans (Ex.new hp)) (.lst (Evl.sq_of (via_new (Evl.fresh_back e2 hp) upd_same)) (hvs.mono (via_up (Ex.new hp))))⟩
theorem evb_op {r : R2} {z : PyData} (ha : EvB K B ta σ H d) (hb : EvB K B' tb σ H e) (hr : ∀ x y H1, Dp K H1 x d → Dp K H1 y e → ∀ Q : VK, (∀ v, (∀ H2, Dp K H2 v z) → Q v H1) → r x y H1 Q) {B2 : Hp} : EvB K B2 (tOp r ta tb) σ H z := fun H1 e1 Q q =>
  ha H1 e1 _ fun v H2 e2 hv => hb H2 (e1.trans e2) _ fun u H3 e3 hu => hr v u H3 ((hv.mono via_le).mono e3) (hu.mono via_le) Q fun z' hz => q _ H3 (e2.trans e3) (hz _)
theorem evb_ii {g : Int → Int → Int} {i j : Int} (ha : EvB K B ta σ H (.int i)) (hb : EvB K B' tb σ H (.int j)) {B2 : Hp} : EvB K B2 (tOp (rI0 fun i j => .int (g i j)) ta tb) σ H (.int (g i j)) := evb_op ha hb fun x y H1 hx hy Q q => by
  cases hx
  cases hy
  exact ⟨i, j, rfl, rfl, q _ fun _ => .int _⟩
theorem evb_iic {C : Int → Int → Prop} {g : Int → Int → Int} {i j : Int} (ha : EvB K B ta σ H (.int i)) (hb : EvB K B' tb σ H (.int j)) (hc : C i j) {B2 : Hp} : EvB K B2 (tOp (rI C fun i j => .int (g i j)) ta tb) σ H (.int (g i j)) := evb_op ha hb fun x y H1 hx hy Q q => by
  cases hx
  cases hy
  exact ⟨i, j, rfl, rfl, hc, q _ fun _ => .int _⟩
theorem evb_ib {g : Int → Int → Bool} {i j : Int} (ha : EvB K B ta σ H (.int i)) (hb : EvB K B' tb σ H (.int j)) {B2 : Hp} : EvB K B2 (tOp (rI0 fun i j => .bl (g i j)) ta tb) σ H (.bool (g i j)) := evb_op ha hb fun x y H1 hx hy Q q => by
  cases hx
  cases hy
  exact ⟨i, j, rfl, rfl, q _ fun _ => .bl _⟩
theorem evb_eqi {i j : Int} (ha : EvB K B ta σ H (.int i)) (hb : EvB K B' tb σ H (.int j)) {B2 : Hp} : EvB K B2 (tOp rEq ta tb) σ H (.bool (decide (i = j))) := evb_op ha hb fun x y H1 hx hy Q q => by
  cases hx
  cases hy
  refine ⟨rfl, q _ fun _ => ?_⟩
  rw [show decide (V.int i = V.int j) = decide (i = j) by simp]
  exact .bl _
theorem evb_neg {i : Int} (ha : EvB K B ta σ H (.int i)) {B2 : Hp} : EvB K B2 (tUn (rU fun i => .int (-i)) ta) σ H (.int (-i)) := fun H1 e Q q =>
  ha H1 e _ fun v H2 e2 hv => by
    cases hv
    exact ⟨i, rfl, q _ H2 e2 (.int _)⟩
theorem evb_ixL {ds : List PyData} {j : Nat} {i : Int} (ha : EvB K B ta σ H (.list ds)) (hb : EvB K B' tb σ H (.int i)) (hi : i = (j : Int)) (hj : ds[j]? = some d) : EvB K B (tOp (rIxL K) ta tb) σ H d := fun H1 e1 Q q =>
  ha H1 e1 _ fun v H2 e2 hv => hb H2 (e1.trans e2) _ fun u H3 e3 hu => by
    subst hi
    cases hu
    cases hv with
    | lst hs hall =>
      obtain ⟨w, hw, hd⟩ := dp_at' hall hj
      exact ⟨_, _, _, w, rfl, rfl, Evl.ex_l (via_le.trans e3) hs, atI_nat hw, q _ H3 (e2.trans e3) (hd.mono (via_up e3))⟩
theorem evb_ixT {ds : List PyData} {j : Nat} {i : Int} (ha : EvB K B ta σ H (.tuple ds)) (hb : EvB K B' tb σ H (.int i)) (hi : i = (j : Int)) (hj : ds[j]? = some d) : EvB K B (tOp (rIxT K) ta tb) σ H d := fun H1 e1 Q q =>
  ha H1 e1 _ fun v H2 e2 hv => hb H2 (e1.trans e2) _ fun u H3 e3 hu => by
    subst hi
    cases hu
    cases hv with
    | tup hs hall =>
      obtain ⟨w, hw, hd⟩ := dp_at' hall hj
      exact ⟨_, _, _, w, rfl, rfl, Evl.ex_t (via_le.trans e3) hs, atI_nat hw, q _ H3 (e2.trans e3) (hd.mono (via_up e3))⟩
/-- len, list, tuple, sum, all -/
def rLenS (K : PySem.W.Frag) : List V → Hp → VK → Prop := fun xs H Q => ∃ p ys, xs = [.ref p] ∧ (SqL K H p ys ∨ SqT K H p ys) ∧ Q (.int ys.length) H
def rListS (K : PySem.W.Frag) : List V → Hp → VK → Prop := fun xs H Q => ∃ p ys, xs = [.ref p] ∧ (SqL K H p ys ∨ SqT K H p ys) ∧ ∀ l, H l = none → Q (.ref l) (upd H l (.lst ys))
def rMn2 : List V → Hp → VK → Prop := fun xs H Q => ∃ i j, xs = [.int i, .int j] ∧ Q (.int (if j < i then j else i)) H
def rMx2 : List V → Hp → VK → Prop := fun xs H Q => ∃ i j, xs = [.int i, .int j] ∧ Q (.int (if j > i then j else i)) H
def rInt1 : List V → Hp → VK → Prop := fun xs H Q => (∃ i, xs = [.int i] ∧ Q (.int i) H) ∨ ∃ k, xs = [.bl k] ∧ Q (.int (if k = true then 1 else 0)) H
theorem evb_mn {i j : Int} (ha : EvB K B ta σ H (.int i)) (hb : EvB K B' tb σ H (.int j)) {B2 : Hp} : EvB K B2 (tCB rMn2 (tCons ta (tCons tb tNil))) σ H (.int (if j < i then j else i)) := fun H1 e Q q =>
  ha H1 e _ fun v H2 e2 hv => hb H2 (e.trans e2) _ fun u H3 e3 hu => by
    cases hv
    cases hu
    exact ⟨i, j, rfl, q _ H3 (e2.trans e3) (.int _)⟩
theorem evb_mx {i j : Int} (ha : EvB K B ta σ H (.int i)) (hb : EvB K B' tb σ H (.int j)) {B2 : Hp} : EvB K B2 (tCB rMx2 (tCons ta (tCons tb tNil))) σ H (.int (if j > i then j else i)) := fun H1 e Q q =>
  ha H1 e _ fun v H2 e2 hv => hb H2 (e.trans e2) _ fun u H3 e3 hu => by
    cases hv
    cases hu
    exact ⟨i, j, rfl, q _ H3 (e2.trans e3) (.int _)⟩
theorem evb_int1 {i : Int} (ha : EvB K B ta σ H (.int i)) {B2 : Hp} : EvB K B2 (tCB rInt1 (tCons ta tNil)) σ H (.int i) := fun H1 e Q q =>
  ha H1 e _ fun v H2 e2 hv => by
    cases hv
    exact .inl ⟨i, rfl, q _ H2 e2 (.int _)⟩
theorem evb_len {ds : List PyData} (h : EvB K B ta σ H (.list ds)) {B2 : Hp} : EvB K B2 (tCB (rLenS K) (tCons ta tNil)) σ H (.int (ds.length : Int)) := fun H1 e Q q =>
  h H1 e _ fun v H2 e2 hv => by
    cases hv with
    | lst hs ha => exact ⟨_, _, rfl, .inl (Evl.ex_l via_le hs), by rw [dp_len ha]; exact q _ H2 e2 (.int _)⟩
theorem evb_lenT {ds : List PyData} (h : EvB K B ta σ H (.tuple ds)) {B2 : Hp} : EvB K B2 (tCB (rLenS K) (tCons ta tNil)) σ H (.int (ds.length : Int)) := fun H1 e Q q =>
  h H1 e _ fun v H2 e2 hv => by
    cases hv with
    | tup hs ha => exact ⟨_, _, rfl, .inr (Evl.ex_t via_le hs), by rw [dp_len ha]; exact q _ H2 e2 (.int _)⟩
theorem evb_list {ds : List PyData} (h : EvB K B ta σ H (.list ds)) : EvB K B (tCB (rListS K) (tCons ta tNil)) σ H (.list ds) := fun H1 e Q q =>
  h H1 e _ fun v H2 e2 hv => by
    cases hv with
    | lst hs ha => exact ⟨_, _, rfl, .inl (Evl.ex_l via_le hs), fun l nl => q _ _ (e2.trans (Ex.new nl)) (.lst (Evl.sq_of (via_new (Evl.fresh_back e2 nl) upd_same)) (ha.mono (via_up (Ex.new nl))))⟩
theorem evb_listT {ds : List PyData} (h : EvB K B ta σ H (.tuple ds)) : EvB K B (tCB (rListS K) (tCons ta tNil)) σ H (.list ds) := fun H1 e Q q =>
  h H1 e _ fun v H2 e2 hv => by
    cases hv with
    | tup hs ha => exact ⟨_, _, rfl, .inr (Evl.ex_t via_le hs), fun l nl => q _ _ (e2.trans (Ex.new nl)) (.lst (Evl.sq_of (via_new (Evl.fresh_back e2 nl) upd_same)) (ha.mono (via_up (Ex.new nl))))⟩
/-- list(..) of ints: new -/
theorem evb_listW {ws : List Int} (h : EvB K B ta σ H (dW ws)) {B2 : Hp} : EvB K B2 (tCB (rListS K) (tCons ta tNil)) σ H (dW ws) := fun H1 e Q q =>
  h H1 e _ fun v H2 e2 hv => by
    obtain ⟨p, rfl, hs⟩ := dp_W_inv hv
    exact ⟨p, _, rfl, .inl (Evl.ex_l via_le hs), fun l nl => q _ _ (e2.trans (Ex.new nl)) (dp_W (Evl.sq_of (via_new (Evl.fresh_back e2 nl) upd_same)))⟩
theorem dp_bools_inv : ∀ {bs : List Bool} {vs : List V}, DpAll K H vs (bs.map PyData.bool) → vs = bs.map V.bl
  | [], _, h => by cases h; rfl
  | w :: ws, _, h => by
    cases h with
    | cons a b =>
      cases a
      rw [dp_bools_inv b]
      rfl
theorem evb_all {bs : List Bool} (h : EvB K B ta σ H (.list (bs.map .bool))) {B2 : Hp} : EvB K B2 (tCB (rAll K) (tCons ta tNil)) σ H (.bool (bs.all id)) := fun H1 e Q q =>
  h H1 e _ fun v H2 e2 hv => by
    cases hv with
    | lst hs ha =>
      rw [dp_bools_inv ha] at hs
      exact ⟨_, bs, rfl, Evl.ex_l via_le hs, q _ H2 e2 (.bl _)⟩
theorem evb_any {bs : List Bool} (h : EvB K B ta σ H (.list (bs.map .bool))) {B2 : Hp} : EvB K B2 (tCB (rAny K) (tCons ta tNil)) σ H (.bool (bs.any id)) := fun H1 e Q q =>
  h H1 e _ fun v H2 e2 hv => by
    cases hv with
    | lst hs ha =>
      rw [dp_bools_inv ha] at hs
      exact ⟨_, bs, rfl, Evl.ex_l via_le hs, q _ H2 e2 (.bl _)⟩
theorem evb_sum {ns : List Int} (h : EvB K B ta σ H (dW ns)) {B2 : Hp} : EvB K B2 (tCB (rSum K) (tCons ta tNil)) σ H (.int ns.sum) := fun H1 e Q q =>
  h H1 e _ fun v H2 e2 hv => by
    obtain ⟨p, rfl, hs⟩ := dp_W_inv hv
    exact ⟨p, ns, rfl, Evl.ex_l via_le hs, q _ H2 e2 (.int _)⟩
/-- a slice of a list of ints: new -/
def EvO (to : TO) (σ : L2.St) (H : Hp) (o : Option Int) : Prop := ∀ H1, Ex H H1 → ∀ Q : Option Int → Hp → Prop, (∀ H2, Ex H1 H2 → Q o H2) → to σ H1 Q
theorem evo_none : EvO tNoPart σ H none := fun H1 _ _ q => q H1 (Ex.refl H1)
theorem evo_some {i : Int} (h : EvB K B te σ H (.int i)) : EvO (tPart te) σ H (some i) := fun H1 e _ q => h H1 e _ fun v H2 e2 hv => by
  cases hv
  exact ⟨i, rfl, q H2 e2⟩
def cutI {α : Type} (xs : List α) (lo hi : Option Int) : List α := (xs.drop (HT.sIx xs.length 0 lo)).take (HT.sIx xs.length xs.length hi - HT.sIx xs.length 0 lo)
theorem cutV_map (ws : List Int) (lo hi : Option Int) : cutV (ws.map V.int) lo hi = (cutI ws lo hi).map V.int := by
  unfold cutV cutI
  rw [List.length_map, List.map_take, List.map_drop]
theorem dp_drop : ∀ {vs : List V} {ds : List PyData} (n : Nat), DpAll K H vs ds → DpAll K H (vs.drop n) (ds.drop n)
  | _, _, 0, h => h
  | _, _, _ + 1, .nil => .nil
  | _, _, n + 1, .cons _ b => dp_drop n b
theorem dp_take : ∀ {vs : List V} {ds : List PyData} (n : Nat), DpAll K H vs ds → DpAll K H (vs.take n) (ds.take n)
  | _, _, 0, _ => .nil
  | _, _, _ + 1, .nil => .nil
  | _, _, n + 1, .cons a b => .cons a (dp_take n b)
theorem dp_cut {vs : List V} {ds : List PyData} {lo hi : Option Int} (h : DpAll K H vs ds) : DpAll K H (cutV vs lo hi) (cutI ds lo hi) := by
  unfold cutV cutI
  rw [dp_len h]
  exact dp_take _ (dp_drop _ h)
theorem evb_slice {tl th : TO} {ds : List PyData} {lo hi : Option Int} (h : EvB K B te σ H (.list ds)) (h1 : EvO tl σ H lo) (h2 : EvO th σ H hi) : EvB K B (tSl (rSlL K) te tl th) σ H (.list (cutI ds lo hi)) := fun H1 e _ q =>
  h H1 e _ fun v H2 e2 hv => h1 H2 (e.trans e2) _ fun H3 e3 => h2 H3 ((e.trans e2).trans e3) _ fun H4 e4 => by
    cases hv with
    | @lst a xs _ hs ha =>
      refine ⟨_, _, rfl, Evl.ex_l (via_le.trans (e3.trans e4)) hs, fun p hp => q _ _ ((e2.trans (e3.trans e4)).trans (Ex.new hp)) (.lst (Evl.sq_of (via_new (Evl.fresh_back (e2.trans (e3.trans e4)) hp) upd_same)) ?_)⟩
      have h5 : DpAll K (via B H1 (upd H4 p (.lst (cutV xs lo hi)))) xs ds := ha.mono (via_up ((e3.trans e4).trans (Ex.new hp)))
      exact dp_cut h5
/-- truth -/
theorem evb_not {b : Bool} (h : EvB K B ta σ H (.bool b)) {B2 : Hp} : EvB K B2 (tNotV ta) σ H (.bool (!b)) := fun H1 e Q q => h H1 e _ fun v H2 e2 hv => by
  cases hv
  exact ⟨b, rfl, q _ H2 e2 (.bl _)⟩
theorem evb_and {a b : Bool} (h1 : EvB K B ta σ H (.bool a)) (h2 : a = true → EvB K B' tb σ H (.bool b)) {B2 : Hp} : EvB K B2 (tAndV ta tb) σ H (.bool (a && b)) := fun H1 e Q q => h1 H1 e _ fun v H2 e2 hv => by
  cases hv
  refine ⟨a, rfl, ?_⟩
  cases a with
  | true => exact iteT (h2 rfl H2 (e.trans e2) Q fun v H3 e3 hv => q v H3 (e2.trans e3) (dp_scal rfl hv))
  | false => exact iteF (q _ H2 e2 (.bl _))
theorem evb_or {a b : Bool} (h1 : EvB K B ta σ H (.bool a)) (h2 : a = false → EvB K B' tb σ H (.bool b)) {B2 : Hp} : EvB K B2 (tOrV ta tb) σ H (.bool (a || b)) := fun H1 e Q q => h1 H1 e _ fun v H2 e2 hv => by
  cases hv
  refine ⟨a, rfl, ?_⟩
  cases a with
  | true => exact iteT (q _ H2 e2 (.bl _))
  | false => exact iteF (h2 rfl H2 (e.trans e2) Q fun v H3 e3 hv => q v H3 (e2.trans e3) (dp_scal rfl hv))
theorem evt_B {b : Bool} (h : EvB K B te σ H (.bool b)) : Evl.EvT (tB te) σ H b := fun H1 e _ q => h H1 e _ fun v H2 e2 hv => by
  cases hv
  exact ⟨b, rfl, q H2 e2⟩
theorem evt_T {b : Bool} (h : EvB K B te σ H (.bool b)) : Evl.EvT (tTest te) σ H b := fun H1 e _ q => h H1 e _ fun v H2 e2 hv => by
  cases hv
  exact ⟨b, rfl, q H2 e2⟩
theorem evt_yes : Evl.EvT tYes σ H true := fun H1 _ _ q => q H1 (Ex.refl H1)
theorem evb_if {b : Bool} (h : Evl.EvT t σ H b) (h1 : b = true → EvB K B ta σ H d) (h2 : b = false → EvB K B tb σ H d) : EvB K B (tIf t ta tb) σ H d := fun H1 e Q q => h H1 e _ fun H2 e2 => by
  cases b with
  | true => exact iteT (h1 rfl H2 (e.trans e2) Q fun v H3 e3 hv => q v H3 (e2.trans e3) (hv.mono (via_down e2)))
  | false => exact iteF (h2 rfl H2 (e.trans e2) Q fun v H3 e3 hv => q v H3 (e2.trans e3) (hv.mono (via_down e2)))
theorem evb_eqD {n m : Nat} (ha : EvB K B ta σ H d) (hb : EvB K B' tb σ H e) (h1 : purN n d = true) (h2 : purN m e = true) (hn : n ≤ 64) (hm : m ≤ 64) {b : Bool} (hb2 : b = true ↔ d = e) {B2 : Hp} : EvB K B2 (tOp (rEqD K) ta tb) σ H (.bool b) := evb_op ha hb fun x y H1 hx hy Q q =>
  eq_data hx hy h1 h2 hn hm (fun c => by
    have : b = true := hb2.mpr c
    subst this
    exact q _ fun _ => .bl _) (fun c => by
    have : b = false := by
      cases b with
      | true => exact absurd (hb2.mp rfl) c
      | false => rfl
    subst this
    exact q _ fun _ => .bl _)
/-- a call -/
def SpD (K : PySem.W.Frag) (sp : Sp) (ds : List PyData) (d : PyData) : Prop := ∀ vs H, DpAll K H vs ds → ∀ (Q : VK) (E : XK), (∀ v H2, Ex H H2 → Dp K (nw H H2) v d → Q v H2) → sp vs H Q E
theorem evb_call {sp : Sp} {E : XK} {ta : TA} {ds : List PyData} (h : EvA K B ta σ H ds) (hs : SpD K sp ds d) {B2 : Hp} : EvB K B2 (tCall sp [] E ta) σ H d := fun H1 e Q q =>
  h H1 e _ fun vs H2 e2 hvs => by
    show sp (vs ++ []) H2 Q E
    rw [List.append_nil]
    exact hs vs H2 (hvs.mono via_le) Q E fun v H3 e3 hv => q v H3 (e2.trans e3) (hv.mono ((via_mono emp_ex).trans (via_down e2)))
/-- statements -/
theorem qd_asg {tz : TS} {D : Ends} {i : Nat} (h : EvB K B te σ H d) (k : ∀ v H1, Ex H H1 → Dp K (via B H H1) v d → tz D (σ.set i (some v)) H1) : tSeq (tAsg te (gName i)) tz D σ H := h H (Ex.refl H) _ fun v H1 e hv => k v H1 e hv
theorem qd_ret {D : Ends} (h : EvB K B te σ H d) (k : ∀ v H1, Ex H H1 → Dp K (via B H H1) v d → D.rt v H1) : tRet te D σ H := h H (Ex.refl H) _ k
theorem qd_when {tz tu : TS} {D : Ends} {b : Bool} (h : Evl.EvT t σ H b) (h1 : b = true → ∀ H1, Ex H H1 → tu { D with nx := tz D } σ H1) (h2 : b = false → ∀ H1, Ex H H1 → tz D σ H1) : tSeq (tIfS t tu tNext) tz D σ H := Evl.q_when h h1 h2
/-! comprehensions -/
def Cwd (K : PySem.W.Frag) (B H1 : Hp) (D : Addr) (out : List PyData) (H' : Hp) : Prop := H1 D = none ∧ Ex H1 H' ∧ ∃ vs, H' D = some (.lst vs) ∧ DpAll K (wo D (via B H1 H')) vs out
theorem wo_via_upd {D : Addr} {o : HO} {H1 H2 : Hp} : wo D (via B H1 (upd H2 D o)) = wo D (via B H1 H2) := by
  funext b
  unfold wo
  by_cases c : b = D
  · rw [if_pos c, if_pos c]
  · rw [if_neg c, if_neg c]
    unfold via
    rw [upd_ne c]
theorem cwd_turn {H1 H2 : Hp} {D : Addr} {out : List PyData} {σ2 : L2.St} {b : Bool} (hB : Ex B H1) (p : Cwd K B H1 D out H2) (hl : out.length < 100000) (ht : Evl.EvT t σ2 H1 b) (he : b = true → EvB K B te σ2 H1 d) :
    t σ2 H2 fun b' H3 => if b' = true then te σ2 H3 fun y H4 => ∃ acc, H4 D = some (.lst acc) ∧ acc.length < sizeLine ∧ Cwd K B H1 D (if b then out ++ [d] else out) (upd H4 D (.lst (acc ++ [y]))) else Cwd K B H1 D (if b then out ++ [d] else out) H3 := by
  obtain ⟨p1, p2, vs, p3, p4⟩ := p
  refine ht H2 p2 _ fun H3 e3 => ?_
  cases b with
  | true =>
    refine iteT ?_
    refine he rfl H3 (p2.trans e3) _ fun v H4 e4 hv => ⟨vs, e4 D _ (e3 D _ p3), szl (by rw [dp_len p4]; exact hl), p1, Ex.mut ((p2.trans e3).trans e4) p1, vs ++ [v], upd_same, ?_⟩
    rw [wo_via_upd, if_pos rfl]
    have nB : B D = none := Evl.fresh_back hB p1
    refine dp_snoc (p4.mono (ex_wo (via_up (e3.trans e4)))) ?_
    exact hv.mono ((via_wo nB ⟨_, e3 D _ p3⟩).trans (ex_wo (via_down (p2.trans e3))))
  | false =>
    refine iteF ⟨p1, p2.trans e3, vs, e3 D _ p3, ?_⟩
    rw [if_neg Bool.false_ne_true]
    exact p4.mono (ex_wo (via_up e3))
theorem cwd_end {H1 H' : Hp} {D : Addr} {out : List PyData} (p : Cwd K B H1 D out H') : Ex H1 H' ∧ Dp K (via B H1 H') (.ref D) (.list out) := by
  obtain ⟨p1, p2, vs, p3, p4⟩ := p
  exact ⟨p2, .lst (Evl.sq_of (via_new p1 p3)) (p4.mono (wo_ex D))⟩
theorem cwd_start {H1 : Hp} {D : Addr} (nD : H1 D = none) : Cwd K B H1 D [] (upd H1 D (.lst [])) := ⟨nD, Ex.new nD, [], upd_same, .nil⟩
theorem outs_len {outs : Nat → List PyData} (h0 : outs 0 = []) {n : Nat} (hs : ∀ i, i < n → ∃ (b : Bool) (d : PyData), outs (i + 1) = if b then outs i ++ [d] else outs i) : ∀ i, i ≤ n → (outs i).length ≤ i
  | 0, _ => by rw [h0]; exact Nat.le_refl _
  | i + 1, hi => by
    have h1 := outs_len h0 hs i (by omega)
    obtain ⟨b, d, e⟩ := hs i (by omega)
    rw [e]
    cases b with
    | true => rw [if_pos rfl, List.length_append, List.length_singleton]; omega
    | false => rw [if_neg Bool.false_ne_true]; omega
theorem evb_lcL {tl : TE} {j : Nat} {vs : List Nat} {ds : List PyData} (hB : Ex B H) (h : EvB K B' tl σ H (.list ds)) (hz : ds.length ≤ 50000) (hw : ∀ x, wipe ((wipe σ vs).set j (some x)) vs = wipe σ vs) (outs : Nat → List PyData) (h0 : outs 0 = [])
    (hs : ∀ i x dx H2, Ex H H2 → ds[i]? = some dx → Dp K H2 x dx → ∃ (b : Bool) (d : PyData), Evl.EvT t ((wipe σ vs).set j (some x)) H2 b ∧ (b = true → EvB K B te ((wipe σ vs).set j (some x)) H2 d) ∧ outs (i + 1) = if b then outs i ++ [d] else outs i) :
    EvB K B (tLc (iList K tl) (gName j) t te vs) σ H (.list (outs ds.length)) := fun H1 e Q q =>
  h H1 e _ fun v H2 e2 hv => by
    cases hv with
    | @lst a xs _ hsl ha =>
      have hsl2 : SqL K H2 a xs := Evl.ex_l via_le hsl
      have ha2 : DpAll K H2 xs ds := ha.mono via_le
      have el : xs.length = ds.length := dp_len ha
      have ol := outs_len h0 (n := ds.length) fun i hi => by
        obtain ⟨x, _, hx⟩ := dp_at' ha2 (List.getElem?_eq_getElem hi)
        obtain ⟨b, d, _, _, q⟩ := hs i x _ H2 (e.trans e2) (List.getElem?_eq_getElem hi) hx
        exact ⟨b, d, q⟩
      refine ⟨a, rfl, ⟨xs, hsl2⟩, fun D nD => lc_list (xs := xs) (fun i H' => Cwd K B H2 D (outs i) H') (by rw [h0]; exact cwd_start nD) (fun i H' _ p => Evl.ex_l p.2.1 hsl2) (fun i x H' hi p => ?_) fun H' p => ?_⟩
      · obtain ⟨dx, hdx, hx⟩ := dp_at ha2 hi
        obtain ⟨b, d, h1, h2, h3⟩ := hs i x dx H2 (e.trans e2) hdx hx
        have hi2 : i < ds.length := (List.getElem?_eq_some_iff.mp hdx).1
        refine ⟨hw x, ?_⟩
        rw [h3]
        exact cwd_turn (hB.trans (e.trans e2)) p (by have := ol i (by omega); omega) h1 h2
      · rw [el] at p
        obtain ⟨p1, p2⟩ := cwd_end p
        exact q _ _ (e2.trans p1) (p2.mono (via_down e2))
theorem evb_lcR {tr : TA} {j : Nat} {vs : List Nat} {n : Int} (hB : Ex B H) (h : EvA K B' tr σ H [.int n]) (hn : n ≤ 50000 ∧ -50000 ≤ n) (hw : ∀ x, wipe ((wipe σ vs).set j (some x)) vs = wipe σ vs) (outs : Nat → List PyData) (h0 : outs 0 = [])
    (hs : ∀ (i : Nat) H2, Ex H H2 → (i : Int) < n → ∃ (b : Bool) (d : PyData), Evl.EvT t ((wipe σ vs).set j (some (.int (i : Int)))) H2 b ∧ (b = true → EvB K B te ((wipe σ vs).set j (some (.int (i : Int)))) H2 d) ∧ outs (i + 1) = if b then outs i ++ [d] else outs i) :
    EvB K B (tLc (iRng1 tr) (gName j) t te vs) σ H (.list (outs n.toNat)) := fun H1 e Q q =>
  h H1 e _ fun vs' H2 e2 hv => by
    cases hv with
    | cons ha hb =>
      cases hb
      cases ha
      have ol := outs_len h0 (n := n.toNat) fun i hi => by
        obtain ⟨b, d, _, _, q⟩ := hs i H2 (e.trans e2) (by omega)
        exact ⟨b, d, q⟩
      refine ⟨n, rfl, by omega, by omega, fun D nD => lc_range (lo := 0) (n := n.toNat) (fun i H' => Cwd K B H2 D (outs i) H') (by rw [h0]; exact cwd_start nD) (fun i H' hi p => ?_) fun H' p => ?_⟩
      · obtain ⟨b, d, h1, h2, h3⟩ := hs i H2 (e.trans e2) (by omega)
        rw [show (0 : Int) + (i : Int) = (i : Int) from Int.zero_add _]
        refine ⟨hw _, ?_⟩
        rw [h3]
        exact cwd_turn (hB.trans (e.trans e2)) p (by have := ol i (by omega); omega) h1 h2
      · obtain ⟨p1, p2⟩ := cwd_end p
        exact q _ _ (e2.trans p1) (p2.mono (via_down e2))
/-- a new list of the values of a function -/
theorem evb_mapL {tl : TE} {j : Nat} {vs : List Nat} {ds : List PyData} (f : PyData → PyData) (hB : Ex B H) (h : EvB K B' tl σ H (.list ds)) (hz : ds.length ≤ 50000) (hw : ∀ x, wipe ((wipe σ vs).set j (some x)) vs = wipe σ vs)
    (hs : ∀ x dx H2, Ex H H2 → dx ∈ ds → Dp K H2 x dx → EvB K B te ((wipe σ vs).set j (some x)) H2 (f dx)) : EvB K B (tLc (iList K tl) (gName j) tYes te vs) σ H (.list (ds.map f)) := by
  have r := evb_lcL (t := tYes) (te := te) (j := j) (vs := vs) hB h hz hw (fun i => (ds.take i).map f) rfl fun i x dx H2 e hi hx => ⟨true, f dx, evt_yes, fun _ => hs x dx H2 e (List.mem_of_getElem? hi) hx, by
    rw [if_pos rfl, List.take_add_one, hi, List.map_append]
    rfl⟩
  rw [List.take_length] at r
  exact r
theorem lc_zip {K : PySem.W.Frag} {a b : Addr} {xs ys : List V} {g : TG} {tt : TT} {te : TE} {vs : List Nat} {σ : L2.St} {H1 : Hp} {D : Addr} {Qd : Hp → Prop} (Pv : Nat → Hp → Prop) (h0 : Pv 0 (upd H1 D (.lst []))) (hl : ∀ i H, Pv i H → SqL K H a xs ∧ SqL K H b ys)
    (hs : ∀ i x y T H, xs[i]? = some x → ys[i]? = some y → H T = none → Pv i H → g (.ref T) (wipe σ vs) (upd H T (.tup [x, y])) fun σ2 H2 => wipe σ2 vs = wipe σ vs ∧ tt σ2 H2 fun b H3 =>
      if b = true then te σ2 H3 fun y H4 => ∃ acc, H4 D = some (.lst acc) ∧ acc.length < sizeLine ∧ Pv (i + 1) (upd H4 D (.lst (acc ++ [y]))) else Pv (i + 1) H3) (hd : ∀ H, Pv (min xs.length ys.length) H → Qd H) :
    ∃ W : Nat → Nat → Hp → Prop, (∃ m, W 0 m (upd H1 D (.lst []))) ∧ ∀ i m H, W i m H →
      ((Itz K a b).stop i H ∧ Qd H) ∨ ((Itz K a b).go i H ∧ ∃ Nx : Hp → Prop, (∀ H', Nx H' → ∃ m', m' < m ∧ W (i + 1) m' H') ∧ ∀ x H', (Itz K a b).yld i H x H' → g x (wipe σ vs) H' fun σ2 H2 => wipe σ2 vs = wipe σ vs ∧ tt σ2 H2 fun b H3 =>
        if b = true then te σ2 H3 fun y H4 => ∃ acc, H4 D = some (.lst acc) ∧ acc.length < sizeLine ∧ Nx (upd H4 D (.lst (acc ++ [y]))) else Nx H3) := by
  refine ⟨fun i m H => m = min xs.length ys.length - i ∧ i ≤ min xs.length ys.length ∧ Pv i H, ⟨min xs.length ys.length, by simp, Nat.zero_le _, h0⟩, ?_⟩
  rintro i m H ⟨rfl, hi, p⟩
  obtain ⟨qx, qy⟩ := hl i H p
  by_cases hlt : i < min xs.length ys.length
  · have hx : xs[i]? = some xs[i] := List.getElem?_eq_getElem (by omega)
    have hy : ys[i]? = some ys[i] := List.getElem?_eq_getElem (by omega)
    refine .inr ⟨⟨xs, ys, _, _, qx, qy, hx, hy⟩, Pv (i + 1), fun H' p' => ⟨min xs.length ys.length - (i + 1), by omega, rfl, hlt, p'⟩, fun v H' y => ?_⟩
    obtain ⟨T, x', y', rfl, hT, rfl, f1, f2⟩ := y
    exact hs i x' y' T H (f1 _ qx) (f2 _ qy) hT p
  · have e : i = min xs.length ys.length := by omega
    subst e
    exact .inl ⟨⟨xs, ys, qx, qy, by omega⟩, hd H p⟩
end
/-! ### comprehensions with two for -/
theorem wo_upd {H : Hp} {a : Addr} {o : HO} : wo a (upd H a o) = wo a H := by
  funext b
  unfold wo upd
  by_cases e : b = a
  · rw [if_pos e, if_pos e]
  · rw [if_neg e, if_neg e, if_neg e]
theorem lc2_range {lo : Int} {n : Nat} {g g1 : TG} {tt tt1 : TT} {te : TE} {wi1 : TI} {vs vs1 : List Nat} {σ : L2.St} {H1 : Hp} {D : Addr} {Qd : Hp → Prop} (Pv : Nat → Hp → Prop) (h0 : Pv 0 (upd H1 D (.lst [])))
    (hs : ∀ i H, i < n → Pv i H → g (.int (lo + i)) (wipe σ vs) H fun σ2 H2 => wipe σ2 vs = wipe σ vs ∧ tt σ2 H2 fun b H3 =>
      if b = true then wi1 σ2 H3 fun J1 H4 => ∃ W1 : Nat → Nat → Hp → Prop, (∃ m, W1 0 m H4) ∧ ∀ j k H, W1 j k H →
        (J1.stop j H ∧ Pv (i + 1) H) ∨ (J1.go j H ∧ ∃ Nx1 : Hp → Prop, (∀ H', Nx1 H' → ∃ k', k' < k ∧ W1 (j + 1) k' H') ∧ ∀ x H', J1.yld j H x H' → g1 x (wipe σ2 vs1) H' fun σ3 H5 => wipe σ3 vs1 = wipe σ2 vs1 ∧ tt1 σ3 H5 fun b H6 =>
          if b = true then te σ3 H6 fun y H7 => ∃ acc, H7 D = some (.lst acc) ∧ acc.length < sizeLine ∧ Nx1 (upd H7 D (.lst (acc ++ [y]))) else Nx1 H6)
      else Pv (i + 1) H3) (hd : ∀ H, Pv n H → Qd H) :
    ∃ W : Nat → Nat → Hp → Prop, (∃ m, W 0 m (upd H1 D (.lst []))) ∧ ∀ i m H, W i m H →
      ((Itr lo n).stop i H ∧ Qd H) ∨ ((Itr lo n).go i H ∧ ∃ Nx : Hp → Prop, (∀ H', Nx H' → ∃ m', m' < m ∧ W (i + 1) m' H') ∧ ∀ x H', (Itr lo n).yld i H x H' → g x (wipe σ vs) H' fun σ2 H2 => wipe σ2 vs = wipe σ vs ∧ tt σ2 H2 fun b H3 =>
        if b = true then wi1 σ2 H3 fun J1 H4 => ∃ W1 : Nat → Nat → Hp → Prop, (∃ m, W1 0 m H4) ∧ ∀ j k H, W1 j k H →
          (J1.stop j H ∧ Nx H) ∨ (J1.go j H ∧ ∃ Nx1 : Hp → Prop, (∀ H', Nx1 H' → ∃ k', k' < k ∧ W1 (j + 1) k' H') ∧ ∀ x H', J1.yld j H x H' → g1 x (wipe σ2 vs1) H' fun σ3 H5 => wipe σ3 vs1 = wipe σ2 vs1 ∧ tt1 σ3 H5 fun b H6 =>
            if b = true then te σ3 H6 fun y H7 => ∃ acc, H7 D = some (.lst acc) ∧ acc.length < sizeLine ∧ Nx1 (upd H7 D (.lst (acc ++ [y]))) else Nx1 H6)
        else Nx H3) := by
  refine ⟨fun i m H => m = n - i ∧ i ≤ n ∧ Pv i H, ⟨n, by simp, Nat.zero_le _, h0⟩, ?_⟩
  rintro i m H ⟨rfl, hi, p⟩
  by_cases hlt : i < n
  · refine .inr ⟨hlt, Pv (i + 1), fun H' p' => ⟨n - (i + 1), by omega, rfl, hlt, p'⟩, fun x H' y => ?_⟩
    obtain ⟨e, y⟩ := y
    subst e y
    exact hs i _ hlt p
  · have e : i = n := by omega
    subst e
    exact .inl ⟨Nat.le_refl _, hd H p⟩
theorem lcin_tup {K : PySem.W.Frag} {a : Addr} {xs : List V} {g1 : TG} {tt1 : TT} {te : TE} {vs1 : List Nat} {σ2 : L2.St} {H4 : Hp} {D : Addr} {Nx : Hp → Prop} (Pw : Nat → Hp → Prop) (h0 : Pw 0 H4) (hl : ∀ j H, j ≤ xs.length → Pw j H → SqT K H a xs)
    (hs : ∀ j x H, xs[j]? = some x → Pw j H → g1 x (wipe σ2 vs1) H fun σ3 H5 => wipe σ3 vs1 = wipe σ2 vs1 ∧ tt1 σ3 H5 fun b H6 =>
      if b = true then te σ3 H6 fun y H7 => ∃ acc, H7 D = some (.lst acc) ∧ acc.length < sizeLine ∧ Pw (j + 1) (upd H7 D (.lst (acc ++ [y]))) else Pw (j + 1) H6) (hd : ∀ H, Pw xs.length H → Nx H) :
    ∃ W1 : Nat → Nat → Hp → Prop, (∃ m, W1 0 m H4) ∧ ∀ j k H, W1 j k H →
      ((Itt K a).stop j H ∧ Nx H) ∨ ((Itt K a).go j H ∧ ∃ Nx1 : Hp → Prop, (∀ H', Nx1 H' → ∃ k', k' < k ∧ W1 (j + 1) k' H') ∧ ∀ x H', (Itt K a).yld j H x H' → g1 x (wipe σ2 vs1) H' fun σ3 H5 => wipe σ3 vs1 = wipe σ2 vs1 ∧ tt1 σ3 H5 fun b H6 =>
        if b = true then te σ3 H6 fun y H7 => ∃ acc, H7 D = some (.lst acc) ∧ acc.length < sizeLine ∧ Nx1 (upd H7 D (.lst (acc ++ [y]))) else Nx1 H6) := by
  refine ⟨fun i m H => m = xs.length - i ∧ i ≤ xs.length ∧ Pw i H, ⟨xs.length, by simp, Nat.zero_le _, h0⟩, ?_⟩
  rintro i m H ⟨rfl, hi, p⟩
  have q := hl i H hi p
  by_cases hlt : i < xs.length
  · refine .inr ⟨⟨xs, xs[i], q, by simp [hlt]⟩, Pw (i + 1), fun H' p' => ⟨xs.length - (i + 1), by omega, rfl, hlt, p'⟩, fun x H' y => ?_⟩
    obtain ⟨e, y⟩ := y
    subst e
    exact hs i x _ (y xs q) p
  · have e : i = xs.length := by omega
    subst e
    exact .inl ⟨⟨xs, q, Nat.le_refl _⟩, hd H p⟩

section
variable {P : Program} {w : World} {K : PySem.W.Frag} {mg : Str → Option Value} {base : Heap}
theorem ty_list {H : Hp} {v : V} {ds : List PyData} (h : Dp K H v (.list ds)) : TyX K H v (.type "list") := by
  cases h with
  | lst hs _ =>
    rcases hs with (h | ⟨o, h⟩) | ⟨o, its, n, h1, h2, _⟩
    · exact .base (.lst h)
    · exact .base (.frz h)
    · exact .kList h1 h2
def spIsInt : Sp := fun vs H Q _ => ∃ i : Int, vs = [.int i] ∧ Q (.bl true) H
theorem ok_law_is_integer (T : Txt K mg) : FnOk P w K mg base CX0 1 T.law_is_integer.f T.law_is_integer.fd ["actual"] spIsInt := by
  refine T.law_is_integer.F.ok sc_law_is_integer (fun vs H Q E h => ?_) (fun cdv A outer s H vs Q E hr h => ?_)
  · obtain ⟨i, rfl, _⟩ := h
    rfl
  · obtain ⟨i, rfl, q⟩ := h
    refine ⟨_, (pss_one (ps_ret (pe_and (pe_callB call_isi (by rfl) T.isinstance (by decide +kernel) (pa_cons (pv 0) (pa_cons (pe_bltn (v := .ty "int") (u := .type "int") (by rfl) T.int (by decide +kernel) rfl) pa_nil))) (pe_one (pe_not (pe_callB call_isi (by rfl) T.isinstance (by decide +kernel) (pa_cons (pv 0) (pa_cons (pe_bltn (v := .ty "bool") (u := .type "bool") (by rfl) T.bool (by decide +kernel) rfl) pa_nil)))))))), ?_⟩
    refine ⟨_, rfl, _, .ty "int", _, _, true, rfl, .ty _, .base (.int i), kit_ty (by decide +kernel), true, rfl, iteT ?_⟩
    exact ⟨_, rfl, _, .ty "bool", _, _, false, rfl, .ty _, .base (.int i), kit_ty (by decide +kernel), false, rfl, q⟩
end

section
variable {P : Program} {w : World} {K : PySem.W.Frag} {mg : Str → Option Value} {base : Heap}
def spIsWord (K : PySem.W.Frag) : Sp := fun vs H Q _ => ∃ (v : V) (ws : List Int), vs = [v] ∧ Dp K H v (dW ws) ∧ ws.length ≤ 100000 ∧ Q (.bl true) H
theorem ok_law_is_word (T : Txt K mg) : FnOk P w K mg base CX0 2 T.law_is_word.f T.law_is_word.fd ["actual"] (spIsWord K) := by
  refine T.law_is_word.F.ok sc_law_is_word (fun vs H Q E h => ?_) (fun cdv A outer s H vs Q E hr h => ?_)
  · obtain ⟨v, ws, rfl, _⟩ := h
    rfl
  · obtain ⟨v, ws, rfl, hv, hl, q⟩ := h
    refine ⟨_, (pss_cons (ps_if (pt_not (pt_val (pe_callB call_isi (by rfl) T.isinstance (by decide +kernel) (pa_cons (pv 0) (pa_cons (pe_bltn (v := .ty "list") (u := .type "list") (by rfl) T.list (by decide +kernel) rfl) pa_nil)))))
      (pss_one (ps_ret pe_bl))
      pss_nil)
      (pss_cons (ps_for PassesOwn.never rfl (pi_list (pv 0)) (pg_name (i := 1) sc_law_is_word.nd rfl (.inl rfl))
      (pss_one (ps_if (pt_not (pt_val (pe_call (ok_law_is_integer T) (hr.mono (by decide)) rfl T.law_is_integer.g T.law_is_integer.F.kp T.law_is_integer.b .nil pass0 (pa_cons (pv 1) pa_nil))))
        (pss_one (ps_ret pe_bl))
        pss_nil)))
      (pss_one (ps_ret pe_bl)))), ?_⟩
    refine ⟨_, rfl, _, .ty "list", _, _, true, rfl, .ty _, ty_list hv, kit_ty (by decide +kernel), true, rfl, iteF ?_⟩
    obtain ⟨p, rfl, hS⟩ := dp_W_inv hv
    refine ⟨_, rfl, p, rfl, ⟨_, hS⟩, for_list (K := K) (a := p) (xs := ws.map V.int) (fun i σ H' => H' = H ∧ ∃ x, σ = [some (.ref p), x]) ⟨rfl, none, rfl⟩ (fun i σ H' _ ⟨e, _⟩ => by rw [e]; exact hS) ?_ ?_⟩
    · rintro i y σ H' hi ⟨rfl, x, rfl⟩
      obtain ⟨z, hz, rfl⟩ := mapAt' hi
      exact ⟨_, rfl, z, rfl, true, rfl, iteF ⟨rfl, _, rfl⟩⟩
    · rintro σ H' ⟨rfl, x, rfl⟩
      exact q
end

/-! ### three rules more: an item for xs[i] += e, sorted of a tuple, a tuple read backwards -/
section
variable {X : Cx}
def rGetL (K : PySem.W.Frag) : V → V → Hp → VK → Prop := fun x y H Q => ∃ (p : Addr) (xs : List V) (j : Nat) (v : V), x = .ref p ∧ y = .int (j : Int) ∧ SqL K H p xs ∧ xs[j]? = some v ∧ Q v H
theorem get_list : PGet X (rGetL X.K) := by
  intro pins s σ H o i ov iv Q I r1 r2 h
  obtain ⟨p, xs, j, v, rfl, rfl, hs, hv, q⟩ := h
  cases r1
  obtain ⟨t, rfl⟩ := r2
  obtain ⟨its, r, pl, hz⟩ := I.list hs
  obtain ⟨w, ew, rw'⟩ := r.get hv
  have hl := r.length
  have hn := line63
  have hj : j < xs.length := (List.getElem?_eq_some_iff.mp hv).1
  exact wpAny_getItem_list pl.isList (by omega) (by omega) (by rw [Int.toNat_natCast]; simpa using ew) ⟨v, H, I, rw', q⟩
def rSortedTu (K : PySem.W.Frag) : List V → Hp → VK → Prop := fun vs H Q => ∃ (a : Addr) (ns : List Int), vs = [V.ref a] ∧ SqT K H a (ns.map V.int) ∧
  ∀ (ns' : List Int) (p : Addr), ns'.Perm ns → ns'.Pairwise (· ≤ ·) → H p = none → Q (.ref p) (upd H p (.lst (ns'.map V.int)))
theorem cr_sortedTu : CallR X (.builtin "sorted") (rSortedTu X.K) := by
  intro pins s σ H vs us Q I r h
  obtain ⟨a, ns, rfl, hs, q⟩ := h
  obtain ⟨its, rv, pl, hz⟩ := I.tuple hs
  rw [Vals.ref1 r]
  have hi := rv.ints
  have hlen := rv.length
  obtain ⟨o, ho, hc, n, hd⟩ := pl
  refine Calls.call_function_entry kind_sorted plain_sorted entry_sorted (args_sorted1 _) ?_
  unfold Builtin.«sorted»
  refine wpAny_bind (m := checkCount "sorted" 1 1 _) (wpAny_pure ?_)
  refine wpAny_bind (wpAny_collect_seq a (.inr rfl) ho hc hd (fun h' hk => ?_) (by rw [List.size_toArray, ← hlen]; exact hz))
  have I2 : Inv X pins σ H { s with heap := h' } := I.kept (t' := s.toks) hk
  refine wpAny_bind (wpAny_newList ?_ (by rw [← hlen]; exact hz))
  have hoL : (h'.push (seqObj "list" its.toArray 0)).get? h'.objs.size = some (seqObj "list" its.toArray 0) := Heap.get?_push_size _ rfl
  refine wpAny_bind (wpAny_holding (wpAny_call_entry slot_list_sort ⟨_, hoL, rfl⟩ entry_list_sort (SrtO.list_sort_ord SrtO.swo_int hoL (by rw [← hlen]; exact hz) (fun h2 => SrtO.ints_sortable hi h2) fun out h1 h2 => ⟨_, rfl, ?_⟩) (args_list_sort _)))
  refine wpAny_pure ⟨_, rfl, ?_⟩
  obtain ⟨k1, k2, k3⟩ := SrtO.ints_out hi h1 h2
  obtain ⟨ep, he'⟩ := PyProof.Rows.sortedHeap_at (out := out.toArray) hoL
  have hlen : ((out.map SrtO.iv).map V.int).length ≤ sizeLine := by
    rw [List.length_map, k2.length_eq]
    rw [List.length_map] at hz
    exact hz
  refine ⟨.ref _, upd H h'.objs.size (.lst ((out.map SrtO.iv).map V.int)), I2.laid (t' := s.toks) (fun b o e => ?_) (Nat.le_refl _) ⟨hlen, out, ep, vals_of_ints k1, he'⟩, rfl, q _ _ k2 k3 (I2.hok.fresh (Nat.le_refl _))⟩
  have hb : b < h'.objs.size := Heap.lt_size e
  rw [PyProof.Rows.sortedHeap_old (Nat.ne_of_lt hb) (by rw [size_push']; exact Nat.lt_succ_of_lt hb)]
  exact Heap.get?_push_of_some _ e
end
section
variable {prog : Program} {w : World} {A : Around} {E : Value → Shared → Prop} {s : Shared}
open HT in
theorem sliceApplied_rev {sl : Addr} {t : Tok} {n : Nat} {Q : Int × Int × Nat → Shared → Prop} (hs : s.heap.IsSliceOf sl .none .none (.int (-1) t)) (h : Q ((n : Int) - 1, -1, n) s) : wpAny (model prog w) A (Builtin.Slice.sliceApplied (.ref sl) (pure (n : Int))) Q E s := by
  obtain ⟨os, hos, hcs, hds⟩ := id hs
  unfold Builtin.Slice.sliceApplied Builtin.Slice.sliceFields
  refine wpAny_bind (wpAny_bind (wpAny_field hos hds (x := .none) rfl (wpAny_bind (wpAny_field hos hds (x := .none) rfl (wpAny_bind (wpAny_field hos hds (x := .int (-1) t) rfl (wpAny_pure ?_)))))))
  refine wpAny_bind (slicePart_int ?_)
  show wpAny _ _ (if ((-1 : Int) == 0) = true then _ else _) _ _ s
  rw [if_neg (by decide)]
  refine wpAny_bind (slicePart_none (wpAny_bind (slicePart_none (wpAny_bind (wpAny_pure ?_)))))
  show wpAny _ _ (match Builtin.Slice.sliceAdjust none none (-1) (n : Int) with | (lo, hi) => pure (lo, (-1 : Int), Builtin.Slice.slicePlaces lo hi (-1))) _ _ s
  have ha : Builtin.Slice.sliceAdjust none none (-1) (n : Int) = ((n : Int) - 1, -1) := rfl
  rw [ha]
  show wpAny _ _ (pure ((n : Int) - 1, (-1 : Int), Builtin.Slice.slicePlaces ((n : Int) - 1) (-1) (-1))) _ _ s
  have hp : Builtin.Slice.slicePlaces ((n : Int) - 1) (-1) (-1) = n := by
    unfold Builtin.Slice.slicePlaces
    rw [if_neg (by decide)]
    by_cases c : (n : Int) - 1 > -1
    · rw [if_pos c]
      have : ((n : Int) - 1 - -1 - 1) / (- -1) + 1 = (n : Int) := by
        rw [show (- -1 : Int) = 1 by decide, Int.ediv_one]
        omega
      rw [this, Int.toNat_natCast]
    · rw [if_neg c]
      omega
  rw [hp]
  exact wpAny_pure h
theorem pick_rev (xs : Array Value) : ((List.range xs.size).filterMap fun (m : Nat) => xs[((xs.size : Int) - 1 + (m : Int) * (-1)).toNat]?).toArray = xs.toList.reverse.toArray := by
  have hk : ∀ k, k ≤ xs.size → (List.range k).filterMap (fun (m : Nat) => xs[((xs.size : Int) - 1 + (m : Int) * (-1)).toNat]?) = xs.toList.reverse.take k := fun k => by
    induction k with
    | zero => intro _; simp
    | succ k ih =>
      intro hk
      have e : ((xs.size : Int) - 1 + (k : Int) * (-1)).toNat = xs.size - 1 - k := by omega
      have h1 : xs[xs.size - 1 - k]? = some xs[xs.size - 1 - k] := Array.getElem?_eq_getElem (by omega)
      have e2 : [k].filterMap (fun (m : Nat) => xs[((xs.size : Int) - 1 + (m : Int) * (-1)).toNat]?) = [xs[xs.size - 1 - k]] := by
        rw [List.filterMap_cons_some (by rw [e]; exact h1), List.filterMap_nil]
      rw [List.range_succ, List.filterMap_append, ih (by omega), e2, List.take_add_one, List.getElem?_reverse (by rw [Array.length_toList]; omega), Array.length_toList, Array.getElem?_toList, h1]
      rfl
  have h2 := hk xs.size (Nat.le_refl _)
  rw [h2, List.take_of_length_le (by simp)]
theorem getItem_tuple_rev {t sl : Addr} {items : Array Value} {u : Tok} {Q : Value → Shared → Prop} (ht : IsTup s.heap t items) (hs : s.heap.IsSliceOf sl .none .none (.int (-1) u))
    (h : Q (.ref s.heap.objs.size) { s with heap := s.heap.push { cls := .type "tuple", data := .seq items.toList.reverse.toArray } })
    (hsz : items.size ≤ sizeLine) : wpAny (model prog w) A (getItem (.ref t) (.ref sl)) Q E s := by
  have htake : sizeOk (.seq items.toList.reverse.toArray) := by
    show items.toList.reverse.toArray.size ≤ sizeLine
    rw [List.size_toArray, List.length_reverse, Array.length_toList]
    exact hsz
  obtain ⟨os, hos, hcs, hds⟩ := id hs
  have hTs : s.TypeIs (.ref sl) "slice" := ⟨os, hos, hcs⟩
  unfold getItem
  try with_reducible refine wpAny_holding ?_
  first | refine wpAny_bind (wpAny_pure ?_) | skip
  refine wpAny_bind (wpAny_sequenceKey ht.typeIs (by decide) ?_)
  refine wpAny_bind (wpAny_callSpecial?_slot (name := Str.ofString "__getitem__") ht.typeIs PyProof.Rows.slot_tuple_getitem
    (wpAny_call_entry PyProof.Rows.slot_tuple_getitem ht.typeIs entry_tuple_getitem ?_ (args_tuple_getitem _ _)))
  show wpAny _ _ (Builtin.Tuple.tupleItemsOf (.ref t) >>= _) _ _ s
  refine wpAny_bind (PyProof.Rows.tupleItemsOf_ ht ?_)
  refine wpAny_bind (wpAny_typeOf hTs ?_)
  rw [if_pos (by decide)]
  refine wpAny_bind (sliceApplied_rev hs ?_)
  show wpAny _ _ (if (((items.size : Int) - 1) == 0 && (-1 : Int) == 1 && items.size == items.size) = true then _ else _) _ _ s
  rw [if_neg (by intro q; rw [Bool.and_eq_true, Bool.and_eq_true] at q; exact absurd q.1.2 (by decide)), pick_rev]
  first
    | exact wpAny_bind (m := Builtin.Tuple.tupleExact _) (wpAny_newObj_type (wpAny_pure ⟨_, rfl, wpAny_pure h⟩) htake)
    | exact wpAny_bind (m := Builtin.Tuple.tupleExact _) (wpAny_newObj_type (wpAny_bind (wpAny_pure (wpAny_pure ⟨_, rfl, wpAny_pure h⟩))) htake)
    | exact wpAny_bind (wpAny_bind (m := Builtin.Tuple.tupleExact _) (wpAny_newObj_type (wpAny_pure (wpAny_pure ⟨_, rfl, wpAny_pure h⟩)) htake))
    | exact wpAny_bind (wpAny_bind (m := Builtin.Tuple.tupleExact _) (wpAny_newObj_type (wpAny_pure ⟨_, rfl, wpAny_pure h⟩) htake))
end
section
variable {X : Cx}
def tRevT (K : PySem.W.Frag) (te : TE) : TE := fun σ H Q => te σ H fun x H1 => ∃ a xs, x = .ref a ∧ SqT K H1 a xs ∧ ∀ p, H1 p = none → Q (.ref p) (upd H1 p (.tup xs.reverse))
theorem pe_revT {e : Expr} {te : TE} {k : Nat} {p1 p2 p3 pos : Pos} (he : PE X e te) : PE X (.Subscript e (.Slice none none (some (.UnaryOp .USub (.Constant (.int 1) k p1) p2)) p3) pos) (tRevT X.K te) := by
  refine ⟨fun pins s σ H Q I h => ?_⟩
  refine Subscript_ (thn (he.run pins s σ H _ I h) fun v s1 ⟨x, H1, I1, r1, q1⟩ => ?_)
  obtain ⟨a, xs, ex, hx, q⟩ := q1
  subst ex
  cases r1
  have hst : PO X (some (.UnaryOp .USub (.Constant (.int 1) k p1) p2)) (tPart (tUn (rU fun i => .int (-i)) (tC (.int 1)))) := po_some (pe_un un_neg pe_int)
  refine wpAny_Slice (thn (po_none.run pins s1 σ H1 (fun o H2 => o = none ∧ H2 = H1) I1 ⟨rfl, rfl⟩) fun vl s2 ⟨l, H2, I2, pl, el, e2⟩ => ?_)
  subst el e2
  refine thn (po_none.run pins s2 σ H2 (fun o H3 => o = none ∧ H3 = H2) I2 ⟨rfl, rfl⟩) fun vu s3 ⟨u, H3, I3, pu, eu, e3⟩ => ?_
  subst eu e3
  refine thn (hst.run pins s3 σ H3 (fun o H4 => o = some (-1) ∧ H4 = H3) I3 ⟨1, rfl, -1, rfl, rfl, rfl⟩) fun vs s4 ⟨o, H4, I4, ps, eo, e4⟩ => ?_
  subst eo e4
  cases pl
  cases pu
  obtain ⟨tk, rfl⟩ : ∃ tk, vs = .int (-1) tk := by
    cases ps with
    | int _ tk => exact ⟨tk, rfl⟩
  have I5 : L2.Inv X pins σ H4 { s4 with heap := s4.heap.push { cls := .type "slice", data := .fields #[.none, .none, .int (-1) tk] } } := I4.kept (t' := s4.toks) fun b ob q => Heap.get?_push_of_some _ q
  obtain ⟨its, r, ht, hz⟩ := I5.tuple hx
  have hlen := r.length
  show wpAny (model X.prog X.w) X.A (subscriptTail e (.Slice none none (some (.UnaryOp .USub (.Constant (.int 1) k p1) p2)) p3) (.ref a) (.ref s4.heap.objs.size)) (EP X pins σ Q) X.xe { s4 with heap := s4.heap.push { cls := .type "slice", data := .fields #[.none, .none, .int (-1) tk] } }
  refine tail_any (ops := [.ref a, .ref s4.heap.objs.size]) ht.typeIs (PyProof.Rows.slot_tuple_getitem.lookup) ?_ (by with_unfolding_all rfl)
  refine getItem_tuple_rev ht (Heap.IsSliceOf.new _ .none .none (.int (-1) tk)) ?_ (by rw [List.size_toArray]; omega)
  refine ⟨.ref _, _, I5.laid (t' := s4.toks) (o := .tup xs.reverse) (fun b ob q => Heap.get?_push_of_some _ q) (Nat.le_refl _) ?_, rfl, q _ (I5.hok.fresh (Nat.le_refl _))⟩
  exact ⟨by rw [List.length_reverse]; exact hz, _, r.reverse, IsTup.new _ _⟩
end

/-! ### told by a proposition -/
open Classical in
noncomputable def pB (p : Prop) : Bool := decide p
theorem pB_iff {p : Prop} : pB p = true ↔ p := by
  unfold pB
  exact @decide_eq_true_iff _ (Classical.propDecidable _)
theorem pB_t {p : Prop} (h : p) : pB p = true := pB_iff.mpr h
theorem pB_f {p : Prop} (h : ¬ p) : pB p = false := by
  cases c : pB p with
  | true => exact absurd (pB_iff.mp c) h
  | false => rfl
theorem bool_iff {a b : Bool} (h : a = true ↔ b = true) : a = b := by
  cases a <;> cases b <;> simp_all
/-! ### lists of lists, in data and in the heap -/
section
variable {P : Program} {w : World} {K : PySem.W.Frag} {mg : Str → Option Value} {base : Heap}
/-- a family, bounded -/
def Small (fs : List (List Int)) : Prop := fs.length ≤ 20000 ∧ fs.flatten.length ≤ 20000
theorem mem_len {fs : List (List Int)} {l : List Int} (h : l ∈ fs) : l.length ≤ fs.flatten.length := by
  induction fs with
  | nil => simp at h
  | cons a fs ih =>
    rw [List.flatten_cons, List.length_append]
    rcases List.mem_cons.mp h with h | h
    · subst h
      omega
    · have := ih h
      omega
theorem Small.mem {fs : List (List Int)} {l : List Int} (h : Small fs) (hl : l ∈ fs) : l.length ≤ 20000 := by
  have := mem_len hl
  have := h.2
  omega
theorem dF_at {fs : List (List Int)} {i : Nat} {d : PyData} (h : (fs.map dW)[i]? = some d) : ∃ l, fs[i]? = some l ∧ d = dW l := by
  rw [List.getElem?_map] at h
  cases e : fs[i]? with
  | none => rw [e] at h; cases h
  | some l => rw [e] at h; exact ⟨l, rfl, (Option.some.inj h).symm⟩
theorem sum_lens (fs : List (List Int)) : (fs.map fun l => (l.length : Int)).sum = (fs.flatten.length : Int) := by
  induction fs with
  | nil => rfl
  | cons l fs ih => rw [List.map_cons, List.sum_cons, ih, List.flatten_cons, List.length_append]; omega
theorem drop1 (ws : List Int) : cutI (ws.map PyData.int) (some 1) none = (ws.drop 1).map PyData.int := by
  unfold cutI
  rw [show HT.sIx (ws.map PyData.int).length 0 (some 1) = min 1 (ws.map PyData.int).length from HT.sIx_nat _ 0 1, HT.sIx_none, List.length_map, ← List.map_drop]
  cases ws with
  | nil => rfl
  | cons x r =>
    rw [show min 1 (x :: r).length = 1 by rw [List.length_cons]; omega]
    exact List.take_of_length_le (by simp)
theorem mapsel {B H : Hp} {σ : L2.St} {tl te : TE} {fs : List (List Int)} {j : Nat} {vs : List Nat} {g : List Int → Bool} {B' : Hp} (hB : Ex B H) (h : EvB K B' tl σ H (dF fs)) (hz : fs.length ≤ 50000) (hw : ∀ x, wipe ((wipe σ vs).set j (some x)) vs = wipe σ vs)
    (he : ∀ x l H2, Ex H H2 → l ∈ fs → Dp K H2 x (dW l) → EvB K B te ((wipe σ vs).set j (some x)) H2 (.bool (g l))) : EvB K B (tLc (iList K tl) (gName j) tYes te vs) σ H (.list ((fs.map g).map PyData.bool)) := by
  have r := evb_lcL (t := tYes) (te := te) (j := j) (vs := vs) hB h (by rw [List.length_map]; exact hz) hw (fun i => ((fs.take i).map g).map PyData.bool) rfl fun i x dx H2 e hi hx => by
    obtain ⟨l, hl, rfl⟩ := dF_at hi
    refine ⟨true, _, evt_yes, fun _ => he x l H2 e (List.mem_of_getElem? hl) hx, ?_⟩
    rw [if_pos rfl, List.take_add_one, hl, List.map_append, List.map_append]
    rfl
  rw [List.length_map, List.take_length] at r
  exact r
theorem mapI {B H : Hp} {σ : L2.St} {tl te : TE} {ls : List Int} {j : Nat} {vs : List Nat} {g : Int → Int} {B' : Hp} (hB : Ex B H) (h : EvB K B' tl σ H (dW ls)) (hz : ls.length ≤ 50000) (hw : ∀ x, wipe ((wipe σ vs).set j (some x)) vs = wipe σ vs)
    (he : ∀ x H2, Ex H H2 → x ∈ ls → EvB K B te ((wipe σ vs).set j (some (.int x))) H2 (.int (g x))) : EvB K B (tLc (iList K tl) (gName j) tYes te vs) σ H (dW (ls.map g)) := by
  have r := evb_lcL (t := tYes) (te := te) (j := j) (vs := vs) hB h (by rw [List.length_map]; exact hz) hw (fun i => ((ls.take i).map g).map PyData.int) rfl fun i x dx H2 e hi hx => by
    rw [List.getElem?_map] at hi
    cases c : ls[i]? with
    | none => rw [c] at hi; cases hi
    | some z =>
      rw [c] at hi
      cases hi
      cases hx
      refine ⟨true, _, evt_yes, fun _ => he z H2 e (List.mem_of_getElem? c), ?_⟩
      rw [if_pos rfl, List.take_add_one, c, List.map_append, List.map_append]
      rfl
  rw [List.length_map, List.take_length] at r
  exact r
theorem letter_at {H : Hp} {σ : L2.St} {ws : List Int} {i j : Nat} {v : V} {x : Int} {B2 : Hp} (hv : σ[i]? = some (some v)) (hw : Dp K H v (dW ws)) (hx : σ[j]? = some (some (.int x))) (h0 : 0 ≤ x ∧ x < ws.length) : EvB K B2 (tOp (rIxL K) (tVar i) (tVar j)) σ H (.int (ws.getD x.toNat 0)) :=
  (evb_ixL (B := H) (B' := H) (j := x.toNat) (evb_v hv hw) (evb_v hx (.int x)) (by omega) (by rw [List.getElem?_map, getD_some' (by omega)]; rfl)).scal rfl
end
/-! ### a list of lists that is being made -/
theorem dpAll_of {K : PySem.W.Frag} {G : Hp} : ∀ {vs : List V} {ds : List PyData}, vs.length = ds.length → (∀ (i : Nat) v d, vs[i]? = some v → ds[i]? = some d → Dp K G v d) → DpAll K G vs ds
  | [], [], _, _ => .nil
  | [], _ :: _, h, _ => by simp at h
  | _ :: _, [], h, _ => by simp at h
  | v :: vs, d :: ds, h, k => .cons (k 0 v d rfl rfl) (dpAll_of (by simpa using h) fun i v' d' h1 h2 => k (i + 1) v' d' h1 h2)
structure FamAt (H0 H : Hp) (D : Addr) (ps : List Addr) (fs : List (List Int)) : Prop where
  d : H D = some (.lst (ps.map V.ref))
  len : ps.length = fs.length
  at' : ∀ (i : Nat) (p : Addr) (l : List Int), ps[i]? = some p → fs[i]? = some l → H p = some (.lst (l.map V.int))
  nd : ps.Nodup
  nD : D ∉ ps
  fD : H0 D = none
  fr : ∀ p ∈ ps, H0 p = none
theorem FamAt.dp {K : PySem.W.Frag} {H0 H : Hp} {D : Addr} {ps : List Addr} {fs : List (List Int)} (F : FamAt H0 H D ps fs) : Dp K (nw H0 H) (.ref D) (dF fs) := by
  refine .lst (Evl.sq_of (via_new F.fD F.d)) (dpAll_of (by rw [List.length_map, List.length_map, F.len]) fun i v d hv hd => ?_)
  rw [List.getElem?_map] at hv
  obtain ⟨l, hl, rfl⟩ := dF_at hd
  cases c : ps[i]? with
  | none => rw [c] at hv; cases hv
  | some p =>
    rw [c] at hv
    cases hv
    exact dp_W (Evl.sq_of (via_new (F.fr p (List.mem_of_getElem? c)) (F.at' i p l c hl)))
theorem FamAt.kp {H0 H H' : Hp} {a D : Addr} {ps : List Addr} {fs : List (List Int)} (F : FamAt H0 H D ps fs) (k : Kp a H H') (ha : ∃ o, H0 a = some o) : FamAt H0 H' D ps fs := by
  obtain ⟨o, ho⟩ := ha
  have ne : ∀ {p : Addr}, H0 p = none → p ≠ a := fun h e => by rw [e, ho] at h; cases h
  exact ⟨k _ _ (ne F.fD) F.d, F.len, fun i p l h1 h2 => k _ _ (ne (F.fr p (List.mem_of_getElem? h1))) (F.at' i p l h1 h2), F.nd, F.nD, F.fD, F.fr⟩
theorem FamAt.ex {H0 H H' : Hp} {D : Addr} {ps : List Addr} {fs : List (List Int)} (F : FamAt H0 H D ps fs) (e : Ex H H') : FamAt H0 H' D ps fs :=
  ⟨e _ _ F.d, F.len, fun i p l h1 h2 => e _ _ (F.at' i p l h1 h2), F.nd, F.nD, F.fD, F.fr⟩
theorem FamAt.set {H0 H : Hp} {D p : Addr} {ps : List Addr} {fs : List (List Int)} {i : Nat} (F : FamAt H0 H D ps fs) (hp : ps[i]? = some p) (l' : List Int) : FamAt H0 (upd H p (.lst (l'.map V.int))) D ps (fs.set i l') := by
  have hm := List.mem_of_getElem? hp
  refine ⟨by rw [upd_ne (fun e => F.nD (by rw [e]; exact hm))]; exact F.d, by rw [List.length_set]; exact F.len, fun j q l h1 h2 => ?_, F.nd, F.nD, F.fD, F.fr⟩
  rw [List.getElem?_set] at h2
  by_cases c : i = j
  · subst c
    rw [hp] at h1
    cases h1
    rw [if_pos rfl] at h2
    split at h2
    · cases h2
      exact upd_same
    · cases h2
  · rw [if_neg c] at h2
    rw [upd_ne (fun e => c (nd_ix F.nd (show ps[i]? = some q by rw [e]; exact hp) h1))]
    exact F.at' j q l h1 h2
theorem FamAt.snoc {H0 H : Hp} {D p : Addr} {ps : List Addr} {fs : List (List Int)} {l : List Int} (F : FamAt H0 H D ps fs) (hl : H p = some (.lst (l.map V.int))) (np : p ∉ ps) (nD : p ≠ D) (f0 : H0 p = none) : FamAt H0 (upd H D (.lst ((ps ++ [p]).map V.ref))) D (ps ++ [p]) (fs ++ [l]) := by
  refine ⟨upd_same, by rw [List.length_append, List.length_append, F.len]; rfl, fun i q l' h1 h2 => ?_, ?_, ?_, F.fD, ?_⟩
  · by_cases c : i < ps.length
    · rw [List.getElem?_append_left c] at h1
      rw [List.getElem?_append_left (by rw [← F.len]; exact c)] at h2
      rw [upd_ne (fun e => F.nD (by rw [← e]; exact List.mem_of_getElem? h1))]
      exact F.at' i q l' h1 h2
    · rw [List.getElem?_append_right (by omega)] at h1
      rw [List.getElem?_append_right (by rw [← F.len]; omega), ← F.len] at h2
      have hi : i - ps.length = 0 := by
        have := (List.getElem?_eq_some_iff.mp h1).1
        simp at this
        omega
      rw [hi] at h1 h2
      cases h1
      cases h2
      rw [upd_ne nD]
      exact hl
  · rw [List.nodup_append]
    refine ⟨F.nd, by simp, fun a ha b hb => ?_⟩
    rw [List.mem_singleton] at hb
    subst hb
    exact fun e => np (e ▸ ha)
  · intro h
    rcases List.mem_append.mp h with h | h
    · exact F.nD h
    · rw [List.mem_singleton] at h
      exact nD h.symm
  · intro q h
    rcases List.mem_append.mp h with h | h
    · exact F.fr q h
    · rw [List.mem_singleton] at h
      rw [h]
      exact f0
theorem FamAt.fresh {H0 H : Hp} {D p : Addr} {ps : List Addr} {fs : List (List Int)} (F : FamAt H0 H D ps fs) (np : H p = none) : p ∉ ps ∧ p ≠ D := by
  refine ⟨fun h => ?_, fun e => by rw [e, F.d] at np; cases np⟩
  obtain ⟨i, hi⟩ := List.mem_iff_getElem?.mp h
  have hl : i < fs.length := by rw [← F.len]; exact (List.getElem?_eq_some_iff.mp hi).1
  rw [F.at' i p _ hi (List.getElem?_eq_getElem hl)] at np
  cases np
theorem flatten_set_len {fs : List (List Int)} {i : Nat} {l l' : List Int} (h : fs[i]? = some l) : (fs.set i l').flatten.length + l.length = fs.flatten.length + l'.length := by
  induction fs generalizing i with
  | nil => simp at h
  | cons a fs ih =>
    cases i with
    | zero =>
      cases h
      rw [List.set_cons_zero, List.flatten_cons, List.flatten_cons, List.length_append, List.length_append]
      omega
    | succ i =>
      rw [List.getElem?_cons_succ] at h
      have := ih h
      rw [List.set_cons_succ, List.flatten_cons, List.flatten_cons, List.length_append, List.length_append]
      omega
theorem evb_ixLast {K : PySem.W.Frag} {B B' H : Hp} {ta tb : TE} {σ : L2.St} {l : List Int} {z : Int} (ha : EvB K B ta σ H (dW (l ++ [z]))) (hb : EvB K B' tb σ H (.int (-1))) {B2 : Hp} : EvB K B2 (tOp (rIxL K) ta tb) σ H (.int z) := evb_op ha hb fun x y H1 hx hy Q q => by
  cases hy
  obtain ⟨p, rfl, hs⟩ := dp_W_inv hx
  refine ⟨p, _, _, .int z, rfl, rfl, hs, ?_, q _ fun _ => .int _⟩
  rw [List.map_append]
  exact atI_last _ _

/-! ### the table of a word, made row by row -/
def insRow (r : List Int) (x : Int) : Nat := (r.filter fun y => decide (y ≤ x)).length
def ins : List (List Int) → Int → List (List Int)
  | [], x => [[x]]
  | r :: rs, x => if insRow r x = r.length then (r ++ [x]) :: rs else r.set (insRow r x) x :: ins rs (r.getD (insRow r x) 0)
def tab (ws : List Int) : List (List Int) := ws.foldl ins []
theorem insRow_le (r : List Int) (x : Int) : insRow r x ≤ r.length := List.length_filter_le _ _
theorem ins_flat (x : Int) : ∀ (fs : List (List Int)) (x : Int), (ins fs x).flatten.length = fs.flatten.length + 1
  | [], x => rfl
  | r :: rs, x => by
    unfold ins
    split
    · simp
      omega
    · rename_i h
      rw [List.flatten_cons, List.flatten_cons, List.length_append, List.length_append, List.length_set, ins_flat x rs]
      omega
theorem ins_rows (x : Int) : ∀ (fs : List (List Int)) (x : Int), (ins fs x).length ≤ fs.length + 1
  | [], x => by simp [ins]
  | r :: rs, x => by
    unfold ins
    split
    · simp
    · have := ins_rows x rs (r.getD (insRow r x) 0)
      simp only [List.length_cons]
      omega
theorem tab_snoc (ws : List Int) (x : Int) : tab (ws ++ [x]) = ins (tab ws) x := by
  unfold tab
  rw [List.foldl_append]
  rfl
theorem tab_take {ws : List Int} {i : Nat} {x : Int} (h : ws[i]? = some x) : tab (ws.take (i + 1)) = ins (tab (ws.take i)) x := by
  rw [List.take_add_one, h]
  exact tab_snoc _ _
theorem tab_flat (ws : List Int) : (tab ws).flatten.length = ws.length := by
  have h : ∀ n, n ≤ ws.length → (tab (ws.take n)).flatten.length = n := fun n => by
    induction n with
    | zero => intro _; simp [tab]
    | succ n ih =>
      intro hn
      rw [tab_take (List.getElem?_eq_getElem hn), ins_flat 0, ih (by omega)]
  have := h ws.length (Nat.le_refl _)
  rw [List.take_length] at this
  exact this
theorem tab_rows (ws : List Int) : (tab ws).length ≤ ws.length := by
  have h : ∀ n, n ≤ ws.length → (tab (ws.take n)).length ≤ n := fun n => by
    induction n with
    | zero => intro _; simp [tab]
    | succ n ih =>
      intro hn
      rw [tab_take (List.getElem?_eq_getElem hn)]
      have := ins_rows 0 (tab (ws.take n)) ws[n]
      have := ih (by omega)
      omega
  have := h ws.length (Nat.le_refl _)
  rw [List.take_length] at this
  exact this
section
variable {P : Program} {w : World} {K : PySem.W.Frag} {mg : Str → Option Value} {base : Heap}
section
variable {B B' H : Hp} {σ : L2.St} {ta te : TE} {t : TT}
/-- tuple(..) of a list -/
def rTupS (K : PySem.W.Frag) : List V → Hp → VK → Prop := fun xs H Q => ∃ p ys, xs = [.ref p] ∧ ((SqL K H p ys ∧ ∀ l, H l = none → Q (.ref l) (upd H l (.tup ys))) ∨ (SqT K H p ys ∧ Q (.ref p) H))
theorem evb_tupL {ds : List PyData} (h : EvB K B ta σ H (.list ds)) : EvB K B (tCB (rTupS K) (tCons ta tNil)) σ H (.tuple ds) := fun H1 e Q q =>
  h H1 e _ fun v H2 e2 hv => by
    cases hv with
    | lst hs ha => exact ⟨_, _, rfl, .inl ⟨Evl.ex_l via_le hs, fun l nl => q _ _ (e2.trans (Ex.new nl)) (.tup (Evl.st_of (via_new (Evl.fresh_back e2 nl) upd_same)) (ha.mono (via_up (Ex.new nl))))⟩⟩
/-- tuple(..) of a list of ints: new -/
theorem evb_tupW {ws : List Int} (h : EvB K B ta σ H (dW ws)) {B2 : Hp} : EvB K B2 (tCB (rTupS K) (tCons ta tNil)) σ H (dR ws) := fun H1 e Q q =>
  h H1 e _ fun v H2 e2 hv => by
    obtain ⟨p, rfl, hs⟩ := dp_W_inv hv
    exact ⟨p, _, rfl, .inl ⟨Evl.ex_l via_le hs, fun l nl => q _ _ (e2.trans (Ex.new nl)) (dp_R (Evl.st_of (via_new (Evl.fresh_back e2 nl) upd_same)))⟩⟩
/-- the letters of a list that pass a test -/
theorem filterI {tl : TE} {ls : List Int} {j : Nat} {vs : List Nat} {g : Int → Bool} (hB : Ex B H) (h : EvB K B' tl σ H (dW ls)) (hz : ls.length ≤ 50000) (hw : ∀ x, wipe ((wipe σ vs).set j (some x)) vs = wipe σ vs)
    (ht : ∀ (x : Int) H2, Ex H H2 → Evl.EvT t ((wipe σ vs).set j (some (.int x))) H2 (g x)) (he : ∀ (x : Int) H2, Ex H H2 → EvB K B te ((wipe σ vs).set j (some (.int x))) H2 (.int x)) : EvB K B (tLc (iList K tl) (gName j) t te vs) σ H (dW (ls.filter g)) := by
  have r := evb_lcL (t := t) (te := te) (j := j) (vs := vs) hB h (by rw [List.length_map]; exact hz) hw (fun i => ((ls.take i).filter g).map PyData.int) rfl fun i x dx H2 e hi hx => by
    rw [List.getElem?_map] at hi
    cases c : ls[i]? with
    | none => rw [c] at hi; cases hi
    | some z =>
      rw [c] at hi
      cases hi
      cases hx
      refine ⟨g z, .int z, ht z H2 e, fun _ => he z H2 e, ?_⟩
      rw [List.take_add_one, c, List.filter_append, List.map_append]
      cases d : g z <;> simp [d]
  rw [List.length_map, List.take_length] at r
  exact r
end
def spInsert (K : PySem.W.Frag) : Sp := fun vs H Q _ => ∃ (H0 : Hp) (D : Addr) (ps : List Addr) (fs : List (List Int)) (x : Int), vs = [.ref D, .int x] ∧ FamAt H0 H D ps fs ∧ Ex H0 H ∧ fs.length ≤ 1000 ∧ fs.flatten.length ≤ 1000 ∧
  ∀ (H' : Hp) (ps' : List Addr), FamAt H0 H' D ps' (ins fs x) → Ex H0 H' → Q .non H'
theorem ok_law_insert (T : Txt K mg) : FnOk P w K mg base CX0 1 T.law_insert.f T.law_insert.fd ["rows", "letter"] (spInsert K) := by
  refine T.law_insert.F.ok sc_law_insert (fun vs H Q E h => ?_) (fun cdv A outer s H vs Q E hr h => ?_)
  · obtain ⟨H0, D, ps, fs, x, rfl, _⟩ := h
    rfl
  · obtain ⟨H0, D, ps, fs, x, rfl, F, e0, hl, hf, q⟩ := h
    refine ⟨_, (pss_cons (ps_for PassesOwn.never rfl (pi_list (pv 0)) (pg_name (i := 2) sc_law_insert.nd rfl (.inl rfl))
      (pss_cons (ps_set (i := 3) sc_law_insert.nd rfl (.inl rfl) (pe_callB call_len_seq (by rfl) T.len PySem.boot_len (pa_cons (pe_lc (g := (gName 4)) (tt := (tTest (tOp (rI0 fun i j => .bl (decide (i ≤ j))) (tVar 4) (tVar 1)))) (te := (tVar 4)) (own := [("told", 4)]) (by rfl) sc_law_insert.nd (pi_list (pv 2)) (blkOk_by (own := [("told", 4)]) (N := N_law_insert) (sc := defScope s_law_insert) (by decide +kernel)) (fun _ _ _ _ _ => (pg_name (i := 4) sc_law_insert.nd rfl (.inl rfl))) (fun _ _ _ _ _ => (pts_one (pt_cmpR op_le (pv 4) (pv 1) (nomark _)))) (fun _ _ _ _ _ => (pv 4))) pa_nil)))
        (pss_cons (ps_if (pt_cmpR op_eq (pv 3) (pe_callB call_len_seq (by rfl) T.len PySem.boot_len (pa_cons (pv 2) pa_nil)) (nomark _))
        (pss_cons (ps_expr (pe_bm PySem.F.plainAttrs_list PySem.F.slot_list_append PySem.F.type_list_append mt_append (pv 2) (pa_cons (pv 1) pa_nil)))
          (pss_one ps_retN))
        pss_nil)
        (pss_one (ps_asg (pe_tup (pa_cons (pv 1) (pa_cons (pe_ix ix_list (pv 2) (pv 3) (fun _ _ => rfl)) pa_nil))) (pg_tup (by rfl) (pgs_cons (pg_sub (pv 2) (pv 3) set_list) (pgs_cons (pg_name (i := 1) sc_law_insert.nd rfl (.inr rfl)) pgs_nil))))))))
      (pss_one (ps_expr (pe_bm PySem.F.plainAttrs_list PySem.F.slot_list_append PySem.F.type_list_append mt_append (pv 0) (pa_cons (pe_lst (pa_cons (pv 1) pa_nil)) pa_nil))))), ?_⟩
    refine ⟨_, rfl, D, rfl, ⟨_, SqL.of F.d⟩, for_list (K := K) (a := D) (xs := ps.map V.ref) (fun i σ H' => ∃ fs' y x2 x3, σ = [some (.ref D), some (.int y), x2, x3, none] ∧ FamAt H0 H' D ps fs' ∧ Ex H0 H' ∧ fs'.length ≤ 1000 ∧ fs'.flatten.length ≤ 1000 ∧ ins fs x = fs'.take i ++ ins (fs'.drop i) y)
      ⟨fs, x, none, none, rfl, F, e0, hl, hf, rfl⟩ (fun i σ H' _ ⟨_, _, _, _, _, F', _⟩ => SqL.of F'.d) ?_ ?_⟩
    · rintro i v σ H1 hi ⟨fs1, y, x2, x3, rfl, F1, e1, hl1, hf1, hins⟩
      rw [List.getElem?_map] at hi
      cases c : ps[i]? with
      | none => rw [c] at hi; cases hi
      | some p =>
        rw [c] at hi
        cases hi
        have hil : i < fs1.length := by rw [← F1.len]; exact (List.getElem?_eq_some_iff.mp c).1
        obtain ⟨r, hr1⟩ : ∃ r, fs1[i]? = some r := ⟨_, List.getElem?_eq_getElem hil⟩
        have hp := F1.at' i p r c hr1
        have hrl : r.length ≤ 1000 := by have := mem_len (List.mem_of_getElem? hr1); omega
        have hdrop : fs1.drop i = r :: fs1.drop (i + 1) := by
          rw [List.drop_eq_getElem_cons hil]
          rw [List.getElem?_eq_getElem hil] at hr1
          cases hr1
          rfl
        have fp := F1.fr p (List.mem_of_getElem? c)
        -- place
        have hpl : EvB K emp (tCB (rLenS K) (tCons (tLc (iList K (tVar 2)) (gName 4) (tTest (tOp (rI0 fun i j => .bl (decide (i ≤ j))) (tVar 4) (tVar 1))) (tVar 4) [4]) tNil)) [some (.ref D), some (.int y), some (.ref p), x3, none] H1 (.int (insRow r y : Int)) := by
          have h1 := filterI (K := K) (B := emp) (B' := H1) (t := tTest (tOp (rI0 fun i j => .bl (decide (i ≤ j))) (tVar 4) (tVar 1))) (te := tVar 4) (tl := tVar 2) (j := 4) (vs := [4]) (σ := [some (.ref D), some (.int y), some (.ref p), x3, none]) (ls := r) (g := fun z => decide (z ≤ y)) emp_ex (evb_v rfl (dp_W (SqL.of hp))) (by omega) (fun _ => rfl)
            (fun z H2 e => evt_T (K := K) (B := emp) (evb_ib (K := K) (B := H2) (B' := H2) (g := fun i j => decide (i ≤ j)) (evb_v rfl (.int z)) (evb_v rfl (.int y)))) (fun z H2 e => evb_sv (K := K) (H := H2) rfl (.int z) rfl)
          have h2 := evb_len h1 (B2 := emp)
          rw [List.length_map] at h2
          exact h2
        refine qd_asg hpl fun v2 H2 e2 hv2 => ?_
        cases hv2
        have F2 := F1.ex e2
        have hp2 := e2 _ _ hp
        -- if place == len(row)
        refine ⟨_, rfl, _, rfl, p, _, rfl, .inl (SqL.of hp2), rfl, _, rfl, ite2 (fun c2 => ?_) (fun c2 => ?_)⟩
        · have c3 : insRow r y = r.length := by
            have := of_decide_eq_true c2
            rw [List.length_map] at this
            have := V.int.inj this
            omega
          refine ⟨_, rfl, .inl ⟨rfl, _, SqL.of hp2⟩, _, rfl, p, _, _, rfl, rfl, hp2, szl (by rw [List.length_map]; omega), ?_⟩
          have F3 := F2.set c (r ++ [y])
          rw [List.map_append] at F3
          refine q _ ps ?_ (Ex.mut (e1.trans e2) fp)
          rw [hins, hdrop]
          unfold ins
          rw [if_pos c3]
          have e : fs1.set i (r ++ [y]) = fs1.take i ++ (r ++ [y]) :: fs1.drop (i + 1) := List.set_eq_take_append_cons_drop.trans (by rw [if_pos hil])
          rw [← e]
          exact F3
        · have c3 : ¬ insRow r y = r.length := fun z => c2 (by rw [List.length_map, z]; exact decide_eq_true rfl)
          have hlt : insRow r y < r.length := by have := insRow_le r y; omega
          refine ⟨_, rfl, _, rfl, _, rfl, p, _, _, _, rfl, rfl, SqL.of hp2, atI_nat (mapAt (getD_some' hlt)), by show 2 ≤ sizeLine; decide, fun t nt => ?_⟩
          have F3 := F2.ex (Ex.new (o := .tup [.int y, .int (r.getD (insRow r y) 0)]) nt)
          have hp3 := Ex.new (o := .tup [.int y, .int (r.getD (insRow r y) 0)]) nt _ _ hp2
          refine ⟨t, _, rfl, SqT.of upd_same, rfl, _, _, rfl, _, rfl, _, rfl, p, _, _, insRow r y, rfl, rfl, hp3, Evl.ixN_nat (by rw [List.length_map]; exact hlt), _, _, rfl, rfl, ?_⟩
          have F4 := F3.set c (r.set (insRow r y) y)
          rw [List.map_set] at F4
          have hfl := flatten_set_len (l' := r.set (insRow r y) y) hr1
          rw [List.length_set] at hfl
          refine ⟨fs1.set i (r.set (insRow r y) y), r.getD (insRow r y) 0, _, _, rfl, F4, Ex.mut ((e1.trans e2).trans (Ex.new nt)) fp, by rw [List.length_set]; exact hl1, by omega, ?_⟩
          rw [hins, hdrop]
          conv => lhs; unfold ins
          rw [if_neg c3]
          have e1' : (fs1.set i (r.set (insRow r y) y)).take (i + 1) = fs1.take i ++ [r.set (insRow r y) y] := by
            rw [List.take_add_one, List.take_set_of_le (Nat.le_refl _), List.getElem?_set, if_pos rfl, if_pos hil]
            rfl
          have e2' : (fs1.set i (r.set (insRow r y) y)).drop (i + 1) = fs1.drop (i + 1) := List.drop_set_of_lt (by omega)
          rw [e1', e2', List.append_assoc]
          rfl
    · rintro σ H1 ⟨fs1, y, x2, x3, rfl, F1, e1, hl1, hf1, hins⟩
      rw [List.length_map, F1.len, List.take_length, List.drop_length] at hins
      refine ⟨_, rfl, .inl ⟨rfl, _, SqL.of F1.d⟩, _, rfl, by show 1 ≤ sizeLine; decide, fun z nz => ?_⟩
      have Dz : D ≠ z := ne_of_none F1.d nz
      refine ⟨D, _, _, rfl, rfl, by rw [upd_ne Dz]; exact F1.d, szl (by rw [List.length_map, F1.len]; omega), ?_⟩
      have F2 := (F1.ex (Ex.new (o := .lst [.int y]) nz)).snoc (p := z) (l := [y]) upd_same (F1.fresh nz).1 (F1.fresh nz).2 (Evl.fresh_back e1 nz)
      rw [List.map_append] at F2
      refine q _ (ps ++ [z]) ?_ (Ex.mut (e1.trans (Ex.new nz)) F1.fD)
      rw [hins]
      exact F2
def spTable (K : PySem.W.Frag) : Sp := fun vs H Q _ => ∃ (v : V) (ws : List Int), vs = [v] ∧ Dp K H v (dW ws) ∧ ws.length ≤ 1000 ∧ ∀ v' H2, Ex H H2 → Dp K (nw H H2) v' (dT (tab ws)) → Q v' H2
theorem ok_law_table (T : Txt K mg) : FnOk P w K mg base CX0 2 T.law_table.f T.law_table.fd ["word"] (spTable K) := by
  refine T.law_table.F.ok sc_law_table (fun vs H Q E h => ?_) (fun cdv A outer s H vs Q E hr h => ?_)
  · obtain ⟨v, ws, rfl, _⟩ := h
    rfl
  · obtain ⟨v, ws, rfl, hv, hl, q⟩ := h
    obtain ⟨p, rfl, hS⟩ := dp_W_inv hv
    refine ⟨_, (pss_cons (ps_set (i := 1) sc_law_table.nd rfl (.inl rfl) (pe_lst pa_nil))
      (pss_cons (ps_for PassesOwn.never rfl (pi_list (pv 0)) (pg_name (i := 2) sc_law_table.nd rfl (.inl rfl))
      (pss_one (ps_expr (pe_call (ok_law_insert T) (hr.mono (by decide)) rfl T.law_insert.g T.law_insert.F.kp T.law_insert.b .nil pass0 (pa_cons (pv 1) (pa_cons (pv 2) pa_nil))))))
      (pss_one (ps_ret (pe_callTy call_tuple_of (by rfl) T.tuple (by decide +kernel) (pa_cons (pe_lc (g := (gName 3)) (tt := tYes) (te := (tCB (rTupS K) (tCons (tVar 3) tNil))) (own := [("row", 3)]) (by rfl) sc_law_table.nd (pi_list (pv 1)) (blkOk_by (own := [("row", 3)]) (N := N_law_table) (sc := defScope s_law_table) (by decide +kernel)) (fun _ _ _ _ _ => (pg_name (i := 3) sc_law_table.nd rfl (.inl rfl))) (fun _ _ _ _ _ => pts_nil) (fun _ _ _ _ _ => (pe_callTy call_tuple_of (by rfl) T.tuple (by decide +kernel) (pa_cons (pv 3) pa_nil)))) pa_nil)))))), ?_⟩
    refine ⟨Nat.zero_le _, fun D nD => ?_⟩
    refine ⟨_, rfl, p, rfl, ⟨_, Evl.ex_l (Ex.new nD) hS⟩, for_list (K := K) (a := p) (xs := ws.map V.int) (fun i σ H' => ∃ ps x2, σ = [some (.ref p), some (.ref D), x2, none] ∧ FamAt H H' D ps (tab (ws.take i)) ∧ Ex H H')
      ⟨[], none, rfl, ⟨upd_same, rfl, fun i p l h => by simp at h, List.nodup_nil, by simp, nD, fun p h => by simp at h⟩, Ex.new nD⟩ (fun i σ H' _ ⟨_, _, _, _, e⟩ => Evl.ex_l e hS) ?_ ?_⟩
    · rintro i v σ H1 hi ⟨ps, x2, rfl, F1, e1⟩
      obtain ⟨x, hx, rfl⟩ := mapAt' hi
      have h1 := tab_rows (ws.take i)
      have h2 := tab_flat (ws.take i)
      rw [List.length_take] at h1 h2
      refine ⟨_, rfl, _, rfl, H, D, ps, _, x, rfl, F1, e1, by omega, by omega, fun H2 ps2 F2 e2 => ?_⟩
      exact ⟨ps2, _, rfl, by rw [tab_take hx]; exact F2, e2⟩
    · rintro σ H1 ⟨ps, x2, rfl, F1, e1⟩
      rw [List.length_map, List.take_length] at F1
      have hd : Dp K H1 (.ref D) (dF (tab ws)) := F1.dp.mono via_le
      have hlen : (tab ws).length ≤ 1000 := by have := tab_rows ws; omega
      have h1 := evb_lcL (K := K) (B := emp) (B' := H1) (t := tYes) (te := tCB (rTupS K) (tCons (tVar 3) tNil)) (j := 3) (vs := [3]) (tl := tVar 1) (σ := [some (.ref p), some (.ref D), x2, none]) emp_ex (evb_v rfl hd) (by rw [List.length_map]; omega) (fun _ => rfl) (fun i => ((tab ws).take i).map dR) rfl fun i x dx H2 e hi hx => by
        obtain ⟨l, hl, rfl⟩ := dF_at hi
        refine ⟨true, _, evt_yes, fun _ => evb_tupW (B := H2) (evb_v rfl hx), ?_⟩
        rw [if_pos rfl, List.take_add_one, hl, List.map_append]
        rfl
      rw [List.length_map, List.take_length] at h1
      refine qd_ret (evb_tupL h1) fun v2 H2 e2 hv2 => ?_
      exact q _ _ (e1.trans e2) (hv2.mono (via_down e1))
end

/-! ### comprehensions over tuples -/
section
variable {K : PySem.W.Frag} {B B' H H' : Hp} {σ : L2.St} {ta tb te : TE} {t : TT} {d e : PyData}
theorem evb_lcT {tl : TE} {j : Nat} {vs : List Nat} {ds : List PyData} (hB : Ex B H) (h : EvB K B' tl σ H (.tuple ds)) (hz : ds.length ≤ 50000) (hw : ∀ x, wipe ((wipe σ vs).set j (some x)) vs = wipe σ vs) (outs : Nat → List PyData) (h0 : outs 0 = [])
    (hs : ∀ i x dx H2, Ex H H2 → ds[i]? = some dx → Dp K H2 x dx → ∃ (b : Bool) (d : PyData), Evl.EvT t ((wipe σ vs).set j (some x)) H2 b ∧ (b = true → EvB K B te ((wipe σ vs).set j (some x)) H2 d) ∧ outs (i + 1) = if b then outs i ++ [d] else outs i) :
    EvB K B (tLc (iTup K tl) (gName j) t te vs) σ H (.list (outs ds.length)) := fun H1 e Q q =>
  h H1 e _ fun v H2 e2 hv => by
    cases hv with
    | @tup a xs _ hsl ha =>
      have hsl2 : SqT K H2 a xs := Evl.ex_t via_le hsl
      have ha2 : DpAll K H2 xs ds := ha.mono via_le
      have el : xs.length = ds.length := dp_len ha
      have ol := outs_len h0 (n := ds.length) fun i hi => by
        obtain ⟨x, _, hx⟩ := dp_at' ha2 (List.getElem?_eq_getElem hi)
        obtain ⟨b, d, _, _, q⟩ := hs i x _ H2 (e.trans e2) (List.getElem?_eq_getElem hi) hx
        exact ⟨b, d, q⟩
      refine ⟨a, rfl, ⟨xs, hsl2⟩, fun D nD => lc_tup (xs := xs) (fun i H' => Cwd K B H2 D (outs i) H') (by rw [h0]; exact cwd_start nD) (fun i H' _ p => Evl.ex_t p.2.1 hsl2) (fun i x H' hi p => ?_) fun H' p => ?_⟩
      · obtain ⟨dx, hdx, hx⟩ := dp_at ha2 hi
        obtain ⟨b, d, h1, h2, h3⟩ := hs i x dx H2 (e.trans e2) hdx hx
        have hi2 : i < ds.length := (List.getElem?_eq_some_iff.mp hdx).1
        refine ⟨hw x, ?_⟩
        rw [h3]
        exact cwd_turn (hB.trans (e.trans e2)) p (by have := ol i (by omega); omega) h1 h2
      · rw [el] at p
        obtain ⟨p1, p2⟩ := cwd_end p
        exact q _ _ (e2.trans p1) (p2.mono (via_down e2))
/-- a tuple that stands in B: its items do, too -/
theorem evb_lcTv {i0 : Nat} {v0 : V} {j : Nat} {vs : List Nat} {ds : List PyData} (hB : Ex B H) (hσ : σ[i0]? = some (some v0)) (h : Dp K B v0 (.tuple ds)) (hz : ds.length ≤ 50000) (hw : ∀ x, wipe ((wipe σ vs).set j (some x)) vs = wipe σ vs) (outs : Nat → List PyData) (h0 : outs 0 = [])
    (hs : ∀ i x dx H2, Ex H H2 → ds[i]? = some dx → Dp K B x dx → ∃ (b : Bool) (d : PyData), Evl.EvT t ((wipe σ vs).set j (some x)) H2 b ∧ (b = true → EvB K B te ((wipe σ vs).set j (some x)) H2 d) ∧ outs (i + 1) = if b then outs i ++ [d] else outs i) :
    EvB K B (tLc (iTup K (tVar i0)) (gName j) t te vs) σ H (.list (outs ds.length)) := fun H2 e Q q => by
  cases h with
  | @tup a xs _ hsl ha =>
    have hsl2 : SqT K H2 a xs := Evl.ex_t (hB.trans e) hsl
    have el : xs.length = ds.length := dp_len ha
    have ol := outs_len h0 (n := ds.length) fun i hi => by
      obtain ⟨x, _, hx⟩ := dp_at' ha (List.getElem?_eq_getElem hi)
      obtain ⟨b, d, _, _, q⟩ := hs i x _ H2 e (List.getElem?_eq_getElem hi) hx
      exact ⟨b, d, q⟩
    refine ⟨_, hσ, a, rfl, ⟨xs, hsl2⟩, fun D nD => lc_tup (xs := xs) (fun i H' => Cwd K B H2 D (outs i) H') (by rw [h0]; exact cwd_start nD) (fun i H' _ p => Evl.ex_t p.2.1 hsl2) (fun i x H' hi p => ?_) fun H' p => ?_⟩
    · obtain ⟨dx, hdx, hx⟩ := dp_at ha hi
      obtain ⟨b, d, h1, h2, h3⟩ := hs i x dx H2 e hdx hx
      have hi2 : i < ds.length := (List.getElem?_eq_some_iff.mp hdx).1
      refine ⟨hw x, ?_⟩
      rw [h3]
      exact cwd_turn (hB.trans e) p (by have := ol i (by omega); omega) h1 h2
    · rw [el] at p
      obtain ⟨p1, p2⟩ := cwd_end p
      exact q _ _ p1 p2
theorem lc_zipT {a b : Addr} {xs ys : List V} {g : TG} {tt : TT} {te : TE} {vs : List Nat} {σ : L2.St} {H1 : Hp} {D : Addr} {Qd : Hp → Prop} (Pv : Nat → Hp → Prop) (h0 : Pv 0 (upd H1 D (.lst []))) (hl : ∀ i H, Pv i H → SqT K H a xs ∧ SqT K H b ys)
    (hs : ∀ i x y T H, xs[i]? = some x → ys[i]? = some y → H T = none → Pv i H → g (.ref T) (wipe σ vs) (upd H T (.tup [x, y])) fun σ2 H2 => wipe σ2 vs = wipe σ vs ∧ tt σ2 H2 fun b H3 =>
      if b = true then te σ2 H3 fun y H4 => ∃ acc, H4 D = some (.lst acc) ∧ acc.length < sizeLine ∧ Pv (i + 1) (upd H4 D (.lst (acc ++ [y]))) else Pv (i + 1) H3) (hd : ∀ H, Pv (min xs.length ys.length) H → Qd H) :
    ∃ W : Nat → Nat → Hp → Prop, (∃ m, W 0 m (upd H1 D (.lst []))) ∧ ∀ i m H, W i m H →
      ((RZ.ItzT K a b).stop i H ∧ Qd H) ∨ ((RZ.ItzT K a b).go i H ∧ ∃ Nx : Hp → Prop, (∀ H', Nx H' → ∃ m', m' < m ∧ W (i + 1) m' H') ∧ ∀ x H', (RZ.ItzT K a b).yld i H x H' → g x (wipe σ vs) H' fun σ2 H2 => wipe σ2 vs = wipe σ vs ∧ tt σ2 H2 fun b H3 =>
        if b = true then te σ2 H3 fun y H4 => ∃ acc, H4 D = some (.lst acc) ∧ acc.length < sizeLine ∧ Nx (upd H4 D (.lst (acc ++ [y]))) else Nx H3) := by
  refine ⟨fun i m H => m = min xs.length ys.length - i ∧ i ≤ min xs.length ys.length ∧ Pv i H, ⟨min xs.length ys.length, by simp, Nat.zero_le _, h0⟩, ?_⟩
  rintro i m H ⟨rfl, hi, p⟩
  obtain ⟨qx, qy⟩ := hl i H p
  by_cases hlt : i < min xs.length ys.length
  · have hx : xs[i]? = some xs[i] := List.getElem?_eq_getElem (by omega)
    have hy : ys[i]? = some ys[i] := List.getElem?_eq_getElem (by omega)
    refine .inr ⟨⟨xs, ys, _, _, qx, qy, hx, hy⟩, Pv (i + 1), fun H' p' => ⟨min xs.length ys.length - (i + 1), by omega, rfl, hlt, p'⟩, fun v H' y => ?_⟩
    obtain ⟨T, x', y', rfl, hT, rfl, f1, f2⟩ := y
    exact hs i x' y' T H (f1 _ qx) (f2 _ qy) hT p
  · have e : i = min xs.length ys.length := by omega
    subst e
    exact .inl ⟨⟨xs, ys, qx, qy, by omega⟩, hd H p⟩
theorem Cwd.ex' {H1 : Hp} {D T : Addr} {o : HO} {out : List PyData} (p : Cwd K B H1 D out H') (n : H' T = none) : Cwd K B H1 D out (upd H' T o) := by
  obtain ⟨p1, p2, vs, p3, p4⟩ := p
  exact ⟨p1, p2.trans (Ex.new n), vs, by rw [upd_ne (ne_of_none p3 n)]; exact p3, p4.mono (ex_wo (via_up (Ex.new n)))⟩
theorem evb_lcZT {tr : TA} {ds es : List PyData} {j1 j2 : Nat} {vs : List Nat} (hB : Ex B H) (h : EvA K B' tr σ H [.tuple ds, .tuple es]) (hz : ds.length ≤ 50000) (hw : ∀ x y, wipe (((wipe σ vs).set j1 (some x)).set j2 (some y)) vs = wipe σ vs) (f : Nat → PyData)
    (he : ∀ i x y dx dy H2, Ex H H2 → ds[i]? = some dx → es[i]? = some dy → Dp K H2 x dx → Dp K H2 y dy → EvB K B te (((wipe σ vs).set j1 (some x)).set j2 (some y)) H2 (f i)) :
    EvB K B (tLc (RZ.iZipA K tr) (gTup K 2 (gCons (gName j1) (gCons (gName j2) gNil))) tYes te vs) σ H (.list ((List.range (min ds.length es.length)).map f)) := fun H1 e Q q =>
  h H1 e _ fun us H2 e2 hv => by
    cases hv with
    | cons ha hb =>
      cases hb with
      | cons hb hn =>
        cases hn
        cases ha with
        | @tup a xs _ sa da =>
          cases hb with
          | @tup b ys _ sb db =>
            have ha2 : SqT K H2 a xs := Evl.ex_t via_le sa
            have hb2 : SqT K H2 b ys := Evl.ex_t via_le sb
            have da2 : DpAll K H2 xs ds := da.mono via_le
            have db2 : DpAll K H2 ys es := db.mono via_le
            have el1 := dp_len da
            have el2 := dp_len db
            refine ⟨a, b, _, _, rfl, .inr ⟨ha2, hb2, fun D nD => lc_zipT (xs := xs) (ys := ys) (fun i H' => Cwd K B H2 D ((List.range i).map f) H') (cwd_start nD) (fun i H' p => ⟨Evl.ex_t p.2.1 ha2, Evl.ex_t p.2.1 hb2⟩) (fun i x y T H' hx hy nT p => ?_) fun H' p => ?_⟩⟩
            · obtain ⟨dx, hdx, hx2⟩ := dp_at da2 hx
              obtain ⟨dy, hdy, hy2⟩ := dp_at db2 hy
              refine ⟨T, _, rfl, SqT.of upd_same, rfl, _, _, rfl, _, _, rfl, rfl, hw _ _, ?_⟩
              have ht : (List.range (i + 1)).map f = if true then (List.range i).map f ++ [f i] else (List.range i).map f := by
                rw [if_pos rfl, List.range_succ, List.map_append]
                rfl
              rw [ht]
              have hi2 : i < ds.length := (List.getElem?_eq_some_iff.mp hdx).1
              exact cwd_turn (hB.trans (e.trans e2)) (Cwd.ex' p nT) (by rw [List.length_map, List.length_range]; omega) evt_yes fun _ => he i x y dx dy H2 (e.trans e2) hdx hdy hx2 hy2
            · rw [el1, el2] at p
              obtain ⟨p1, p2⟩ := cwd_end p
              exact q _ _ (e2.trans p1) (p2.mono (via_down e2))
theorem evb_sliceT {tl th : TO} {ds : List PyData} {lo hi : Option Int} (h : EvB K B te σ H (.tuple ds)) (h1 : EvO tl σ H lo) (h2 : EvO th σ H hi) : EvB K B (L2.tSl (rSlA K) te tl th) σ H (.tuple (cutI ds lo hi)) := fun H1 e _ q =>
  h H1 e _ fun v H2 e2 hv => h1 H2 (e.trans e2) _ fun H3 e3 => h2 H3 ((e.trans e2).trans e3) _ fun H4 e4 => by
    cases hv with
    | @tup a xs _ hs ha =>
      refine ⟨_, _, rfl, Evl.ex_t (via_le.trans (e3.trans e4)) hs, fun hwh => ?_, fun _ p hp => q _ _ ((e2.trans (e3.trans e4)).trans (Ex.new hp)) (.tup (Evl.st_of (via_new (Evl.fresh_back (e2.trans (e3.trans e4)) hp) upd_same)) ?_)⟩
      · have hw : cutI ds lo hi = ds := by
          rw [dp_len ha] at hwh
          unfold cutI
          rw [hwh.1, hwh.2, List.drop_zero, Nat.sub_zero, List.take_length]
        refine q _ _ (e2.trans (e3.trans e4)) ?_
        rw [hw]
        exact .tup (Evl.ex_t (via_up (e3.trans e4)) hs) (ha.mono (via_up (e3.trans e4)))
      · have h5 : DpAll K (via B H1 (upd H4 p (.tup (cutV xs lo hi)))) xs ds := ha.mono (via_up ((e3.trans e4).trans (Ex.new hp)))
        exact dp_cut h5
theorem drop1g {α : Type} (xs : List α) : cutI xs (some 1) none = xs.drop 1 := by
  unfold cutI
  rw [show HT.sIx xs.length 0 (some 1) = min 1 xs.length from HT.sIx_nat _ 0 1, HT.sIx_none]
  cases xs with
  | nil => rfl
  | cons x r =>
    rw [show min 1 (x :: r).length = 1 by rw [List.length_cons]; omega]
    exact List.take_of_length_le (by simp)
theorem dT_at {fs : List (List Int)} {i : Nat} {d : PyData} (h : (fs.map dR)[i]? = some d) : ∃ l, fs[i]? = some l ∧ d = dR l := by
  rw [List.getElem?_map] at h
  cases e : fs[i]? with
  | none => rw [e] at h; cases h
  | some l => rw [e] at h; exact ⟨l, rfl, (Option.some.inj h).symm⟩
end
theorem ty_tup {K : PySem.W.Frag} {H : Hp} {v : V} {ds : List PyData} (h : Dp K H v (.tuple ds)) : TyX K H v (.type "tuple") := by
  cases h with
  | tup hs _ =>
    rcases hs with (h | ⟨o, h⟩) | ⟨o, its, n, h1, h2, _⟩
    · exact .base (.tup h)
    · exact .fTuple h
    · exact .kTuple h1 h2

/-! ### more of what an expression gives -/
section
variable {K : PySem.W.Frag} {B B' H H' : Hp} {σ : L2.St} {ta tb te : TE} {t : TT} {d e : PyData}
theorem evb_neD {n m : Nat} (ha : EvB K B ta σ H d) (hb : EvB K B' tb σ H e) (h1 : purN n d = true) (h2 : purN m e = true) (hn : n ≤ 64) (hm : m ≤ 64) {b : Bool} (hb2 : b = true ↔ d ≠ e) {B2 : Hp} : EvB K B2 (tOp (rNeD K) ta tb) σ H (.bool b) := evb_op ha hb fun x y H1 hx hy Q q =>
  ne_data hx hy h1 h2 hn hm (fun c => by
    have : b = true := hb2.mpr c
    subst this
    exact q _ fun _ => .bl _) (fun c => by
    have : b = false := by
      cases b with
      | true => exact absurd c (hb2.mp rfl)
      | false => rfl
    subst this
    exact q _ fun _ => .bl _)
theorem evb_catL0 {i : Nat} {L : Addr} {xs : List Int} (hσ : σ[i]? = some (some (.ref L))) (hL : H L = some (.lst (xs.map V.int))) (hl : xs.length ≤ 50000) : EvB K B (tOp rCat (tVar i) (tLst (tCons (tC (.int 0)) tNil))) σ H (dW (xs ++ [0])) := fun H1 e Q q =>
  ⟨_, hσ, by show 1 ≤ sizeLine; decide, fun z nz => ⟨L, z, _, _, rfl, rfl, Ex.new nz _ _ (e _ _ hL), upd_same, sz (by rw [List.length_map]; show xs.length + 1 ≤ 100000; omega), fun p np => q _ _ ((Ex.new nz).trans (Ex.new np)) (dp_W (Evl.sq_of (via_new (Evl.fresh_back (Ex.new nz) np) (by rw [upd_same, List.map_append]; rfl))))⟩⟩
theorem evb_cat0L {i : Nat} {L : Addr} {xs : List Int} (hσ : σ[i]? = some (some (.ref L))) (hL : H L = some (.lst (xs.map V.int))) (hl : xs.length ≤ 50000) : EvB K B (tOp rCat (tLst (tCons (tC (.int 0)) tNil)) (tVar i)) σ H (dW (0 :: xs)) := fun H1 e Q q =>
  ⟨by show 1 ≤ sizeLine; decide, fun z nz => ⟨_, hσ, z, L, _, _, rfl, rfl, upd_same, Ex.new nz _ _ (e _ _ hL), sz (by rw [List.length_map]; show 1 + xs.length ≤ 100000; omega), fun p np => q _ _ ((Ex.new nz).trans (Ex.new np)) (dp_W (Evl.sq_of (via_new (Evl.fresh_back (Ex.new nz) np) upd_same)))⟩⟩
theorem evb_max {ns : List Int} {m : Int} (h : EvB K B te σ H (dW ns)) (h0 : 0 < ns.length) (hm : m ∈ ns) (hx : ∀ y ∈ ns, y ≤ m) {B2 : Hp} : EvB K B2 (tCB (rMax K) (tCons te tNil)) σ H (.int m) := fun H1 e Q q =>
  h H1 e _ fun v H2 e2 hv => by
    obtain ⟨p, rfl, hs⟩ := dp_W_inv hv
    refine ⟨p, ns, rfl, Evl.ex_l via_le hs, h0, fun m' h1 h2 => ?_⟩
    have e3 : m' = m := Int.le_antisymm (hx _ h1) (h2 _ hm)
    subst e3
    exact q _ H2 e2 (.int _)
theorem evb_isi_list {ds : List PyData} (h : EvB K B te σ H (.list ds)) {B2 : Hp} : EvB K B2 (tCB (rIsi K) (tCons te (tCons (tC (.ty "list")) tNil))) σ H (.bool true) := fun H1 e Q q =>
  h H1 e _ fun v H2 e2 hv => ⟨_, .ty "list", _, _, true, rfl, .ty _, ty_list (hv.mono via_le), kit_ty (by decide +kernel), q _ H2 e2 (.bl _)⟩
theorem evb_isi_tup {ds : List PyData} (h : EvB K B te σ H (.tuple ds)) {B2 : Hp} : EvB K B2 (tCB (rIsi K) (tCons te (tCons (tC (.ty "tuple")) tNil))) σ H (.bool true) := fun H1 e Q q =>
  h H1 e _ fun v H2 e2 hv => ⟨_, .ty "tuple", _, _, true, rfl, .ty _, ty_tup (hv.mono via_le), kit_ty (by decide +kernel), q _ H2 e2 (.bl _)⟩
theorem evb_isi_bool {b : Bool} (h : EvB K B te σ H (.bool b)) {B2 : Hp} : EvB K B2 (tCB (rIsi K) (tCons te (tCons (tC (.ty "bool")) tNil))) σ H (.bool true) := fun H1 e Q q =>
  h H1 e _ fun v H2 e2 hv => by
    cases hv
    exact ⟨_, .ty "bool", _, _, true, rfl, .ty _, .base (.bl _), kit_ty (by decide +kernel), q _ H2 e2 (.bl _)⟩
/-- x == y, x != y of bools -/
theorem evb_neb {a b : Bool} (ha : EvB K B ta σ H (.bool a)) (hb : EvB K B' tb σ H (.bool b)) {B2 : Hp} : EvB K B2 (tOp rNe ta tb) σ H (.bool (decide (a ≠ b))) := evb_op ha hb fun x y H1 hx hy Q q => by
  cases hx
  cases hy
  refine ⟨rfl, q _ fun _ => ?_⟩
  rw [show (!decide (V.bl a = V.bl b)) = decide (a ≠ b) by simp]
  exact .bl _
theorem evb_sorted {ns ns' : List Int} (h : EvB K B te σ H (dW ns)) (hp : ns'.Perm ns) (hs : ns'.Pairwise (· ≤ ·)) {B2 : Hp} : EvB K B2 (tCB (rSortedI K) (tCons te tNil)) σ H (dW ns') := fun H1 e Q q =>
  h H1 e _ fun v H2 e2 hv => by
    obtain ⟨p, rfl, hq⟩ := dp_W_inv hv
    refine ⟨p, ns, rfl, Evl.ex_l via_le hq, fun r z perm srt nz => ?_⟩
    have e3 : r = ns' := PySem.W.ksm_same (perm.trans hp.symm) srt hs
    subst e3
    exact q _ _ (e2.trans (Ex.new nz)) (dp_W (Evl.sq_of (via_new (Evl.fresh_back e2 nz) upd_same)))
end

-- TUP is_table: rows; row
-- TUP _is_row: row
-- TUP _may_stand_below: lower; upper
-- TUP shape_of: table; row
-- TUP reading_word: table; row
-- TUP corners: table; row
-- TUP conjugate: shape
-- DEEP _is_row: list(row) == sorted(row)
-- DEEP is_record: sorted(letters) == list(range(1, len(letters) + 1))
-- DEEP corners: [len(row) for row in table] + [0]
/-! ### the program's tables -/
def rowOk (r : List Int) : Prop := r ≠ [] ∧ r.Pairwise (· ≤ ·)
def below (lo up : List Int) : Prop := lo.length ≤ up.length ∧ ∀ m, m < lo.length → up.getD m 0 < lo.getD m 0
def IsTab (fs : List (List Int)) : Prop := (∀ r ∈ fs, rowOk r) ∧ ∀ k, k + 1 < fs.length → below (fs.getD (k + 1) []) (fs.getD k [])
section
variable {P : Program} {w : World} {K : PySem.W.Frag} {mg : Str → Option Value} {base : Heap}
def spIsRow (K : PySem.W.Frag) : Sp := fun vs H Q _ => ∃ (v : V) (r : List Int), vs = [v] ∧ Dp K H v (dR r) ∧ r.length ≤ 20000 ∧ RetV (.bl (pB (rowOk r))) H Q
theorem ok_is_row (T : Txt K mg) : FnOk P w K mg base CX0 1 T.is_row.f T.is_row.fd ["row"] (spIsRow K) := by
  refine T.is_row.F.ok sc_is_row (fun vs H Q E h => ?_) (fun cdv A outer s H vs Q E hr h => ?_)
  · obtain ⟨v, r, rfl, _⟩ := h
    rfl
  · obtain ⟨v, r, rfl, hv, hl, q⟩ := h
    obtain ⟨p, rfl, hT⟩ := dp_R_inv hv
    refine ⟨_, (pss_one (ps_ret (pe_and (pe_cmpR op_gt (pe_callB call_len_seq (by rfl) T.len PySem.boot_len (pa_cons (pv 0) pa_nil)) pe_int (nomark _)) (pe_one (pe_cmpR (op_eqD hr.units) (pe_callTy call_list_of (by rfl) T.list (by decide +kernel) (pa_cons (pv 0) pa_nil)) (pe_callB cr_sortedTu (by rfl) T.sorted (by decide +kernel) (pa_cons (pv 0) pa_nil)) (nomark _)))))), ?_⟩
    refine ⟨_, rfl, p, _, rfl, .inr hT, _, _, rfl, rfl, _, rfl, ite2 (fun c => ?_) (fun c => ?_)⟩
    · have c1 := of_decide_eq_true c
      rw [List.length_map] at c1
      refine ⟨_, rfl, p, _, rfl, .inr hT, fun l nl => ?_⟩
      have e1 := Ex.new (o := .lst (r.map V.int)) nl
      refine ⟨_, rfl, p, r, rfl, Evl.ex_t e1 hT, fun r' z perm srt nz => ?_⟩
      have e2 := Ex.new (o := .lst (r'.map V.int)) nz
      have hne : r ≠ [] := fun h => by rw [h] at c1; simp at c1
      refine eq_data (d := dW r) (e := dW r') (dp_W (SqL.of (e2 _ _ upd_same))) (dp_W (SqL.of upd_same)) (pur_W _) (pur_W _) (by decide) (by decide) (fun h => ?_) (fun h => ?_)
      · have := q _ (e1.trans e2)
        rw [pB_t ⟨hne, by rw [dW_inj h]; exact srt⟩] at this
        exact this
      · have := q _ (e1.trans e2)
        rw [pB_f (fun g => h (congrArg dW (PySem.W.ksm_same perm.symm g.2 srt)))] at this
        exact this
    · have := q _ (Ex.refl H)
      rw [pB_f (fun g => by
        have c1 := fun h => c (decide_eq_true h)
        rw [List.length_map] at c1
        exact c1 (by have := List.length_pos_iff.mpr g.1; omega))] at this
      exact this
def spBelow (K : PySem.W.Frag) : Sp := fun vs H Q _ => ∃ (v u : V) (lo up : List Int), vs = [v, u] ∧ Dp K H v (dR lo) ∧ Dp K H u (dR up) ∧ up.length ≤ 20000 ∧ RetV (.bl (pB (below lo up))) H Q
theorem spBelow_D {lo up : List Int} (h : up.length ≤ 20000) : SpD K (spBelow K) [dR lo, dR up] (.bool (pB (below lo up))) := fun vs H hvs Q E q => by
  cases hvs with
  | cons a b =>
    cases b with
    | cons b c =>
      cases c
      exact ⟨_, _, lo, up, rfl, a, b, h, fun H2 e => q _ H2 e (.bl _)⟩
theorem ok_may_stand_below (T : Txt K mg) : FnOk P w K mg base CX0 1 T.may_stand_below.f T.may_stand_below.fd ["lower", "upper"] (spBelow K) := by
  refine T.may_stand_below.F.ok sc_may_stand_below (fun vs H Q E h => ?_) (fun cdv A outer s H vs Q E hr h => ?_)
  · obtain ⟨v, u, lo, up, rfl, _⟩ := h
    rfl
  · obtain ⟨v, u, lo, up, rfl, hv, hu, hl, q⟩ := h
    obtain ⟨p, rfl, hT⟩ := dp_R_inv hv
    obtain ⟨p2, rfl, hT2⟩ := dp_R_inv hu
    refine ⟨_, (pss_cons (ps_if (pt_cmpR op_gt (pe_callB call_len_seq (by rfl) T.len PySem.boot_len (pa_cons (pv 0) pa_nil)) (pe_callB call_len_seq (by rfl) T.len PySem.boot_len (pa_cons (pv 1) pa_nil)) (nomark _))
      (pss_one (ps_ret pe_bl))
      pss_nil)
      (pss_one (ps_ret (pe_callB (cr_all rfl) (by rfl) T.all (by decide +kernel) (pa_cons (pe_lc (g := (gTup K 2 (gCons (gName 2) (gCons (gName 3) gNil)))) (tt := tYes) (te := (tOp (rI0 fun i j => .bl (decide (i < j))) (tVar 2) (tVar 3))) (own := [("above", 2), ("below", 3)]) (by rfl) sc_may_stand_below.nd (RZ.pi_zipA (by rfl) T.zip (pa_cons (pv 1) (pa_cons (pv 0) pa_nil))) (blkOk_by (own := [("above", 2), ("below", 3)]) (N := N_may_stand_below) (sc := defScope s_may_stand_below) (by decide +kernel)) (fun _ _ _ _ _ => (pg_tup (by rfl) (pgs_cons (pg_name (i := 2) sc_may_stand_below.nd rfl (.inl rfl)) (pgs_cons (pg_name (i := 3) sc_may_stand_below.nd rfl (.inl rfl)) pgs_nil)))) (fun _ _ _ _ _ => pts_nil) (fun _ _ _ _ _ => (pe_cmpR op_lt (pv 2) (pv 3) (nomark _)))) pa_nil))))), ?_⟩
    refine ⟨_, rfl, p, _, rfl, .inr hT, _, rfl, p2, _, rfl, .inr hT2, _, _, rfl, rfl, _, rfl, ite2 (fun c => ?_) (fun c => ?_)⟩
    · have c1 := of_decide_eq_true c
      rw [List.length_map, List.length_map] at c1
      have := q _ (Ex.refl H)
      rw [pB_f (fun g => by have := g.1; omega)] at this
      exact this
    · have c1 : ¬ ((up.length : Int) < (lo.length : Int)) := fun h => c (decide_eq_true (by rw [List.length_map, List.length_map]; exact h))
      have h1 := evb_lcZT (K := K) (B := emp) (B' := H) (σ := [some (.ref p), some (.ref p2), none, none]) (tr := tCons (tVar 1) (tCons (tVar 0) tNil)) (ds := up.map PyData.int) (es := lo.map PyData.int) (j1 := 2) (j2 := 3) (vs := [2, 3]) (te := tOp (rI0 fun i j => .bl (decide (i < j))) (tVar 2) (tVar 3)) (H := H) emp_ex (eva2 (evb_v rfl hu) (evb_v rfl hv)) (by rw [List.length_map]; omega) (fun _ _ => rfl) (fun i => .bool (decide (up.getD i 0 < lo.getD i 0))) fun i x y dx dy H2 e hdx hdy hx hy => by
        rw [List.getElem?_map] at hdx hdy
        cases c2 : up[i]? with
        | none => rw [c2] at hdx; cases hdx
        | some a =>
          cases c3 : lo[i]? with
          | none => rw [c3] at hdy; cases hdy
          | some b =>
            rw [c2] at hdx
            rw [c3] at hdy
            cases hdx
            cases hdy
            rw [List.getD_eq_getElem?_getD, List.getD_eq_getElem?_getD, c2, c3]
            exact evb_ib (B := H2) (B' := H2) (g := fun i j => decide (i < j)) (evb_v rfl hx) (evb_v rfl hy)
      rw [List.length_map, List.length_map] at h1
      have h2 : (List.range (min up.length lo.length)).map (fun i => PyData.bool (decide (up.getD i 0 < lo.getD i 0))) = ((List.range (min up.length lo.length)).map fun i => decide (up.getD i 0 < lo.getD i 0)).map PyData.bool := by rw [List.map_map]; rfl
      rw [h2] at h1
      refine qd_ret (evb_all h1 (B2 := H)) fun v1 H1 e1 hv1 => ?_
      cases hv1
      have h3 : (((List.range (min up.length lo.length)).map fun i => decide (up.getD i 0 < lo.getD i 0)).all id) = pB (below lo up) := by
        apply bool_iff
        rw [pB_iff, List.all_map, List.all_eq_true]
        constructor
        · intro h
          exact ⟨by omega, fun m hm => of_decide_eq_true (h m (List.mem_range.mpr (by omega)))⟩
        · intro h x hx
          have := List.mem_range.mp hx
          exact decide_eq_true (h.2 x (by omega))
      rw [h3]
      exact q H1 e1
def spIsTab (K : PySem.W.Frag) : Sp := fun vs H Q _ => ∃ (v : V) (fs : List (List Int)), vs = [v] ∧ Dp K H v (dT fs) ∧ Small fs ∧ RetV (.bl (pB (IsTab fs))) H Q
theorem ok_is_table (T : Txt K mg) : FnOk P w K mg base CX0 2 T.is_table.f T.is_table.fd ["rows"] (spIsTab K) := by
  refine T.is_table.F.ok sc_is_table (fun vs H Q E h => ?_) (fun cdv A outer s H vs Q E hr h => ?_)
  · obtain ⟨v, fs, rfl, _⟩ := h
    rfl
  · obtain ⟨v, fs, rfl, hv, hsm, q⟩ := h
    refine ⟨_, (pss_cons (ps_for PassesOwn.never rfl (pi_tup (pv 0)) (pg_name (i := 1) sc_is_table.nd rfl (.inl rfl))
      (pss_one (ps_if (pt_not (pt_val (pe_call (ok_is_row T) (hr.mono (by decide)) rfl T.is_row.g T.is_row.F.kp T.is_row.b .nil pass0 (pa_cons (pv 1) pa_nil))))
        (pss_one (ps_ret pe_bl))
        pss_nil)))
      (pss_one (ps_ret (pe_callB (cr_all rfl) (by rfl) T.all (by decide +kernel) (pa_cons (pe_lc (g := (gTup K 2 (gCons (gName 2) (gCons (gName 3) gNil)))) (tt := tYes) (te := (tCall _ [] E0 (tCons (tVar 3) (tCons (tVar 2) tNil)))) (own := [("upper", 2), ("lower", 3)]) (by rfl) sc_is_table.nd (RZ.pi_zipA (by rfl) T.zip (pa_cons (pv 0) (pa_cons (pe_slice sl_tupA (pv 0) (po_some pe_int) po_none) pa_nil))) (blkOk_by (own := [("upper", 2), ("lower", 3)]) (N := N_is_table) (sc := defScope s_is_table) (by decide +kernel)) (fun _ _ _ _ _ => (pg_tup (by rfl) (pgs_cons (pg_name (i := 2) sc_is_table.nd rfl (.inl rfl)) (pgs_cons (pg_name (i := 3) sc_is_table.nd rfl (.inl rfl)) pgs_nil)))) (fun _ _ _ _ _ => pts_nil) (fun _ _ _ _ _ => (pe_call (ok_may_stand_below T) (hr.mono (by decide)) rfl T.may_stand_below.g T.may_stand_below.F.kp T.may_stand_below.b .nil pass0 (pa_cons (pv 3) (pa_cons (pv 2) pa_nil))))) pa_nil))))), ?_⟩
    have hvd := hv
    cases hv with
    | @tup a xs _ hs ha =>
      refine ⟨_, rfl, a, rfl, ⟨_, hs⟩, for_tup (K := K) (a := a) (xs := xs) (fun i σ H' => ∃ x1, σ = [some (.ref a), x1, none, none] ∧ Ex H H' ∧ ∀ r ∈ fs.take i, rowOk r) ⟨none, rfl, Ex.refl H, fun r h => by simp at h⟩ (fun i σ H' _ ⟨_, _, e, _⟩ => Evl.ex_t e hs) ?_ ?_⟩
      · rintro i x σ H1 hi ⟨x1, rfl, e1, hok⟩
        obtain ⟨d, hd, hx⟩ := dp_at ha hi
        obtain ⟨r, hr1, rfl⟩ := dT_at hd
        have hrl := hsm.mem (List.mem_of_getElem? hr1)
        refine ⟨_, rfl, _, r, rfl, hx.mono e1, hrl, fun H2 e2 => ⟨_, rfl, ?_⟩⟩
        by_cases c : rowOk r
        · rw [pB_t c]
          refine iteF ⟨_, rfl, e1.trans e2, fun r' h' => ?_⟩
          rw [List.take_add_one, hr1] at h'
          rcases List.mem_append.mp h' with h | h
          · exact hok r' h
          · have : r' = r := by simpa using h
            rw [this]
            exact c
        · rw [pB_f c]
          refine iteT ?_
          have := q _ (e1.trans e2)
          rw [pB_f (fun g => c (g.1 r (List.mem_of_getElem? hr1)))] at this
          exact this
      · rintro σ H1 ⟨x1, rfl, e1, hok⟩
        rw [dp_len ha, List.length_map, List.take_length] at hok
        have hv1 : Dp K H1 (.ref a) (dT fs) := hvd.mono e1
        have h2 := evb_sliceT (evb_v (σ := [some (.ref a), x1, none, none]) (i := 0) rfl hv1) (evo_some (K := K) (i := 1) (evb_int (B := H1))) evo_none
        rw [drop1g, ← List.map_drop] at h2
        have h1 := evb_lcZT (K := K) (B := emp) (B' := H1) (σ := [some (.ref a), x1, none, none]) (tr := tCons (tVar 0) (tCons (L2.tSl (rSlA K) (tVar 0) (tPart (tC (.int 1))) tNoPart) tNil)) (ds := fs.map dR) (es := (fs.drop 1).map dR) (j1 := 2) (j2 := 3) (vs := [2, 3]) (te := tCall (spBelow K) [] E0 (tCons (tVar 3) (tCons (tVar 2) tNil))) (H := H1) emp_ex (eva2 (evb_v rfl hv1) h2) (by have := hsm.1; rw [List.length_map]; omega) (fun _ _ => rfl) (fun i => .bool (pB (below (fs.getD (i + 1) []) (fs.getD i [])))) fun i x y dx dy H2 e hdx hdy hx hy => by
          obtain ⟨up, hup, rfl⟩ := dT_at hdx
          obtain ⟨lo, hlo, rfl⟩ := dT_at hdy
          rw [List.getElem?_drop, Nat.add_comm 1 i] at hlo
          rw [List.getD_eq_getElem?_getD, List.getD_eq_getElem?_getD, hlo, hup]
          exact evb_call (B := H2) (eva2 (evb_v rfl hy) (evb_v rfl hx)) (spBelow_D (hsm.mem (List.mem_of_getElem? hup)))
        rw [List.length_map, List.length_map, List.length_drop] at h1
        have h3 : (List.range (min fs.length (fs.length - 1))).map (fun i => PyData.bool (pB (below (fs.getD (i + 1) []) (fs.getD i [])))) = ((List.range (min fs.length (fs.length - 1))).map fun i => pB (below (fs.getD (i + 1) []) (fs.getD i []))).map PyData.bool := by rw [List.map_map]; rfl
        rw [h3] at h1
        refine qd_ret (evb_all h1 (B2 := H1)) fun v1 H2 e2 hv2 => ?_
        cases hv2
        have h4 : (((List.range (min fs.length (fs.length - 1))).map fun i => pB (below (fs.getD (i + 1) []) (fs.getD i []))).all id) = pB (IsTab fs) := by
          apply bool_iff
          rw [pB_iff, List.all_map, List.all_eq_true]
          constructor
          · intro h
            exact ⟨hok, fun m hm => pB_iff.mp (h m (List.mem_range.mpr (by omega)))⟩
          · intro h x hx
            have := List.mem_range.mp hx
            exact pB_t (h.2 x (by omega))
        rw [h4]
        exact q _ (e1.trans e2)
def lens (fs : List (List Int)) : List Int := fs.map fun r => (r.length : Int)
theorem lens_pd (fs : List (List Int)) (n : Nat) : ((fs.take n).map fun r => (r.length : Int)).map PyData.int = (lens (fs.take n)).map PyData.int := rfl
/-- the lengths of the rows, by a comprehension over a tuple -/
theorem evb_lens {B H : Hp} {σ : L2.St} {tl : TE} {j : Nat} {vs : List Nat} {fs : List (List Int)} {B' : Hp} (hB : Ex B H) (h : EvB K B' tl σ H (dT fs)) (hz : fs.length ≤ 50000) (hw : ∀ x, wipe ((wipe σ vs).set j (some x)) vs = wipe σ vs) (hj : ∀ x, ((wipe σ vs).set j (some x))[j]? = some (some x)) :
    EvB K B (tLc (iTup K tl) (gName j) tYes (tCB (rLenS K) (tCons (tVar j) tNil)) vs) σ H (dW (lens fs)) := by
  have h1 := evb_lcT (K := K) (B := B) (B' := B') (t := tYes) (te := tCB (rLenS K) (tCons (tVar j) tNil)) (j := j) (vs := vs) hB h (by rw [List.length_map]; exact hz) hw (fun i => (lens (fs.take i)).map PyData.int) rfl fun i x dx H2 e hi hx => by
    obtain ⟨l, hl, rfl⟩ := dT_at hi
    refine ⟨true, .int l.length, evt_yes, fun _ => ?_, ?_⟩
    · have := evb_lenT (ds := l.map PyData.int) (B := H2) (ta := tVar j) (σ := (wipe σ vs).set j (some x)) (evb_v (hj x) hx) (B2 := B)
      rw [List.length_map] at this
      exact this
    · unfold lens
      rw [if_pos rfl, List.take_add_one, hl, List.map_append, List.map_append]
      rfl
  rw [List.length_map, List.take_length] at h1
  exact h1
def spShape (K : PySem.W.Frag) : Sp := fun vs H Q _ => ∃ (v : V) (fs : List (List Int)), vs = [v] ∧ Dp K H v (dT fs) ∧ Small fs ∧ ∀ v' H2, Ex H H2 → Dp K (nw H H2) v' (dR (lens fs)) → Q v' H2
theorem ok_shape_of (T : Txt K mg) : FnOk P w K mg base CX0 1 T.shape_of.f T.shape_of.fd ["table"] (spShape K) := by
  refine T.shape_of.F.ok sc_shape_of (fun vs H Q E h => ?_) (fun cdv A outer s H vs Q E hr h => ?_)
  · obtain ⟨v, fs, rfl, _⟩ := h
    rfl
  · obtain ⟨v, fs, rfl, hv, hsm, q⟩ := h
    refine ⟨_, (pss_one (ps_ret (pe_callTy call_tuple_of (by rfl) T.tuple (by decide +kernel) (pa_cons (pe_lc (g := (gName 1)) (tt := tYes) (te := (tCB (rLenS K) (tCons (tVar 1) tNil))) (own := [("row", 1)]) (by rfl) sc_shape_of.nd (pi_tup (pv 0)) (blkOk_by (own := [("row", 1)]) (N := N_shape_of) (sc := defScope s_shape_of) (by decide +kernel)) (fun _ _ _ _ _ => (pg_name (i := 1) sc_shape_of.nd rfl (.inl rfl))) (fun _ _ _ _ _ => pts_nil) (fun _ _ _ _ _ => (pe_callB call_len_seq (by rfl) T.len PySem.boot_len (pa_cons (pv 1) pa_nil)))) pa_nil)))), ?_⟩
    have h1 := evb_lens (K := K) (B := emp) (B' := H) (σ := L2.start N_shape_of [v]) (tl := tVar 0) (j := 1) (vs := [1]) emp_ex (evb_v rfl hv) (by have := hsm.1; omega) (fun _ => rfl) (fun _ => rfl)
    exact qd_ret (evb_tupW h1 (B2 := emp)) fun v1 H1 e1 hv1 => q _ _ e1 hv1
end

section
variable {P : Program} {w : World} {K : PySem.W.Frag} {mg : Str → Option Value} {base : Heap}
/-! ### the conjugate -/
def cnt (sh : List Int) (c : Nat) : Int := ((sh.filter fun l => decide ((c : Int) < l)).length : Int)
def conj (sh : List Int) : List Int := (List.range (sh.getD 0 0).toNat).map (cnt sh)
def Noninc (sh : List Int) : Prop := ∀ i j, i ≤ j → j < sh.length → sh.getD j 0 ≤ sh.getD i 0
theorem cnt_eq {sh : List Int} {c h : Nat} (hs : Noninc sh) (hh : h ≤ sh.length) (h1 : 0 < h → (c : Int) < sh.getD (h - 1) 0) (h2 : h < sh.length → sh.getD h 0 ≤ (c : Int)) : cnt sh c = (h : Int) := by
  unfold cnt
  have e : sh.filter (fun l => decide ((c : Int) < l)) = sh.take h := by
    conv => lhs; rw [← List.take_append_drop h sh]
    rw [List.filter_append]
    have e1 : (sh.take h).filter (fun l => decide ((c : Int) < l)) = sh.take h := by
      rw [List.filter_eq_self]
      intro x hx
      obtain ⟨i, hi⟩ := List.mem_iff_getElem?.mp hx
      have hih : i < h := by
        have := (List.getElem?_eq_some_iff.mp hi).1
        rw [List.length_take] at this
        omega
      rw [List.getElem?_take_of_lt hih] at hi
      have := hs i (h - 1) (by omega) (by omega)
      rw [List.getD_eq_getElem?_getD (i := i), hi] at this
      have h3 := h1 (by omega)
      have : sh.getD (h - 1) 0 ≤ x := this
      exact decide_eq_true (by omega)
    have e2 : (sh.drop h).filter (fun l => decide ((c : Int) < l)) = [] := by
      rw [List.filter_eq_nil_iff]
      intro x hx
      obtain ⟨i, hi⟩ := List.mem_iff_getElem?.mp hx
      rw [List.getElem?_drop] at hi
      have hil := (List.getElem?_eq_some_iff.mp hi).1
      have := hs h (h + i) (by omega) hil
      rw [List.getD_eq_getElem?_getD (i := h + i), hi] at this
      have h3 := h2 (by omega)
      have : x ≤ sh.getD h 0 := this
      rw [decide_eq_true_iff]
      omega
    rw [e1, e2, List.append_nil]
  rw [e, List.length_take]
  omega
def spConj (K : PySem.W.Frag) : Sp := fun vs H Q _ => ∃ (v : V) (sh : List Int), vs = [v] ∧ Dp K H v (dR sh) ∧ Noninc sh ∧ sh.length ≤ 1000 ∧ (∀ x ∈ sh, 0 ≤ x ∧ x ≤ 20000) ∧ ∀ v' H2, Ex H H2 → Dp K (nw H H2) v' (dR (conj sh)) → Q v' H2
theorem range_map_succ {α : Type} (f : Nat → α) (k : Nat) : (List.range (k + 1)).map f = (List.range k).map f ++ [f k] := by
  rw [List.range_succ, List.map_append]
  rfl
theorem ok_conjugate (T : Txt K mg) : FnOk P w K mg base CX0 1 T.conjugate.f T.conjugate.fd ["shape"] (spConj K) := by
  refine T.conjugate.F.ok sc_conjugate (fun vs H Q E h => ?_) (fun cdv A outer s H vs Q E hr h => ?_)
  · obtain ⟨v, sh, rfl, _⟩ := h
    rfl
  · obtain ⟨v, sh, rfl, hv, hni, hl, hb, q⟩ := h
    have hvd := hv
    obtain ⟨p, rfl, hT⟩ := dp_R_inv hv
    refine ⟨_, (pss_cons (ps_set (i := 1) sc_conjugate.nd rfl (.inl rfl) (pe_lst pa_nil))
      (pss_cons (ps_for PassesOwn.never rfl (pi_range3 (by rfl) T.range (pa_cons (pe_callB call_len_seq (by rfl) T.len PySem.boot_len (pa_cons (pv 0) pa_nil)) (pa_cons pe_int (pa_cons (pe_un un_neg pe_int) pa_nil)))) (pg_name (i := 2) sc_conjugate.nd rfl (.inl rfl))
      (pss_one (ps_while PassesOwn.never (pt_cmpR op_lt (pe_callB call_len_seq (by rfl) T.len PySem.boot_len (pa_cons (pv 1) pa_nil)) (pe_ix ix_tup (pv 0) (pe_op op_sub (pv 2) pe_int) (fun _ _ => rfl)) (nomark _))
        (pss_one (ps_expr (pe_bm PySem.F.plainAttrs_list PySem.F.slot_list_append PySem.F.type_list_append mt_append (pv 1) (pa_cons (pv 2) pa_nil)))))))
      (pss_one (ps_ret (pe_callTy call_tuple_of (by rfl) T.tuple (by decide +kernel) (pa_cons (pv 1) pa_nil)))))), ?_⟩
    refine ⟨Nat.zero_le _, fun D nD => ?_⟩
    have eD := Ex.new (o := .lst []) nD
    refine ⟨_, rfl, p, _, rfl, .inr (Evl.ex_t eD hT), _, rfl, _, 0, -1, _, rfl, RgC.neg (by omega) (by rw [List.length_map]; omega) (by omega) (by omega), ?_⟩
    rw [List.length_map]
    -- the columns that are made behind i turns
    refine for_rangeC (lo := (sh.length : Int)) (c := -1) (n := ((sh.length : Int) - 0).toNat) (fun i σ H' => ∃ x2, σ = [some (.ref p), some (.ref D), x2] ∧ Ex H H' ∧ H' D = some (.lst (((List.range (if i = 0 then 0 else (sh.getD (sh.length - i) 0).toNat)).map (cnt sh)).map V.int)) ∧ i ≤ sh.length)
      ⟨none, rfl, eD, upd_same, Nat.zero_le _⟩ ?_ ?_
    · rintro i σ H1 hi ⟨x2, rfl, e1, hD1, hile⟩
      have hin : i < sh.length := by omega
      have ehh : (sh.length : Int) + (i : Int) * (-1) = ((sh.length - i : Nat) : Int) := by omega
      rw [ehh]
      generalize hm0 : (if i = 0 then 0 else (sh.getD (sh.length - i) 0).toNat) = m0 at hD1
      have hx := hb _ (List.mem_of_getElem? (getD_some' (ws := sh) (i := sh.length - i - 1) (by omega)))
      have hm1 : m0 ≤ (sh.getD (sh.length - i - 1) 0).toNat := by
        by_cases c : i = 0
        · rw [if_pos c] at hm0
          omega
        · rw [if_neg c] at hm0
          have := hni (sh.length - i - 1) (sh.length - i) (by omega) (by omega)
          omega
      have hm2 : sh.length - i < sh.length → sh.getD (sh.length - i) 0 ≤ (m0 : Int) := fun h => by
        have c : ¬ i = 0 := by omega
        rw [if_neg c] at hm0
        omega
      refine Evl.s_while (fun m σ' H' => ∃ k, m = (sh.getD (sh.length - i - 1) 0).toNat - k ∧ m0 ≤ k ∧ k ≤ (sh.getD (sh.length - i - 1) 0).toNat ∧ σ' = [some (.ref p), some (.ref D), some (.int ((sh.length - i : Nat) : Int))] ∧ Ex H H' ∧ H' D = some (.lst (((List.range k).map (cnt sh)).map V.int))) ((sh.getD (sh.length - i - 1) 0).toNat - m0) ⟨m0, rfl, Nat.le_refl _, hm1, rfl, e1, hD1⟩ ?_
      rintro m σ' H2 ⟨k, rfl, hk0, hk1, rfl, e2, hD2⟩
      have hDd : Dp K H2 (.ref D) (dW ((List.range k).map (cnt sh))) := dp_W (SqL.of hD2)
      have ht : EvB K emp (tOp (rI0 fun i j => .bl (decide (i < j))) (tCB (rLenS K) (tCons (tVar 1) tNil)) (tOp (rIxT K) (tVar 0) (tOp (rI0 fun i j => .int (i - j)) (tVar 2) (tC (.int 1))))) [some (.ref p), some (.ref D), some (.int ((sh.length - i : Nat) : Int))] H2 (.bool (decide ((k : Int) < sh.getD (sh.length - i - 1) 0))) := by
        have h1 := evb_len (evb_v (σ := [some (.ref p), some (.ref D), some (.int ((sh.length - i : Nat) : Int))]) (i := 1) rfl hDd) (B2 := emp)
        rw [List.length_map, List.length_map, List.length_range] at h1
        have h2 : EvB K emp (tOp (rI0 fun i j => .int (i - j)) (tVar 2) (tC (.int 1))) [some (.ref p), some (.ref D), some (.int ((sh.length - i : Nat) : Int))] H2 (.int (((sh.length - i : Nat) : Int) - 1)) := evb_ii (B := H2) (B' := H2) (g := fun i j => i - j) (evb_v rfl (.int _)) evb_int
        exact evb_ib (g := fun i j => decide (i < j)) h1 (evb_ixT (B := H2) (j := sh.length - i - 1) (evb_v rfl (hvd.mono e2)) h2 (by omega) (by rw [List.getElem?_map, getD_some' (by omega)]; rfl))
      refine ⟨_, evt_T ht, fun hbt H3 e3 => ?_, fun hbf H3 e3 => ?_⟩
      · have hkl := of_decide_eq_true hbt
        have hk2 : k < (sh.getD (sh.length - i - 1) 0).toNat := by omega
        refine ⟨fun σ2 H4 => ∃ k', m0 ≤ k' ∧ k' = k + 1 ∧ σ2 = [some (.ref p), some (.ref D), some (.int ((sh.length - i : Nat) : Int))] ∧ Ex H H4 ∧ H4 D = some (.lst (((List.range k').map (cnt sh)).map V.int)), ?_, ?_⟩
        · rintro σ2 H4 ⟨k', h1, rfl, rfl, h4, h5⟩
          exact ⟨(sh.getD (sh.length - i - 1) 0).toNat - (k + 1), by omega, k + 1, rfl, h1, by omega, rfl, h4, h5⟩
        · refine ⟨_, rfl, .inl ⟨rfl, _, SqL.of (e3 _ _ hD2)⟩, _, rfl, D, _, _, rfl, rfl, e3 _ _ hD2, szl (by rw [List.length_map, List.length_map, List.length_range]; omega), k + 1, by omega, rfl, rfl, Ex.mut (e2.trans e3) nD, ?_⟩
          rw [upd_same, range_map_succ, List.map_append]
          have : cnt sh k = ((sh.length - i : Nat) : Int) := cnt_eq hni (by omega) (fun _ => by omega) (fun h => by have := hm2 h; omega)
          rw [this]
          rfl
      · have hkl := of_decide_eq_false hbf
        have hk2 : k = (sh.getD (sh.length - i - 1) 0).toNat := by omega
        refine ⟨_, rfl, e2.trans e3, ?_, by omega⟩
        rw [if_neg (by omega), show sh.length - (i + 1) = sh.length - i - 1 by omega, ← hk2]
        exact e3 _ _ hD2
    · rintro σ H1 ⟨x2, rfl, e1, hD1, hile⟩
      have en : ((sh.length : Int) - 0).toNat = sh.length := by omega
      rw [en] at hD1
      have hcj : (List.range (if sh.length = 0 then 0 else (sh.getD (sh.length - sh.length) 0).toNat)).map (cnt sh) = conj sh := by
        unfold conj
        by_cases c : sh.length = 0
        · rw [if_pos c]
          have : sh = [] := List.length_eq_zero_iff.mp c
          subst this
          rfl
        · rw [if_neg c, Nat.sub_self]
      rw [hcj] at hD1
      exact qd_ret (evb_tupW (B := H1) (evb_v rfl (dp_W (SqL.of hD1))) (B2 := emp)) fun v2 H2 e2 hv2 => q _ _ (e1.trans e2) (hv2.mono (via_down e1))
/-! ### corners -/
def cornD (fs : List (List Int)) : List PyData := ((List.range fs.length).filter fun k => decide ((lens fs ++ [0]).getD (k + 1) 0 < (lens fs ++ [0]).getD k 0)).map fun (k : Nat) => .tuple [.int (k : Int), .int ((lens fs ++ [0]).getD k 0 - 1)]
theorem cornD_take (L : List Int) (n : Nat) : ((List.range (n + 1)).filter fun k => decide (L.getD (k + 1) 0 < L.getD k 0)).map (fun (k : Nat) => PyData.tuple [.int (k : Int), .int (L.getD k 0 - 1)]) =
    if decide (L.getD (n + 1) 0 < L.getD n 0) then ((List.range n).filter fun k => decide (L.getD (k + 1) 0 < L.getD k 0)).map (fun (k : Nat) => PyData.tuple [.int (k : Int), .int (L.getD k 0 - 1)]) ++ [.tuple [.int (n : Int), .int (L.getD n 0 - 1)]] else ((List.range n).filter fun k => decide (L.getD (k + 1) 0 < L.getD k 0)).map (fun (k : Nat) => PyData.tuple [.int (k : Int), .int (L.getD k 0 - 1)]) := by
  rw [List.range_succ, List.filter_append, List.map_append]
  cases c : decide (L.getD (n + 1) 0 < L.getD n 0) with
  | true =>
    rw [if_pos rfl, List.filter_cons, if_pos c]
    rfl
  | false =>
    rw [if_neg Bool.false_ne_true, List.filter_cons, if_neg (by rw [c]; decide)]
    simp
def spCorners (K : PySem.W.Frag) : Sp := fun vs H Q _ => ∃ (v : V) (fs : List (List Int)), vs = [v] ∧ Dp K H v (dT fs) ∧ Small fs ∧ ∀ v' H2, Ex H H2 → Dp K (nw H H2) v' (.list (cornD fs)) → Q v' H2
theorem lens_len (fs : List (List Int)) : (lens fs).length = fs.length := by unfold lens; rw [List.length_map]
theorem ok_corners (T : Txt K mg) : FnOk P w K mg base CX0 1 T.corners.f T.corners.fd ["table"] (spCorners K) := by
  refine T.corners.F.ok sc_corners (fun vs H Q E h => ?_) (fun cdv A outer s H vs Q E hr h => ?_)
  · obtain ⟨v, fs, rfl, _⟩ := h
    rfl
  · obtain ⟨v, fs, rfl, hv, hsm, q⟩ := h
    have hvd := hv
    refine ⟨_, (pss_cons (ps_set (i := 1) sc_corners.nd rfl (.inr rfl) (pe_op op_cat (pe_lc (g := (gName 2)) (tt := tYes) (te := (tCB (rLenS K) (tCons (tVar 2) tNil))) (own := [("row", 2)]) (by rfl) sc_corners.nd (pi_tup (pv 0)) (blkOk_by (own := [("row", 2)]) (N := N_corners) (sc := defScope s_corners) (by decide +kernel)) (fun _ _ _ _ _ => (pg_name (i := 2) sc_corners.nd rfl (.inl rfl))) (fun _ _ _ _ _ => pts_nil) (fun _ _ _ _ _ => (pe_callB call_len_seq (by rfl) T.len PySem.boot_len (pa_cons (pv 2) pa_nil)))) (pe_lst (pa_cons pe_int pa_nil))))
      (pss_one (ps_ret (pe_lc (g := (gName 2)) (tt := (tTest (tOp (rI0 fun i j => .bl (decide (i < j))) (tOp (rIxL K) (tVar 1) (tOp (rI0 fun i j => .int (i + j)) (tVar 2) (tC (.int 1)))) (tOp (rIxL K) (tVar 1) (tVar 2))))) (te := (tTup (tCons (tVar 2) (tCons (tOp (rI0 fun i j => .int (i - j)) (tOp (rIxL K) (tVar 1) (tVar 2)) (tC (.int 1))) tNil)))) (own := [("row", 2)]) (by rfl) sc_corners.nd (pi_range1 (by rfl) T.range (pa_cons (pe_callB call_len_seq (by rfl) T.len PySem.boot_len (pa_cons (pv 0) pa_nil)) pa_nil)) (blkOk_by (own := [("row", 2)]) (N := N_corners) (sc := defScope s_corners) (by decide +kernel)) (fun _ _ _ _ _ => (pg_name (i := 2) sc_corners.nd rfl (.inl rfl))) (fun _ _ _ _ _ => (pts_one (pt_cmpR op_lt (pe_ix ix_list (pv 1) (pe_op op_add (pv 2) pe_int) (fun _ _ => rfl)) (pe_ix ix_list (pv 1) (pv 2) (fun _ _ => rfl)) (nomark _)))) (fun _ _ _ _ _ => (pe_tup (pa_cons (pv 2) (pa_cons (pe_op op_sub (pe_ix ix_list (pv 1) (pv 2) (fun _ _ => rfl)) pe_int) pa_nil)))))))), ?_⟩
    cases hv with
    | @tup a xs _ hs ha =>
      have el : xs.length = fs.length := by rw [dp_len ha, List.length_map]
      refine ⟨_, rfl, a, rfl, ⟨_, hs⟩, fun D nD => ?_⟩
      refine lc_tup (xs := xs) (fun i H' => Cwd K emp H D ((lens (fs.take i)).map PyData.int) H') (cwd_start nD) (fun i H' _ p => Evl.ex_t p.2.1 hs) (fun i x H' hi p => ?_) fun H1 p => ?_
      · obtain ⟨d, hd, hx⟩ := dp_at ha hi
        obtain ⟨r, hr1, rfl⟩ := dT_at hd
        refine ⟨rfl, ?_⟩
        have hif : i < fs.length := (List.getElem?_eq_some_iff.mp hr1).1
        have ht : (lens (fs.take (i + 1))).map PyData.int = if true then (lens (fs.take i)).map PyData.int ++ [.int (r.length : Int)] else (lens (fs.take i)).map PyData.int := by
          unfold lens
          rw [if_pos rfl, List.take_add_one, hr1, List.map_append, List.map_append]
          rfl
        rw [ht]
        refine cwd_turn emp_ex p (by rw [List.length_map, lens_len, List.length_take]; have := hsm.1; omega) evt_yes fun _ => ?_
        have := evb_lenT (ds := r.map PyData.int) (B := H) (ta := tVar 2) (σ := [some (.ref a), none, some x]) (evb_v rfl hx) (B2 := emp)
        rw [List.length_map] at this
        exact this
      · rw [el, List.take_length] at p
        obtain ⟨p1, p2, vs1, p3, p4⟩ := p
        have evs := dp_ints_inv p4
        subst evs
        refine ⟨by show 1 ≤ sizeLine; decide, fun z nz => ?_⟩
        have zD : D ≠ z := ne_of_none p3 nz
        refine ⟨D, z, _, _, rfl, rfl, by rw [upd_ne zD]; exact p3, upd_same, sz (by rw [List.length_map, lens_len]; have := hsm.1; show fs.length + 1 ≤ 100000; omega), fun y ny => ?_⟩
        have e2 := (p2.trans (Ex.new (o := .lst [.int 0]) nz)).trans (Ex.new (o := .lst ((lens fs).map V.int ++ [V.int 0])) ny)
        have hy : Dp K (upd (upd H1 z (.lst [.int 0])) y (.lst ((lens fs).map V.int ++ [V.int 0]))) (.ref y) (dW (lens fs ++ [0])) := dp_W (SqL.of (by rw [upd_same, List.map_append]; rfl))
        generalize (upd (upd H1 z (.lst [.int 0])) y (.lst ((lens fs).map V.int ++ [V.int 0]))) = H2 at e2 hy
        have hLl : (lens fs ++ [0]).length = fs.length + 1 := by rw [List.length_append, lens_len]; rfl
        have at' : ∀ {σ : L2.St} {H3 : Hp} {te : TE} {j : Nat} {z : Int}, σ[1]? = some (some (.ref y)) → Ex H2 H3 → EvB K emp te σ H3 (.int z) → z = (j : Int) → j < fs.length + 1 → EvB K emp (tOp (rIxL K) (tVar 1) te) σ H3 (.int ((lens fs ++ [0]).getD j 0)) := fun h1 e3 hte hz hj =>
          (evb_ixL (B' := emp) (evb_v h1 (hy.mono e3)) hte hz (by rw [List.getElem?_map, getD_some' (by omega)]; rfl)).scal rfl
        have hlen0 : EvB K H2 (tCB (rLenS K) (tCons (tVar 0) tNil)) [some (.ref a), some (.ref y), none] H2 (.int (fs.length : Int)) := by
          have := evb_lenT (K := K) (B := H2) (ta := tVar 0) (σ := [some (.ref a), some (.ref y), none]) (evb_v rfl (hvd.mono e2)) (B2 := H2)
          rw [List.length_map] at this
          exact this
        have h1 := evb_lcR (K := K) (B := emp) (B' := H2) (H := H2) (σ := [some (.ref a), some (.ref y), none]) (tr := tCons (tCB (rLenS K) (tCons (tVar 0) tNil)) tNil) (j := 2) (vs := [2]) (t := tTest (tOp (rI0 fun i j => .bl (decide (i < j))) (tOp (rIxL K) (tVar 1) (tOp (rI0 fun i j => .int (i + j)) (tVar 2) (tC (.int 1)))) (tOp (rIxL K) (tVar 1) (tVar 2)))) (te := tTup (tCons (tVar 2) (tCons (tOp (rI0 fun i j => .int (i - j)) (tOp (rIxL K) (tVar 1) (tVar 2)) (tC (.int 1))) tNil))) (n := (fs.length : Int)) emp_ex (eva1 hlen0) (by have := hsm.1; omega) (fun _ => rfl)
          (fun n => ((List.range n).filter fun k => decide ((lens fs ++ [0]).getD (k + 1) 0 < (lens fs ++ [0]).getD k 0)).map fun (k : Nat) => .tuple [.int (k : Int), .int ((lens fs ++ [0]).getD k 0 - 1)]) rfl fun i H3 e3 hi => by
            refine ⟨decide ((lens fs ++ [0]).getD (i + 1) 0 < (lens fs ++ [0]).getD i 0), .tuple [.int (i : Int), .int ((lens fs ++ [0]).getD i 0 - 1)], ?_, fun _ => ?_, cornD_take _ _⟩
            · refine evt_T (B := emp) (evb_ib (B := emp) (B' := emp) (g := fun i j => decide (i < j)) (at' rfl e3 (evb_ii (B := H3) (B' := H3) (g := fun i j => i + j) (evb_v rfl (.int _)) evb_int) rfl (by omega)) (at' rfl e3 (evb_sv (H := H3) rfl (.int _) rfl) rfl (by omega)))
            · exact evb_tup (eva2 (evb_sv (H := H3) rfl (.int _) rfl) (evb_ii (B := emp) (B' := emp) (g := fun i j => i - j) (at' rfl e3 (evb_sv (H := H3) rfl (.int _) rfl) rfl (by omega)) evb_int)) (by show 2 ≤ 100000; decide)
        rw [Int.toNat_natCast] at h1
        exact qd_ret h1 fun v3 H3 e3 hv3 => q _ _ (e2.trans e3) (hv3.mono (via_down e2))
end

-- TUP _law_reading: table; row; table[::-1]
-- DEEP _law_reading: word + list(row)
-- TUP _law_holds: rows; rows[k]; rows[k - 1]
section
variable {P : Program} {w : World} {K : PySem.W.Frag} {mg : Str → Option Value} {base : Heap}
theorem lc2_revT {a : Addr} {xs : List V} {g g1 : TG} {tt tt1 : TT} {te : TE} {wi1 : TI} {vs vs1 : List Nat} {σ : L2.St} {H1 : Hp} {D : Addr} {Qd : Hp → Prop} (Pv : Nat → Hp → Prop) (h0 : Pv 0 (upd H1 D (.lst []))) (hl : ∀ i H, Pv i H → SqT K H a xs)
    (hs : ∀ i x H, i < xs.length → xs[xs.length - 1 - i]? = some x → Pv i H → g x (wipe σ vs) H fun σ2 H2 => wipe σ2 vs = wipe σ vs ∧ tt σ2 H2 fun b H3 =>
      if b = true then wi1 σ2 H3 fun J1 H4 => ∃ W1 : Nat → Nat → Hp → Prop, (∃ m, W1 0 m H4) ∧ ∀ j k H, W1 j k H →
        (J1.stop j H ∧ Pv (i + 1) H) ∨ (J1.go j H ∧ ∃ Nx1 : Hp → Prop, (∀ H', Nx1 H' → ∃ k', k' < k ∧ W1 (j + 1) k' H') ∧ ∀ x H', J1.yld j H x H' → g1 x (wipe σ2 vs1) H' fun σ3 H5 => wipe σ3 vs1 = wipe σ2 vs1 ∧ tt1 σ3 H5 fun b H6 =>
          if b = true then te σ3 H6 fun y H7 => ∃ acc, H7 D = some (.lst acc) ∧ acc.length < sizeLine ∧ Nx1 (upd H7 D (.lst (acc ++ [y]))) else Nx1 H6)
      else Pv (i + 1) H3) (hd : ∀ H, Pv xs.length H → Qd H) :
    ∃ W : Nat → Nat → Hp → Prop, (∃ m, W 0 m (upd H1 D (.lst []))) ∧ ∀ i m H, W i m H →
      ((RT.ItvT K a xs.length).stop i H ∧ Qd H) ∨ ((RT.ItvT K a xs.length).go i H ∧ ∃ Nx : Hp → Prop, (∀ H', Nx H' → ∃ m', m' < m ∧ W (i + 1) m' H') ∧ ∀ x H', (RT.ItvT K a xs.length).yld i H x H' → g x (wipe σ vs) H' fun σ2 H2 => wipe σ2 vs = wipe σ vs ∧ tt σ2 H2 fun b H3 =>
        if b = true then wi1 σ2 H3 fun J1 H4 => ∃ W1 : Nat → Nat → Hp → Prop, (∃ m, W1 0 m H4) ∧ ∀ j k H, W1 j k H →
          (J1.stop j H ∧ Nx H) ∨ (J1.go j H ∧ ∃ Nx1 : Hp → Prop, (∀ H', Nx1 H' → ∃ k', k' < k ∧ W1 (j + 1) k' H') ∧ ∀ x H', J1.yld j H x H' → g1 x (wipe σ2 vs1) H' fun σ3 H5 => wipe σ3 vs1 = wipe σ2 vs1 ∧ tt1 σ3 H5 fun b H6 =>
            if b = true then te σ3 H6 fun y H7 => ∃ acc, H7 D = some (.lst acc) ∧ acc.length < sizeLine ∧ Nx1 (upd H7 D (.lst (acc ++ [y]))) else Nx1 H6)
        else Nx H3) := by
  refine ⟨fun i m H => m = xs.length - i ∧ i ≤ xs.length ∧ Pv i H, ⟨xs.length, by simp, Nat.zero_le _, h0⟩, ?_⟩
  rintro i m H ⟨rfl, hi, p⟩
  have q := hl i H p
  by_cases hlt : i < xs.length
  · have hx : xs[xs.length - 1 - i]? = some xs[xs.length - 1 - i] := List.getElem?_eq_getElem (by omega)
    refine .inr ⟨⟨hlt, xs, _, q, hx⟩, Pv (i + 1), fun H' p' => ⟨xs.length - (i + 1), by omega, rfl, hlt, p'⟩, fun x H' y => ?_⟩
    obtain ⟨e, y⟩ := y
    subst e
    exact hs i x _ hlt (y xs q) p
  · have e : i = xs.length := by omega
    subst e
    exact .inl ⟨Nat.le_refl _, hd H p⟩
def spReading (K : PySem.W.Frag) : Sp := fun vs H Q _ => ∃ (v : V) (fs : List (List Int)), vs = [v] ∧ Dp K H v (dT fs) ∧ Small fs ∧ ∀ v' H2, Ex H H2 → Dp K (nw H H2) v' (dW fs.reverse.flatten) → Q v' H2
theorem rev_take {fs : List (List Int)} {i : Nat} {r : List Int} (hi : i < fs.length) (h : fs[fs.length - 1 - i]? = some r) : fs.reverse.take (i + 1) = fs.reverse.take i ++ [r] := by
  rw [List.take_add_one, List.getElem?_reverse hi, h]
  rfl
theorem flat_le {fs : List (List Int)} (n : Nat) : ((fs.reverse.take n).flatten).length ≤ fs.flatten.length := by
  have e : fs.reverse.flatten.length = fs.flatten.length := by
    rw [List.length_flatten, List.length_flatten, List.map_reverse, List.sum_reverse]
  rw [← e]
  conv => rhs; rw [← List.take_append_drop n fs.reverse]
  rw [List.flatten_append, List.length_append]
  omega
theorem ok_reading_word (T : Txt K mg) : FnOk P w K mg base CX0 1 T.reading_word.f T.reading_word.fd ["table"] (spReading K) := by
  refine T.reading_word.F.ok sc_reading_word (fun vs H Q E h => ?_) (fun cdv A outer s H vs Q E hr h => ?_)
  · obtain ⟨v, fs, rfl, _⟩ := h
    rfl
  · obtain ⟨v, fs, rfl, hv, hsm, q⟩ := h
    refine ⟨_, (pss_one (ps_ret (pe_lc2 (g := (gName 1)) (tt := tYes) (g1 := (gName 2)) (tt1 := tYes) (te := (tVar 2)) (wi1 := (iTup K (tVar 1))) (own := [("row", 1), ("letter", 2)]) (vs1 := [2]) (by rfl) sc_reading_word.nd (RT.pi_revA (by rfl) T.reversed (pv 0)) (blkOk_by (own := [("row", 1), ("letter", 2)]) (N := N_reading_word) (sc := defScope s_reading_word) (by decide +kernel)) (by decide) (fun _ _ _ _ _ => (pg_name (i := 1) sc_reading_word.nd rfl (.inl rfl))) (fun _ _ _ _ _ => pts_nil) (fun _ _ _ _ _ => (pi_tup (pv 1))) (fun _ _ _ _ _ => (pg_name (i := 2) sc_reading_word.nd rfl (.inl rfl))) (fun _ _ _ _ _ => pts_nil) (fun _ _ _ _ _ => (pv 2))))), ?_⟩
    cases hv with
    | @tup a xs _ hs ha =>
      have el : xs.length = fs.length := by rw [dp_len ha, List.length_map]
      refine ⟨_, rfl, a, xs, rfl, .inr ⟨hs, fun D nD => ?_⟩⟩
      refine lc2_revT (xs := xs) (fun i H' => Cwd K emp H D (((fs.reverse.take i).flatten).map PyData.int) H') (cwd_start nD) (fun i H' p => Evl.ex_t p.2.1 hs) (fun i x H' hi hx p => ?_) fun H1 p => ?_
      · obtain ⟨d, hd, hx2⟩ := dp_at ha hx
        obtain ⟨r, hr1, rfl⟩ := dT_at hd
        rw [el] at hi hr1
        obtain ⟨b, rfl, hb⟩ := dp_R_inv hx2
        have hrt := rev_take hi hr1
        refine ⟨rfl, ?_⟩
        refine iteT (B := Cwd K emp H D (((fs.reverse.take (i + 1)).flatten).map PyData.int) H') ?_
        refine ⟨_, rfl, b, rfl, ⟨_, Evl.ex_t p.2.1 hb⟩, ?_⟩
        refine lcin_tup (xs := r.map V.int) (fun j H' => Cwd K emp H D (((fs.reverse.take i).flatten ++ r.take j).map PyData.int) H') (by rw [List.take_zero, List.append_nil]; exact p) (fun j H' _ p => Evl.ex_t p.2.1 hb) (fun j y H' hj p2 => ?_) fun H' p2 => ?_
        · obtain ⟨z, hz, rfl⟩ := mapAt' hj
          refine ⟨rfl, ?_⟩
          have ht : ((fs.reverse.take i).flatten ++ r.take (j + 1)).map PyData.int = if true then ((fs.reverse.take i).flatten ++ r.take j).map PyData.int ++ [.int z] else ((fs.reverse.take i).flatten ++ r.take j).map PyData.int := by
            rw [if_pos rfl, List.take_add_one, hz, ← List.append_assoc, List.map_append (l₂ := (some z).toList)]
            rfl
          rw [ht]
          refine cwd_turn emp_ex p2 ?_ evt_yes fun _ => evb_sv (H := H) rfl (.int z) rfl
          have h1 := flat_le (fs := fs) (i + 1)
          rw [hrt, List.flatten_append, List.length_append, show [r].flatten.length = r.length by simp] at h1
          have h2 := hsm.2
          rw [List.length_map, List.length_append, List.length_take]
          omega
        · rw [List.length_map, List.take_length] at p2
          rw [hrt, List.flatten_append]
          simpa using p2
      · rw [el] at p
        have e : fs.reverse.take fs.length = fs.reverse := List.take_of_length_le (by rw [List.length_reverse]; exact Nat.le_refl _)
        rw [e] at p
        obtain ⟨p1, p2⟩ := cwd_end p
        exact q _ _ p1 p2
theorem ok_law_reading (T : Txt K mg) : FnOk P w K mg base CX0 1 T.law_reading.f T.law_reading.fd ["table"] (spReading K) := by
  refine T.law_reading.F.ok sc_law_reading (fun vs H Q E h => ?_) (fun cdv A outer s H vs Q E hr h => ?_)
  · obtain ⟨v, fs, rfl, _⟩ := h
    rfl
  · obtain ⟨v, fs, rfl, hv, hsm, q⟩ := h
    refine ⟨_, (pss_cons (ps_set (i := 1) sc_law_reading.nd rfl (.inl rfl) (pe_lst pa_nil))
      (pss_cons (ps_for PassesOwn.never rfl (pi_tup (pe_revT (pv 0))) (pg_name (i := 2) sc_law_reading.nd rfl (.inl rfl))
      (pss_one (ps_set (i := 1) sc_law_reading.nd rfl (.inl rfl) (pe_op op_cat (pv 1) (pe_callTy call_list_of (by rfl) T.list (by decide +kernel) (pa_cons (pv 2) pa_nil))))))
      (pss_one (ps_ret (pv 1))))), ?_⟩
    cases hv with
    | @tup a xs _ hs ha =>
      have el : xs.length = fs.length := by rw [dp_len ha, List.length_map]
      refine ⟨Nat.zero_le _, fun D nD => ?_⟩
      refine ⟨_, rfl, a, xs, rfl, Evl.ex_t (Ex.new nD) hs, fun z nz => ⟨z, rfl, ⟨_, SqT.of upd_same⟩, ?_⟩⟩
      have Dz : D ≠ z := ne_of_none upd_same nz
      refine for_tup (K := K) (a := z) (xs := xs.reverse) (fun i σ H' => ∃ W x2, σ = [some (.ref a), some (.ref W), x2] ∧ H W = none ∧ H' W = some (.lst (((fs.reverse.take i).flatten).map V.int)) ∧ Ex H H' ∧ H' z = some (.tup xs.reverse)) ⟨D, none, rfl, nD, by rw [upd_ne Dz]; exact upd_same, (Ex.new nD).trans (Ex.new nz), upd_same⟩ (fun i σ H' _ ⟨_, _, _, _, _, _, h⟩ => SqT.of h) ?_ ?_
      · rintro i x σ H1 hi ⟨W, x2, rfl, nW, hW, e1, hz1⟩
        have hil : i < xs.length := by
          have := (List.getElem?_eq_some_iff.mp hi).1
          rw [List.length_reverse] at this
          exact this
        rw [List.getElem?_reverse hil] at hi
        obtain ⟨d, hd, hx⟩ := dp_at ha hi
        obtain ⟨r, hr1, rfl⟩ := dT_at hd
        rw [el] at hil hr1
        obtain ⟨b, rfl, hb⟩ := dp_R_inv hx
        have hrt := rev_take hil hr1
        have h1 := flat_le (fs := fs) (i + 1)
        rw [hrt, List.flatten_append, List.length_append, show [r].flatten.length = r.length by simp] at h1
        have h2 := hsm.2
        refine ⟨_, rfl, _, rfl, b, _, rfl, .inr (Evl.ex_t e1 hb), fun l nl => ?_⟩
        have Wl : W ≠ l := ne_of_none hW nl
        refine ⟨W, l, _, _, rfl, rfl, by rw [upd_ne Wl]; exact hW, upd_same, sz (by rw [List.length_map, List.length_map]; omega), fun y ny => ?_⟩
        have e2 : Ex H (upd (upd H1 l (.lst (r.map V.int))) y (.lst (((fs.reverse.take i).flatten).map V.int ++ r.map V.int))) := (e1.trans (Ex.new nl)).trans (Ex.new ny)
        have ny0 : H y = none := Evl.fresh_back (e1.trans (Ex.new nl)) ny
        refine ⟨y, _, rfl, ny0, ?_, e2, Ex.new ny _ _ (Ex.new nl _ _ hz1)⟩
        rw [upd_same, hrt, List.flatten_append]
        simp
      · rintro σ H1 ⟨W, x2, rfl, nW, hW, e1, hz1⟩
        have e : fs.reverse.take fs.length = fs.reverse := List.take_of_length_le (by rw [List.length_reverse]; exact Nat.le_refl _)
        rw [List.length_reverse, el, e] at hW
        exact ⟨_, rfl, q _ _ e1 (dp_W (Evl.sq_of (via_new nW hW)))⟩
end

-- TUP _law_spoilt: table; row
-- CUT _law_spoilt: 3 6 8 11 13
section
variable {P : Program} {w : World} {K : PySem.W.Frag} {mg : Str → Option Value} {base : Heap}
/-! ### records -/
def rgI (n : Nat) : List Int := (List.range n).map fun (i : Nat) => 1 + (i : Int)
theorem rgV_eq (n : Nat) : rgV 1 ((n : Int) + 1) = (rgI n).map V.int := by
  unfold rgV rgI
  rw [show ((n : Int) + 1 - 1).toNat = n by omega, List.map_map]
  rfl
theorem rgI_len (n : Nat) : (rgI n).length = n := by unfold rgI; rw [List.length_map, List.length_range]
theorem rgI_sorted (n : Nat) : (rgI n).Pairwise (· ≤ ·) := by
  unfold rgI
  rw [List.pairwise_map]
  refine List.Pairwise.imp (R := (· < ·)) (fun h => by omega) List.pairwise_lt_range
def Rec (l : List Int) : Prop := l.Perm (rgI l.length)
theorem rec_iff {l ns : List Int} (p : ns.Perm l) (s : ns.Pairwise (· ≤ ·)) : ns = rgI l.length ↔ Rec l := by
  constructor
  · intro e
    exact p.symm.trans (by rw [e])
  · intro r
    exact PySem.W.ksm_same (p.trans r) s (rgI_sorted _)
def spRecord (K : PySem.W.Frag) : Sp := fun vs H Q _ => ∃ (v : V) (fs : List (List Int)), vs = [v] ∧ Dp K H v (dT fs) ∧ Small fs ∧ RetV (.bl (pB (Rec fs.reverse.flatten))) H Q
theorem rev_flat_len (fs : List (List Int)) : fs.reverse.flatten.length = fs.flatten.length := by
  rw [List.length_flatten, List.length_flatten, List.map_reverse, List.sum_reverse]
theorem ok_is_record (T : Txt K mg) : FnOk P w K mg base CX0 2 T.is_record.f T.is_record.fd ["table"] (spRecord K) := by
  refine T.is_record.F.ok sc_is_record (fun vs H Q E h => ?_) (fun cdv A outer s H vs Q E hr h => ?_)
  · obtain ⟨v, fs, rfl, _⟩ := h
    rfl
  · obtain ⟨v, fs, rfl, hv, hsm, q⟩ := h
    refine ⟨_, (pss_cons (ps_set (i := 1) sc_is_record.nd rfl (.inl rfl) (pe_call (ok_reading_word T) (hr.mono (by decide)) rfl T.reading_word.g T.reading_word.F.kp T.reading_word.b .nil pass0 (pa_cons (pv 0) pa_nil)))
      (pss_one (ps_ret (pe_cmpR (op_eqD hr.units) (pe_callB cr_sortedI (by rfl) T.sorted (by decide +kernel) (pa_cons (pv 1) pa_nil)) (pe_listRg (te := tRg2 (tC (.int 1)) (tOp (rI0 fun i j => .int (i + j)) (tCB (rLenS K) (tCons (tVar 1) tNil)) (tC (.int 1)))) (by rfl) (by rfl) T.list (by exact (prg_2 (by rfl) T.range pe_int (pe_op op_add (pe_callB call_len_seq (by rfl) T.len PySem.boot_len (pa_cons (pv 1) pa_nil)) pe_int)))) (nomark _))))), ?_⟩
    refine ⟨_, rfl, _, fs, rfl, hv, hsm, fun v2 H2 e2 hv2 => ?_⟩
    obtain ⟨p, rfl, hp⟩ := dp_W_inv (hv2.mono via_le)
    have hl : fs.reverse.flatten.length ≤ 20000 := by rw [rev_flat_len]; exact hsm.2
    generalize fs.reverse.flatten = l at *
    refine ⟨_, rfl, p, _, rfl, hp, fun ns z perm srt nz => ?_⟩
    have e3 := Ex.new (o := .lst (ns.map V.int)) nz
    refine ⟨_, rfl, p, _, rfl, .inl (Evl.ex_l e3 hp), _, _, rfl, rfl, _, _, rfl, rfl, RgOk.of_le (by omega) (by rw [List.length_map]; omega) (by omega) (by omega), fun y ny => ?_⟩
    rw [List.length_map, rgV_eq]
    have e4 := Ex.new (o := .lst ((rgI l.length).map V.int)) ny
    refine eq_data (d := dW ns) (e := dW (rgI l.length)) (dp_W (SqL.of (e4 _ _ upd_same))) (dp_W (SqL.of upd_same)) (pur_W _) (pur_W _) (by decide) (by decide) (fun h => ?_) (fun h => ?_)
    · have := q _ (e2.trans (e3.trans e4))
      rw [pB_t ((rec_iff perm srt).mp (dW_inj h))] at this
      exact this
    · have := q _ (e2.trans (e3.trans e4))
      rw [pB_f (fun g => h (congrArg dW ((rec_iff perm srt).mpr g)))] at this
      exact this
/-! ### what a table is, in the law's words -/
theorem mono_pairwise {r : List Int} (h : ∀ j, 0 < j → j < r.length → r.getD (j - 1) 0 ≤ r.getD j 0) : r.Pairwise (· ≤ ·) := by
  rw [List.pairwise_iff_getElem]
  have k : ∀ d i, i + d < r.length → r.getD i 0 ≤ r.getD (i + d) 0 := fun d => by
    induction d with
    | zero => intro i _; exact Int.le_refl _
    | succ d ih =>
      intro i hi
      have h1 := ih i (by omega)
      have h2 := h (i + (d + 1)) (by omega) hi
      rw [show i + (d + 1) - 1 = i + d by omega] at h2
      omega
  intro i j hi hj hij
  have := k (j - i) i (by omega)
  rw [show i + (j - i) = j by omega] at this
  rw [List.getD_eq_getElem?_getD, List.getD_eq_getElem?_getD, List.getElem?_eq_getElem hi, List.getElem?_eq_getElem hj] at this
  exact this
theorem pairwise_mono {r : List Int} (h : r.Pairwise (· ≤ ·)) {j : Nat} (h0 : 0 < j) (hj : j < r.length) : r.getD (j - 1) 0 ≤ r.getD j 0 := by
  rw [List.pairwise_iff_getElem] at h
  have := h (j - 1) j (by omega) hj (by omega)
  rw [List.getD_eq_getElem?_getD, List.getD_eq_getElem?_getD, List.getElem?_eq_getElem hj, List.getElem?_eq_getElem (show j - 1 < r.length by omega)]
  exact this
def Upto (fs : List (List Int)) (k : Nat) : Prop := ∀ i, i < k → i < fs.length → rowOk (fs.getD i []) ∧ (0 < i → below (fs.getD i []) (fs.getD (i - 1) []))
theorem upto_tab {fs : List (List Int)} (h : Upto fs fs.length) : IsTab fs := by
  refine ⟨fun r hr => ?_, fun k hk => ?_⟩
  · obtain ⟨i, hi⟩ := List.mem_iff_getElem?.mp hr
    have hl := (List.getElem?_eq_some_iff.mp hi).1
    have := (h i hl hl).1
    rw [List.getD_eq_getElem?_getD, hi] at this
    exact this
  · have := (h (k + 1) hk hk).2 (by omega)
    rw [Nat.add_sub_cancel] at this
    exact this
theorem tab_upto {fs : List (List Int)} (h : IsTab fs) : Upto fs fs.length := fun i hi _ => by
  refine ⟨h.1 _ ?_, fun h0 => ?_⟩
  · rw [List.getD_eq_getElem?_getD, List.getElem?_eq_getElem hi]
    exact List.getElem_mem hi
  · have := h.2 (i - 1) (by omega)
    rw [show i - 1 + 1 = i by omega] at this
    exact this
theorem ok_law_holds (T : Txt K mg) : FnOk P w K mg base CX0 1 T.law_holds.f T.law_holds.fd ["rows"] (spIsTab K) := by
  refine T.law_holds.F.ok sc_law_holds (fun vs H Q E h => ?_) (fun cdv A outer s H vs Q E hr h => ?_)
  · obtain ⟨v, fs, rfl, _⟩ := h
    rfl
  · obtain ⟨v, fs, rfl, hv, hsm, q⟩ := h
    refine ⟨_, (pss_cons (ps_for PassesOwn.never rfl (pi_range1 (by rfl) T.range (pa_cons (pe_callB call_len_seq (by rfl) T.len PySem.boot_len (pa_cons (pv 0) pa_nil)) pa_nil)) (pg_name (i := 1) sc_law_holds.nd rfl (.inl rfl))
      (pss_cons (ps_if (PW.pt (pw_or (pt_cmpR op_eq (pe_callB call_len_seq (by rfl) T.len PySem.boot_len (pa_cons (pe_ix ix_tup (pv 0) (pv 1) (fun _ _ => rfl)) pa_nil)) pe_int (nomark _)) (pw_or1 (PW.pt (pw_and (pt_cmpR op_gt (pv 1) pe_int (nomark _)) (pw_and1 (pt_cmpR op_gt (pe_callB call_len_seq (by rfl) T.len PySem.boot_len (pa_cons (pe_ix ix_tup (pv 0) (pv 1) (fun _ _ => rfl)) pa_nil)) (pe_callB call_len_seq (by rfl) T.len PySem.boot_len (pa_cons (pe_ix ix_tup (pv 0) (pe_op op_sub (pv 1) pe_int) (fun _ _ => rfl)) pa_nil)) (nomark _))))))))
        (pss_one (ps_ret pe_bl))
        pss_nil)
        (pss_one (ps_for PassesOwn.never rfl (pi_range1 (by rfl) T.range (pa_cons (pe_callB call_len_seq (by rfl) T.len PySem.boot_len (pa_cons (pe_ix ix_tup (pv 0) (pv 1) (fun _ _ => rfl)) pa_nil)) pa_nil)) (pg_name (i := 2) sc_law_holds.nd rfl (.inl rfl))
        (pss_one (ps_if (PW.pt (pw_or (PW.pt (pw_and (pt_cmpR op_gt (pv 2) pe_int (nomark _)) (pw_and1 (pt_cmpR op_lt (pe_ix ix_tup (pe_ix ix_tup (pv 0) (pv 1) (fun _ _ => rfl)) (pv 2) (fun _ _ => rfl)) (pe_ix ix_tup (pe_ix ix_tup (pv 0) (pv 1) (fun _ _ => rfl)) (pe_op op_sub (pv 2) pe_int) (fun _ _ => rfl)) (nomark _))))) (pw_or1 (PW.pt (pw_and (pt_cmpR op_gt (pv 1) pe_int (nomark _)) (pw_and1 (pt_cmpR op_le (pe_ix ix_tup (pe_ix ix_tup (pv 0) (pv 1) (fun _ _ => rfl)) (pv 2) (fun _ _ => rfl)) (pe_ix ix_tup (pe_ix ix_tup (pv 0) (pe_op op_sub (pv 1) pe_int) (fun _ _ => rfl)) (pv 2) (fun _ _ => rfl)) (nomark _))))))))
          (pss_one (ps_ret pe_bl))
          pss_nil))))))
      (pss_one (ps_ret pe_bl))), ?_⟩
    cases hv with
    | @tup a xs _ hs ha =>
      have el : xs.length = fs.length := by rw [dp_len ha, List.length_map]
      have no : ¬ IsTab fs → Q (.bl false) H := fun ng => by
        have := q _ (Ex.refl H)
        rw [pB_f ng] at this
        exact this
      -- a row of the tuple
      have rowAt : ∀ k, k < fs.length → ∃ b, xs[k]? = some (.ref b) ∧ SqT K H b ((fs.getD k []).map V.int) := fun k hk => by
        obtain ⟨x, hx, hxd⟩ := dp_at' ha (show (fs.map dR)[k]? = some (dR (fs.getD k [])) by
          rw [List.getElem?_map, List.getD_eq_getElem?_getD, List.getElem?_eq_getElem hk]
          rfl)
        obtain ⟨b, rfl, hb⟩ := dp_R_inv hxd
        exact ⟨b, hx, hb⟩
      have lenAt : ∀ k, k < fs.length → (fs.getD k []).length ≤ 20000 := fun k hk => hsm.mem (by
        rw [List.getD_eq_getElem?_getD, List.getElem?_eq_getElem hk]
        exact List.getElem_mem hk)
      refine ⟨_, rfl, a, _, rfl, .inr hs, _, rfl, by omega, by rw [el]; have := hsm.1; omega, ?_⟩
      refine for_range (lo := 0) (n := ((xs.length : Nat) : Int).toNat) (fun k σ H' => ∃ x1 x2, σ = [some (.ref a), x1, x2] ∧ H' = H ∧ Upto fs k) ⟨none, none, rfl, rfl, fun i h => by omega⟩ ?_ ?_
      · rintro k σ H1 hk ⟨x1, x2, rfl, rfl, hup⟩
        rw [Int.toNat_natCast, el] at hk
        rw [show (0 : Int) + (k : Int) = (k : Int) from Int.zero_add _]
        obtain ⟨b, hb1, hb2⟩ := rowAt k hk
        have hkl := lenAt k hk
        have bad : ∀ {p : Prop}, (IsTab fs → p) → ¬ p → ¬ IsTab fs := fun f n g => n (f g)
        -- len(rows[k]) == 0
        refine ⟨_, rfl, _, rfl, a, _, _, _, rfl, rfl, hs, atI_nat hb1, b, _, rfl, .inr hb2, rfl, _, rfl, ?_⟩
        by_cases c1 : (V.int (((fs.getD k []).map V.int).length : Int)) = V.int 0
        · refine ifT (decide_eq_true c1) (iteT (no (bad (fun g => (tab_upto g k hk hk).1.1) (fun h => h ?_))))
          rw [List.length_map] at c1
          have := V.int.inj c1
          exact List.length_eq_zero_iff.mp (by omega)
        refine ifF (decide_eq_false c1) ?_
        have hne : fs.getD k [] ≠ [] := fun h => c1 (by rw [h]; rfl)
        -- k > 0 and len(rows[k]) > len(rows[k - 1])
        have up : 0 < k → ∃ b', xs[k - 1]? = some (.ref b') ∧ SqT K H1 b' ((fs.getD (k - 1) []).map V.int) := fun h => rowAt (k - 1) (by omega)
        have cont : (0 < k → (fs.getD k []).length ≤ (fs.getD (k - 1) []).length) → ∀ D : Ends, D.rt = Q → D.nx = (fun σ H' => ∃ x1 x2, σ = [some (.ref a), x1, x2] ∧ H' = H1 ∧ Upto fs (k + 1)) →
            (tFor (iRng1 (tCons (tCB (rLenS K) (tCons (tOp (rIxT K) (tVar 0) (tVar 1)) tNil)) tNil)) (gName 2)
              (tIfS (tOr (tAnd (tTest (tOp (rI0 fun i j => .bl (decide (j < i))) (tVar 2) (tC (.int 0)))) (tTest (tOp (rI0 fun i j => .bl (decide (i < j))) (tOp (rIxT K) (tOp (rIxT K) (tVar 0) (tVar 1)) (tVar 2)) (tOp (rIxT K) (tOp (rIxT K) (tVar 0) (tVar 1)) (tOp (rI0 fun i j => .int (i - j)) (tVar 2) (tC (.int 1)))))))
                (tAnd (tTest (tOp (rI0 fun i j => .bl (decide (j < i))) (tVar 1) (tC (.int 0)))) (tTest (tOp (rI0 fun i j => .bl (decide (i ≤ j))) (tOp (rIxT K) (tOp (rIxT K) (tVar 0) (tVar 1)) (tVar 2)) (tOp (rIxT K) (tOp (rIxT K) (tVar 0) (tOp (rI0 fun i j => .int (i - j)) (tVar 1) (tC (.int 1)))) (tVar 2))))))
                (tRet (tC (.bl false))) tNext)) D [some (.ref a), some (.int (k : Int)), x2] H1 := by
          intro hlen D eD1 eD2
          refine ⟨_, rfl, _, rfl, a, _, _, _, rfl, rfl, hs, atI_nat hb1, b, _, rfl, .inr hb2, _, rfl, by omega, by rw [List.length_map]; omega, ?_⟩
          refine for_range (lo := 0) (n := ((((fs.getD k []).map V.int).length : Nat) : Int).toNat) (fun m σ H' => ∃ x2, σ = [some (.ref a), some (.int (k : Int)), x2] ∧ H' = H1 ∧ ∀ j, j < m → (0 < j → (fs.getD k []).getD (j - 1) 0 ≤ (fs.getD k []).getD j 0) ∧ (0 < k → (fs.getD (k - 1) []).getD j 0 < (fs.getD k []).getD j 0)) ⟨x2, rfl, rfl, fun j h => by omega⟩ ?_ ?_
          · rintro m σ H2 hm ⟨x2', rfl, rfl, hmm⟩
            rw [Int.toNat_natCast, List.length_map] at hm
            rw [show (0 : Int) + (m : Int) = (m : Int) from Int.zero_add _]
            have am : atI ((fs.getD k []).map V.int) (m : Int) = some (.int ((fs.getD k []).getD m 0)) := atI_nat (mapAt (getD_some' hm))
            have second : (0 < m → (fs.getD k []).getD (m - 1) 0 ≤ (fs.getD k []).getD m 0) →
                (tAnd (tTest (tOp (rI0 fun i j => .bl (decide (j < i))) (tVar 1) (tC (.int 0)))) (tTest (tOp (rI0 fun i j => .bl (decide (i ≤ j))) (tOp (rIxT K) (tOp (rIxT K) (tVar 0) (tVar 1)) (tVar 2)) (tOp (rIxT K) (tOp (rIxT K) (tVar 0) (tOp (rI0 fun i j => .int (i - j)) (tVar 1) (tC (.int 1)))) (tVar 2))))) [some (.ref a), some (.int (k : Int)), some (.int (m : Int))] H2 (fun b H' => if b = true then Q (.bl false) H' else ∃ x2, [some (V.ref a), some (.int (k : Int)), some (.int (m : Int))] = [some (.ref a), some (.int (k : Int)), x2] ∧ H' = H2 ∧ ∀ j, j < m + 1 → (0 < j → (fs.getD k []).getD (j - 1) 0 ≤ (fs.getD k []).getD j 0) ∧ (0 < k → (fs.getD (k - 1) []).getD j 0 < (fs.getD k []).getD j 0)) := by
              intro hrow
              have fin : (0 < k → (fs.getD (k - 1) []).getD m 0 < (fs.getD k []).getD m 0) → ∃ x2, [some (V.ref a), some (.int (k : Int)), some (.int (m : Int))] = [some (.ref a), some (.int (k : Int)), x2] ∧ H2 = H2 ∧ ∀ j, j < m + 1 → (0 < j → (fs.getD k []).getD (j - 1) 0 ≤ (fs.getD k []).getD j 0) ∧ (0 < k → (fs.getD (k - 1) []).getD j 0 < (fs.getD k []).getD j 0) := fun hc => ⟨_, rfl, rfl, fun j hj => by
                by_cases c : j < m
                · exact hmm j c
                · have : j = m := by omega
                  subst this
                  exact ⟨hrow, hc⟩⟩
              refine ⟨_, rfl, _, _, rfl, rfl, _, rfl, ?_⟩
              by_cases k0 : (0 : Int) < (k : Int)
              · refine ifT (decide_eq_true k0) ?_
                obtain ⟨b', hb1', hb2'⟩ := up (by omega)
                have hmu : m < (fs.getD (k - 1) []).length := by have := hlen (by omega); omega
                have am' : atI ((fs.getD (k - 1) []).map V.int) (m : Int) = some (.int ((fs.getD (k - 1) []).getD m 0)) := atI_nat (mapAt (getD_some' hmu))
                refine ⟨_, rfl, _, rfl, a, _, _, _, rfl, rfl, hs, atI_nat hb1, _, rfl, b, _, _, _, rfl, rfl, hb2, am, _, rfl, _, rfl, _, _, rfl, rfl, a, _, _, _, rfl, rfl, hs, at_of (j := k - 1) (by omega) hb1', _, rfl, b', _, _, _, rfl, rfl, hb2', am', _, _, rfl, rfl, _, rfl, ?_⟩
                by_cases c : (fs.getD k []).getD m 0 ≤ (fs.getD (k - 1) []).getD m 0
                · refine ifT (decide_eq_true c) (no (bad (fun g => ((tab_upto g k hk hk).2 (by omega)).2 m hm) (by omega)))
                · exact ifF (decide_eq_false c) (fin fun _ => by omega)
              · exact ifF (decide_eq_false k0) (iteF (fin fun h => absurd h (by omega)))
            refine ⟨_, rfl, _, _, rfl, rfl, _, rfl, ?_⟩
            by_cases m0 : (0 : Int) < (m : Int)
            · refine ifT (decide_eq_true m0) ?_
              have am1 : atI ((fs.getD k []).map V.int) ((m : Int) - 1) = some (.int ((fs.getD k []).getD (m - 1) 0)) := at_of (j := m - 1) (by omega) (mapAt (getD_some' (by omega)))
              refine ⟨_, rfl, _, rfl, a, _, _, _, rfl, rfl, hs, atI_nat hb1, _, rfl, b, _, _, _, rfl, rfl, hb2, am, _, rfl, _, rfl, a, _, _, _, rfl, rfl, hs, atI_nat hb1, _, rfl, _, _, rfl, rfl, b, _, _, _, rfl, rfl, hb2, am1, _, _, rfl, rfl, _, rfl, ?_⟩
              by_cases c : (fs.getD k []).getD m 0 < (fs.getD k []).getD (m - 1) 0
              · refine ifT (decide_eq_true c) (iteT ?_)
                show D.rt (.bl false) H2
                rw [eD1]
                exact no (bad (fun g => pairwise_mono (tab_upto g k hk hk).1.2 (by omega) hm) (by omega))
              · refine ifF (decide_eq_false c) ?_
                have := second fun _ => by omega
                rw [← eD1] at this
                exact this
            · refine ifF (decide_eq_false m0) ?_
              refine iteF ?_
              have := second fun h => absurd h (by omega)
              rw [← eD1] at this
              exact this
          · rintro σ H2 ⟨x2', rfl, rfl, hmm⟩
            rw [Int.toNat_natCast, List.length_map] at hmm
            rw [eD2]
            refine ⟨_, _, rfl, rfl, fun i hi hil => ?_⟩
            by_cases c : i < k
            · exact hup i c hil
            · have : i = k := by omega
              subst this
              exact ⟨⟨hne, mono_pairwise fun j h0 hj => (hmm j hj).1 h0⟩, fun h0 => ⟨hlen h0, fun m hm => (hmm m hm).2 h0⟩⟩
        refine ⟨_, rfl, _, _, rfl, rfl, _, rfl, ?_⟩
        by_cases k0 : (0 : Int) < (k : Int)
        · refine ifT (decide_eq_true k0) ?_
          obtain ⟨b', hb1', hb2'⟩ := up (by omega)
          refine ⟨_, rfl, _, rfl, a, _, _, _, rfl, rfl, hs, atI_nat hb1, b, _, rfl, .inr hb2, _, rfl, _, rfl, _, _, rfl, rfl, a, _, _, _, rfl, rfl, hs, at_of (j := k - 1) (by omega) hb1', b', _, rfl, .inr hb2', _, _, rfl, rfl, _, rfl, ?_⟩
          rw [List.length_map, List.length_map]
          by_cases c : (((fs.getD (k - 1) []).length : Nat) : Int) < (((fs.getD k []).length : Nat) : Int)
          · refine ifT (decide_eq_true c) (no (bad (fun g => ((tab_upto g k hk hk).2 (by omega)).1) (by omega)))
          · refine ifF (decide_eq_false c) ?_
            exact cont (fun _ => by omega) _ rfl rfl
        · refine ifF (decide_eq_false k0) (iteF ?_)
          exact cont (fun h => absurd h (by omega)) _ rfl rfl
      · rintro σ H1 ⟨x1, x2, rfl, rfl, hup⟩
        rw [Int.toNat_natCast, el] at hup
        have := q _ (Ex.refl H1)
        rw [pB_t (upto_tab hup)] at this
        exact this
end

section
variable {P : Program} {w : World} {K : PySem.W.Frag} {mg : Str → Option Value} {base : Heap}
/-! ### a table spoilt -/
def spSpoiltT (K : PySem.W.Frag) : Sp := fun vs H Q _ => ∃ (a : Addr) (u : V) (fs : List (List Int)), vs = [.ref a, u] ∧ Strm H a ∧ Dp K (wo a H) u (dT fs) ∧ fs.length ≤ 1000 ∧ fs.flatten.length ≤ 1000 ∧ (∀ r ∈ fs, r ≠ []) ∧
  ∀ (v' : V) (fs' : List (List Int)) (H' : Hp), Dp K (nw H H') v' (dT fs') → fs'.length ≤ fs.length + 1 → fs'.flatten.length ≤ fs.flatten.length + 1 → Strm H' a → Kp a H H' → Q v' H'
/-- behind the ways below s: as it was, or spoilt by one of them -/
def SplT (K : PySem.W.Frag) (H H' : Hp) (a D : Addr) (fs : List (List Int)) (kd : Int) (s : Int) : Prop :=
  Strm H' a ∧ Kp a H H' ∧ ((∃ ps, FamAt H H' D ps fs) ∨ (kd < s ∧ ∃ fs', Dp K (nw H H') (.ref D) (dF fs') ∧ fs'.length ≤ fs.length + 1 ∧ fs'.flatten.length ≤ fs.flatten.length + 1))
theorem ok_law_spoilt (T : Txt K mg) : FnOk P w K mg base CX0 2 T.law_spoilt.f T.law_spoilt.fd ["stream", "table"] (spSpoiltT K) := by
  refine T.law_spoilt.F.ok sc_law_spoilt (fun vs H Q E h => ?_) (fun cdv A outer s H vs Q E hr h => ?_)
  · obtain ⟨a, u, fs, rfl, _⟩ := h
    rfl
  · obtain ⟨a, u, fs, rfl, S0, hu, hfl, hft, hne, q⟩ := h
    have Ha := S0.some
    refine ⟨_, (pss_cons (ps_setLc (g := (gName 5)) (tt := tYes) (te := (tCB (rListS K) (tCons (tVar 5) tNil))) (own := [("row", 5)]) (i := 2) (by rfl) sc_law_spoilt.nd rfl rfl (sw_true rfl rfl rfl (by decide +kernel)) (pi_tup (pv 1)) (blkOk_by (own := [("row", 5)]) (N := N_law_spoilt) (sc := defScope s_law_spoilt) (by decide +kernel)) (fun _ _ _ _ _ => (pg_name (i := 5) sc_law_spoilt.nd rfl (.inl rfl))) (fun _ _ _ _ _ => pts_nil) (fun _ _ _ _ _ => (pe_callTy call_list_of (by rfl) T.list (by decide +kernel) (pa_cons (pv 5) pa_nil))))
      (pss_cons (ps_set (i := 3) sc_law_spoilt.nd rfl (.inl rfl) (pe_call (ok_law_next T) (hr.mono (by decide)) rfl T.law_next.g T.law_next.F.kp T.law_next.b .nil pass0 (pa_cons (pv 0) (pa_cons pe_int pa_nil))))
      (Evl.pss_cut (ps_if (PW.pt (pw_and (pt_cmpR op_eq (pv 3) pe_int (nomark _)) (pw_and1 (pt_cmpR op_gt (pe_callB call_len_seq (by rfl) T.len PySem.boot_len (pa_cons (pv 2) pa_nil)) pe_int (nomark _)))))
      (pss_cons (ps_set (i := 4) sc_law_spoilt.nd rfl (.inl rfl) (pe_call (ok_law_next T) (hr.mono (by decide)) rfl T.law_next.g T.law_next.F.kp T.law_next.b .nil pass0 (pa_cons (pv 0) (pa_cons (pe_callB call_len_seq (by rfl) T.len PySem.boot_len (pa_cons (pv 2) pa_nil)) pa_nil))))
        (pss_one (ps_augS (pe_ix ix_list (pv 2) (pv 4) (fun _ _ => rfl)) (pe_call (ok_law_next T) (hr.mono (by decide)) rfl T.law_next.g T.law_next.F.kp T.law_next.b .nil pass0 (pa_cons (pv 0) (pa_cons (pe_callB call_len_seq (by rfl) T.len PySem.boot_len (pa_cons (pe_ix ix_list (pv 2) (pv 4) (fun _ _ => rfl)) pa_nil)) pa_nil))) get_list (pe_op op_sub (pe_call (ok_law_next T) (hr.mono (by decide)) rfl T.law_next.g T.law_next.F.kp T.law_next.b .nil pass0 (pa_cons (pv 0) (pa_cons pe_int pa_nil))) pe_int) ip_add set_list)))
      pss_nil)
      (Evl.pss_cut (ps_if (PW.pt (pw_and (pt_cmpR op_eq (pv 3) pe_int (nomark _)) (pw_and1 (pt_cmpR op_gt (pe_callB call_len_seq (by rfl) T.len PySem.boot_len (pa_cons (pv 2) pa_nil)) pe_int (nomark _)))))
      (pss_one (ps_asg (pe_tup (pa_cons (pe_ix ix_list (pv 2) (pe_un un_neg pe_int) (fun _ _ => rfl)) (pa_cons (pe_ix ix_list (pv 2) pe_int (fun _ _ => rfl)) pa_nil))) (pg_tup (by rfl) (pgs_cons (pg_sub (pv 2) pe_int set_list) (pgs_cons (pg_sub (pv 2) (pe_un un_neg pe_int) set_list) pgs_nil)))))
      pss_nil)
      (Evl.pss_cut (ps_if (PW.pt (pw_and (pt_cmpR op_eq (pv 3) pe_int (nomark _)) (pw_and1 (pt_cmpR op_gt (pe_callB call_len_seq (by rfl) T.len PySem.boot_len (pa_cons (pv 2) pa_nil)) pe_int (nomark _)))))
      (pss_cons (ps_set (i := 4) sc_law_spoilt.nd rfl (.inl rfl) (pe_call (ok_law_next T) (hr.mono (by decide)) rfl T.law_next.g T.law_next.F.kp T.law_next.b .nil pass0 (pa_cons (pv 0) (pa_cons (pe_callB call_len_seq (by rfl) T.len PySem.boot_len (pa_cons (pv 2) pa_nil)) pa_nil))))
        (pss_one (ps_expr (pe_bm PySem.F.plainAttrs_list PySem.F.slot_list_append PySem.F.type_list_append mt_append (pe_ix ix_list (pv 2) (pv 4) (fun _ _ => rfl)) (pa_cons (pe_op op_sub (pe_op op_add (pe_ix ix_list (pe_ix ix_list (pv 2) (pv 4) (fun _ _ => rfl)) (pe_un un_neg pe_int) (fun _ _ => rfl)) (pe_call (ok_law_next T) (hr.mono (by decide)) rfl T.law_next.g T.law_next.F.kp T.law_next.b .nil pass0 (pa_cons (pv 0) (pa_cons pe_int pa_nil)))) pe_int) pa_nil)))))
      pss_nil)
      (Evl.pss_cut (ps_if (pt_cmpR op_eq (pv 3) pe_int (nomark _))
      (pss_one (ps_expr (pe_bm PySem.F.plainAttrs_list PySem.F.slot_list_append PySem.F.type_list_append mt_append (pv 2) (pa_cons (pe_lst pa_nil) pa_nil))))
      pss_nil)
      (Evl.pss_cut (ps_if (PW.pt (pw_and (pt_cmpR op_eq (pv 3) pe_int (nomark _)) (pw_and1 (pt_cmpR op_gt (pe_callB call_len_seq (by rfl) T.len PySem.boot_len (pa_cons (pv 2) pa_nil)) pe_int (nomark _)))))
      (pss_one (ps_expr (pe_bm0 PySem.F.plainAttrs_list PySem.F.slot_list_pop PySem.F.type_list_pop mt_pop (pe_ix ix_list (pv 2) (pe_call (ok_law_next T) (hr.mono (by decide)) rfl T.law_next.g T.law_next.F.kp T.law_next.b .nil pass0 (pa_cons (pv 0) (pa_cons (pe_callB call_len_seq (by rfl) T.len PySem.boot_len (pa_cons (pv 2) pa_nil)) pa_nil))) (fun _ _ => rfl)))))
      pss_nil)
      (pss_one (ps_ret (pe_callTy call_tuple_of (by rfl) T.tuple (by decide +kernel) (pa_cons (pe_lc (g := (gName 5)) (tt := tYes) (te := (tCB (rTupS K) (tCons (tVar 5) tNil))) (own := [("row", 5)]) (by rfl) sc_law_spoilt.nd (pi_list (pv 2)) (blkOk_by (own := [("row", 5)]) (N := N_law_spoilt) (sc := defScope s_law_spoilt) (by decide +kernel)) (fun _ _ _ _ _ => (pg_name (i := 5) sc_law_spoilt.nd rfl (.inl rfl))) (fun _ _ _ _ _ => pts_nil) (fun _ _ _ _ _ => (pe_callTy call_tuple_of (by rfl) T.tuple (by decide +kernel) (pa_cons (pv 5) pa_nil)))) pa_nil))))))))))), ?_⟩
    cases hu with
    | @tup b xs _ hsl hall =>
      refine ⟨_, rfl, b, rfl, ⟨_, Evl.ex_t (wo_ex a) hsl⟩, fun D nD => ?_⟩
      have Da : D ≠ a := S0.ne nD
      have aD : a ≠ D := Da.symm
      refine lc_tup (xs := xs) (fun i H' => ∃ ps, FamAt H H' D ps (fs.take i) ∧ Strm H' a ∧ Ex H H') ⟨[], ⟨upd_same, rfl, fun i p l h => by simp at h, List.nodup_nil, by simp, nD, fun p h => by simp at h⟩, S0.new nD, Ex.new nD⟩ (fun i H' _ ⟨_, _, _, e⟩ => Evl.ex_t e (Evl.ex_t (wo_ex a) hsl)) ?_ ?_
      · rintro i x H2 hi ⟨ps, F, S2, e2⟩
        obtain ⟨d, hd, hx⟩ := dp_at hall hi
        obtain ⟨l, hl, rfl⟩ := dT_at hd
        obtain ⟨c, rfl, hc⟩ := dp_R_inv hx
        refine ⟨rfl, ?_⟩
        refine iteT (B := ∃ ps, FamAt H H2 D ps (fs.take (i + 1)) ∧ Strm H2 a ∧ Ex H H2) ?_
        refine ⟨_, rfl, c, _, rfl, .inr (Evl.ex_t e2 (Evl.ex_t (wo_ex a) hc)), fun z nz => ⟨ps.map V.ref, ?_, ?_, ps ++ [z], ?_, ?_, ?_⟩⟩
        · rw [upd_ne (ne_of_none F.d nz)]
          exact F.d
        · rw [List.length_map, F.len, List.length_take]
          exact szl (by omega)
        · have F2 := (F.ex (Ex.new (o := .lst (l.map V.int)) nz)).snoc (p := z) (l := l) upd_same (F.fresh nz).1 (F.fresh nz).2 (Evl.fresh_back e2 nz)
          rw [List.map_append] at F2
          rw [List.take_add_one, hl]
          exact F2
        · exact (S2.new nz).off aD
        · exact Ex.mut (e2.trans (Ex.new nz)) nD
      rintro H2 ⟨ps0, F2, S2, e2⟩
      rw [dp_len hall, List.length_map, List.take_length] at F2
      -- kind
      refine ⟨_, rfl, a, 5, rfl, S2, by decide, by decide, fun kd H3 k0 k1 S3 K3 => ?_⟩
      have X3 : SplT K H H3 a D fs kd 0 := ⟨S3, (Kp.of e2).trans K3, .inl ⟨ps0, F2.kp K3 Ha⟩⟩
      have wid : ∀ {H' : Hp} {s t : Int}, SplT K H H' a D fs kd s → s ≤ t → SplT K H H' a D fs kd t := fun x h => ⟨x.1, x.2.1, x.2.2.imp id fun y => ⟨by omega, y.2⟩⟩
      have pick : ∀ {H' : Hp} {ps : List Addr} {d : Int}, FamAt H H' D ps fs → 0 ≤ d → d < ((ps.map V.ref).length : Int) → ∃ (i : Nat) (p : Addr) (l : List Int), d = (i : Int) ∧ (ps.map V.ref)[i]? = some (.ref p) ∧ ps[i]? = some p ∧ fs[i]? = some l ∧ H' p = some (.lst (l.map V.int)) ∧ l ≠ [] ∧ l.length ≤ 1000 := fun {H' ps d} F d0 d1 => by
        rw [List.length_map] at d1
        have hd : d.toNat < ps.length := by omega
        have hp : ps[d.toNat]? = some ps[d.toNat] := List.getElem?_eq_getElem hd
        have hf : fs[d.toNat]? = some (fs[d.toNat]'(by rw [← F.len]; exact hd)) := List.getElem?_eq_getElem _
        have hm := List.mem_of_getElem? hf
        exact ⟨d.toNat, _, _, by omega, by rw [List.getElem?_map, hp]; rfl, hp, hf, F.at' _ _ _ hp hf, hne _ hm, by have := mem_len hm; omega⟩
      have isD : ∀ {H' : Hp} {ps : List Addr} {fs' : List (List Int)}, FamAt H H' D ps fs' → Dp K (nw H H') (.ref D) (dF fs') := fun F => F.dp
      have gone : ∀ {H' : Hp} {p : Addr}, H p = none → Strm H' a → a ≠ p := fun h _ e => by obtain ⟨o, ho⟩ := Ha; rw [e, h] at ho; cases ho
      -- kind == 0
      refine ⟨fun σ H' => ∃ x4, σ = [some (.ref a), some (.ref b), some (.ref D), some (.int kd), x4, none] ∧ SplT K H H' a D fs kd 1, ?_, ?_⟩
      · refine ⟨_, rfl, rfl, _, rfl, ?_⟩
        by_cases c : kd = 0
        · subst c
          obtain ⟨_, Kx, hx⟩ := X3
          rcases hx with ⟨ps, F⟩ | ⟨h, _⟩
          · refine ifT (decide_eq_true rfl) ?_
            refine ⟨_, rfl, D, _, rfl, .inl (SqL.of F.d), _, _, rfl, rfl, _, rfl, ite2 (fun c => ?_) (fun _ => ⟨_, rfl, wid (s := 0) ⟨S3, Kx, .inl ⟨ps, F⟩⟩ (by decide)⟩)⟩
            have c1 := of_decide_eq_true c
            refine ⟨_, rfl, _, rfl, D, _, rfl, .inl (SqL.of F.d), a, _, rfl, S3, c1, by rw [List.length_map, F.len]; omega, fun d H4 d0 d1 S4 K4 => ?_⟩
            have F4 := F.kp K4 Ha
            obtain ⟨i, p, l, rfl, hpi, hp, hl, hpl, hln, hll⟩ := pick F4 d0 d1
            refine ⟨_, rfl, _, rfl, D, _, _, _, rfl, rfl, SqL.of F4.d, atI_nat hpi, ?_⟩
            refine ⟨_, rfl, _, rfl, _, rfl, D, _, _, _, rfl, rfl, SqL.of F4.d, atI_nat hpi, p, _, rfl, .inl (SqL.of hpl), a, _, rfl, S4, by rw [List.length_map]; have := List.length_pos_iff.mpr hln; omega, by rw [List.length_map]; omega, fun e H5 e0 e1 S5 K5 => ?_⟩
            rw [List.length_map] at e1
            obtain ⟨j, rfl⟩ : ∃ j : Nat, e = (j : Int) := ⟨e.toNat, by omega⟩
            have hj : j < l.length := by omega
            have F5 := F4.kp K5 Ha
            have hp5 := F5.at' i p l hp hl
            refine ⟨p, _, j, _, rfl, rfl, SqL.of hp5, mapAt (getD_some' hj), ?_⟩
            refine ⟨_, rfl, a, 5, rfl, S5, by decide, by decide, fun z H6 z0 z1 S6 K6 => ⟨_, _, rfl, rfl, _, _, rfl, rfl, ?_⟩⟩
            have F6 := F5.kp K6 Ha
            have hp6 := F6.at' i p l hp hl
            refine ⟨p, _, _, j, rfl, rfl, hp6, Evl.ixN_nat (by rw [List.length_map]; exact hj), ?_⟩
            have F7 := F6.set hp (l.set j (l.getD j 0 + (z - 2)))
            rw [List.map_set] at F7
            have hfl2 := flatten_set_len (l' := l.set j (l.getD j 0 + (z - 2))) hl
            rw [List.length_set] at hfl2
            have fp := F6.fr p (List.mem_of_getElem? hp)
            exact ⟨_, rfl, S6.off (gone fp S6), ((Kx.trans K4).trans (K5.trans K6)).mut fp, .inr ⟨by decide, _, F7.dp, by rw [List.length_set]; omega, by omega⟩⟩
          · exact absurd h (by decide)
        · refine ifF (decide_eq_false fun h => c (V.int.inj h)) (iteF ⟨_, rfl, wid X3 (by decide)⟩)
      rintro σ H4 ⟨x4, rfl, X4⟩
      -- kind == 1
      refine ⟨fun σ H' => ∃ x4, σ = [some (.ref a), some (.ref b), some (.ref D), some (.int kd), x4, none] ∧ SplT K H H' a D fs kd 2, ?_, ?_⟩
      · refine ⟨_, rfl, rfl, _, rfl, ?_⟩
        by_cases c : kd = 1
        · subst c
          obtain ⟨S4, Kx, hx⟩ := X4
          rcases hx with ⟨ps, F⟩ | ⟨h, _⟩
          · refine ifT (decide_eq_true rfl) ?_
            refine ⟨_, rfl, D, _, rfl, .inl (SqL.of F.d), _, _, rfl, rfl, _, rfl, ite2 (fun c => ?_) (fun _ => ⟨_, rfl, wid (s := 1) ⟨S4, Kx, .inl ⟨ps, F⟩⟩ (by decide)⟩)⟩
            have c1 := of_decide_eq_true c
            rw [List.length_map] at c1
            have hn : 1 < ps.length := by omega
            obtain ⟨p0, hp0⟩ : ∃ p, ps[0]? = some p := ⟨_, List.getElem?_eq_getElem (by omega)⟩
            obtain ⟨pl, hpl⟩ : ∃ p, ps[ps.length - 1]? = some p := ⟨_, List.getElem?_eq_getElem (by omega)⟩
            obtain ⟨f0, hf0⟩ : ∃ l, fs[0]? = some l := ⟨_, List.getElem?_eq_getElem (by rw [← F.len]; omega)⟩
            obtain ⟨fl, hfl1⟩ : ∃ l, fs[ps.length - 1]? = some l := ⟨_, List.getElem?_eq_getElem (by rw [← F.len]; omega)⟩
            have atl : atI (ps.map V.ref) (-1) = some (.ref pl) := by
              unfold atI ixN
              rw [if_neg (by decide), if_pos (by rw [List.length_map]; omega)]
              show (ps.map V.ref)[((-1 : Int) + ((ps.map V.ref).length : Nat)).toNat]? = _
              rw [List.length_map, show ((-1 : Int) + (ps.length : Nat)).toNat = ps.length - 1 by omega, List.getElem?_map, hpl]
              rfl
            refine ⟨_, rfl, _, rfl, D, _, _, _, rfl, rfl, SqL.of F.d, atl, _, rfl, D, _, _, _, rfl, rfl, SqL.of F.d, atI_nat (j := 0) (v := .ref p0) (by rw [List.getElem?_map, hp0]; rfl), by show 2 ≤ sizeLine; decide, fun t nt => ?_⟩
            have Dt : D ≠ t := ne_of_none F.d nt
            refine ⟨t, _, rfl, SqT.of upd_same, rfl, _, _, rfl, _, rfl, D, _, 0, 0, rfl, rfl, by rw [upd_ne Dt]; exact F.d, Evl.ixN_nat (j := 0) (by rw [List.length_map]; omega), _, _, rfl, _, rfl, _, rfl, D, _, _, ps.length - 1, rfl, rfl, upd_same, ?_, rfl, ?_⟩
            · unfold ixN
              rw [if_neg (by decide), if_pos (by rw [List.length_set, List.length_map]; omega), List.length_set, List.length_map]
              exact congrArg some (by omega)
            · rw [upd_upd]
              have e5 : Kp a H H4 := Kx
              have hsw : Dp K (nw H (upd (upd H4 t (.tup [.ref pl, .ref p0])) D (.lst (((ps.map V.ref).set 0 (.ref pl)).set (ps.length - 1) (.ref p0))))) (.ref D) (dF ((fs.set 0 fl).set (ps.length - 1) f0)) := by
                refine .lst (Evl.sq_of (via_new F.fD upd_same)) (dpAll_of (by simp [F.len]) fun i v d hv hd => ?_)
                have inner : ∀ {j : Nat} {p : Addr} {l : List Int}, ps[j]? = some p → fs[j]? = some l → Dp K (nw H (upd (upd H4 t (.tup [.ref pl, .ref p0])) D (.lst (((ps.map V.ref).set 0 (.ref pl)).set (ps.length - 1) (.ref p0))))) (.ref p) (dW l) := fun {j p l} h1 h2 => by
                  have h3 := F.at' j p l h1 h2
                  have hm := List.mem_of_getElem? h1
                  refine dp_W (Evl.sq_of (via_new (F.fr p hm) ?_))
                  rw [upd_ne (fun e => F.nD (by rw [← e]; exact hm)), upd_ne (ne_of_none h3 nt)]
                  exact h3
                have hil : i < ps.length := by
                  have := (List.getElem?_eq_some_iff.mp hv).1
                  simpa using this
                obtain ⟨l2, hl2, rfl⟩ := dF_at hd
                rw [List.getElem?_set] at hv hl2
                by_cases cl : ps.length - 1 = i
                · rw [if_pos cl, if_pos (by simp; omega)] at hv
                  rw [if_pos cl, if_pos (by rw [List.length_set, ← F.len]; omega)] at hl2
                  cases hv
                  cases hl2
                  exact inner hp0 hf0
                · rw [if_neg cl, List.getElem?_set] at hv hl2
                  by_cases cz : 0 = i
                  · rw [if_pos cz, if_pos (by simp; omega)] at hv
                    rw [if_pos cz, if_pos (by rw [← F.len]; omega)] at hl2
                    cases hv
                    cases hl2
                    exact inner hpl hfl1
                  · rw [if_neg cz, List.getElem?_map] at hv
                    rw [if_neg cz] at hl2
                    cases cp : ps[i]? with
                    | none => rw [cp] at hv; cases hv
                    | some p =>
                      rw [cp] at hv
                      cases hv
                      exact inner cp hl2
              have t1 := flatten_set_len (l' := fl) hf0
              have h5 : (fs.set 0 fl)[ps.length - 1]? = some fl := by
                rw [List.getElem?_set, if_neg (by omega)]
                exact hfl1
              have t2 := flatten_set_len (l' := f0) h5
              exact ⟨_, rfl, (S4.new nt).off aD, (Kx.new nt).mut F.fD, .inr ⟨by decide, _, hsw, by rw [List.length_set, List.length_set]; omega, by omega⟩⟩
          · exact absurd h (by decide)
        · refine ifF (decide_eq_false fun h => c (V.int.inj h)) (iteF ⟨_, rfl, wid X4 (by decide)⟩)
      rintro σ H5 ⟨x5, rfl, X5⟩
      -- kind == 2
      refine ⟨fun σ H' => ∃ x4, σ = [some (.ref a), some (.ref b), some (.ref D), some (.int kd), x4, none] ∧ SplT K H H' a D fs kd 3, ?_, ?_⟩
      · refine ⟨_, rfl, rfl, _, rfl, ?_⟩
        by_cases c : kd = 2
        · subst c
          obtain ⟨S5, Kx, hx⟩ := X5
          rcases hx with ⟨ps, F⟩ | ⟨h, _⟩
          · refine ifT (decide_eq_true rfl) ?_
            refine ⟨_, rfl, D, _, rfl, .inl (SqL.of F.d), _, _, rfl, rfl, _, rfl, ite2 (fun c => ?_) (fun _ => ⟨_, rfl, wid (s := 2) ⟨S5, Kx, .inl ⟨ps, F⟩⟩ (by decide)⟩)⟩
            have c1 := of_decide_eq_true c
            refine ⟨_, rfl, _, rfl, D, _, rfl, .inl (SqL.of F.d), a, _, rfl, S5, c1, by rw [List.length_map, F.len]; omega, fun d H6 d0 d1 S6 K6 => ?_⟩
            have F6 := F.kp K6 Ha
            obtain ⟨i, p, l, rfl, hpi, hp, hl, hpl, hln, hll⟩ := pick F6 d0 d1
            refine ⟨_, rfl, _, rfl, D, _, _, _, rfl, rfl, SqL.of F6.d, atI_nat hpi, .inl ⟨rfl, _, SqL.of hpl⟩, ?_⟩
            obtain ⟨l', z, rfl⟩ : ∃ l' z, l = l' ++ [z] := ⟨_, _, (List.dropLast_concat_getLast hln).symm⟩
            have atz : atI ((l' ++ [z]).map V.int) (-1) = some (.int z) := by
              rw [List.map_append]
              exact atI_last _ _
            refine ⟨_, rfl, _, rfl, D, _, _, _, rfl, rfl, SqL.of F6.d, atI_nat hpi, _, rfl, p, _, _, _, rfl, rfl, SqL.of hpl, atz, _, rfl, a, 3, rfl, S6, by decide, by decide, fun y H7 y0 y1 S7 K7 => ⟨_, _, rfl, rfl, _, _, rfl, rfl, ?_⟩⟩
            have F7 := F6.kp K7 Ha
            have hp7 := F7.at' i p _ hp hl
            refine ⟨p, _, _, rfl, rfl, hp7, szl (by rw [List.length_map]; omega), ?_⟩
            have F8 := F7.set hp (l' ++ [z] ++ [z + y - 1])
            rw [List.map_append (l₂ := [z + y - 1])] at F8
            have hfl2 := flatten_set_len (l' := l' ++ [z] ++ [z + y - 1]) hl
            rw [List.length_append (bs := [z + y - 1]), List.length_singleton] at hfl2
            have fp := F7.fr p (List.mem_of_getElem? hp)
            exact ⟨_, rfl, S7.off (gone fp S7), ((Kx.trans K6).trans K7).mut fp, .inr ⟨by decide, _, F8.dp, by rw [List.length_set]; omega, by omega⟩⟩
          · exact absurd h (by decide)
        · refine ifF (decide_eq_false fun h => c (V.int.inj h)) (iteF ⟨_, rfl, wid X5 (by decide)⟩)
      rintro σ H6 ⟨x6, rfl, X6⟩
      -- kind == 3
      refine ⟨fun σ H' => ∃ x4, σ = [some (.ref a), some (.ref b), some (.ref D), some (.int kd), x4, none] ∧ SplT K H H' a D fs kd 4, ?_, ?_⟩
      · refine ⟨_, rfl, rfl, _, rfl, ?_⟩
        by_cases c : kd = 3
        · subst c
          obtain ⟨S6, Kx, hx⟩ := X6
          rcases hx with ⟨ps, F⟩ | ⟨h, _⟩
          · refine ifT (decide_eq_true rfl) ?_
            refine ⟨_, rfl, .inl ⟨rfl, _, SqL.of F.d⟩, Nat.zero_le _, fun z nz => ?_⟩
            have Dz : D ≠ z := ne_of_none F.d nz
            refine ⟨D, _, _, rfl, rfl, by rw [upd_ne Dz]; exact F.d, szl (by rw [List.length_map, F.len]; omega), ?_⟩
            have F7 := (F.ex (Ex.new (o := .lst []) nz)).snoc (p := z) (l := []) upd_same (F.fresh nz).1 (F.fresh nz).2 (Kx.free (S6.ne nz) nz)
            rw [List.map_append] at F7
            exact ⟨_, rfl, (S6.new nz).off aD, (Kx.new nz).mut F.fD, .inr ⟨by decide, _, F7.dp, by rw [List.length_append]; exact Nat.le_refl _, by rw [List.flatten_append, List.length_append]; simp⟩⟩
          · exact absurd h (by decide)
        · exact ifF (decide_eq_false fun h => c (V.int.inj h)) ⟨_, rfl, wid X6 (by decide)⟩
      rintro σ H7 ⟨x7, rfl, X7⟩
      -- kind == 4
      refine ⟨fun σ H' => ∃ x4, σ = [some (.ref a), some (.ref b), some (.ref D), some (.int kd), x4, none] ∧ SplT K H H' a D fs kd 5, ?_, ?_⟩
      · refine ⟨_, rfl, rfl, _, rfl, ?_⟩
        by_cases c : kd = 4
        · subst c
          obtain ⟨S7, Kx, hx⟩ := X7
          rcases hx with ⟨ps, F⟩ | ⟨h, _⟩
          · refine ifT (decide_eq_true rfl) ?_
            refine ⟨_, rfl, D, _, rfl, .inl (SqL.of F.d), _, _, rfl, rfl, _, rfl, ite2 (fun c => ?_) (fun _ => ⟨_, rfl, wid (s := 4) ⟨S7, Kx, .inl ⟨ps, F⟩⟩ (by decide)⟩)⟩
            have c1 := of_decide_eq_true c
            refine ⟨_, rfl, _, rfl, _, rfl, D, _, rfl, .inl (SqL.of F.d), a, _, rfl, S7, c1, by rw [List.length_map, F.len]; omega, fun d H8 d0 d1 S8 K8 => ?_⟩
            have F8 := F.kp K8 Ha
            obtain ⟨i, p, l, rfl, hpi, hp, hl, hpl, hln, hll⟩ := pick F8 d0 d1
            have hpos := List.length_pos_iff.mpr hln
            refine ⟨D, _, _, _, rfl, rfl, SqL.of F8.d, atI_nat hpi, .inl ⟨rfl, _, SqL.of hpl⟩, p, _, .int (l.getD (l.length - 1) 0), rfl, rfl, hpl, ?_, ?_⟩
            · rw [List.length_map]
              exact mapAt (getD_some' (by omega))
            have F9 := F8.set hp l.dropLast
            have edl : (l.dropLast).map V.int = (l.map V.int).dropLast := by rw [List.map_dropLast]
            rw [edl] at F9
            have hfl2 := flatten_set_len (l' := l.dropLast) hl
            rw [List.length_dropLast] at hfl2
            have fp := F8.fr p (List.mem_of_getElem? hp)
            exact ⟨_, rfl, S8.off (gone fp S8), (Kx.trans K8).mut fp, .inr ⟨by decide, _, F9.dp, by rw [List.length_set]; omega, by omega⟩⟩
          · exact absurd h (by decide)
        · refine ifF (decide_eq_false fun h => c (V.int.inj h)) (iteF ⟨_, rfl, wid X7 (by decide)⟩)
      rintro σ H8 ⟨x8, rfl, S8, Kx, hx⟩
      obtain ⟨fs', hD, hl1, hl2⟩ : ∃ fs', Dp K (nw H H8) (.ref D) (dF fs') ∧ fs'.length ≤ fs.length + 1 ∧ fs'.flatten.length ≤ fs.flatten.length + 1 := by
        rcases hx with ⟨ps, F⟩ | ⟨_, fs', h1, h2, h3⟩
        · exact ⟨fs, F.dp, by omega, by omega⟩
        · exact ⟨fs', h1, h2, h3⟩
      have h1 := evb_lcL (K := K) (B := emp) (B' := H8) (t := tYes) (te := tCB (rTupS K) (tCons (tVar 5) tNil)) (j := 5) (vs := [5]) (tl := tVar 2) (σ := [some (.ref a), some (.ref b), some (.ref D), some (.int kd), x8, none]) emp_ex (evb_v rfl (hD.mono via_le)) (by rw [List.length_map]; omega) (fun _ => rfl) (fun i => (fs'.take i).map dR) rfl fun i x dx H9 e hi hx => by
        obtain ⟨l, hl, rfl⟩ := dF_at hi
        refine ⟨true, _, evt_yes, fun _ => evb_tupW (B := H9) (evb_v rfl hx), ?_⟩
        rw [if_pos rfl, List.take_add_one, hl, List.map_append]
        rfl
      rw [List.length_map, List.take_length] at h1
      refine qd_ret (evb_tupL h1) fun v9 H9 e9 hv9 => ?_
      refine q _ fs' _ ?_ hl1 hl2 (S8.ex e9) (Kx.trans (Kp.of e9))
      -- what is new behind H8 is new behind H, but for the stream
      refine hv9.mono fun c o h => ?_
      unfold nw via emp at h ⊢
      cases hc8 : H8 c with
      | some o' => rw [hc8] at h; simp at h
      | none =>
        rw [hc8] at h
        have hca : c ≠ a := fun e => by obtain ⟨s0, s1, s2, hs⟩ := S8; rw [e, hs] at hc8; cases hc8
        rw [Kx.free hca hc8]
        simpa using h
end

/-! ### what stands while a law runs -/
theorem ex_new_wo {H : Hp} {st : Addr} {o : HO} (n : H st = none) : Ex H (wo st (upd H st o)) := fun b u h => wo_of (fun e => by rw [e, n] at h; cases h) (Ex.new n b u h)
theorem ex_of_kp {H H' : Hp} {q : Addr} {o : HO} (n : H q = none) (k : Kp q (upd H q o) H') : Ex H H' := fun b u h => by
  have hb : b ≠ q := fun e => by rw [e, n] at h; cases h
  exact k b u hb (by rw [upd_ne hb]; exact h)
theorem nw_wo {H H' : Hp} {st : Addr} (h : ∃ o, H st = some o) : Ex (nw H H') (wo st H') := fun b u hb => by
  obtain ⟨o, ho⟩ := h
  refine wo_of (fun e => ?_) (via_le b u hb)
  subst e
  unfold nw via emp at hb
  rw [ho] at hb
  cases hb

def spLaw (K : PySem.W.Frag) : Sp := fun vs H Q _ => ∃ (a : Addr) (ns : List Int), vs = [.ref a] ∧ SqL K H a (ns.map V.int) ∧ ns.length ≤ 63 ∧ ∀ H', Q (.bl true) H'
theorem law_end {K : PySem.W.Frag} {H : Hp} {a : Addr} {ns : List Int} (hl : ns.length ≤ 63) (hO : Only H) (hS : SqL K H a (ns.map V.int)) : spLaw K [.ref a] H (fun v _ => v = .bl true) fun _ _ _ => False := ⟨a, ns, rfl, hS, hl, fun _ => rfl⟩

-- CUT law: 3 9
-- TUP law: rows; row
-- DEEP law: shape_of(rows) != tuple(lengths)
-- DEEP law: conjugate(tuple(lengths)) != tuple(heights)
-- DEEP law: corners(rows) != ends
-- DEEP law: sorted(reading) == list(range(1, len(reading) + 1))
-- DEEP law: reading == _law_reading(rows)
-- DEEP law: lengths + [0]
-- DEEP law: [0] + lengths
-- 6 6
theorem tab_ne (ws : List Int) : ∀ r ∈ tab ws, r ≠ [] := by
  have step : ∀ (fs : List (List Int)) (x : Int), (∀ r ∈ fs, r ≠ []) → ∀ r ∈ ins fs x, r ≠ [] := fun fs => by
    induction fs with
    | nil =>
      intro x _ r hr
      have : r = [x] := by simpa [ins] using hr
      rw [this]
      simp
    | cons a fs ih =>
      intro x h r hr
      unfold ins at hr
      split at hr
      · rcases List.mem_cons.mp hr with h1 | h1
        · rw [h1]
          simp
        · exact h r (List.mem_cons_of_mem _ h1)
      · rcases List.mem_cons.mp hr with h1 | h1
        · rw [h1]
          intro e
          have := congrArg List.length e
          rw [List.length_set] at this
          exact h a List.mem_cons_self (List.length_eq_zero_iff.mp this)
        · exact ih _ (fun r hr => h r (List.mem_cons_of_mem _ hr)) r h1
  have h : ∀ n, n ≤ ws.length → ∀ r ∈ tab (ws.take n), r ≠ [] := fun n => by
    induction n with
    | zero => intro _ r hr; simp [tab] at hr
    | succ n ih =>
      intro hn
      rw [tab_take (List.getElem?_eq_getElem hn)]
      exact step _ _ (ih (by omega))
  have := h ws.length (Nat.le_refl _)
  rw [List.take_length] at this
  exact this
theorem lens_at {fs : List (List Int)} {i : Nat} (h : i < fs.length) : (lens fs).getD i 0 = ((fs.getD i []).length : Int) := by
  unfold lens
  rw [List.getD_eq_getElem?_getD, List.getElem?_map, List.getD_eq_getElem?_getD, List.getElem?_eq_getElem h]
  rfl
theorem lens_noninc {fs : List (List Int)} (h : IsTab fs) : Noninc (lens fs) := by
  have k : ∀ d i, i + d < fs.length → (fs.getD (i + d) []).length ≤ (fs.getD i []).length := fun d => by
    induction d with
    | zero => intro i _; exact Nat.le_refl _
    | succ d ih =>
      intro i hi
      have h1 := ih i (by omega)
      have h2 := (h.2 (i + d) (by omega)).1
      rw [show i + (d + 1) = i + d + 1 by omega]
      omega
  intro i j hij hj
  rw [lens_len] at hj
  rw [lens_at (show i < fs.length by omega), lens_at hj]
  have := k (j - i) i (by omega)
  rw [show i + (j - i) = j by omega] at this
  omega
theorem cnt_lens (fs : List (List Int)) (k : Nat) : ((fs.filter fun r => decide ((k : Int) < (r.length : Int))).length : Int) = cnt (lens fs) k := by
  unfold cnt lens
  rw [List.filter_map, List.length_map]
  rfl
section
variable {K : PySem.W.Frag} {B B' B2 H : Hp} {σ : L2.St} {ta tb : TE}
theorem spShape_D {fs : List (List Int)} (h : Small fs) : SpD K (spShape K) [dT fs] (dR (lens fs)) := fun vs H hvs Q E q => by
  cases hvs with
  | cons a b =>
    cases b
    exact ⟨_, fs, rfl, a, h, fun v' H2 e g => q _ H2 e g⟩
theorem spConj_D {sh : List Int} (h1 : Noninc sh) (h2 : sh.length ≤ 1000) (h3 : ∀ x ∈ sh, 0 ≤ x ∧ x ≤ 20000) : SpD K (spConj K) [dR sh] (dR (conj sh)) := fun vs H hvs Q E q => by
  cases hvs with
  | cons a b =>
    cases b
    exact ⟨_, sh, rfl, a, h1, h2, h3, fun v' H2 e g => q _ H2 e g⟩
theorem spCorners_D {fs : List (List Int)} (h : Small fs) : SpD K (spCorners K) [dT fs] (.list (cornD fs)) := fun vs H hvs Q E q => by
  cases hvs with
  | cons a b =>
    cases b
    exact ⟨_, fs, rfl, a, h, fun v' H2 e g => q _ H2 e g⟩
theorem spReading_D {fs : List (List Int)} (h : Small fs) : SpD K (spReading K) [dT fs] (dW fs.reverse.flatten) := fun vs H hvs Q E q => by
  cases hvs with
  | cons a b =>
    cases b
    exact ⟨_, fs, rfl, a, h, fun v' H2 e g => q _ H2 e g⟩
theorem spRecord_D {fs : List (List Int)} (h : Small fs) : SpD K (spRecord K) [dT fs] (.bool (pB (Rec fs.reverse.flatten))) := fun vs H hvs Q E q => by
  cases hvs with
  | cons a b =>
    cases b
    exact ⟨_, fs, rfl, a, h, fun H2 e => q _ H2 e (.bl _)⟩
theorem pur_corn (fs : List (List Int)) : purN 2 (.list (cornD fs)) = true := by
  show (cornD fs).all (purN 1) = true
  rw [List.all_eq_true]
  intro x hx
  unfold cornD at hx
  obtain ⟨k, _, rfl⟩ := List.mem_map.mp hx
  rfl
theorem evb_rg {n : Nat} (ha : EvB K B ta σ H (.int 1)) (hb : EvB K B' tb σ H (.int ((n : Int) + 1))) (hn : n ≤ 50000) : EvB K B2 (tLstRg (tRg2 ta tb)) σ H (dW (rgI n)) := fun H1 e Q q =>
  ha H1 e _ fun v H2 e2 hv => hb H2 (e.trans e2) _ fun u H3 e3 hu => by
    cases hv
    cases hu
    refine ⟨_, _, rfl, rfl, RgOk.of_le (by omega) (by omega) (by omega) (by omega), fun y ny => ?_⟩
    rw [rgV_eq]
    exact q _ _ ((e2.trans e3).trans (Ex.new ny)) (dp_W (Evl.sq_of (via_new (Evl.fresh_back (e2.trans e3) ny) upd_same)))
theorem sorted_ms (l : List Int) : (l.mergeSort (fun a b => decide (a ≤ b))).Pairwise (· ≤ ·) := by
  have h := List.pairwise_mergeSort (le := fun a b : Int => decide (a ≤ b)) (fun a b c h1 h2 => by simp only [decide_eq_true_eq] at *; omega) (fun a b => by simp only [Bool.or_eq_true, decide_eq_true_eq]; omega) l
  exact h.imp fun h => of_decide_eq_true h
end
section
variable {P : Program} {w : World} {K : PySem.W.Frag} {mg : Str → Option Value} {base : Heap}
theorem ok_law (T : Txt K mg) {f : Addr} {fd : FuncData} (F : Fun K "law" "law" s_law f fd) : FnOk P w K mg base CX0 6 f fd ["script"] (spLaw K) := by
  refine F.ok sc_law (fun vs H Q E h => ?_) (fun cdv A outer s H vs Q E hr h => ?_)
  · obtain ⟨a, ns, rfl, _⟩ := h
    rfl
  · obtain ⟨a, ns, rfl, hS, hl, q⟩ := h
    refine ⟨_, (pss_cons (ps_set (i := 1) sc_law.nd rfl (.inl rfl) (pe_call (ok_law_stream T) (hr.mono (by decide)) rfl T.law_stream.g T.law_stream.F.kp T.law_stream.b .nil pass0 (pa_cons (pe_call (ok_law_cell T) (hr.mono (by decide)) rfl T.law_cell.g T.law_cell.F.kp T.law_cell.b .nil pass0 (pa_cons (pv 0) (pa_cons pe_int pa_nil))) pa_nil)))
      (pss_cons (ps_set (i := 2) sc_law.nd rfl (.inl rfl) (pe_call (ok_law_word T) (hr.mono (by decide)) rfl T.law_word.g T.law_word.F.kp T.law_word.b .nil pass0 (pa_cons (pv 1) (pa_cons pe_int pa_nil))))
      (Evl.pss_cut (ps_if (pt_cmpR op_eq (pe_call (ok_law_next T) (hr.mono (by decide)) rfl T.law_next.g T.law_next.F.kp T.law_next.b .nil pass0 (pa_cons (pv 1) (pa_cons pe_int pa_nil))) pe_int (nomark _))
      (pss_cons (ps_set (i := 3) sc_law.nd rfl (.inl rfl) (pe_listRg (te := tRg2 (tC (.int 1)) (tOp (rI0 fun i j => .int (i + j)) (tCB (rLenS K) (tCons (tVar 2) tNil)) (tC (.int 1)))) (by rfl) (by rfl) T.list (by exact (prg_2 (by rfl) T.range pe_int (pe_op op_add (pe_callB call_len_seq (by rfl) T.len PySem.boot_len (pa_cons (pv 2) pa_nil)) pe_int)))))
        (pss_cons (ps_set (i := 2) sc_law.nd rfl (.inl rfl) (pe_lst pa_nil))
        (pss_one (ps_while PassesOwn.never (pt_cmpR op_gt (pe_callB call_len_seq (by rfl) T.len PySem.boot_len (pa_cons (pv 3) pa_nil)) pe_int (nomark _))
        (pss_one (ps_expr (pe_bm PySem.F.plainAttrs_list PySem.F.slot_list_append PySem.F.type_list_append mt_append (pv 2) (pa_cons (pe_bm PySem.F.plainAttrs_list PySem.F.slot_list_pop PySem.F.type_list_pop mt_popAt (pv 3) (pa_cons (pe_call (ok_law_next T) (hr.mono (by decide)) rfl T.law_next.g T.law_next.F.kp T.law_next.b .nil pass0 (pa_cons (pv 1) (pa_cons (pe_callB call_len_seq (by rfl) T.len PySem.boot_len (pa_cons (pv 3) pa_nil)) pa_nil))) pa_nil)) pa_nil))))))))
      pss_nil)
      (pss_cons (ps_set (i := 4) sc_law.nd rfl (.inr rfl) (pe_call (ok_law_table T) (hr.mono (by decide)) rfl T.law_table.g T.law_table.F.kp T.law_table.b .nil pass0 (pa_cons (pv 2) pa_nil)))
      (Evl.pss_cut (ps_if (pt_cmpR op_eq (pe_call (ok_law_next T) (hr.mono (by decide)) rfl T.law_next.g T.law_next.F.kp T.law_next.b .nil pass0 (pa_cons (pv 1) (pa_cons pe_int pa_nil))) pe_int (nomark _))
      (pss_one (ps_set (i := 4) sc_law.nd rfl (.inr rfl) (pe_call (ok_law_spoilt T) (hr.mono (by decide)) rfl T.law_spoilt.g T.law_spoilt.F.kp T.law_spoilt.b .nil pass0 (pa_cons (pv 1) (pa_cons (pv 4) pa_nil)))))
      pss_nil)
      (pss_cons (ps_set (i := 5) sc_law.nd rfl (.inl rfl) (pe_call (ok_is_table T) (hr.mono (by decide)) rfl T.is_table.g T.is_table.F.kp T.is_table.b .nil pass0 (pa_cons (pv 4) pa_nil)))
      (pss_cons (ps_if (PW.pt (pw_or (pt_not (pt_val (pe_callB call_isi (by rfl) T.isinstance (by decide +kernel) (pa_cons (pv 5) (pa_cons (pe_bltn (v := .ty "bool") (u := .type "bool") (by rfl) T.bool (by decide +kernel) rfl) pa_nil))))) (pw_or1 (pt_cmpR op_ne (pv 5) (pe_call (ok_law_holds T) (hr.mono (by decide)) rfl T.law_holds.g T.law_holds.F.kp T.law_holds.b .nil pass0 (pa_cons (pv 4) pa_nil)) (nomark _)))))
      (pss_one (ps_ret pe_bl))
      pss_nil)
      (pss_cons (ps_if (pt_not (pt_val (pv 5)))
      (pss_one (ps_ret pe_bl))
      pss_nil)
      (pss_cons (ps_set (i := 6) sc_law.nd rfl (.inr rfl) (pe_lc (g := (gName 11)) (tt := tYes) (te := (tCB (rLenS K) (tCons (tVar 11) tNil))) (own := [("row", 11)]) (by rfl) sc_law.nd (pi_tup (pv 4)) (blkOk_by (own := [("row", 11)]) (N := N_law) (sc := defScope s_law) (by decide +kernel)) (fun _ _ _ _ _ => (pg_name (i := 11) sc_law.nd rfl (.inl rfl))) (fun _ _ _ _ _ => pts_nil) (fun _ _ _ _ _ => (pe_callB call_len_seq (by rfl) T.len PySem.boot_len (pa_cons (pv 11) pa_nil)))))
      (pss_cons (ps_setLc (g := (gName 12)) (tt := tYes) (te := (tCB (rLenS K) (tCons (tLc (iTup K (tVar 4)) (gName 11) (tTest (tOp (rI0 fun i j => .bl (decide (j < i))) (tCB (rLenS K) (tCons (tVar 11) tNil)) (tVar 12))) (tVar 11) [11]) tNil))) (own := [("k", 12)]) (i := 7) (by rfl) sc_law.nd rfl rfl (sw_true rfl rfl rfl (by decide +kernel)) (pi_range1 (by rfl) T.range (pa_cons (pe_callB (cr_max rfl) (by rfl) T.max (by decide +kernel) (pa_cons (pe_op op_cat (pe_lst (pa_cons pe_int pa_nil)) (pv 6)) pa_nil)) pa_nil)) (blkOk_by (own := [("k", 12)]) (N := N_law) (sc := defScope s_law) (by decide +kernel)) (fun _ _ _ _ _ => (pg_name (i := 12) sc_law.nd rfl (.inr rfl))) (fun _ _ _ _ _ => pts_nil) (fun _ _ _ _ _ => (pe_callB call_len_seq (by rfl) T.len PySem.boot_len (pa_cons (pe_lc (g := (gName 11)) (tt := (tTest (tOp (rI0 fun i j => .bl (decide (j < i))) (tCB (rLenS K) (tCons (tVar 11) tNil)) (tVar 12)))) (te := (tVar 11)) (own := [("row", 11)]) (by rfl) sc_law.nd (pi_tup (pv 4)) (by exact blkOk_by (own := [("row", 11)]) (by rfl)) (fun _ _ _ _ _ => (pg_name (i := 11) sc_law.nd rfl (.inl rfl))) (fun _ _ _ _ _ => (pts_one (pt_cmpR op_gt (pe_callB call_len_seq (by rfl) T.len PySem.boot_len (pa_cons (pv 11) pa_nil)) (pv 12) (nomark _)))) (fun _ _ _ _ _ => (pv 11))) pa_nil))))
      (pss_cons (ps_if (PW.pt (pw_or (pt_cmpR (op_neD hr.units) (pe_call (ok_shape_of T) (hr.mono (by decide)) rfl T.shape_of.g T.shape_of.F.kp T.shape_of.b .nil pass0 (pa_cons (pv 4) pa_nil)) (pe_callTy call_tuple_of (by rfl) T.tuple (by decide +kernel) (pa_cons (pv 6) pa_nil)) (nomark _)) (pw_or1 (pt_cmpR (op_neD hr.units) (pe_call (ok_conjugate T) (hr.mono (by decide)) rfl T.conjugate.g T.conjugate.F.kp T.conjugate.b .nil pass0 (pa_cons (pe_callTy call_tuple_of (by rfl) T.tuple (by decide +kernel) (pa_cons (pv 6) pa_nil)) pa_nil)) (pe_callTy call_tuple_of (by rfl) T.tuple (by decide +kernel) (pa_cons (pv 7) pa_nil)) (nomark _)))))
      (pss_one (ps_ret pe_bl))
      pss_nil)
      (pss_cons (ps_setLc (g := (gName 12)) (tt := (tTest (tOp (rI0 fun i j => .bl (decide (j < i))) (tOp (rIxL K) (tVar 6) (tVar 12)) (tOp (rIxL K) (tOp rCat (tVar 6) (tLst (tCons (tC (.int 0)) tNil))) (tOp (rI0 fun i j => .int (i + j)) (tVar 12) (tC (.int 1))))))) (te := (tTup (tCons (tVar 12) (tCons (tOp (rI0 fun i j => .int (i - j)) (tOp (rIxL K) (tVar 6) (tVar 12)) (tC (.int 1))) tNil)))) (own := [("k", 12)]) (i := 8) (by rfl) sc_law.nd rfl rfl (sw_true rfl rfl rfl (by decide +kernel)) (pi_range1 (by rfl) T.range (pa_cons (pe_callB call_len_seq (by rfl) T.len PySem.boot_len (pa_cons (pv 4) pa_nil)) pa_nil)) (blkOk_by (own := [("k", 12)]) (N := N_law) (sc := defScope s_law) (by decide +kernel)) (fun _ _ _ _ _ => (pg_name (i := 12) sc_law.nd rfl (.inl rfl))) (fun _ _ _ _ _ => (pts_one (pt_cmpR op_gt (pe_ix ix_list (pv 6) (pv 12) (fun _ _ => rfl)) (pe_ix ix_list (pe_op op_cat (pv 6) (pe_lst (pa_cons pe_int pa_nil))) (pe_op op_add (pv 12) pe_int) (fun _ _ => rfl)) (nomark _)))) (fun _ _ _ _ _ => (pe_tup (pa_cons (pv 12) (pa_cons (pe_op op_sub (pe_ix ix_list (pv 6) (pv 12) (fun _ _ => rfl)) pe_int) pa_nil)))))
      (pss_cons (ps_if (PW.pt (pw_or (pt_not (pt_val (pe_callB call_isi (by rfl) T.isinstance (by decide +kernel) (pa_cons (pe_call (ok_corners T) (hr.mono (by decide)) rfl T.corners.g T.corners.F.kp T.corners.b .nil pass0 (pa_cons (pv 4) pa_nil)) (pa_cons (pe_bltn (v := .ty "list") (u := .type "list") (by rfl) T.list (by decide +kernel) rfl) pa_nil))))) (pw_or1 (pt_cmpR (op_neD hr.units) (pe_call (ok_corners T) (hr.mono (by decide)) rfl T.corners.g T.corners.F.kp T.corners.b .nil pass0 (pa_cons (pv 4) pa_nil)) (pv 8) (nomark _)))))
      (pss_one (ps_ret pe_bl))
      pss_nil)
      (pss_cons (ps_set (i := 9) sc_law.nd rfl (.inl rfl) (pe_call (ok_reading_word T) (hr.mono (by decide)) rfl T.reading_word.g T.reading_word.F.kp T.reading_word.b .nil pass0 (pa_cons (pv 4) pa_nil)))
      (pss_cons (ps_set (i := 10) sc_law.nd rfl (.inl rfl) (pe_call (ok_is_record T) (hr.mono (by decide)) rfl T.is_record.g T.is_record.F.kp T.is_record.b .nil pass0 (pa_cons (pv 4) pa_nil)))
      (pss_cons (ps_if (PW.pt (pw_or (pt_not (pt_val (pe_callB call_isi (by rfl) T.isinstance (by decide +kernel) (pa_cons (pv 10) (pa_cons (pe_bltn (v := .ty "bool") (u := .type "bool") (by rfl) T.bool (by decide +kernel) rfl) pa_nil))))) (pw_or1 (pt_cmpR op_ne (pv 10) (pe_cmpR (op_eqD hr.units) (pe_callB cr_sortedI (by rfl) T.sorted (by decide +kernel) (pa_cons (pv 9) pa_nil)) (pe_listRg (te := tRg2 (tC (.int 1)) (tOp (rI0 fun i j => .int (i + j)) (tCB (rLenS K) (tCons (tVar 9) tNil)) (tC (.int 1)))) (by rfl) (by rfl) T.list (by exact (prg_2 (by rfl) T.range pe_int (pe_op op_add (pe_callB call_len_seq (by rfl) T.len PySem.boot_len (pa_cons (pv 9) pa_nil)) pe_int)))) (nomark _)) (nomark _)))))
      (pss_one (ps_ret pe_bl))
      pss_nil)
      (pss_one (ps_ret (pe_and (pe_call (ok_law_is_word T) (hr.mono (by decide)) rfl T.law_is_word.g T.law_is_word.F.kp T.law_is_word.b .nil pass0 (pa_cons (pv 9) pa_nil)) (pe_one (pe_cmpR (op_eqD hr.units) (pv 9) (pe_call (ok_law_reading T) (hr.mono (by decide)) rfl T.law_reading.g T.law_reading.F.kp T.law_reading.b .nil pass0 (pa_cons (pv 4) pa_nil)) (nomark _)))))))))))))))))))))), ?_⟩
    -- stream
    refine ⟨_, rfl, a, ns, 0, rfl, hS, fun c => ⟨c, rfl, fun st s0 s1 s2 nst => ?_⟩⟩
    have S1 : Strm (upd H st (.lst [.int s0, .int s1, .int s2])) st := ⟨s0, s1, s2, upd_same⟩
    generalize (upd H st (.lst [.int s0, .int s1, .int s2])) = H1 at S1 ⊢
    -- word
    refine ⟨_, rfl, st, 12, rfl, by decide, S1, fun p ws H3 hw hL np3 pst hp3 S3 K3 => ?_⟩
    -- a row of the numbers in some order
    refine ⟨fun σ H' => ∃ (p' : Addr) (ws' : List Int) (x3 : Option V), σ = [some (.ref a), some (.ref st), some (.ref p'), x3, none, none, none, none, none, none, none, none, none] ∧ ws'.length ≤ 12 ∧ Dp K (wo st H') (.ref p') (dW ws') ∧ Strm H' st, ?_, ?_⟩
    · refine ⟨_, rfl, st, 4, rfl, S3, by decide, by decide, fun d H4 d0 d1 S4 K4 => ⟨rfl, _, rfl, ite2 (fun _ => ?_) (fun _ => ?_)⟩⟩
      · have hp4 := K4 _ _ pst hp3
        refine ⟨_, rfl, p, _, rfl, .inl (SqL.of hp4), _, _, rfl, rfl, _, _, rfl, rfl, RgOk.of_le (by omega) (by rw [List.length_map]; omega) (by omega) (by omega), fun R nR => ?_⟩
        rw [List.length_map, rgV_eq]
        refine ⟨Nat.zero_le _, fun W nW => ?_⟩
        have RW : R ≠ W := ne_of_none upd_same nW
        have S5 := (S4.new (o := .lst ((rgI ws.length).map V.int)) nR).new (o := .lst []) nW
        have Rst : R ≠ st := S4.ne nR
        have Wst : W ≠ st := (S4.new (o := .lst ((rgI ws.length).map V.int)) nR).ne nW
        refine Evl.s_while (fun m σ H' => ∃ (rs us : List Int), m = rs.length ∧ σ = [some (.ref a), some (.ref st), some (.ref W), some (.ref R), none, none, none, none, none, none, none, none, none] ∧ H' R = some (.lst (rs.map V.int)) ∧ H' W = some (.lst (us.map V.int)) ∧ rs.length + us.length ≤ 12 ∧ Strm H' st) ws.length ⟨rgI ws.length, [], by rw [rgI_len], rfl, by rw [upd_ne RW]; exact upd_same, upd_same, by rw [rgI_len]; exact hw, S5⟩ ?_
        rintro m σ H6 ⟨rs, us, rfl, rfl, hR, hW, hsum, S6⟩
        have hlR : EvB K emp (tCB (rLenS K) (tCons (tVar 3) tNil)) [some (.ref a), some (.ref st), some (.ref W), some (.ref R), none, none, none, none, none, none, none, none, none] H6 (.int (rs.length : Int)) := by
          have := evb_len (evb_v (σ := [some (.ref a), some (.ref st), some (.ref W), some (.ref R), none, none, none, none, none, none, none, none, none]) (i := 3) rfl (dp_W (K := K) (SqL.of hR))) (B2 := emp)
          rw [List.length_map] at this
          exact this
        refine ⟨_, evt_T (B := emp) (evb_ib (B := emp) (B' := emp) (g := fun i j => decide (j < i)) hlR evb_int), fun hb H7 e7 => ?_, fun hb H7 e7 => ?_⟩
        · have hpos := of_decide_eq_true hb
          refine ⟨fun σ H' => ∃ (rs' us' : List Int), rs'.length < rs.length ∧ σ = [some (.ref a), some (.ref st), some (.ref W), some (.ref R), none, none, none, none, none, none, none, none, none] ∧ H' R = some (.lst (rs'.map V.int)) ∧ H' W = some (.lst (us'.map V.int)) ∧ rs'.length + us'.length ≤ 12 ∧ Strm H' st, ?_, ?_⟩
          · rintro σ2 H8 ⟨rs', us', h1, h2, h3, h4, h5, h6⟩
            exact ⟨rs'.length, h1, rs', us', rfl, h2, h3, h4, h5, h6⟩
          · have hR7 := e7 _ _ hR
            have hW7 := e7 _ _ hW
            refine ⟨_, rfl, .inl ⟨rfl, _, SqL.of hW7⟩, _, rfl, .inl ⟨rfl, _, SqL.of hR7⟩, _, rfl, _, rfl, R, _, rfl, .inl (SqL.of hR7), st, _, rfl, S6.ex e7, by rw [List.length_map]; omega, by rw [List.length_map]; omega, fun d H8 d0 d1 S8 K8 => ?_⟩
            rw [List.length_map] at d1
            obtain ⟨j, rfl⟩ : ∃ j : Nat, d = (j : Int) := ⟨d.toNat, by omega⟩
            have hR8 := K8 _ _ Rst hR7
            have hW8 := K8 _ _ Wst hW7
            have hj : j < rs.length := by omega
            have hp : seqIndex? (j : Int) (rs.map V.int).length = some j := PySem.StrLaws.seqIndex_nonneg (by omega) (by rw [List.length_map]; omega)
            refine ⟨R, _, _, j, _, rfl, rfl, hR8, by omega, by omega, hp, mapAt (getD_some' hj), ?_⟩
            refine ⟨W, _, _, rfl, rfl, by rw [upd_ne RW.symm]; exact hW8, szl (by rw [List.length_map]; omega), ?_⟩
            refine ⟨rs.eraseIdx j, us ++ [rs.getD j 0], by rw [List.length_eraseIdx, if_pos hj]; omega, rfl, ?_, ?_, by rw [List.length_eraseIdx, if_pos hj, List.length_append, List.length_singleton]; omega, (S8.off Rst.symm).off Wst.symm⟩
            · rw [upd_ne RW, upd_same, List.eraseIdx_eq_take_drop_succ, List.eraseIdx_eq_take_drop_succ, List.map_append, List.map_take, List.map_drop]
            · rw [upd_same, List.map_append]
              rfl
        · have hne := of_decide_eq_false hb
          exact ⟨W, us, _, rfl, by omega, dp_W (SqL.of (wo_of Wst (e7 _ _ hW))), S6.ex e7⟩
      · exact ⟨p, ws, none, rfl, hw, dp_W (SqL.of (wo_of pst (K4 _ _ pst hp3))), S4⟩
    rintro σ H4 ⟨p', ws', x3, rfl, hw', hp', S4⟩
    -- rows
    refine ⟨_, rfl, _, ws', rfl, hp'.mono (wo_ex st), by omega, fun v5 H5 e5 hv5 => ?_⟩
    have S5 := S4.ex e5
    have hv5 : Dp K (wo st H5) v5 (dT (tab ws')) := hv5.mono (nw_wo S4.some)
    have tn := tab_ne ws'
    have tr := tab_rows ws'
    have tf := tab_flat ws'
    refine ⟨fun σ H' => ∃ v6 fs, σ = [some (.ref a), some (.ref st), some (.ref p'), x3, some v6, none, none, none, none, none, none, none, none] ∧ Dp K H' v6 (dT fs) ∧ fs.length ≤ 13 ∧ fs.flatten.length ≤ 13, ?_, ?_⟩
    · refine ⟨_, rfl, st, 2, rfl, S5, by decide, by decide, fun d H6 d0 d1 S6 K6 => ⟨rfl, _, rfl, ite2 (fun _ => ?_) (fun _ => ?_)⟩⟩
      · refine ⟨_, rfl, _, rfl, st, v5, tab ws', rfl, S6, hv5.mono K6.wo, by omega, by omega, tn, fun v7 fs7 H7 hv7 hl7 ht7 S7 K7 => ?_⟩
        exact ⟨v7, fs7, rfl, hv7.mono via_le, by omega, by omega⟩
      · exact ⟨v5, tab ws', rfl, (hv5.mono K6.wo).mono (wo_ex st), by omega, by omega⟩
    rintro σ H6 ⟨v6, fs, rfl, hv6, hfl, hft⟩
    have sm : Small fs := ⟨by omega, by omega⟩
    -- actual
    refine ⟨_, rfl, v6, fs, rfl, hv6, sm, fun H7 e7 => ?_⟩
    have hv7 := hv6.mono e7
    refine ⟨_, rfl, _, .ty "bool", _, _, true, rfl, .ty _, .base (.bl _), kit_ty (by decide +kernel), true, rfl, iteF ?_⟩
    refine ⟨_, rfl, _, rfl, v6, fs, rfl, hv7, sm, fun H8 e8 => ⟨rfl, _, rfl, iteNS rfl ?_⟩⟩
    have hv8 := hv7.mono e8
    by_cases c : IsTab fs
    case neg =>
      rw [pB_f c]
      exact ⟨_, rfl, _, rfl, iteT (q _)⟩
    rw [pB_t c]
    refine ⟨_, rfl, _, rfl, iteF ?_⟩
    -- lengths
    obtain ⟨va, xs, rfl, hs, ha⟩ : ∃ va xs, v6 = .ref va ∧ SqT K H8 va xs ∧ DpAll K H8 xs (fs.map dR) := by
      cases hv8 with
      | tup hs ha => exact ⟨_, _, rfl, hs, ha⟩
    have el : xs.length = fs.length := by rw [dp_len ha, List.length_map]
    refine ⟨_, rfl, va, rfl, ⟨_, hs⟩, fun D nD => ?_⟩
    refine lc_tup (xs := xs) (fun i H' => Cwd K emp H8 D ((lens (fs.take i)).map PyData.int) H') (cwd_start nD) (fun i H' _ p => Evl.ex_t p.2.1 hs) (fun i x H' hi p => ?_) fun H9 p => ?_
    · obtain ⟨d, hd, hx⟩ := dp_at ha hi
      obtain ⟨r, hr1, rfl⟩ := dT_at hd
      refine ⟨rfl, ?_⟩
      have hif : i < fs.length := (List.getElem?_eq_some_iff.mp hr1).1
      have ht : (lens (fs.take (i + 1))).map PyData.int = if true then (lens (fs.take i)).map PyData.int ++ [.int (r.length : Int)] else (lens (fs.take i)).map PyData.int := by
        unfold lens
        rw [if_pos rfl, List.take_add_one, hr1, List.map_append, List.map_append]
        rfl
      rw [ht]
      refine cwd_turn emp_ex p (by rw [List.length_map, lens_len, List.length_take]; omega) evt_yes fun _ => ?_
      have := evb_lenT (ds := r.map PyData.int) (B := H8) (ta := tVar 11) (σ := [some (.ref a), some (.ref st), some (.ref p'), x3, some (.ref va), some (.bl true), none, none, none, none, none, some x, none]) (evb_v rfl hx) (B2 := emp)
      rw [List.length_map] at this
      exact this
    rw [el, List.take_length] at p
    obtain ⟨p1, e9, vs1, hD, p4⟩ := p
    have evs := dp_ints_inv p4
    subst evs
    clear p1 p4
    have hll : (lens fs).length = fs.length := lens_len fs
    have hv9 := hv8.mono e9
    have hni := lens_noninc c
    have hpos : ∀ x ∈ lens fs, 0 ≤ x ∧ x ≤ 13 := fun x hx => by
      unfold lens at hx
      obtain ⟨r, hr1, rfl⟩ := List.mem_map.mp hx
      have := mem_len hr1
      omega
    -- heights
    have h0 : 0 ≤ (lens fs).getD 0 0 ∧ (lens fs).getD 0 0 ≤ 13 := by
      by_cases z : 0 < (lens fs).length
      · exact hpos _ (List.mem_of_getElem? (getD_some' z))
      · rw [List.getD_eq_getElem?_getD, List.getElem?_eq_none (by omega)]
        exact ⟨by decide, by decide⟩
    have hmax : EvB K emp (tCB (rMax K) (tCons (tOp rCat (tLst (tCons (tC (.int 0)) tNil)) (tVar 6)) tNil)) [some (.ref a), some (.ref st), some (.ref p'), x3, some (.ref va), some (.bl true), some (.ref D), none, none, none, none, none, none] H9 (.int ((lens fs).getD 0 0)) := by
      refine evb_max (B := emp) (evb_cat0L rfl hD (by omega)) (Nat.succ_pos _) ?_ fun y hy => ?_
      · by_cases z : 0 < (lens fs).length
        · exact List.mem_cons_of_mem _ (List.mem_of_getElem? (getD_some' z))
        · rw [List.getD_eq_getElem?_getD, List.getElem?_eq_none (by omega)]
          exact List.mem_cons_self
      · rcases List.mem_cons.mp hy with h | h
        · omega
        · obtain ⟨i, hi⟩ := List.mem_iff_getElem?.mp h
          have hil := (List.getElem?_eq_some_iff.mp hi).1
          have := hni 0 i (by omega) hil
          rw [List.getD_eq_getElem?_getD (i := i), hi] at this
          exact this
    have hh := evb_lcR (K := K) (B := emp) (B' := emp) (H := H9) (σ := [some (.ref a), some (.ref st), some (.ref p'), x3, some (.ref va), some (.bl true), some (.ref D), none, none, none, none, none, none]) (j := 12) (vs := [12]) (t := tYes)
      (te := tCB (rLenS K) (tCons (tLc (iTup K (tVar 4)) (gName 11) (tTest (tOp (rI0 fun i j => .bl (decide (j < i))) (tCB (rLenS K) (tCons (tVar 11) tNil)) (tVar 12))) (tVar 11) [11]) tNil)) emp_ex (eva1 hmax) (by omega) (fun _ => rfl)
      (fun n => ((List.range n).map (cnt (lens fs))).map PyData.int) rfl fun i H2 e2 hi => by
        refine ⟨true, .int (cnt (lens fs) i), evt_yes, fun _ => ?_, by rw [if_pos rfl, range_map_succ, List.map_append]; rfl⟩
        have h1 := evb_lcTv (K := K) (B := H2) (H := H2) (σ := [some (.ref a), some (.ref st), some (.ref p'), x3, some (.ref va), some (.bl true), some (.ref D), none, none, none, none, none, some (.int (i : Int))]) (t := tTest (tOp (rI0 fun i j => .bl (decide (j < i))) (tCB (rLenS K) (tCons (tVar 11) tNil)) (tVar 12))) (te := tVar 11) (i0 := 4) (v0 := .ref va) (j := 11) (vs := [11]) (Ex.refl H2) rfl (hv9.mono e2) (by rw [List.length_map]; omega) (fun _ => rfl)
          (fun n => ((fs.take n).filter fun r => decide ((i : Int) < (r.length : Int))).map dR) rfl fun n x dx H4 e4 hn hx => by
            obtain ⟨l, hl1, rfl⟩ := dT_at hn
            refine ⟨decide ((i : Int) < (l.length : Int)), dR l, ?_, fun _ => evb_var rfl hx e4, ?_⟩
            · have h2 := evb_lenT (ds := l.map PyData.int) (B := H2) (ta := tVar 11) (σ := [some (.ref a), some (.ref st), some (.ref p'), x3, some (.ref va), some (.bl true), some (.ref D), none, none, none, none, some x, some (.int (i : Int))]) (evb_var rfl hx e4) (B2 := emp)
              rw [List.length_map] at h2
              exact evt_T (B := emp) (evb_ib (B := emp) (B' := emp) (g := fun i j => decide (j < i)) h2 (evb_sv (H := H4) rfl (.int _) rfl))
            · rw [List.take_add_one, hl1, List.filter_append, List.map_append]
              show _ = if decide ((i : Int) < (l.length : Int)) then _ else _
              cases cc : decide ((i : Int) < (l.length : Int)) with
              | true =>
                rw [if_pos rfl]
                show _ ++ ([l].filter _).map dR = _
                rw [List.filter_cons, if_pos cc]
                rfl
              | false =>
                rw [if_neg Bool.false_ne_true]
                show _ ++ ([l].filter _).map dR = _
                rw [List.filter_cons, if_neg (by rw [cc]; decide)]
                exact List.append_nil _
        rw [List.length_map, List.take_length] at h1
        have h2 := evb_len h1 (B2 := emp)
        rw [List.length_map, cnt_lens] at h2
        exact h2
    refine qd_asg hh fun v10 H10 e10 hv10 => ?_
    have hv10 : Dp K H10 v10 (dW (conj (lens fs))) := hv10.mono via_le
    have hT10 := hv9.mono e10
    have hD10 := e10 _ _ hD
    -- shape_of(rows) != tuple(lengths) or conjugate(tuple(lengths)) != tuple(heights)
    refine qd_when (Evl.et_or (evt_T (B := emp) (evb_neD (B := emp) (b := false) (evb_call (eva1 (evb_v rfl hT10)) (spShape_D sm)) (evb_tupW (B := H10) (evb_v rfl (dp_W (SqL.of hD10))) (B2 := emp)) (pur_R _) (pur_R _) (by decide) (by decide) (by simp)))
      fun _ => evt_T (B := emp) (evb_neD (B := emp) (b := false) (evb_call (eva1 (evb_tupW (B := H10) (evb_v rfl (dp_W (SqL.of hD10))) (B2 := emp))) (spConj_D hni (by omega) fun x hx => ⟨(hpos x hx).1, by have := (hpos x hx).2; omega⟩)) (evb_tupW (B := H10) (evb_v rfl hv10) (B2 := emp)) (pur_R _) (pur_R _) (by decide) (by decide) (by simp)))
      (fun h => absurd h (by decide)) fun _ H11 e11 => ?_
    have hT11 := hT10.mono e11
    have hD11 := e11 _ _ hD10
    -- ends
    have at6 : ∀ {σ : L2.St} {H3 : Hp} {te : TE} {j : Nat} {z : Int}, σ[6]? = some (some (.ref D)) → Ex H11 H3 → EvB K emp te σ H3 (.int z) → z = (j : Int) → j < fs.length → EvB K emp (tOp (rIxL K) (tVar 6) te) σ H3 (.int ((lens fs ++ [0]).getD j 0)) := fun {σ H3 te j z} h1 e3 hte hz hj => by
      have e5 : (lens fs ++ [0]).getD j 0 = (lens fs).getD j 0 := by
        rw [List.getD_eq_getElem?_getD, List.getElem?_append_left (by omega), ← List.getD_eq_getElem?_getD]
      rw [e5]
      exact (evb_ixL (B' := emp) (evb_v h1 (dp_W (SqL.of (e3 _ _ hD11)))) hte hz (by rw [List.getElem?_map, getD_some' (by omega)]; rfl)).scal rfl
    have atC : ∀ {σ : L2.St} {H3 : Hp} {te : TE} {j : Nat} {z : Int}, σ[6]? = some (some (.ref D)) → Ex H11 H3 → EvB K emp te σ H3 (.int z) → z = (j : Int) → j < fs.length + 1 → EvB K emp (tOp (rIxL K) (tOp rCat (tVar 6) (tLst (tCons (tC (.int 0)) tNil))) te) σ H3 (.int ((lens fs ++ [0]).getD j 0)) := fun {σ H3 te j z} h1 e3 hte hz hj =>
      (evb_ixL (B := emp) (B' := emp) (evb_catL0 h1 (e3 _ _ hD11) (by omega)) hte hz (by rw [List.getElem?_map, getD_some' (by rw [List.length_append, hll]; show j < fs.length + 1; omega)]; rfl)).scal rfl
    have hlenT : EvB K emp (tCB (rLenS K) (tCons (tVar 4) tNil)) [some (.ref a), some (.ref st), some (.ref p'), x3, some (.ref va), some (.bl true), some (.ref D), some v10, none, none, none, none, none] H11 (.int (fs.length : Int)) := by
      have := evb_lenT (K := K) (B := H11) (ta := tVar 4) (σ := [some (.ref a), some (.ref st), some (.ref p'), x3, some (.ref va), some (.bl true), some (.ref D), some v10, none, none, none, none, none]) (evb_v rfl hT11) (B2 := emp)
      rw [List.length_map] at this
      exact this
    have he := evb_lcR (K := K) (B := emp) (B' := emp) (H := H11) (σ := [some (.ref a), some (.ref st), some (.ref p'), x3, some (.ref va), some (.bl true), some (.ref D), some v10, none, none, none, none, none]) (j := 12) (vs := [12])
      (t := tTest (tOp (rI0 fun i j => .bl (decide (j < i))) (tOp (rIxL K) (tVar 6) (tVar 12)) (tOp (rIxL K) (tOp rCat (tVar 6) (tLst (tCons (tC (.int 0)) tNil))) (tOp (rI0 fun i j => .int (i + j)) (tVar 12) (tC (.int 1))))))
      (te := tTup (tCons (tVar 12) (tCons (tOp (rI0 fun i j => .int (i - j)) (tOp (rIxL K) (tVar 6) (tVar 12)) (tC (.int 1))) tNil))) emp_ex (eva1 hlenT) (by omega) (fun _ => rfl)
      (fun n => ((List.range n).filter fun k => decide ((lens fs ++ [0]).getD (k + 1) 0 < (lens fs ++ [0]).getD k 0)).map fun (k : Nat) => .tuple [.int (k : Int), .int ((lens fs ++ [0]).getD k 0 - 1)]) rfl fun i H3 e3 hi => by
        refine ⟨decide ((lens fs ++ [0]).getD (i + 1) 0 < (lens fs ++ [0]).getD i 0), .tuple [.int (i : Int), .int ((lens fs ++ [0]).getD i 0 - 1)], ?_, fun _ => ?_, cornD_take _ _⟩
        · exact evt_T (B := emp) (evb_ib (B := emp) (B' := emp) (g := fun i j => decide (j < i)) (at6 rfl e3 (evb_sv (H := H3) rfl (.int _) rfl) rfl (by omega)) (atC rfl e3 (evb_ii (B := H3) (B' := H3) (g := fun i j => i + j) (evb_v rfl (.int _)) evb_int) rfl (by omega)))
        · exact evb_tup (eva2 (evb_sv (H := H3) rfl (.int _) rfl) (evb_ii (B := emp) (B' := emp) (g := fun i j => i - j) (at6 rfl e3 (evb_sv (H := H3) rfl (.int _) rfl) rfl (by omega)) evb_int)) (by show 2 ≤ 100000; decide)
    rw [Int.toNat_natCast] at he
    refine qd_asg he fun v12 H12 e12 hv12 => ?_
    have hv12 : Dp K H12 v12 (.list (cornD fs)) := hv12.mono via_le
    have hT12 := hT11.mono e12
    -- not isinstance(corners(rows), list) or corners(rows) != ends
    refine qd_when (Evl.et_or (Evl.et_not (evt_B (B := emp) (evb_isi_list (B := emp) (evb_call (eva1 (evb_v rfl hT12)) (spCorners_D sm)))))
      fun _ => evt_T (B := emp) (evb_neD (b := false) (B := emp) (evb_call (eva1 (evb_v rfl hT12)) (spCorners_D sm)) (evb_v rfl hv12) (pur_corn fs) (pur_corn fs) (by decide) (by decide) (by simp)))
      (fun h => absurd h (by decide)) fun _ H13 e13 => ?_
    have hT13 := hT12.mono e13
    -- reading, told
    refine qd_asg (B := emp) (evb_call (eva1 (evb_v rfl hT13)) (spReading_D sm)) fun v14 H14 e14 hv14 => ?_
    have hv14 := hv14.mono via_le
    have hT14 := hT13.mono e14
    refine qd_asg (B := emp) (evb_call (eva1 (evb_v rfl hT14)) (spRecord_D sm)) fun v15 H15 e15 hv15 => ?_
    have hv15 := hv15.mono via_le
    have hT15 := hT14.mono e15
    have hR15 := hv14.mono e15
    have hlr : fs.reverse.flatten.length ≤ 13 := by rw [rev_flat_len]; exact hft
    generalize hg : fs.reverse.flatten = l at *
    have hsp := List.mergeSort_perm l (fun a b => decide (a ≤ b))
    have hss := sorted_ms l
    generalize l.mergeSort (fun a b => decide (a ≤ b)) = ns' at hsp hss
    have hlen : EvB K emp (tCB (rLenS K) (tCons (tVar 9) tNil)) [some (.ref a), some (.ref st), some (.ref p'), x3, some (.ref va), some (.bl true), some (.ref D), some v10, some v12, some v14, some v15, none, none] H15 (.int (l.length : Int)) := by
      have := evb_len (K := K) (B := H15) (ta := tVar 9) (σ := [some (.ref a), some (.ref st), some (.ref p'), x3, some (.ref va), some (.bl true), some (.ref D), some v10, some v12, some v14, some v15, none, none]) (evb_v rfl hR15) (B2 := emp)
      rw [List.length_map] at this
      exact this
    refine qd_when (Evl.et_or (Evl.et_not (evt_B (B := emp) (evb_isi_bool (B := emp) (evb_sv (H := H15) rfl hv15 rfl))))
      fun _ => evt_T (B := emp) (evb_neb (B := emp) (B' := emp) (evb_sv (H := H15) rfl hv15 rfl) (evb_eqD (B := emp) (B' := emp) (b := pB (Rec l)) (evb_sorted (B := H15) (evb_v rfl hR15) hsp hss) (evb_rg (B := emp) (B' := emp) evb_int (evb_ii (B := emp) (B' := emp) (g := fun i j => i + j) hlen evb_int) (by omega)) (pur_W _) (pur_W _) (by decide) (by decide) (by rw [pB_iff, ← rec_iff hsp hss]; exact ⟨fun h => congrArg dW h, fun h => dW_inj h⟩))))
      (fun h => absurd h (by simp)) fun _ H16 e16 => ?_
    have hT16 := hT15.mono e16
    have hR16 := hR15.mono e16
    refine ⟨_, rfl, v14, l, rfl, hR16, by omega, true, rfl, iteT ?_⟩
    refine ⟨_, rfl, _, rfl, _, fs, rfl, hT16, sm, fun v18 H18 e18 hv18 => ?_⟩
    rw [hg] at hv18
    exact eq_data (hR16.mono e18) (hv18.mono via_le) (pur_W _) (pur_W _) (by decide) (by decide) (fun _ => q _) (fun h => absurd rfl h)
end
theorem all_mk {l : PySem.W.OpenLaw} {w : World} {K : PySem.W.Frag} {h : Heap} {mg : Str → Option Value} {fa : Addr} (X : K.In h) (G : h.Ns mainGlobals mg) (hfa : mg "law" = some (.ref fa))
    {od1 an1 : Option Addr} {sl1 : Array (Option Value)} {oc1 kV1 dc1 pm1 cd1 ct1 : Value} {f1 : Addr}
    (a1 : PySem.W.nsIn K mainGlobals "is_table" = some (some (.ref f1))) (l1 : K.lookup f1 = some ⟨oc1, od1, .func (PySem.W.fnOf "is_table" "is_table" (defArgs s_is_table) (defBody s_is_table) (defScope s_is_table) .none kV1 dc1 pm1 an1 cd1 ct1), sl1⟩) (c1 : PySem.W.codeIn K cd1 "is_table" = true) (k1 : PySem.W.keepIn K (.ref f1) = true)
    {od2 an2 : Option Addr} {sl2 : Array (Option Value)} {oc2 kV2 dc2 pm2 cd2 ct2 : Value} {f2 : Addr}
    (a2 : PySem.W.nsIn K mainGlobals "is_record" = some (some (.ref f2))) (l2 : K.lookup f2 = some ⟨oc2, od2, .func (PySem.W.fnOf "is_record" "is_record" (defArgs s_is_record) (defBody s_is_record) (defScope s_is_record) .none kV2 dc2 pm2 an2 cd2 ct2), sl2⟩) (c2 : PySem.W.codeIn K cd2 "is_record" = true) (k2 : PySem.W.keepIn K (.ref f2) = true)
    {od3 an3 : Option Addr} {sl3 : Array (Option Value)} {oc3 kV3 dc3 pm3 cd3 ct3 : Value} {f3 : Addr}
    (a3 : PySem.W.nsIn K mainGlobals "shape_of" = some (some (.ref f3))) (l3 : K.lookup f3 = some ⟨oc3, od3, .func (PySem.W.fnOf "shape_of" "shape_of" (defArgs s_shape_of) (defBody s_shape_of) (defScope s_shape_of) .none kV3 dc3 pm3 an3 cd3 ct3), sl3⟩) (c3 : PySem.W.codeIn K cd3 "shape_of" = true) (k3 : PySem.W.keepIn K (.ref f3) = true)
    {od4 an4 : Option Addr} {sl4 : Array (Option Value)} {oc4 kV4 dc4 pm4 cd4 ct4 : Value} {f4 : Addr}
    (a4 : PySem.W.nsIn K mainGlobals "reading_word" = some (some (.ref f4))) (l4 : K.lookup f4 = some ⟨oc4, od4, .func (PySem.W.fnOf "reading_word" "reading_word" (defArgs s_reading_word) (defBody s_reading_word) (defScope s_reading_word) .none kV4 dc4 pm4 an4 cd4 ct4), sl4⟩) (c4 : PySem.W.codeIn K cd4 "reading_word" = true) (k4 : PySem.W.keepIn K (.ref f4) = true)
    {od5 an5 : Option Addr} {sl5 : Array (Option Value)} {oc5 kV5 dc5 pm5 cd5 ct5 : Value} {f5 : Addr}
    (a5 : PySem.W.nsIn K mainGlobals "corners" = some (some (.ref f5))) (l5 : K.lookup f5 = some ⟨oc5, od5, .func (PySem.W.fnOf "corners" "corners" (defArgs s_corners) (defBody s_corners) (defScope s_corners) .none kV5 dc5 pm5 an5 cd5 ct5), sl5⟩) (c5 : PySem.W.codeIn K cd5 "corners" = true) (k5 : PySem.W.keepIn K (.ref f5) = true)
    {od6 an6 : Option Addr} {sl6 : Array (Option Value)} {oc6 kV6 dc6 pm6 cd6 ct6 : Value} {f6 : Addr}
    (a6 : PySem.W.nsIn K mainGlobals "conjugate" = some (some (.ref f6))) (l6 : K.lookup f6 = some ⟨oc6, od6, .func (PySem.W.fnOf "conjugate" "conjugate" (defArgs s_conjugate) (defBody s_conjugate) (defScope s_conjugate) .none kV6 dc6 pm6 an6 cd6 ct6), sl6⟩) (c6 : PySem.W.codeIn K cd6 "conjugate" = true) (k6 : PySem.W.keepIn K (.ref f6) = true)
    {od7 an7 : Option Addr} {sl7 : Array (Option Value)} {oc7 kV7 dc7 pm7 cd7 ct7 : Value} {f7 : Addr}
    (a7 : PySem.W.nsIn K mainGlobals "_is_row" = some (some (.ref f7))) (l7 : K.lookup f7 = some ⟨oc7, od7, .func (PySem.W.fnOf "_is_row" "_is_row" (defArgs s_is_row) (defBody s_is_row) (defScope s_is_row) .none kV7 dc7 pm7 an7 cd7 ct7), sl7⟩) (c7 : PySem.W.codeIn K cd7 "_is_row" = true) (k7 : PySem.W.keepIn K (.ref f7) = true)
    {od8 an8 : Option Addr} {sl8 : Array (Option Value)} {oc8 kV8 dc8 pm8 cd8 ct8 : Value} {f8 : Addr}
    (a8 : PySem.W.nsIn K mainGlobals "_may_stand_below" = some (some (.ref f8))) (l8 : K.lookup f8 = some ⟨oc8, od8, .func (PySem.W.fnOf "_may_stand_below" "_may_stand_below" (defArgs s_may_stand_below) (defBody s_may_stand_below) (defScope s_may_stand_below) .none kV8 dc8 pm8 an8 cd8 ct8), sl8⟩) (c8 : PySem.W.codeIn K cd8 "_may_stand_below" = true) (k8 : PySem.W.keepIn K (.ref f8) = true)
    {od9 an9 : Option Addr} {sl9 : Array (Option Value)} {oc9 kV9 dc9 pm9 cd9 ct9 : Value} {f9 : Addr}
    (a9 : PySem.W.nsIn K mainGlobals "_law_cell" = some (some (.ref f9))) (l9 : K.lookup f9 = some ⟨oc9, od9, .func (PySem.W.fnOf "_law_cell" "_law_cell" (defArgs s_law_cell) (defBody s_law_cell) (defScope s_law_cell) .none kV9 dc9 pm9 an9 cd9 ct9), sl9⟩) (c9 : PySem.W.codeIn K cd9 "_law_cell" = true) (k9 : PySem.W.keepIn K (.ref f9) = true)
    {od10 an10 : Option Addr} {sl10 : Array (Option Value)} {oc10 kV10 dc10 pm10 cd10 ct10 : Value} {f10 : Addr}
    (a10 : PySem.W.nsIn K mainGlobals "_law_stream" = some (some (.ref f10))) (l10 : K.lookup f10 = some ⟨oc10, od10, .func (PySem.W.fnOf "_law_stream" "_law_stream" (defArgs s_law_stream) (defBody s_law_stream) (defScope s_law_stream) .none kV10 dc10 pm10 an10 cd10 ct10), sl10⟩) (c10 : PySem.W.codeIn K cd10 "_law_stream" = true) (k10 : PySem.W.keepIn K (.ref f10) = true)
    {od11 an11 : Option Addr} {sl11 : Array (Option Value)} {oc11 kV11 dc11 pm11 cd11 ct11 : Value} {f11 : Addr}
    (a11 : PySem.W.nsIn K mainGlobals "_law_next" = some (some (.ref f11))) (l11 : K.lookup f11 = some ⟨oc11, od11, .func (PySem.W.fnOf "_law_next" "_law_next" (defArgs s_law_next) (defBody s_law_next) (defScope s_law_next) .none kV11 dc11 pm11 an11 cd11 ct11), sl11⟩) (c11 : PySem.W.codeIn K cd11 "_law_next" = true) (k11 : PySem.W.keepIn K (.ref f11) = true)
    {od12 an12 : Option Addr} {sl12 : Array (Option Value)} {oc12 kV12 dc12 pm12 cd12 ct12 : Value} {f12 : Addr}
    (a12 : PySem.W.nsIn K mainGlobals "_law_is_integer" = some (some (.ref f12))) (l12 : K.lookup f12 = some ⟨oc12, od12, .func (PySem.W.fnOf "_law_is_integer" "_law_is_integer" (defArgs s_law_is_integer) (defBody s_law_is_integer) (defScope s_law_is_integer) .none kV12 dc12 pm12 an12 cd12 ct12), sl12⟩) (c12 : PySem.W.codeIn K cd12 "_law_is_integer" = true) (k12 : PySem.W.keepIn K (.ref f12) = true)
    {od13 an13 : Option Addr} {sl13 : Array (Option Value)} {oc13 kV13 dc13 pm13 cd13 ct13 : Value} {f13 : Addr}
    (a13 : PySem.W.nsIn K mainGlobals "_law_word" = some (some (.ref f13))) (l13 : K.lookup f13 = some ⟨oc13, od13, .func (PySem.W.fnOf "_law_word" "_law_word" (defArgs s_law_word) (defBody s_law_word) (defScope s_law_word) .none kV13 dc13 pm13 an13 cd13 ct13), sl13⟩) (c13 : PySem.W.codeIn K cd13 "_law_word" = true) (k13 : PySem.W.keepIn K (.ref f13) = true)
    {od14 an14 : Option Addr} {sl14 : Array (Option Value)} {oc14 kV14 dc14 pm14 cd14 ct14 : Value} {f14 : Addr}
    (a14 : PySem.W.nsIn K mainGlobals "_law_insert" = some (some (.ref f14))) (l14 : K.lookup f14 = some ⟨oc14, od14, .func (PySem.W.fnOf "_law_insert" "_law_insert" (defArgs s_law_insert) (defBody s_law_insert) (defScope s_law_insert) .none kV14 dc14 pm14 an14 cd14 ct14), sl14⟩) (c14 : PySem.W.codeIn K cd14 "_law_insert" = true) (k14 : PySem.W.keepIn K (.ref f14) = true)
    {od15 an15 : Option Addr} {sl15 : Array (Option Value)} {oc15 kV15 dc15 pm15 cd15 ct15 : Value} {f15 : Addr}
    (a15 : PySem.W.nsIn K mainGlobals "_law_table" = some (some (.ref f15))) (l15 : K.lookup f15 = some ⟨oc15, od15, .func (PySem.W.fnOf "_law_table" "_law_table" (defArgs s_law_table) (defBody s_law_table) (defScope s_law_table) .none kV15 dc15 pm15 an15 cd15 ct15), sl15⟩) (c15 : PySem.W.codeIn K cd15 "_law_table" = true) (k15 : PySem.W.keepIn K (.ref f15) = true)
    {od16 an16 : Option Addr} {sl16 : Array (Option Value)} {oc16 kV16 dc16 pm16 cd16 ct16 : Value} {f16 : Addr}
    (a16 : PySem.W.nsIn K mainGlobals "_law_reading" = some (some (.ref f16))) (l16 : K.lookup f16 = some ⟨oc16, od16, .func (PySem.W.fnOf "_law_reading" "_law_reading" (defArgs s_law_reading) (defBody s_law_reading) (defScope s_law_reading) .none kV16 dc16 pm16 an16 cd16 ct16), sl16⟩) (c16 : PySem.W.codeIn K cd16 "_law_reading" = true) (k16 : PySem.W.keepIn K (.ref f16) = true)
    {od17 an17 : Option Addr} {sl17 : Array (Option Value)} {oc17 kV17 dc17 pm17 cd17 ct17 : Value} {f17 : Addr}
    (a17 : PySem.W.nsIn K mainGlobals "_law_is_word" = some (some (.ref f17))) (l17 : K.lookup f17 = some ⟨oc17, od17, .func (PySem.W.fnOf "_law_is_word" "_law_is_word" (defArgs s_law_is_word) (defBody s_law_is_word) (defScope s_law_is_word) .none kV17 dc17 pm17 an17 cd17 ct17), sl17⟩) (c17 : PySem.W.codeIn K cd17 "_law_is_word" = true) (k17 : PySem.W.keepIn K (.ref f17) = true)
    {od18 an18 : Option Addr} {sl18 : Array (Option Value)} {oc18 kV18 dc18 pm18 cd18 ct18 : Value} {f18 : Addr}
    (a18 : PySem.W.nsIn K mainGlobals "_law_spoilt" = some (some (.ref f18))) (l18 : K.lookup f18 = some ⟨oc18, od18, .func (PySem.W.fnOf "_law_spoilt" "_law_spoilt" (defArgs s_law_spoilt) (defBody s_law_spoilt) (defScope s_law_spoilt) .none kV18 dc18 pm18 an18 cd18 ct18), sl18⟩) (c18 : PySem.W.codeIn K cd18 "_law_spoilt" = true) (k18 : PySem.W.keepIn K (.ref f18) = true)
    {od19 an19 : Option Addr} {sl19 : Array (Option Value)} {oc19 kV19 dc19 pm19 cd19 ct19 : Value} {f19 : Addr}
    (a19 : PySem.W.nsIn K mainGlobals "_law_holds" = some (some (.ref f19))) (l19 : K.lookup f19 = some ⟨oc19, od19, .func (PySem.W.fnOf "_law_holds" "_law_holds" (defArgs s_law_holds) (defBody s_law_holds) (defScope s_law_holds) .none kV19 dc19 pm19 an19 cd19 ct19), sl19⟩) (c19 : PySem.W.codeIn K cd19 "_law_holds" = true) (k19 : PySem.W.keepIn K (.ref f19) = true)
    {od20 an20 : Option Addr} {sl20 : Array (Option Value)} {oc20 kV20 dc20 pm20 cd20 ct20 : Value} {f20 : Addr}
    (a20 : PySem.W.nsIn K mainGlobals "law" = some (some (.ref f20))) (l20 : K.lookup f20 = some ⟨oc20, od20, .func (PySem.W.fnOf "law" "law" (defArgs s_law) (defBody s_law) (defScope s_law) .none kV20 dc20 pm20 an20 cd20 ct20), sl20⟩) (c20 : PySem.W.codeIn K cd20 "law" = true) (k20 : PySem.W.keepIn K (.ref f20) = true)
    (z0 : PySem.W.nsIn K mainGlobals "all" = some none)
    (z1 : PySem.W.nsIn K mainGlobals "bool" = some none)
    (z2 : PySem.W.nsIn K mainGlobals "int" = some none)
    (z3 : PySem.W.nsIn K mainGlobals "isinstance" = some none)
    (z4 : PySem.W.nsIn K mainGlobals "len" = some none)
    (z5 : PySem.W.nsIn K mainGlobals "list" = some none)
    (z6 : PySem.W.nsIn K mainGlobals "max" = some none)
    (z7 : PySem.W.nsIn K mainGlobals "range" = some none)
    (z8 : PySem.W.nsIn K mainGlobals "reversed" = some none)
    (z9 : PySem.W.nsIn K mainGlobals "sorted" = some none)
    (z10 : PySem.W.nsIn K mainGlobals "tuple" = some none)
    (z11 : PySem.W.nsIn K mainGlobals "zip" = some none)
    : ∃ fd : FuncData, (∀ (s : Shared) (v : Value), BindsTo s fd ⟨[v], []⟩ [("script", v)]) ∧ ∀ base : Heap, K.In base → base.Ns mainGlobals mg → FnOk l.prog w K mg base CX0 6 fa fd ["script"] (spLaw K) := by
  have e := hfa.symm.trans (PySem.W.mg_of X G a20)
  cases e
  have FL := fun_mk (st := s_law) l20 c20 k20
  have T : Txt K mg := {
    is_table := D1.mk' (ps := ["rows"]) X G a1 l1 c1 k1 (fun _ _ _ _ _ _ us hl => match us, hl with | [_], _ => rfl),
    is_record := D1.mk' (ps := ["table"]) X G a2 l2 c2 k2 (fun _ _ _ _ _ _ us hl => match us, hl with | [_], _ => rfl),
    shape_of := D1.mk' (ps := ["table"]) X G a3 l3 c3 k3 (fun _ _ _ _ _ _ us hl => match us, hl with | [_], _ => rfl),
    reading_word := D1.mk' (ps := ["table"]) X G a4 l4 c4 k4 (fun _ _ _ _ _ _ us hl => match us, hl with | [_], _ => rfl),
    corners := D1.mk' (ps := ["table"]) X G a5 l5 c5 k5 (fun _ _ _ _ _ _ us hl => match us, hl with | [_], _ => rfl),
    conjugate := D1.mk' (ps := ["shape"]) X G a6 l6 c6 k6 (fun _ _ _ _ _ _ us hl => match us, hl with | [_], _ => rfl),
    is_row := D1.mk' (ps := ["row"]) X G a7 l7 c7 k7 (fun _ _ _ _ _ _ us hl => match us, hl with | [_], _ => rfl),
    may_stand_below := D1.mk' (ps := ["lower", "upper"]) X G a8 l8 c8 k8 (fun _ _ _ _ _ _ us hl => match us, hl with | [_, _], _ => rfl),
    law_cell := D1.mk' (ps := ["script", "k"]) X G a9 l9 c9 k9 (fun _ _ _ _ _ _ us hl => match us, hl with | [_, _], _ => rfl),
    law_stream := D1.mk' (ps := ["cell"]) X G a10 l10 c10 k10 (fun _ _ _ _ _ _ us hl => match us, hl with | [_], _ => rfl),
    law_next := D1.mk' (ps := ["stream", "size"]) X G a11 l11 c11 k11 (fun _ _ _ _ _ _ us hl => match us, hl with | [_, _], _ => rfl),
    law_is_integer := D1.mk' (ps := ["actual"]) X G a12 l12 c12 k12 (fun _ _ _ _ _ _ us hl => match us, hl with | [_], _ => rfl),
    law_word := D1.mk' (ps := ["stream", "most"]) X G a13 l13 c13 k13 (fun _ _ _ _ _ _ us hl => match us, hl with | [_, _], _ => rfl),
    law_insert := D1.mk' (ps := ["rows", "letter"]) X G a14 l14 c14 k14 (fun _ _ _ _ _ _ us hl => match us, hl with | [_, _], _ => rfl),
    law_table := D1.mk' (ps := ["word"]) X G a15 l15 c15 k15 (fun _ _ _ _ _ _ us hl => match us, hl with | [_], _ => rfl),
    law_reading := D1.mk' (ps := ["table"]) X G a16 l16 c16 k16 (fun _ _ _ _ _ _ us hl => match us, hl with | [_], _ => rfl),
    law_is_word := D1.mk' (ps := ["actual"]) X G a17 l17 c17 k17 (fun _ _ _ _ _ _ us hl => match us, hl with | [_], _ => rfl),
    law_spoilt := D1.mk' (ps := ["stream", "table"]) X G a18 l18 c18 k18 (fun _ _ _ _ _ _ us hl => match us, hl with | [_, _], _ => rfl),
    law_holds := D1.mk' (ps := ["rows"]) X G a19 l19 c19 k19 (fun _ _ _ _ _ _ us hl => match us, hl with | [_], _ => rfl),
    all := PySem.W.mg_none_of X G z0,
    bool := PySem.W.mg_none_of X G z1,
    int := PySem.W.mg_none_of X G z2,
    isinstance := PySem.W.mg_none_of X G z3,
    len := PySem.W.mg_none_of X G z4,
    list := PySem.W.mg_none_of X G z5,
    max := PySem.W.mg_none_of X G z6,
    range := PySem.W.mg_none_of X G z7,
    reversed := PySem.W.mg_none_of X G z8,
    sorted := PySem.W.mg_none_of X G z9,
    tuple := PySem.W.mg_none_of X G z10,
    zip := PySem.W.mg_none_of X G z11 }
  exact ⟨PySem.W.fnOf "law" "law" (defArgs s_law) (defBody s_law) (defScope s_law) .none kV20 dc20 pm20 an20 cd20 ct20, fun s v => .of_eq rfl, fun base _ _ => ok_law T FL⟩
end CP
open PySem PySem.W PyProof.Rows
set_option maxRecDepth 100000 in
set_option maxHeartbeats 0 in
theorem PySem.Challenge.cw_coverpapers_k05_tables_holds : PySem.Challenge.rw_coverpapers_k05_tables.Holds := by
  w_on; o_law; k_head; (case hw => w_witness2)
  k_fill
  refine L2.walk_of (l := PySem.Challenge.rw_coverpapers_k05_tables) (n := 63) (k := 6) (x := "script") (CX := fun _ => L2.CX0) (sp := fun w => CP.spLaw _) rfl (by decide) rfl ⟨rfl, by decide, by decide⟩ (fun w h Y => PySem.W.kIn_of Y) ?F (fun _ _ a ns hl hO hS => CP.law_end hl hO hS) (fun _ _ _ _ _ h => h)
  case F =>
    intro w mg fa h KX G hmg
    refine' CP.all_mk KX G hmg ?a1 ?l1 ?c1 ?k1 ?a2 ?l2 ?c2 ?k2 ?a3 ?l3 ?c3 ?k3 ?a4 ?l4 ?c4 ?k4 ?a5 ?l5 ?c5 ?k5 ?a6 ?l6 ?c6 ?k6 ?a7 ?l7 ?c7 ?k7 ?a8 ?l8 ?c8 ?k8 ?a9 ?l9 ?c9 ?k9 ?a10 ?l10 ?c10 ?k10 ?a11 ?l11 ?c11 ?k11 ?a12 ?l12 ?c12 ?k12 ?a13 ?l13 ?c13 ?k13 ?a14 ?l14 ?c14 ?k14 ?a15 ?l15 ?c15 ?k15 ?a16 ?l16 ?c16 ?k16 ?a17 ?l17 ?c17 ?k17 ?a18 ?l18 ?c18 ?k18 ?a19 ?l19 ?c19 ?k19 ?a20 ?l20 ?c20 ?k20 ?z0 ?z1 ?z2 ?z3 ?z4 ?z5 ?z6 ?z7 ?z8 ?z9 ?z10 ?z11
    (case a1 => k_is)
    (case l1 => k_is)
    (case c1 => k_is)
    (case k1 => k_is)
    (case a2 => k_is)
    (case l2 => k_is)
    (case c2 => k_is)
    (case k2 => k_is)
    (case a3 => k_is)
    (case l3 => k_is)
    (case c3 => k_is)
    (case k3 => k_is)
    (case a4 => k_is)
    (case l4 => k_is)
    (case c4 => k_is)
    (case k4 => k_is)
    (case a5 => k_is)
    (case l5 => k_is)
    (case c5 => k_is)
    (case k5 => k_is)
    (case a6 => k_is)
    (case l6 => k_is)
    (case c6 => k_is)
    (case k6 => k_is)
    (case a7 => k_is)
    (case l7 => k_is)
    (case c7 => k_is)
    (case k7 => k_is)
    (case a8 => k_is)
    (case l8 => k_is)
    (case c8 => k_is)
    (case k8 => k_is)
    (case a9 => k_is)
    (case l9 => k_is)
    (case c9 => k_is)
    (case k9 => k_is)
    (case a10 => k_is)
    (case l10 => k_is)
    (case c10 => k_is)
    (case k10 => k_is)
    (case a11 => k_is)
    (case l11 => k_is)
    (case c11 => k_is)
    (case k11 => k_is)
    (case a12 => k_is)
    (case l12 => k_is)
    (case c12 => k_is)
    (case k12 => k_is)
    (case a13 => k_is)
    (case l13 => k_is)
    (case c13 => k_is)
    (case k13 => k_is)
    (case a14 => k_is)
    (case l14 => k_is)
    (case c14 => k_is)
    (case k14 => k_is)
    (case a15 => k_is)
    (case l15 => k_is)
    (case c15 => k_is)
    (case k15 => k_is)
    (case a16 => k_is)
    (case l16 => k_is)
    (case c16 => k_is)
    (case k16 => k_is)
    (case a17 => k_is)
    (case l17 => k_is)
    (case c17 => k_is)
    (case k17 => k_is)
    (case a18 => k_is)
    (case l18 => k_is)
    (case c18 => k_is)
    (case k18 => k_is)
    (case a19 => k_is)
    (case l19 => k_is)
    (case c19 => k_is)
    (case k19 => k_is)
    (case a20 => k_is)
    (case l20 => k_is)
    (case c20 => k_is)
    (case k20 => k_is)
    (case z0 => k_is)
    (case z1 => k_is)
    (case z2 => k_is)
    (case z3 => k_is)
    (case z4 => k_is)
    (case z5 => k_is)
    (case z6 => k_is)
    (case z7 => k_is)
    (case z8 => k_is)
    (case z9 => k_is)
    (case z10 => k_is)
    (case z11 => k_is)

