import PyProof.Rows.All
import Wide.All
import OpenK.AllK
import Wide.FinOn
import HandS.ForMost
import HandS.ForExc
import HandS.Evl
import HandS.Wide
import HandS.IsInst
import HandS.ExcIs
import HandS.TryOnly
import HandS.WordsExc
import HandS.Conv
import HandS.Deep
import HandS.SortInts
import HandS.Rev
import HandS.Zip
import HandS.TupAny
import HandS.Style
import HandS.CallLocal
import HandS.SetFor
import PyProof.TupleOfSeq
import KE.GoesEnumKw
import PySem.Challenge.RW_coverpapers_k27_exchanges_of_words
set_option Elab.async false
set_option linter.all false
set_option maxRecDepth 100000
set_option maxHeartbeats 4000000
namespace CP
open PySem PySem.Spec PyProof.Rows L2
open Evl (Ex RetV RetL)
/-! ### data in the tracked heap -/
mutual
inductive Da (H : Hp) : V → PyData → Prop
  | non : Da H .non .none
  | bl (b : Bool) : Da H (.bl b) (.bool b)
  | int (i : Int) : Da H (.int i) (.int i)
  | str (x : Str) : Da H (.str x) (.str x)
  | lst {a : Addr} {xs : List V} {ds : List PyData} : H a = some (.lst xs) → DaAll H xs ds → Da H (.ref a) (.list ds)
  | tup {a : Addr} {xs : List V} {ds : List PyData} : H a = some (.tup xs) → DaAll H xs ds → Da H (.ref a) (.tuple ds)
inductive DaAll (H : Hp) : List V → List PyData → Prop
  | nil : DaAll H [] []
  | cons {v : V} {vs : List V} {d : PyData} {ds : List PyData} : Da H v d → DaAll H vs ds → DaAll H (v :: vs) (d :: ds)
end
section
variable {K : PySem.W.Frag} {H H' : Hp}
mutual
theorem Da.mono (e : Ex H H') : ∀ {d : PyData} {v : V}, Da H v d → Da H' v d
  | .none, _, h => by cases h; exact .non
  | .bool _, _, h => by cases h; exact .bl _
  | .int _, _, h => by cases h; exact .int _
  | .str _, _, h => by cases h; exact .str _
  | .list ds, _, h => by cases h with | lst hs ha => exact .lst (e _ _ hs) (DaAll.mono e ha)
  | .tuple ds, _, h => by cases h with | tup hs ha => exact .tup (e _ _ hs) (DaAll.mono e ha)
  | .dict _, _, h => by cases h
theorem DaAll.mono (e : Ex H H') : ∀ {ds : List PyData} {vs : List V}, DaAll H vs ds → DaAll H' vs ds
  | [], _, h => by cases h; exact .nil
  | d :: ds, _, h => by cases h with | cons a b => exact .cons (Da.mono e a) (DaAll.mono e b)
end
mutual
theorem Da.dp : ∀ {d : PyData} {v : V}, Da H v d → Dp K H v d
  | .none, _, h => by cases h; exact .non
  | .bool _, _, h => by cases h; exact .bl _
  | .int _, _, h => by cases h; exact .int _
  | .str _, _, h => by cases h; exact .str _
  | .list ds, _, h => by cases h with | lst hs ha => exact .lst (SqL.of hs) (DaAll.dp ha)
  | .tuple ds, _, h => by cases h with | tup hs ha => exact .tup (SqT.of hs) (DaAll.dp ha)
  | .dict _, _, h => by cases h
theorem DaAll.dp : ∀ {ds : List PyData} {vs : List V}, DaAll H vs ds → DpAll K H vs ds
  | [], _, h => by cases h; exact .nil
  | d :: ds, _, h => by cases h with | cons a b => exact .cons (Da.dp a) (DaAll.dp b)
end
mutual
theorem Da.fun : ∀ {d e : PyData} {v : V}, Da H v d → Da H v e → d = e
  | .none, _, _, h, g => by cases h; cases g; rfl
  | .bool _, _, _, h, g => by cases h; cases g; rfl
  | .int _, _, _, h, g => by cases h; cases g; rfl
  | .str _, _, _, h, g => by cases h; cases g; rfl
  | .list ds, _, _, h, g => by
    cases h with
    | lst hs ha =>
      cases g with
      | lst hs' ha' =>
        rw [hs] at hs'
        cases hs'
        rw [DaAll.fun ha ha']
      | tup hs' ha' =>
        rw [hs] at hs'
        cases hs'
  | .tuple ds, _, _, h, g => by
    cases h with
    | tup hs ha =>
      cases g with
      | tup hs' ha' =>
        rw [hs] at hs'
        cases hs'
        rw [DaAll.fun ha ha']
      | lst hs' ha' =>
        rw [hs] at hs'
        cases hs'
  | .dict _, _, _, h, _ => by cases h
theorem DaAll.fun : ∀ {ds es : List PyData} {vs : List V}, DaAll H vs ds → DaAll H vs es → ds = es
  | [], _, _, h, g => by cases h; cases g; rfl
  | d :: ds, _, _, h, g => by
    cases h with
    | cons a b =>
      cases g with
      | cons a' b' => rw [Da.fun a a', DaAll.fun b b']
end
theorem DaAll.len : ∀ {vs : List V} {ds : List PyData}, DaAll H vs ds → vs.length = ds.length
  | _, _, .nil => rfl
  | _, _, .cons _ b => by rw [List.length_cons, List.length_cons, DaAll.len b]
theorem DaAll.at' : ∀ {vs : List V} {ds : List PyData} {j : Nat} {d : PyData}, DaAll H vs ds → ds[j]? = some d → ∃ v, vs[j]? = some v ∧ Da H v d
  | _, _, _, _, .nil, h => by simp at h
  | _, _, 0, _, .cons a _, h => by
    simp only [List.getElem?_cons_zero, Option.some.injEq] at h
    subst h
    exact ⟨_, rfl, a⟩
  | _, _, j + 1, d, .cons _ b, h => by
    rw [List.getElem?_cons_succ] at h
    obtain ⟨v, e, q⟩ := DaAll.at' b h
    exact ⟨v, by rw [List.getElem?_cons_succ]; exact e, q⟩
theorem DaAll.snoc : ∀ {vs : List V} {ds : List PyData} {v : V} {d : PyData}, DaAll H vs ds → Da H v d → DaAll H (vs ++ [v]) (ds ++ [d])
  | _, _, _, _, .nil, h => .cons h .nil
  | _, _, _, _, .cons a b, h => .cons a (DaAll.snoc b h)
theorem DaAll.app : ∀ {vs us : List V} {ds es : List PyData}, DaAll H vs ds → DaAll H us es → DaAll H (vs ++ us) (ds ++ es)
  | _, _, _, _, .nil, h => h
  | _, _, _, _, .cons a b, h => .cons a (DaAll.app b h)
theorem DaAll.drop : ∀ {vs : List V} {ds : List PyData} (n : Nat), DaAll H vs ds → DaAll H (vs.drop n) (ds.drop n)
  | _, _, 0, h => h
  | _, _, _ + 1, .nil => .nil
  | _, _, n + 1, .cons _ b => DaAll.drop n b
theorem DaAll.take : ∀ {vs : List V} {ds : List PyData} (n : Nat), DaAll H vs ds → DaAll H (vs.take n) (ds.take n)
  | _, _, 0, _ => .nil
  | _, _, _ + 1, .nil => .nil
  | _, _, n + 1, .cons a b => .cons a (DaAll.take n b)
theorem DaAll.rev : ∀ {vs : List V} {ds : List PyData}, DaAll H vs ds → DaAll H vs.reverse ds.reverse
  | _, _, .nil => .nil
  | _, _, .cons a b => by
    rw [List.reverse_cons, List.reverse_cons]
    exact DaAll.snoc (DaAll.rev b) a
theorem DaAll.ints : ∀ ws : List Int, DaAll H (ws.map V.int) (ws.map PyData.int)
  | [] => .nil
  | w :: ws => .cons (.int w) (DaAll.ints ws)
theorem DaAll.ints_inv : ∀ {ws : List Int} {vs : List V}, DaAll H vs (ws.map PyData.int) → vs = ws.map V.int
  | [], _, h => by cases h; rfl
  | w :: ws, _, h => by
    cases h with
    | cons a b =>
      cases a
      rw [DaAll.ints_inv b]
      rfl
theorem DaAll.bools_inv : ∀ {bs : List Bool} {vs : List V}, DaAll H vs (bs.map PyData.bool) → vs = bs.map V.bl
  | [], _, h => by cases h; rfl
  | w :: ws, _, h => by
    cases h with
    | cons a b =>
      cases a
      rw [DaAll.bools_inv b]
      rfl
theorem DaAll.rep {v : V} {d : PyData} (h : Da H v d) : ∀ n, DaAll H (List.replicate n v) (List.replicate n d)
  | 0 => .nil
  | n + 1 => .cons h (DaAll.rep h n)
end
mutual
def imm : PyData → Bool
  | .list _ => false
  | .tuple ds => immAll ds
  | .dict _ => false
  | _ => true
def immAll : List PyData → Bool
  | [] => true
  | d :: ds => imm d && immAll ds
end
/-- a heap without some objects -/
def ct (p : Addr → Bool) (H : Hp) : Hp := fun b => if p b then none else H b
def isLo : Option HO → Bool
  | some (.lst _) => true
  | _ => false
section
variable {H H' : Hp} {p q : Addr → Bool}
theorem ct_at {b : Addr} {o : HO} (h : ct p H b = some o) : p b = false ∧ H b = some o := by
  unfold ct at h
  cases c : p b with
  | true => rw [c, if_pos rfl] at h; cases h
  | false => rw [c, if_neg Bool.false_ne_true] at h; exact ⟨rfl, h⟩
theorem ct_of {b : Addr} {o : HO} (n : p b = false) (h : H b = some o) : ct p H b = some o := by
  unfold ct
  rw [n, if_neg Bool.false_ne_true]
  exact h
theorem ct_le : Ex (ct p H) H := fun _ _ h => (ct_at h).2
theorem ct_ex (h : ∀ b o, p b = false → H b = some o → q b = false ∧ H' b = some o) : Ex (ct p H) (ct q H') := fun b o e => by
  obtain ⟨a, z⟩ := ct_at e
  obtain ⟨u, v⟩ := h b o a z
  exact ct_of u v
mutual
theorem Da.imm (hp : ∀ b, p b = true → isLo (H b) = true ∨ H b = none) : ∀ {d : PyData} {v : V}, imm d = true → Da H v d → Da (ct p H) v d
  | .none, _, _, h => by cases h; exact .non
  | .bool _, _, _, h => by cases h; exact .bl _
  | .int _, _, _, h => by cases h; exact .int _
  | .str _, _, _, h => by cases h; exact .str _
  | .list ds, _, e, h => by simp [CP.imm] at e
  | .tuple ds, _, e, h => by
    cases h with
    | @tup a xs _ hs ha =>
      have e' : immAll ds = true := by simpa [CP.imm] using e
      refine .tup (ct_of ?_ hs) (DaAll.imm hp e' ha)
      cases c : p a with
      | false => rfl
      | true =>
        rcases hp a c with z | z
        · rw [hs] at z; cases z
        · rw [hs] at z; cases z
  | .dict _, _, _, h => by cases h
theorem DaAll.imm (hp : ∀ b, p b = true → isLo (H b) = true ∨ H b = none) : ∀ {ds : List PyData} {vs : List V}, immAll ds = true → DaAll H vs ds → DaAll (ct p H) vs ds
  | [], _, _, h => by cases h; exact .nil
  | d :: ds, _, e, h => by
    cases h with
    | cons a b =>
      simp only [immAll, Bool.and_eq_true] at e
      exact .cons (Da.imm hp e.1 a) (DaAll.imm hp e.2 b)
end
mutual
theorem Da.less {a : Addr} {vs : List V} {es : List PyData} (ha : H a = some (.lst vs)) (he : DaAll H vs es) : ∀ {d : PyData} {v : V}, sizeOf d < sizeOf (PyData.list es) → Da H v d → Da (ct (fun b => decide (b = a)) H) v d
  | .none, _, _, h => by cases h; exact .non
  | .bool _, _, _, h => by cases h; exact .bl _
  | .int _, _, _, h => by cases h; exact .int _
  | .str _, _, _, h => by cases h; exact .str _
  | .list ds, _, e, h => by
    cases h with
    | @lst b xs _ hs hall =>
      have hb : b ≠ a := fun z => by
        subst z
        rw [ha] at hs
        cases hs
        rw [DaAll.fun hall he] at e
        exact Nat.lt_irrefl _ e
      refine .lst (ct_of (decide_eq_false hb) hs) (DaAll.less ha he ?_ hall)
      have : sizeOf (PyData.list ds) = 1 + sizeOf ds := by simp
      omega
  | .tuple ds, _, e, h => by
    cases h with
    | @tup b xs _ hs hall =>
      have hb : b ≠ a := fun z => by
        subst z
        rw [ha] at hs
        cases hs
      refine .tup (ct_of (decide_eq_false hb) hs) (DaAll.less ha he ?_ hall)
      have : sizeOf (PyData.tuple ds) = 1 + sizeOf ds := by simp
      omega
  | .dict _, _, _, h => by cases h
theorem DaAll.less {a : Addr} {vs : List V} {es : List PyData} (ha : H a = some (.lst vs)) (he : DaAll H vs es) : ∀ {ds : List PyData} {us : List V}, sizeOf ds < sizeOf (PyData.list es) → DaAll H us ds → DaAll (ct (fun b => decide (b = a)) H) us ds
  | [], _, _, h => by cases h; exact .nil
  | d :: ds, _, e, h => by
    cases h with
    | cons x y =>
      have : sizeOf (d :: ds) = 1 + sizeOf d + sizeOf ds := by simp
      exact .cons (Da.less ha he (by omega) x) (DaAll.less ha he (by omega) y)
end
end
/-! ### what a name holds -/
inductive Lv | nw | loc | fr | di
deriving DecidableEq
/-- da: data, by how fresh its lists are (nw: new since the expression began; loc: since the def began; fr: not the def's own; di: perhaps); ls: a list of the def's own; fn: a def; st: a stream; ns: a new stream; sc: the script -/
inductive OV
  | da (l : Lv) (d : PyData)
  | ls (xs : List OV)
  | fn (f : Addr)
  | st
  | ns
  | sc (ws : List Int)
abbrev Env := List (Option OV)
def Strm (H : Hp) (a : Addr) : Prop := ∃ s0 s1 s2 : Int, H a = some (.lst [.int s0, .int s1, .int s2])
def bad (H0 : Hp) (A S : List Addr) (H1 H2 : Hp) : Lv → Addr → Bool
  | .nw, b => (H1 b).isSome && isLo (H2 b)
  | .loc, b => decide (b ∈ A) || decide (b ∈ S) || ((H0 b).isSome && isLo (H2 b))
  | .fr, b => decide (b ∈ A) || decide (b ∈ S)
  | .di, b => decide (b ∈ S)
abbrev fz (H0 : Hp) (A S : List Addr) (H1 H2 : Hp) (l : Lv) : Hp := ct (bad H0 A S H1 H2 l) H2
mutual
inductive Own (K : PySem.W.Frag) (F : Lv → Hp) (S : List Addr) (H : Hp) : OV → V → List Addr → Prop
  | da {l : Lv} {d : PyData} {v : V} : Da (F l) v d → Own K F S H (.da l d) v []
  | fn {f : Addr} : Own K F S H (.fn f) (.ref f) []
  | sc {a : Addr} {ws : List Int} : SqL K (F .fr) a (ws.map V.int) → Own K F S H (.sc ws) (.ref a) []
  | st {a : Addr} : a ∈ S → Own K F S H .st (.ref a) []
  | ls {a : Addr} {xs : List OV} {vs : List V} {A : List Addr} : H a = some (.lst vs) → OwnAll K F S H xs vs A → a ∉ A → Own K F S H (.ls xs) (.ref a) (a :: A)
inductive OwnAll (K : PySem.W.Frag) (F : Lv → Hp) (S : List Addr) (H : Hp) : List OV → List V → List Addr → Prop
  | nil : OwnAll K F S H [] [] []
  | cons {x : OV} {v : V} {A : List Addr} {xs : List OV} {vs : List V} {B : List Addr} : Own K F S H x v A → OwnAll K F S H xs vs B → (∀ a ∈ A, a ∉ B) → OwnAll K F S H (x :: xs) (v :: vs) (A ++ B)
end
inductive OwnEnv (K : PySem.W.Frag) (F : Lv → Hp) (S : List Addr) (H : Hp) : Env → L2.St → List Addr → Prop
  | nil : OwnEnv K F S H [] [] []
  | vac {x : Option V} {e : Env} {σ : L2.St} {A : List Addr} : OwnEnv K F S H e σ A → OwnEnv K F S H (none :: e) (x :: σ) A
  | has {o : OV} {v : V} {A : List Addr} {e : Env} {σ : L2.St} {B : List Addr} : Own K F S H o v A → OwnEnv K F S H e σ B → (∀ a ∈ A, a ∉ B) → OwnEnv K F S H (some o :: e) (some v :: σ) (A ++ B)
section
variable {K : PySem.W.Frag} {F F' : Lv → Hp} {S S' : List Addr} {H H' : Hp}
theorem SqL.mono' {H H' : Hp} {a : Addr} {xs : List V} (e : Ex H H') (h : SqL K H a xs) : SqL K H' a xs := Evl.ex_l e h
mutual
theorem Own.mono (hF : ∀ l, Ex (F l) (F' l)) (hS : ∀ a ∈ S, a ∈ S') : ∀ {o : OV} {v : V} {A : List Addr}, (∀ a ∈ A, ∀ u, H a = some u → H' a = some u) → Own K F S H o v A → Own K F' S' H' o v A
  | .da _ _, _, _, _, h => by cases h with | da h => exact .da (h.mono (hF _))
  | .fn _, _, _, _, h => by cases h; exact .fn
  | .ns, _, _, _, h => by cases h
  | .sc _, _, _, _, h => by cases h with | sc h => exact .sc (Evl.ex_l (hF _) h)
  | .st, _, _, _, h => by cases h with | st h => exact .st (hS _ h)
  | .ls xs, _, _, hA, h => by
    cases h with
    | ls h1 h2 h3 => exact .ls (hA _ List.mem_cons_self _ h1) (OwnAll.mono hF hS (fun a ha => hA a (List.mem_cons_of_mem _ ha)) h2) h3
theorem OwnAll.mono (hF : ∀ l, Ex (F l) (F' l)) (hS : ∀ a ∈ S, a ∈ S') : ∀ {os : List OV} {vs : List V} {A : List Addr}, (∀ a ∈ A, ∀ u, H a = some u → H' a = some u) → OwnAll K F S H os vs A → OwnAll K F' S' H' os vs A
  | [], _, _, _, h => by cases h; exact .nil
  | o :: os, _, _, hA, h => by
    cases h with
    | cons a b c => exact .cons (Own.mono hF hS (fun x hx => hA x (List.mem_append_left _ hx)) a) (OwnAll.mono hF hS (fun x hx => hA x (List.mem_append_right _ hx)) b) c
end
theorem OwnEnv.mono (hF : ∀ l, Ex (F l) (F' l)) (hS : ∀ a ∈ S, a ∈ S') : ∀ {e : Env} {σ : L2.St} {A : List Addr}, (∀ a ∈ A, ∀ u, H a = some u → H' a = some u) → OwnEnv K F S H e σ A → OwnEnv K F' S' H' e σ A
  | [], _, _, _, h => by cases h; exact .nil
  | none :: _, _, _, hA, h => by cases h with | vac a => exact .vac (OwnEnv.mono hF hS hA a)
  | some _ :: _, _, _, hA, h => by
    cases h with
    | has a b c => exact .has (Own.mono hF hS (fun x hx => hA x (List.mem_append_left _ hx)) a) (OwnEnv.mono hF hS (fun x hx => hA x (List.mem_append_right _ hx)) b) c
theorem OwnEnv.at' : ∀ {e : Env} {σ : L2.St} {A : List Addr} {i : Nat} {o : OV}, OwnEnv K F S H e σ A → e[i]? = some (some o) → ∃ v B, σ[i]? = some (some v) ∧ Own K F S H o v B ∧ ∀ b ∈ B, b ∈ A
  | [], _, _, _, _, _, h => by simp at h
  | none :: e, _, _, 0, _, _, h => by simp at h
  | some o' :: e, _, _, 0, o, hh, h => by
    simp only [List.getElem?_cons_zero, Option.some.injEq] at h
    subst h
    cases hh with
    | has a b c => exact ⟨_, _, rfl, a, fun b hb => List.mem_append_left _ hb⟩
  | none :: e, _, _, i + 1, o, hh, h => by
    cases hh with
    | vac a =>
      obtain ⟨v, B, h1, h2, h3⟩ := OwnEnv.at' a (by simpa using h)
      exact ⟨v, B, by simpa using h1, h2, h3⟩
  | some o' :: e, _, _, i + 1, o, hh, h => by
    cases hh with
    | has a b c =>
      obtain ⟨v, B, h1, h2, h3⟩ := OwnEnv.at' b (by simpa using h)
      exact ⟨v, B, by simpa using h1, h2, fun x hx => List.mem_append_right _ (h3 x hx)⟩
/-- a slot that is set -/
theorem OwnEnv.set : ∀ {e : Env} {σ : L2.St} {A : List Addr} {i : Nat} {o : OV} {v : V} {B : List Addr}, OwnEnv K F S H e σ A → Own K F S H o v B → (∀ b ∈ B, b ∉ A) → ∃ A', OwnEnv K F S H (e.set i (some o)) (σ.set i (some v)) A' ∧ ∀ a ∈ A', a ∈ A ∨ a ∈ B
  | [], _, _, _, _, _, _, hh, _, _ => by
    cases hh
    exact ⟨[], .nil, fun a h => by cases h⟩
  | none :: e, _, _, 0, _, _, B, hh, ho, hd => by
    cases hh with
    | vac a => exact ⟨B ++ _, .has ho a hd, fun x hx => (List.mem_append.mp hx).symm⟩
  | some o' :: e, _, _, 0, _, _, B, hh, ho, hd => by
    cases hh with
    | @has _ _ A1 _ _ A2 a b c => exact ⟨B ++ A2, .has ho b fun x hx z => hd x hx (List.mem_append_right _ z), fun x hx => (List.mem_append.mp hx).elim .inr fun z => .inl (List.mem_append_right _ z)⟩
  | none :: e, _, _, i + 1, _, _, B, hh, ho, hd => by
    cases hh with
    | vac a =>
      obtain ⟨A', h1, h2⟩ := OwnEnv.set (i := i) a ho hd
      exact ⟨A', .vac h1, h2⟩
  | some o' :: e, _, _, i + 1, _, _, B, hh, ho, hd => by
    cases hh with
    | @has _ _ A1 _ _ A2 a b c =>
      obtain ⟨A', h1, h2⟩ := OwnEnv.set (i := i) b ho (fun x hx z => hd x hx (List.mem_append_right _ z))
      refine ⟨A1 ++ A', .has a h1 fun x hx z => ?_, fun x hx => ?_⟩
      · rcases h2 x z with y | y
        · exact c x hx y
        · exact hd x y (List.mem_append_left _ hx)
      · rcases List.mem_append.mp hx with y | y
        · exact .inl (List.mem_append_left _ y)
        · rcases h2 x y with z | z
          · exact .inl (List.mem_append_right _ z)
          · exact .inr z
theorem OwnEnv.wipe : ∀ {e : Env} {σ : L2.St} {A : List Addr} {i : Nat} {x : Option V}, OwnEnv K F S H e σ A → ∃ A', OwnEnv K F S H (e.set i none) (σ.set i x) A' ∧ ∀ a ∈ A', a ∈ A
  | [], _, _, _, _, hh => by
    cases hh
    exact ⟨[], .nil, fun a h => by cases h⟩
  | none :: e, _, _, 0, _, hh => by
    cases hh with
    | vac a => exact ⟨_, .vac a, fun x hx => hx⟩
  | some o' :: e, _, _, 0, _, hh => by
    cases hh with
    | @has _ _ A1 _ _ A2 a b c => exact ⟨A2, .vac b, fun x hx => List.mem_append_right _ hx⟩
  | none :: e, _, _, i + 1, x, hh => by
    cases hh with
    | vac a =>
      obtain ⟨A', h1, h2⟩ := OwnEnv.wipe (i := i) (x := x) a
      exact ⟨A', .vac h1, h2⟩
  | some o' :: e, _, _, i + 1, x, hh => by
    cases hh with
    | @has _ _ A1 _ _ A2 a b c =>
      obtain ⟨A', h1, h2⟩ := OwnEnv.wipe (i := i) (x := x) b
      refine ⟨A1 ++ A', .has a h1 fun x hx z => c x hx (h2 x z), fun x hx => ?_⟩
      rcases List.mem_append.mp hx with y | y
      · exact List.mem_append_left _ y
      · exact List.mem_append_right _ (h2 x y)
theorem OwnEnv.len : ∀ {e : Env} {σ : L2.St} {A : List Addr}, OwnEnv K F S H e σ A → e.length = σ.length
  | _, _, _, .nil => rfl
  | _, _, _, .vac a => by rw [List.length_cons, List.length_cons, a.len]
  | _, _, _, .has _ b _ => by rw [List.length_cons, List.length_cons, b.len]
mutual
theorem Own.lo : ∀ {o : OV} {v : V} {A : List Addr}, Own K F S H o v A → ∀ a ∈ A, isLo (H a) = true
  | .da _ _, _, _, h => by cases h; intro a ha; cases ha
  | .fn _, _, _, h => by cases h; intro a ha; cases ha
  | .ns, _, _, h => by cases h
  | .sc _, _, _, h => by cases h; intro a ha; cases ha
  | .st, _, _, h => by cases h; intro a ha; cases ha
  | .ls xs, _, _, h => by
    cases h with
    | ls h1 h2 h3 =>
      intro a ha
      rcases List.mem_cons.mp ha with z | z
      · subst z
        rw [h1]
        rfl
      · exact OwnAll.lo h2 a z
theorem OwnAll.lo : ∀ {os : List OV} {vs : List V} {A : List Addr}, OwnAll K F S H os vs A → ∀ a ∈ A, isLo (H a) = true
  | [], _, _, h => by cases h; intro a ha; cases ha
  | o :: os, _, _, h => by
    cases h with
    | cons a b c =>
      intro x hx
      rcases List.mem_append.mp hx with z | z
      · exact Own.lo a x z
      · exact OwnAll.lo b x z
end
theorem OwnEnv.lo : ∀ {e : Env} {σ : L2.St} {A : List Addr}, OwnEnv K F S H e σ A → ∀ a ∈ A, isLo (H a) = true
  | _, _, _, .nil => fun a h => by cases h
  | _, _, _, .vac a => a.lo
  | _, _, _, .has a b _ => fun x hx => (List.mem_append.mp hx).elim (a.lo x) (b.lo x)
/-- how an expression may turn the heap -/
structure Step (S : List Addr) (H H' : Hp) : Prop where
  kp : ∀ b o, b ∉ S → H b = some o → H' b = some o
  st : ∀ a ∈ S, Strm H a → Strm H' a
theorem Step.refl (S : List Addr) (H : Hp) : Step S H H := ⟨fun _ _ _ h => h, fun _ _ h => h⟩
theorem Step.trans {S : List Addr} {H1 H2 H3 : Hp} (a : Step S H1 H2) (b : Step S H2 H3) : Step S H1 H3 := ⟨fun x o n h => b.kp x o n (a.kp x o n h), fun x m h => b.st x m (a.st x m h)⟩
theorem Step.ex {S : List Addr} {H1 H2 : Hp} (e : Ex H1 H2) : Step S H1 H2 := ⟨fun x o _ h => e x o h, fun x _ ⟨a, b, c, h⟩ => ⟨a, b, c, e _ _ h⟩⟩
theorem Step.new {S : List Addr} {H1 H2 : Hp} {p : Addr} {o : HO} (e : Step S H1 H2) (n : H2 p = none) : Step S H1 (upd H2 p o) := e.trans (.ex (Ex.new n))
theorem Strm.lo {a : Addr} (h : Strm H a) : isLo (H a) = true := by
  obtain ⟨x, y, z, e⟩ := h
  rw [e]
  rfl
structure Rel (K : PySem.W.Frag) (H0 : Hp) (S0 A S : List Addr) (σ : L2.St) (H : Hp) (env : Env) : Prop where
  own : ∃ B, OwnEnv K (fz H0 A S H H) S H env σ B ∧ ∀ b ∈ B, b ∈ A
  loA : ∀ a ∈ A, isLo (H a) = true
  dis : ∀ a ∈ A, a ∉ S
  str : ∀ a ∈ S, Strm H a
  ext : ∀ b o, b ∉ S0 → H0 b = some o → H b = some o
  sub : ∀ a ∈ S0, a ∈ S
  nA : ∀ a ∈ A, H0 a = none
  nS : ∀ a ∈ S, a ∈ S0 ∨ H0 a = none
theorem Rel.lo {H0 : Hp} {S0 A S : List Addr} {σ : L2.St} {env : Env} (r : Rel K H0 S0 A S σ H env) : ∀ b, b ∈ A ∨ b ∈ S → isLo (H b) = true := fun b h => h.elim (r.loA b) fun z => (r.str b z).lo
theorem lo_some {b : Addr} (h : isLo (H b) = true) : ∃ xs, H b = some (.lst xs) := by
  unfold isLo at h
  split at h
  · exact ⟨_, by assumption⟩
  · cases h
theorem Rel.dom {H0 : Hp} {S0 A S : List Addr} {σ : L2.St} {env : Env} (r : Rel K H0 S0 A S σ H env) {b : Addr} (h : (H0 b).isSome = true) : (H b).isSome = true := by
  by_cases c : b ∈ S0
  · obtain ⟨xs, e⟩ := lo_some (r.lo b (.inr (r.sub b c)))
    rw [e]
    rfl
  · obtain ⟨o, e⟩ := Option.isSome_iff_exists.mp h
    rw [r.ext b o c e]
    rfl
theorem step_dom {b : Addr} (hS : ∀ a ∈ S, Strm H a) (s : Step S H H') (h : (H b).isSome = true) : (H' b).isSome = true := by
  by_cases c : b ∈ S
  · obtain ⟨x, y, z, e⟩ := s.st b c (hS b c)
    rw [e]
    rfl
  · obtain ⟨o, e⟩ := Option.isSome_iff_exists.mp h
    rw [s.kp b o c e]
    rfl
theorem step_lo {b : Addr} (hS : ∀ a ∈ S, Strm H a) (s : Step S H H') (h : (H b).isSome = true) : isLo (H' b) = isLo (H b) := by
  by_cases c : b ∈ S
  · rw [(s.st b c (hS b c)).lo, (hS b c).lo]
  · obtain ⟨o, e⟩ := Option.isSome_iff_exists.mp h
    rw [s.kp b o c e, e]
/-- what is frozen stays -/
theorem fz_step {H0 H1 H2 H3 : Hp} {A S : List Addr} (hS : ∀ a ∈ S, Strm H1 a) (s1 : Step S H1 H2) (s : Step S H2 H3) (l : Lv) : Ex (fz H0 A S H1 H2 l) (fz H0 A S H1 H3 l) := ct_ex fun b o hb e => by
  have hS2 : ∀ a ∈ S, Strm H2 a := fun a h => s1.st a h (hS a h)
  have hl : isLo (H3 b) = isLo (H2 b) := step_lo hS2 s (by rw [e]; rfl)
  have nS : b ∉ S := fun z => by
    cases l with
    | nw =>
      have h1 := (hS b z).lo
      obtain ⟨xs, h1⟩ := lo_some h1
      have : bad H0 A S H1 H2 .nw b = true := by
        show ((H1 b).isSome && isLo (H2 b)) = true
        rw [h1, (hS2 b z).lo]
        rfl
      rw [this] at hb
      cases hb
    | _ => simp [bad, z] at hb
  refine ⟨?_, s.kp b o nS e⟩
  rw [← hb]
  cases l <;> simp only [bad, hl]
theorem Rel.step {H0 : Hp} {S0 A S : List Addr} {σ : L2.St} {env : Env} (r : Rel K H0 S0 A S σ H env) (s : Step S H H') : Rel K H0 S0 A S σ H' env := by
  have hA : ∀ a ∈ A, ∀ u, H a = some u → H' a = some u := fun a ha u e => s.kp a u (r.dis a ha) e
  refine ⟨?_, fun a ha => ?_, r.dis, fun a h => s.st a h (r.str a h), fun b o n h => ?_, r.sub, r.nA, r.nS⟩
  · obtain ⟨B, h1, h2⟩ := r.own
    refine ⟨B, h1.mono (fun l => ?_) (fun _ h => h) fun a ha => hA a (h2 a ha), h2⟩
    refine ct_ex fun b o hb e => ?_
    have nS : b ∉ S := fun z => by
      cases l with
      | nw =>
        have : bad H0 A S H H .nw b = true := by
          show ((H b).isSome && isLo (H b)) = true
          rw [(r.str b z).lo, e]
          rfl
        rw [this] at hb
        cases hb
      | _ => simp [bad, z] at hb
    have e2 := s.kp b o nS e
    refine ⟨?_, e2⟩
    rw [← hb]
    cases l <;> simp only [bad, e, e2]
  · obtain ⟨xs, e⟩ := lo_some (r.loA a ha)
    rw [hA a ha _ e]
    rfl
  · by_cases c : b ∈ S
    · rcases r.nS b c with z | z
      · exact absurd z n
      · rw [z] at h; cases h
    · exact s.kp b o c (r.ext b o n h)
end
/-! ### values of expressions -/
mutual
def OV.d : OV → Option PyData
  | .da _ d => some d
  | .ls xs => (OV.ds xs).map .list
  | _ => none
def OV.ds : List OV → Option (List PyData)
  | [] => some []
  | x :: xs => x.d.bind fun a => (OV.ds xs).map fun b => a :: b
end
def Lv.n : Lv → Nat
  | .nw => 0 | .loc => 1 | .fr => 2 | .di => 3
def Lv.sup (a b : Lv) : Lv := if a.n ≤ b.n then b else a
def nrm (l : Lv) (d : PyData) : Lv := if imm d then .nw else l
def mk (l : Lv) (d : PyData) : OV := .da (nrm l d) d
/-- a value as data -/
def rd (o : OV) (k : Lv → PyData → Prop) : Prop := match o with
  | .da l d => k l d
  | .ls xs => match OV.ds xs with
    | some ds => k .di (.list ds)
    | none => False
  | _ => False
def VR (K : PySem.W.Frag) (H0 : Hp) (A S : List Addr) (H1 H2 : Hp) (o : OV) (v : V) : Prop :=
  (o = .ns ∧ ∃ a, v = .ref a ∧ H1 a = none ∧ Strm H2 a) ∨ ∃ B, (∀ b ∈ B, b ∈ A) ∧ Own K (fz H0 A S H1 H2) S H2 o v B
/-- where an expression stands: it began at H1, the heap is H2 -/
structure At (K : PySem.W.Frag) (H0 : Hp) (S0 A S : List Addr) (σ : L2.St) (env : Env) (H1 H2 : Hp) : Prop where
  r : Rel K H0 S0 A S σ H1 env
  s : Step S H1 H2
section
variable {K : PySem.W.Frag} {H0 H1 H2 H3 H4 : Hp} {S0 A S : List Addr} {σ : L2.St} {env : Env} {o : OV} {v : V} {l m : Lv} {d : PyData}
theorem Rel.at' {H : Hp} (r : Rel K H0 S0 A S σ H env) : At K H0 S0 A S σ env H H := ⟨r, .refl S H⟩
theorem At.go (c : At K H0 S0 A S σ env H1 H2) (s : Step S H2 H3) : At K H0 S0 A S σ env H1 H3 := ⟨c.r, c.s.trans s⟩
theorem At.rel (c : At K H0 S0 A S σ env H1 H2) : Rel K H0 S0 A S σ H2 env := c.r.step c.s
theorem At.now (c : At K H0 S0 A S σ env H1 H2) : At K H0 S0 A S σ env H2 H2 := c.rel.at'
theorem At.dom (c : At K H0 S0 A S σ env H1 H2) {b : Addr} (h : (H1 b).isSome = true) : (H2 b).isSome = true := step_dom c.r.str c.s h
theorem fz_up (c : At K H0 S0 A S σ env H1 H2) (h : l.n ≤ m.n) : Ex (fz H0 A S H1 H2 l) (fz H0 A S H1 H2 m) := ct_ex fun b o hb e => by
  refine ⟨?_, e⟩
  have key : ∀ m', l.n ≤ m'.n → bad H0 A S H1 H2 m' b = true → bad H0 A S H1 H2 l b = true := fun m' hm z => by
    have hA : b ∈ A → (H1 b).isSome = true ∧ isLo (H2 b) = true := fun q => by
      obtain ⟨xs, e1⟩ := lo_some (c.r.lo b (.inl q))
      exact ⟨by rw [e1]; rfl, c.rel.lo b (.inl q)⟩
    have hS : b ∈ S → (H1 b).isSome = true ∧ isLo (H2 b) = true := fun q => by
      obtain ⟨xs, e1⟩ := lo_some (c.r.lo b (.inr q))
      exact ⟨by rw [e1]; rfl, c.rel.lo b (.inr q)⟩
    have h0 : (H0 b).isSome = true → (H1 b).isSome = true := c.r.dom
    cases m' <;> cases l <;> simp only [bad, Bool.or_eq_true, Bool.and_eq_true, decide_eq_true_eq, Lv.n] at z hm ⊢ <;> first | exact z | omega | skip
    · rcases z with (z | z) | z
      · exact hA z
      · exact hS z
      · exact ⟨h0 z.1, z.2⟩
    · rcases z with z | z
      · exact hA z
      · exact hS z
    · exact .inl z
    · exact hS z
    · exact .inl (.inr z)
    · exact .inr z
  cases q : bad H0 A S H1 H2 m b with
  | false => rfl
  | true => rw [key m h q] at hb; cases hb
theorem sup_l (l m : Lv) : l.n ≤ (l.sup m).n := by cases l <;> cases m <;> decide
theorem sup_r (l m : Lv) : m.n ≤ (l.sup m).n := by cases l <;> cases m <;> decide
theorem fz_new (c : At K H0 S0 A S σ env H1 H2) {p : Addr} {u : HO} (n : H2 p = none) (l : Lv) : fz H0 A S H1 (upd H2 p u) l p = some u := by
  have nA : p ∉ A := fun z => by
    obtain ⟨xs, e⟩ := lo_some (c.rel.lo p (.inl z))
    rw [e] at n; cases n
  have nS : p ∉ S := fun z => by
    obtain ⟨xs, e⟩ := lo_some (c.rel.lo p (.inr z))
    rw [e] at n; cases n
  have n1 : (H1 p).isSome = false := by
    cases q : (H1 p).isSome with
    | false => rfl
    | true => rw [← c.dom q, n]; rfl
  have n0 : (H0 p).isSome = false := by
    cases q : (H0 p).isSome with
    | false => rfl
    | true => rw [c.r.dom q] at n1; cases n1
  refine ct_of ?_ upd_same
  cases l <;> simp [bad, nA, nS, n1, n0]
theorem fz_stay (c : At K H0 S0 A S σ env H1 H2) (s : Step S H2 H3) (l : Lv) : Ex (fz H0 A S H1 H2 l) (fz H0 A S H1 H3 l) := fz_step c.r.str c.s s l
theorem fz_le {l : Lv} : Ex (fz H0 A S H1 H2 l) H2 := ct_le
/-- the level nw from an earlier beginning -/
theorem fz_back (c : At K H0 S0 A S σ env H1 H2) (s : Step S H2 H3) (l : Lv) : Ex (fz H0 A S H2 H3 l) (fz H0 A S H1 H3 l) := ct_ex fun b o hb e => by
  refine ⟨?_, e⟩
  cases l with
  | nw =>
    cases q : (H1 b).isSome with
    | false => show ((H1 b).isSome && isLo (H3 b)) = false; rw [q]; rfl
    | true =>
      have hb' : ((H2 b).isSome && isLo (H3 b)) = false := hb
      show ((H1 b).isSome && isLo (H3 b)) = false
      rw [c.dom q] at hb'
      rw [q]
      exact hb'
  | _ => exact hb
theorem VR.step (c : At K H0 S0 A S σ env H1 H2) (s : Step S H2 H3) (h : VR K H0 A S H1 H2 o v) : VR K H0 A S H1 H3 o v := by
  rcases h with ⟨rfl, a, rfl, n, h⟩ | ⟨B, hB, h⟩
  · refine .inl ⟨rfl, a, rfl, n, ?_⟩
    have nS : a ∉ S := fun z => by
      obtain ⟨xs, e⟩ := lo_some (c.r.lo a (.inr z))
      rw [e] at n; cases n
    obtain ⟨x, y, z, e⟩ := h
    exact ⟨x, y, z, s.kp a _ nS e⟩
  · exact .inr ⟨B, hB, h.mono (fz_stay c s) (fun _ h => h) fun a ha u e => s.kp a u (c.r.dis a (hB a ha)) e⟩
theorem VR.back (c : At K H0 S0 A S σ env H1 H2) (s : Step S H2 H3) (h : VR K H0 A S H2 H3 o v) : VR K H0 A S H1 H3 o v := by
  rcases h with ⟨rfl, a, rfl, n, h⟩ | ⟨B, hB, h⟩
  · refine .inl ⟨rfl, a, rfl, ?_, h⟩
    cases q : H1 a with
    | none => rfl
    | some u =>
      have := c.dom (b := a) (by rw [q]; rfl)
      rw [n] at this
      cases this
  · exact .inr ⟨B, hB, h.mono (fz_back c s) (fun _ h => h) fun a ha u e => e⟩
theorem Da.up (c : At K H0 S0 A S σ env H1 H2) (h : l.n ≤ m.n) (hd : Da (fz H0 A S H1 H2 l) v d) : Da (fz H0 A S H1 H2 m) v d := hd.mono (fz_up c h)
theorem Da.nrm (hd : Da (fz H0 A S H1 H2 l) v d) : Da (fz H0 A S H1 H2 (nrm l d)) v d := by
  unfold CP.nrm
  by_cases c : CP.imm d = true
  · rw [if_pos c]
    refine Da.imm (fun b hb => ?_) c (hd.mono fz_le)
    simp only [bad, Bool.and_eq_true] at hb
    exact .inl hb.2
  · rw [if_neg c]
    exact hd
theorem VR.da (h : Da (fz H0 A S H1 H2 l) v d) : VR K H0 A S H1 H2 (.da l d) v := .inr ⟨[], fun b h => (List.not_mem_nil h).elim, .da h⟩
theorem VR.mk (h : Da (fz H0 A S H1 H2 l) v d) : VR K H0 A S H1 H2 (mk l d) v := .da h.nrm
theorem VR.int (i : Int) : VR K H0 A S H1 H2 (.da .nw (.int i)) (.int i) := .da (.int i)
theorem VR.bl (b : Bool) : VR K H0 A S H1 H2 (.da .nw (.bool b)) (.bl b) := .da (.bl b)
mutual
theorem own_d (hF : ∀ l, Ex (fz H0 A S H1 H2 l) (fz H0 A S H1 H2 .di)) (hA : ∀ a ∈ A, a ∉ S) : ∀ {o : OV} {v : V} {B : List Addr} {d : PyData}, (∀ b ∈ B, b ∈ A) → Own K (fz H0 A S H1 H2) S H2 o v B → o.d = some d → Da (fz H0 A S H1 H2 .di) v d
  | .da l d, _, _, _, _, h, e => by
    cases h with
    | da h =>
      simp only [OV.d, Option.some.injEq] at e
      subst e
      exact h.mono (hF l)
  | .ls xs, _, _, _, hB, h, e => by
    simp only [OV.d, Option.map_eq_some_iff] at e
    obtain ⟨ds, e, rfl⟩ := e
    cases h with
    | ls h1 h2 h3 => exact .lst (ct_of (by simp [bad, hA _ (hB _ List.mem_cons_self)]) h1) (own_ds hF hA (fun b hb => hB b (List.mem_cons_of_mem _ hb)) h2 e)
  | .fn _, _, _, _, _, _, e => by simp [OV.d] at e
  | .st, _, _, _, _, _, e => by simp [OV.d] at e
  | .ns, _, _, _, _, _, e => by simp [OV.d] at e
  | .sc _, _, _, _, _, _, e => by simp [OV.d] at e
theorem own_ds (hF : ∀ l, Ex (fz H0 A S H1 H2 l) (fz H0 A S H1 H2 .di)) (hA : ∀ a ∈ A, a ∉ S) : ∀ {os : List OV} {vs : List V} {B : List Addr} {ds : List PyData}, (∀ b ∈ B, b ∈ A) → OwnAll K (fz H0 A S H1 H2) S H2 os vs B → OV.ds os = some ds → DaAll (fz H0 A S H1 H2 .di) vs ds
  | [], _, _, _, _, h, e => by
    cases h
    simp only [OV.ds, Option.some.injEq] at e
    subst e
    exact .nil
  | o :: os, _, _, _, hB, h, e => by
    simp only [OV.ds, Option.bind_eq_some_iff, Option.map_eq_some_iff] at e
    obtain ⟨a, ea, b, eb, rfl⟩ := e
    cases h with
    | cons x y z => exact .cons (own_d hF hA (fun b hb => hB b (List.mem_append_left _ hb)) x ea) (own_ds hF hA (fun b hb => hB b (List.mem_append_right _ hb)) y eb)
end
theorem VR.rd (c : At K H0 S0 A S σ env H1 H2) (h : VR K H0 A S H1 H2 o v) {k : Lv → PyData → Prop} (hk : rd o k) : ∃ l d, k l d ∧ Da (fz H0 A S H1 H2 l) v d := by
  rcases h with ⟨rfl, _⟩ | ⟨B, hB, h⟩
  · exact hk.elim
  · unfold CP.rd at hk
    split at hk
    · cases h with
      | da h => exact ⟨_, _, hk, h⟩
    · rename_i xs
      split at hk
      · rename_i ds e
        refine ⟨_, _, hk, own_d (fun l => fz_up c (by cases l <;> decide)) c.r.dis hB h ?_⟩
        simp only [OV.d, e]
        rfl
      · exact hk.elim
    · exact hk.elim
/-- .. as data of the heap -/
theorem VR.rd' (c : At K H0 S0 A S σ env H1 H2) (h : VR K H0 A S H1 H2 o v) {k : Lv → PyData → Prop} (hk : CP.rd o k) : ∃ l d, k l d ∧ Da H2 v d := by
  obtain ⟨l, d, h1, h2⟩ := h.rd c hk
  exact ⟨l, d, h1, h2.mono fz_le⟩
end
inductive F2 {α β : Type} (P : α → β → Prop) : List α → List β → Prop
  | nil : F2 P [] []
  | cons {a : α} {b : β} {as : List α} {bs : List β} : P a b → F2 P as bs → F2 P (a :: as) (b :: bs)
/-! ### expressions: a reading, what it asks, that this is enough -/
def OkE (K : PySem.W.Frag) (te : XK → TE) (wp : Env → (OV → Prop) → (Addr → Prop) → Prop) : Prop :=
  ∀ {E : XK} {H0 : Hp} {S0 A S : List Addr} {σ : L2.St} {H : Hp} {env : Env} {R : OV → Prop} {X : Addr → Prop}, Rel K H0 S0 A S σ H env → wp env R X → (∀ C H2, X C → Step S H H2 → E (.ref C) none H2) →
    ∀ Q : VK, (∀ v H2 o, R o → Step S H H2 → VR K H0 A S H H2 o v → Q v H2) → te E σ H Q
structure EX (K : PySem.W.Frag) where
  te : XK → TE
  wp : Env → (OV → Prop) → (Addr → Prop) → Prop
  ok : OkE K te wp
structure AX (K : PySem.W.Frag) where
  ta : XK → TA
  wp : Env → (List OV → Prop) → (Addr → Prop) → Prop
  ok : ∀ {E : XK} {H0 : Hp} {S0 A S : List Addr} {σ : L2.St} {H : Hp} {env : Env} {R : List OV → Prop} {X : Addr → Prop}, Rel K H0 S0 A S σ H env → wp env R X → (∀ C H2, X C → Step S H H2 → E (.ref C) none H2) →
    ∀ Q : List V → Hp → Prop, (∀ vs H2 os, R os → Step S H H2 → F2 (fun o v => VR K H0 A S H H2 o v) os vs → Q vs H2) → ta E σ H Q
structure TX (K : PySem.W.Frag) where
  tt : XK → TT
  wp : Env → (Bool → Prop) → (Addr → Prop) → Prop
  ok : ∀ {E : XK} {H0 : Hp} {S0 A S : List Addr} {σ : L2.St} {H : Hp} {env : Env} {R : Bool → Prop} {X : Addr → Prop}, Rel K H0 S0 A S σ H env → wp env R X → (∀ C H2, X C → Step S H H2 → E (.ref C) none H2) →
    ∀ Q : Bool → Hp → Prop, (∀ b H2, R b → Step S H H2 → Q b H2) → tt E σ H Q
/-- an operator of two values -/
structure OPX (K : PySem.W.Frag) where
  r : R2
  f : OV → OV → (OV → Prop) → Prop
  ok : ∀ {H0 : Hp} {S0 A S : List Addr} {σ : L2.St} {H1 H2 : Hp} {env : Env} {R : OV → Prop} {o p : OV} {x y : V}, At K H0 S0 A S σ env H1 H2 → VR K H0 A S H1 H2 o x → VR K H0 A S H1 H2 p y → f o p R →
    ∀ Q : VK, (∀ v H3 q, R q → Step S H2 H3 → VR K H0 A S H1 H3 q v → Q v H3) → r x y H2 Q
/-- a built-in function -/
structure CBX (K : PySem.W.Frag) where
  r : List V → Hp → VK → Prop
  f : List OV → (OV → Prop) → Prop
  ok : ∀ {H0 : Hp} {S0 A S : List Addr} {σ : L2.St} {H1 H2 : Hp} {env : Env} {R : OV → Prop} {os : List OV} {vs : List V}, At K H0 S0 A S σ env H1 H2 → F2 (fun o v => VR K H0 A S H1 H2 o v) os vs → f os R →
    ∀ Q : VK, (∀ v H3 q, R q → Step S H2 H3 → VR K H0 A S H1 H3 q v → Q v H3) → r vs H2 Q
section
variable {K : PySem.W.Frag}
def gt (env : Env) (i : Nat) (k : OV → Prop) : Prop := match env[i]? with
  | some (some o) => k o
  | _ => False
theorem own_now {H0 H : Hp} {S0 A S : List Addr} {σ : L2.St} {env : Env} {o : OV} {v : V} {B : List Addr} (r : Rel K H0 S0 A S σ H env) (h : Own K (fz H0 A S H H) S H o v B) (hB : ∀ b ∈ B, b ∈ A) : VR K H0 A S H H o v := .inr ⟨B, hB, h⟩
def xVar (i : Nat) : EX K where
  te := fun _ => tVar i
  wp := fun env R _ => gt env i R
  ok := fun {E H0 S0 A S σ H env R X} r h _ Q q => by
    have h : gt env i R := h
    unfold gt at h
    split at h
    · rename_i o e
      obtain ⟨B0, g1, g2⟩ := r.own
      obtain ⟨v, B, h1, h2, h3⟩ := g1.at' e
      exact ⟨v, h1, q v H o h (.refl S H) (own_now r h2 fun b hb => g2 b (h3 b hb))⟩
    · exact h.elim
def xC (v : V) (d : PyData) (hd : ∀ H, Da H v d) : EX K where
  te := fun _ => tC v
  wp := fun _ R _ => R (.da .nw d)
  ok := fun {E H0 S0 A S σ H env R X} r h _ Q q => q v H _ h (.refl S H) (.da (hd _))
def xInt (i : Int) : EX K := xC (.int i) (.int i) fun _ => .int i
def xStr (s : Str) : EX K := xC (.str s) (.str s) fun _ => .str s
def xBl (b : Bool) : EX K := xC (.bl b) (.bool b) fun _ => .bl b
def xNone : EX K := xC .non .none fun _ => .non
def xOp (op : OPX K) (a b : EX K) : EX K where
  te := fun E => tOp op.r (a.te E) (b.te E)
  wp := fun env R X => a.wp env (fun o => b.wp env (fun p => op.f o p R) X) X
  ok := fun {E H0 S0 A S σ H env R X} r h hX Q q => a.ok r h hX _ fun x H2 o hb s2 ho => b.ok (r.step s2) hb (fun C H3 hC s => hX C H3 hC (s2.trans s)) _ fun y H3 p hf s3 hp =>
    op.ok (H1 := H) ⟨r, s2.trans s3⟩ (ho.step ⟨r, s2⟩ s3) (hp.back ⟨r, s2⟩ s3) hf Q fun v H4 z hz s4 hv => q v H4 z hz ((s2.trans s3).trans s4) hv
def xUn (r : V → Hp → VK → Prop) (f : OV → (OV → Prop) → Prop)
    (ok : ∀ {H0 : Hp} {S0 A S : List Addr} {σ : L2.St} {H1 H2 : Hp} {env : Env} {R : OV → Prop} {o : OV} {x : V}, At K H0 S0 A S σ env H1 H2 → VR K H0 A S H1 H2 o x → f o R → ∀ Q : VK, (∀ v H3 q, R q → Step S H2 H3 → VR K H0 A S H1 H3 q v → Q v H3) → r x H2 Q)
    (a : EX K) : EX K where
  te := fun E => tUn r (a.te E)
  wp := fun env R X => a.wp env (fun o => f o R) X
  ok := fun {E H0 S0 A S σ H env R X} rr h hX Q q => a.ok rr h hX _ fun x H2 o hb s2 ho => ok ⟨rr, s2⟩ ho hb Q fun v H3 z hz s3 hv => q v H3 z hz (s2.trans s3) hv
def xNil : AX K where
  ta := fun _ => tNil
  wp := fun _ R _ => R []
  ok := fun {E H0 S0 A S σ H env R X} r h _ Q q => q [] H [] h (.refl S H) .nil
theorem f2_imp {α β : Type} {P P' : α → β → Prop} (h : ∀ a b, P a b → P' a b) : ∀ {as : List α} {bs : List β}, F2 P as bs → F2 P' as bs
  | _, _, .nil => .nil
  | _, _, .cons a b => .cons (h _ _ a) (f2_imp h b)
def xCons (a : EX K) (b : AX K) : AX K where
  ta := fun E => tCons (a.te E) (b.ta E)
  wp := fun env R X => a.wp env (fun o => b.wp env (fun os => R (o :: os)) X) X
  ok := fun {E H0 S0 A S σ H env R X} r h hX Q q => a.ok r h hX _ fun x H2 o hb s2 ho => b.ok (r.step s2) hb (fun C H3 hC s => hX C H3 hC (s2.trans s)) _ fun vs H3 os hR s3 hvs =>
    q _ H3 _ hR (s2.trans s3) (.cons (ho.step ⟨r, s2⟩ s3) (f2_imp (fun _ _ h => h.back ⟨r, s2⟩ s3) hvs))
def xCB (c : CBX K) (a : AX K) : EX K where
  te := fun E => tCB c.r (a.ta E)
  wp := fun env R X => a.wp env (fun os => c.f os R) X
  ok := fun {E H0 S0 A S σ H env R X} r h hX Q q => a.ok r h hX _ fun vs H2 os hb s2 ho => c.ok ⟨r, s2⟩ ho hb Q fun v H3 z hz s3 hv => q v H3 z hz (s2.trans s3) hv
/-! tests -/
def tB' (a : EX K) : TX K where
  tt := fun E => tB (a.te E)
  wp := fun env R X => a.wp env (fun o => rd o fun _ d => match d with | .bool b => R b | _ => False) X
  ok := fun {E H0 S0 A S σ H env R X} r h hX Q q => a.ok r h hX _ fun x H2 o hb s2 ho => by
    obtain ⟨l, d, h1, h2⟩ := ho.rd ⟨r, s2⟩ hb
    cases h2 <;> first | exact h1.elim | exact ⟨_, rfl, q _ H2 h1 s2⟩
def tT' (a : EX K) : TX K where
  tt := fun E => tTest (a.te E)
  wp := fun env R X => a.wp env (fun o => rd o fun _ d => match d with | .bool b => R b | _ => False) X
  ok := fun {E H0 S0 A S σ H env R X} r h hX Q q => a.ok r h hX _ fun x H2 o hb s2 ho => by
    obtain ⟨l, d, h1, h2⟩ := ho.rd ⟨r, s2⟩ hb
    cases h2 <;> first | exact h1.elim | exact ⟨_, rfl, q _ H2 h1 s2⟩
def tAnd' (a b : TX K) : TX K where
  tt := fun E => tAnd (a.tt E) (b.tt E)
  wp := fun env R X => a.wp env (fun c => if c = true then b.wp env R X else R false) X
  ok := fun {E H0 S0 A S σ H env R X} r h hX Q q => a.ok r h hX _ fun c H2 hb s2 => by
    cases c with
    | true => exact iteT (b.ok (r.step s2) (by simpa using hb) (fun C H3 hC s => hX C H3 hC (s2.trans s)) Q fun b H3 hR s3 => q b H3 hR (s2.trans s3))
    | false => exact iteF (q false H2 (by simpa using hb) s2)
def tOr' (a b : TX K) : TX K where
  tt := fun E => tOr (a.tt E) (b.tt E)
  wp := fun env R X => a.wp env (fun c => if c = true then R true else b.wp env R X) X
  ok := fun {E H0 S0 A S σ H env R X} r h hX Q q => a.ok r h hX _ fun c H2 hb s2 => by
    cases c with
    | false => exact iteF (b.ok (r.step s2) (by simpa using hb) (fun C H3 hC s => hX C H3 hC (s2.trans s)) Q fun b H3 hR s3 => q b H3 hR (s2.trans s3))
    | true => exact iteT (q true H2 (by simpa using hb) s2)
def tNot' (a : TX K) : TX K where
  tt := fun E => tNot (a.tt E)
  wp := fun env R X => a.wp env (fun c => R (!c)) X
  ok := fun {E H0 S0 A S σ H env R X} r h hX Q q => a.ok r h hX _ fun c H2 hb s2 => q _ H2 hb s2
def tYes' : TX K where
  tt := fun _ => tYes
  wp := fun _ R _ => R true
  ok := fun {E H0 S0 A S σ H env R X} r h hX Q q => q true H h (.refl S H)
/-! truth values -/
def asB (o : OV) (k : Bool → Prop) : Prop := rd o fun _ d => match d with | .bool b => k b | _ => False
def xAnd (a b : EX K) : EX K where
  te := fun E => tAndV (a.te E) (b.te E)
  wp := fun env R X => a.wp env (fun o => asB o fun c => if c = true then b.wp env R X else R (.da .nw (.bool false))) X
  ok := fun {E H0 S0 A S σ H env R X} r h hX Q q => a.ok r h hX _ fun x H2 o hb s2 ho => by
    obtain ⟨l, d, h1, h2⟩ := ho.rd ⟨r, s2⟩ hb
    cases h2 <;> first | exact h1.elim | skip
    rename_i c
    refine ⟨c, rfl, ?_⟩
    cases c with
    | true => exact iteT (b.ok (r.step s2) (by simpa using h1) (fun C H3 hC s => hX C H3 hC (s2.trans s)) Q fun v H3 o hR s3 hv => q v H3 o hR (s2.trans s3) (hv.back ⟨r, s2⟩ s3))
    | false => exact iteF (q _ H2 _ (by simpa using h1) s2 (.bl false))
def xOr (a b : EX K) : EX K where
  te := fun E => tOrV (a.te E) (b.te E)
  wp := fun env R X => a.wp env (fun o => asB o fun c => if c = true then R (.da .nw (.bool true)) else b.wp env R X) X
  ok := fun {E H0 S0 A S σ H env R X} r h hX Q q => a.ok r h hX _ fun x H2 o hb s2 ho => by
    obtain ⟨l, d, h1, h2⟩ := ho.rd ⟨r, s2⟩ hb
    cases h2 <;> first | exact h1.elim | skip
    rename_i c
    refine ⟨c, rfl, ?_⟩
    cases c with
    | false => exact iteF (b.ok (r.step s2) (by simpa using h1) (fun C H3 hC s => hX C H3 hC (s2.trans s)) Q fun v H3 o hR s3 hv => q v H3 o hR (s2.trans s3) (hv.back ⟨r, s2⟩ s3))
    | true => exact iteT (q _ H2 _ (by simpa using h1) s2 (.bl true))
def xNot (a : EX K) : EX K where
  te := fun E => tNotV (a.te E)
  wp := fun env R X => a.wp env (fun o => asB o fun c => R (.da .nw (.bool (!c)))) X
  ok := fun {E H0 S0 A S σ H env R X} r h hX Q q => a.ok r h hX _ fun x H2 o hb s2 ho => by
    obtain ⟨l, d, h1, h2⟩ := ho.rd ⟨r, s2⟩ hb
    cases h2 <;> first | exact h1.elim | skip
    rename_i c
    exact ⟨c, rfl, q _ H2 _ h1 s2 (.bl _)⟩
def xIf (t : TX K) (a b : EX K) : EX K where
  te := fun E => tIf (t.tt E) (a.te E) (b.te E)
  wp := fun env R X => t.wp env (fun c => if c = true then a.wp env R X else b.wp env R X) X
  ok := fun {E H0 S0 A S σ H env R X} r h hX Q q => t.ok r h hX _ fun c H2 hb s2 => by
    cases c with
    | false => exact iteF (b.ok (r.step s2) (by simpa using hb) (fun C H3 hC s => hX C H3 hC (s2.trans s)) Q fun v H3 o hR s3 hv => q v H3 o hR (s2.trans s3) (hv.back ⟨r, s2⟩ s3))
    | true => exact iteT (a.ok (r.step s2) (by simpa using hb) (fun C H3 hC s => hX C H3 hC (s2.trans s)) Q fun v H3 o hR s3 hv => q v H3 o hR (s2.trans s3) (hv.back ⟨r, s2⟩ s3))
end
/-! ### new lists and tuples -/
def nl (l : Lv) (ds : List PyData) : OV := .da (if immAll ds then .nw else l) (.list ds)
def nt (l : Lv) (ds : List PyData) : OV := .da (if immAll ds then .nw else l) (.tuple ds)
def asInts : List PyData → Option (List Int)
  | [] => some []
  | .int i :: ds => (asInts ds).map fun r => i :: r
  | _ => none
def asBools : List PyData → Option (List Bool)
  | [] => some []
  | .bool i :: ds => (asBools ds).map fun r => i :: r
  | _ => none
theorem asInts_eq : ∀ {ds : List PyData} {ws : List Int}, asInts ds = some ws → ds = ws.map .int
  | [], _, h => by simp only [asInts, Option.some.injEq] at h; subst h; rfl
  | .int i :: ds, _, h => by
    simp only [asInts, Option.map_eq_some_iff] at h
    obtain ⟨r, e, rfl⟩ := h
    rw [asInts_eq e]
    rfl
  | .none :: _, _, h => by simp [asInts] at h
  | .bool _ :: _, _, h => by simp [asInts] at h
  | .str _ :: _, _, h => by simp [asInts] at h
  | .list _ :: _, _, h => by simp [asInts] at h
  | .tuple _ :: _, _, h => by simp [asInts] at h
  | .dict _ :: _, _, h => by simp [asInts] at h
theorem asBools_eq : ∀ {ds : List PyData} {ws : List Bool}, asBools ds = some ws → ds = ws.map .bool
  | [], _, h => by simp only [asBools, Option.some.injEq] at h; subst h; rfl
  | .bool i :: ds, _, h => by
    simp only [asBools, Option.map_eq_some_iff] at h
    obtain ⟨r, e, rfl⟩ := h
    rw [asBools_eq e]
    rfl
  | .none :: _, _, h => by simp [asBools] at h
  | .int _ :: _, _, h => by simp [asBools] at h
  | .str _ :: _, _, h => by simp [asBools] at h
  | .list _ :: _, _, h => by simp [asBools] at h
  | .tuple _ :: _, _, h => by simp [asBools] at h
  | .dict _ :: _, _, h => by simp [asBools] at h
theorem asInts_map (ws : List Int) : asInts (ws.map .int) = some ws := by
  induction ws with
  | nil => rfl
  | cons w ws ih => simp [asInts, ih]
theorem asBools_map (ws : List Bool) : asBools (ws.map .bool) = some ws := by
  induction ws with
  | nil => rfl
  | cons w ws ih => simp [asBools, ih]
def cutI {α : Type} (xs : List α) (lo hi : Option Int) : List α := (xs.drop (HT.sIx xs.length 0 lo)).take (HT.sIx xs.length xs.length hi - HT.sIx xs.length 0 lo)
theorem sz {n : Nat} (h : n ≤ 100000) : n ≤ sizeLine := Nat.le_trans h (by decide)
theorem szl {n : Nat} (h : n < 100000) : n < sizeLine := Nat.lt_of_lt_of_le h (by decide)
section
variable {K : PySem.W.Frag} {H0 H1 H2 H3 H4 : Hp} {S0 A S : List Addr} {σ : L2.St} {env : Env} {o : OV} {v : V} {l m : Lv} {d : PyData}
theorem fzE (c : At K H0 S0 A S σ env H1 H2) {p : Addr} {u : HO} (n : H2 p = none) (l : Lv) : Ex (fz H0 A S H1 H2 l) (fz H0 A S H1 (upd H2 p u) l) := fz_stay c (.ex (Ex.new n)) l
theorem da_cut {vs : List V} {ds : List PyData} {H : Hp} {lo hi : Option Int} (h : DaAll H vs ds) : DaAll H (cutV vs lo hi) (cutI ds lo hi) := by
  unfold cutV cutI
  rw [h.len]
  exact DaAll.take _ (DaAll.drop _ h)
theorem vr_lst (c : At K H0 S0 A S σ env H1 H2) {p : Addr} (n : H2 p = none) {vs : List V} {ds : List PyData} (h : DaAll (fz H0 A S H1 H2 l) vs ds) : VR K H0 A S H1 (upd H2 p (.lst vs)) (nl l ds) (.ref p) := by
  refine .da (.lst (fz_new c n _) ?_)
  have h2 := h.mono (fzE c (u := .lst vs) n l)
  by_cases i : immAll ds = true
  · rw [if_pos i]
    refine DaAll.imm (fun b hb => ?_) i (h2.mono fz_le)
    simp only [bad, Bool.and_eq_true] at hb
    exact .inl hb.2
  · rw [if_neg i]
    exact h2
theorem vr_tup (c : At K H0 S0 A S σ env H1 H2) {p : Addr} (n : H2 p = none) {vs : List V} {ds : List PyData} (h : DaAll (fz H0 A S H1 H2 l) vs ds) : VR K H0 A S H1 (upd H2 p (.tup vs)) (nt l ds) (.ref p) := by
  refine .da (.tup (fz_new c n _) ?_)
  have h2 := h.mono (fzE c (u := .tup vs) n l)
  by_cases i : immAll ds = true
  · rw [if_pos i]
    refine DaAll.imm (fun b hb => ?_) i (h2.mono fz_le)
    simp only [bad, Bool.and_eq_true] at hb
    exact .inl hb.2
  · rw [if_neg i]
    exact h2
/-- a tuple that stands -/
theorem vr_tup' {p : Addr} {vs : List V} {ds : List PyData} (h : Da (fz H0 A S H1 H2 l) v (.tuple ds)) : VR K H0 A S H1 H2 (nt l ds) v := by
  have := VR.mk (K := K) h
  unfold CP.mk CP.nrm at this
  have e : CP.imm (.tuple ds) = immAll ds := by simp [CP.imm]
  rw [e] at this
  exact this
end
/-! ### operators -/
section
variable {K : PySem.W.Frag}
theorem OpR.or {X : Cx} {f : Value → Value → Sem Value} {r r' : R2} (h : OpR X f r) (h' : OpR X f r') : OpR X f (fun x y H Q => r x y H Q ∨ r' x y H Q) :=
  fun pins s σ H x y v u Q I a b q => q.elim (h pins s σ H x y v u Q I a b) (h' pins s σ H x y v u Q I a b)
theorem CallR.or {X : Cx} {f : Value} {r r' : List V → Hp → VK → Prop} (h : CallR X f r) (h' : CallR X f r') : CallR X f (fun x H Q => r x H Q ∨ r' x H Q) :=
  fun pins s σ H x v Q I a q => q.elim (h pins s σ H x v Q I a) (h' pins s σ H x v Q I a)
def rPlus (K : PySem.W.Frag) : R2 := fun x y H Q => rI0 (fun i j => .int (i + j)) x y H Q ∨ rCat x y H Q ∨ rCatA K x y H Q
theorem op_plus {X : Cx} : OpR X (binaryOp .Add) (rPlus X.K) := OpR.or op_add (OpR.or op_cat op_catA)
def rTimes : R2 := fun x y H Q => rI CMul (fun i j => .int (i * j)) x y H Q ∨ rRep x y H Q
theorem op_times {X : Cx} : OpR X (binaryOp .Mult) rTimes := OpR.or op_mul op_rep
/-- two values as data -/
def rd2 (o p : OV) (k : Lv → PyData → PyData → Prop) : Prop := rd o fun l d => rd p fun m e => k (l.sup m) d e
theorem rd2_of {H0 : Hp} {S0 A S : List Addr} {σ : L2.St} {H1 H2 : Hp} {env : Env} {o p : OV} {x y : V} {k : Lv → PyData → PyData → Prop} (c : At K H0 S0 A S σ env H1 H2) (hx : VR K H0 A S H1 H2 o x) (hy : VR K H0 A S H1 H2 p y) (h : rd2 o p k) :
    ∃ l d e, k l d e ∧ Da (fz H0 A S H1 H2 l) x d ∧ Da (fz H0 A S H1 H2 l) y e := by
  obtain ⟨l, d, h1, D1⟩ := hx.rd c h
  obtain ⟨m, e, h2, D2⟩ := hy.rd c h1
  exact ⟨_, d, e, h2, D1.up c (sup_l l m), D2.up c (sup_r l m)⟩
def oPlus : OPX K where
  r := rPlus K
  f := fun o p R => rd2 o p fun l d e => match d, e with
    | .int i, .int j => R (.da .nw (.int (i + j)))
    | .list a, .list b => a.length + b.length ≤ 100000 ∧ R (nl l (a ++ b))
    | .tuple a, .tuple b => a.length + b.length ≤ 100000 ∧ R (nt l (a ++ b))
    | _, _ => False
  ok := fun {H0 S0 A S σ H1 H2 env R o p x y} c hx hy h Q q => by
    obtain ⟨l, d, e, h2, D1, D2⟩ := rd2_of c hx hy h
    cases D1 <;> cases D2 <;> first | exact h2.elim | skip
    · exact .inl ⟨_, _, rfl, rfl, q _ H2 _ h2 (.refl S H2) (.int _)⟩
    · rename_i a1 xs1 ds1 e1 k1 a2 xs2 ds2 e2 k2
      obtain ⟨hz, h2⟩ := h2
      exact .inr (.inl ⟨_, _, _, _, rfl, rfl, fz_le _ _ e1, fz_le _ _ e2, sz (by rw [k1.len, k2.len]; exact hz), fun z nz => q _ _ _ h2 (.ex (Ex.new nz)) (vr_lst c nz (k1.app k2))⟩)
    · rename_i a1 xs1 ds1 e1 k1 a2 xs2 ds2 e2 k2
      obtain ⟨hz, h2⟩ := h2
      refine .inr (.inr ⟨_, _, _, _, rfl, rfl, SqT.of (fz_le _ _ e1), SqT.of (fz_le _ _ e2), sz (by rw [k1.len, k2.len]; exact hz), fun n => ?_, fun _ n => ?_, fun _ _ z nz => q _ _ _ h2 (.ex (Ex.new nz)) (vr_tup c nz (k1.app k2))⟩)
      · subst n
        cases k1
        exact q _ H2 _ h2 (.refl S H2) (vr_tup' (p := 0) (vs := []) (.tup e2 k2))
      · subst n
        cases k2
        rw [List.append_nil] at h2
        exact q _ H2 _ h2 (.refl S H2) (vr_tup' (p := 0) (vs := []) (.tup e1 k1))
def oTimes : OPX K where
  r := rTimes
  f := fun o p R => rd2 o p fun l d e => match d, e with
    | .int i, .int j => CMul i j ∧ R (.da .nw (.int (i * j)))
    | .list a, .int k => (-(2 ^ 63) ≤ k ∧ k < 2 ^ 63 ∧ a.length * k.toNat ≤ 100000) ∧ R (nl l (List.replicate k.toNat a).flatten)
    | _, _ => False
  ok := fun {H0 S0 A S σ H1 H2 env R o p x y} c hx hy h Q q => by
    obtain ⟨l, d, e, h2, D1, D2⟩ := rd2_of c hx hy h
    cases D1 <;> cases D2 <;> first | exact h2.elim | skip
    · exact .inl ⟨_, _, rfl, rfl, h2.1, q _ H2 _ h2.2 (.refl S H2) (.int _)⟩
    · rename_i a1 xs1 ds1 e1 k1 k
      obtain ⟨⟨b1, b2, b3⟩, h2⟩ := h2
      refine .inr ⟨_, _, _, rfl, rfl, fz_le _ _ e1, b1, b2, sz (by rw [k1.len]; exact b3), fun z nz => q _ _ _ h2 (.ex (Ex.new nz)) (vr_lst c nz ?_)⟩
      generalize k.toNat = n
      induction n with
      | zero => exact .nil
      | succ n ih => rw [List.replicate_succ, List.replicate_succ, List.flatten_cons, List.flatten_cons]; exact k1.app ih
def oI (C : Int → Int → Prop) (g : Int → Int → Int) : OPX K where
  r := rI C fun i j => .int (g i j)
  f := fun o p R => rd2 o p fun _ d e => match d, e with
    | .int i, .int j => C i j ∧ R (.da .nw (.int (g i j)))
    | _, _ => False
  ok := fun {H0 S0 A S σ H1 H2 env R o p x y} c hx hy h Q q => by
    obtain ⟨l, d, e, h2, D1, D2⟩ := rd2_of c hx hy h
    cases D1 <;> cases D2 <;> first | exact h2.elim | skip
    exact ⟨_, _, rfl, rfl, h2.1, q _ H2 _ h2.2 (.refl S H2) (.int _)⟩
def oI0 (g : Int → Int → Int) : OPX K where
  r := rI0 fun i j => .int (g i j)
  f := fun o p R => rd2 o p fun _ d e => match d, e with
    | .int i, .int j => R (.da .nw (.int (g i j)))
    | _, _ => False
  ok := fun {H0 S0 A S σ H1 H2 env R o p x y} c hx hy h Q q => by
    obtain ⟨l, d, e, h2, D1, D2⟩ := rd2_of c hx hy h
    cases D1 <;> cases D2 <;> first | exact h2.elim | skip
    exact ⟨_, _, rfl, rfl, q _ H2 _ h2 (.refl S H2) (.int _)⟩
def oB0 (g : Int → Int → Bool) : OPX K where
  r := rI0 fun i j => .bl (g i j)
  f := fun o p R => rd2 o p fun _ d e => match d, e with
    | .int i, .int j => R (.da .nw (.bool (g i j)))
    | _, _ => False
  ok := fun {H0 S0 A S σ H1 H2 env R o p x y} c hx hy h Q q => by
    obtain ⟨l, d, e, h2, D1, D2⟩ := rd2_of c hx hy h
    cases D1 <;> cases D2 <;> first | exact h2.elim | skip
    exact ⟨_, _, rfl, rfl, q _ H2 _ h2 (.refl S H2) (.bl _)⟩
abbrev oSub : OPX K := oI0 fun i j => i - j
abbrev oMod : OPX K := oI (fun _ j => 0 < j) fun i j => i % j
abbrev oDiv : OPX K := oI CDivW fun i j => i / j
abbrev oPow : OPX K := oI CPow fun i j => i ^ j.toNat
abbrev oLt : OPX K := oB0 fun i j => decide (i < j)
abbrev oLe : OPX K := oB0 fun i j => decide (i ≤ j)
abbrev oGt : OPX K := oB0 fun i j => decide (j < i)
abbrev oGe : OPX K := oB0 fun i j => decide (j ≤ i)
def oEq : OPX K where
  r := rEqD K
  f := fun o p R => rd2 o p fun _ d e => SeqAt.shaped d = true ∧ SeqAt.shaped e = true ∧ R (.da .nw (.bool (PyData.eqv d e)))
  ok := fun {H0 S0 A S σ H1 H2 env R o p x y} c hx hy h Q q => by
    obtain ⟨l, d, e, ⟨h1, h2, h3⟩, D1, D2⟩ := rd2_of c hx hy h
    exact ⟨d, e, (D1.mono fz_le).dp, (D2.mono fz_le).dp, h1, h2, q _ H2 _ h3 (.refl S H2) (.bl _)⟩
def oNe : OPX K where
  r := rNeD K
  f := fun o p R => rd2 o p fun _ d e => SeqAt.shaped d = true ∧ SeqAt.shaped e = true ∧ R (.da .nw (.bool (!PyData.eqv d e)))
  ok := fun {H0 S0 A S σ H1 H2 env R o p x y} c hx hy h Q q => by
    obtain ⟨l, d, e, ⟨h1, h2, h3⟩, D1, D2⟩ := rd2_of c hx hy h
    exact ⟨d, e, (D1.mono fz_le).dp, (D2.mono fz_le).dp, h1, h2, q _ H2 _ h3 (.refl S H2) (.bl _)⟩
def oIn : OPX K where
  r := rInD K
  f := fun o p R => rd2 o p fun _ d e => match e with
    | .list ds => SeqAt.shaped d = true ∧ SeqAt.shaped (.list ds) = true ∧ R (.da .nw (.bool (ds.any fun z => PyData.eqv z d)))
    | _ => False
  ok := fun {H0 S0 A S σ H1 H2 env R o p x y} c hx hy h Q q => by
    obtain ⟨l, d, e, h, D1, D2⟩ := rd2_of c hx hy h
    cases e <;> first | exact h.elim | skip
    obtain ⟨h1, h2, h3⟩ := h
    exact ⟨d, _, (D1.mono fz_le).dp, (D2.mono fz_le).dp, h1, h2, q _ H2 _ h3 (.refl S H2) (.bl _)⟩
def oNotIn : OPX K where
  r := rNotInD K
  f := fun o p R => rd2 o p fun _ d e => match e with
    | .list ds => SeqAt.shaped d = true ∧ SeqAt.shaped (.list ds) = true ∧ R (.da .nw (.bool (!ds.any fun z => PyData.eqv z d)))
    | _ => False
  ok := fun {H0 S0 A S σ H1 H2 env R o p x y} c hx hy h Q q => by
    obtain ⟨l, d, e, h, D1, D2⟩ := rd2_of c hx hy h
    cases e <;> first | exact h.elim | skip
    obtain ⟨h1, h2, h3⟩ := h
    exact ⟨d, _, (D1.mono fz_le).dp, (D2.mono fz_le).dp, h1, h2, q _ H2 _ h3 (.refl S H2) (.bl _)⟩
def isN : PyData → Bool
  | .none => true
  | _ => false
theorem isN_v {H : Hp} {x : V} {d : PyData} (h : Da H x d) : decide (x = .non) = isN d := by cases h <;> simp [isN]
def oIs : OPX K where
  r := fun x y H Q => y = .non ∧ Q (.bl (decide (x = .non))) H
  f := fun o p R => rd2 o p fun _ d e => match e with
    | .none => R (.da .nw (.bool (isN d)))
    | _ => False
  ok := fun {H0 S0 A S σ H1 H2 env R o p x y} c hx hy h Q q => by
    obtain ⟨l, d, e, h, D1, D2⟩ := rd2_of c hx hy h
    cases D2 <;> first | exact h.elim | skip
    refine ⟨rfl, ?_⟩
    rw [isN_v D1]
    exact q _ H2 _ h (.refl S H2) (.bl _)
def oIsNot : OPX K where
  r := fun x y H Q => y = .non ∧ Q (.bl (!decide (x = .non))) H
  f := fun o p R => rd2 o p fun _ d e => match e with
    | .none => R (.da .nw (.bool (!isN d)))
    | _ => False
  ok := fun {H0 S0 A S σ H1 H2 env R o p x y} c hx hy h Q q => by
    obtain ⟨l, d, e, h, D1, D2⟩ := rd2_of c hx hy h
    cases D2 <;> first | exact h.elim | skip
    refine ⟨rfl, ?_⟩
    rw [isN_v D1]
    exact q _ H2 _ h (.refl S H2) (.bl _)
theorem atI_da {H : Hp} {vs : List V} {ds : List PyData} (h : DaAll H vs ds) {i : Int} {e : PyData} (he : atI ds i = some e) : ∃ v, atI vs i = some v ∧ Da H v e := by
  unfold atI at he ⊢
  rw [h.len]
  cases c : ixN ds.length i with
  | none => rw [c] at he; cases he
  | some j =>
    rw [c] at he
    exact h.at' he
theorem own_at {F : Lv → Hp} {S : List Addr} {H : Hp} : ∀ {xs : List OV} {vs : List V} {B : List Addr} {j : Nat} {o : OV}, OwnAll K F S H xs vs B → xs[j]? = some o → ∃ v C, vs[j]? = some v ∧ Own K F S H o v C ∧ ∀ b ∈ C, b ∈ B
  | [], _, _, _, _, _, h => by simp at h
  | x :: xs, _, _, 0, o, hh, h => by
    simp only [List.getElem?_cons_zero, Option.some.injEq] at h
    subst h
    cases hh with
    | cons a b c => exact ⟨_, _, rfl, a, fun b hb => List.mem_append_left _ hb⟩
  | x :: xs, _, _, j + 1, o, hh, h => by
    rw [List.getElem?_cons_succ] at h
    cases hh with
    | cons a b c =>
      obtain ⟨v, C, e1, e2, e3⟩ := own_at b h
      exact ⟨v, C, by rw [List.getElem?_cons_succ]; exact e1, e2, fun z hz => List.mem_append_right _ (e3 z hz)⟩
theorem own_len {F : Lv → Hp} {S : List Addr} {H : Hp} : ∀ {xs : List OV} {vs : List V} {B : List Addr}, OwnAll K F S H xs vs B → vs.length = xs.length
  | [], _, _, h => by cases h; rfl
  | x :: xs, _, _, h => by
    cases h with
    | cons a b c => rw [List.length_cons, List.length_cons, own_len b]
/-- item at an index -/
def itm (ds : List PyData) (i : Int) (k : PyData → Prop) : Prop := match atI ds i with
  | some e => k e
  | none => False
def ixF (o : OV) (i : Int) (R : OV → Prop) : Prop := match o with
  | .ls xs => match atI xs i with
    | some q => R q
    | none => False
  | .da l (.list ds) => itm ds i fun e => R (mk l e)
  | .da l (.tuple ds) => itm ds i fun e => R (mk l e)
  | _ => False
theorem ixF_ok {H0 : Hp} {S0 A S : List Addr} {σ : L2.St} {H1 H2 : Hp} {env : Env} {R : OV → Prop} {o : OV} {x : V} {i : Int} (c : At K H0 S0 A S σ env H1 H2) (hx : VR K H0 A S H1 H2 o x) (h : ixF o i R) (Q : VK) (q : ∀ v q, R q → VR K H0 A S H1 H2 q v → Q v H2) : rIx K x (.int i) H2 Q := by
  unfold ixF at h
  split at h
  · rename_i xs
    split at h
    · rename_i z ez
      rcases hx with ⟨hx, _⟩ | ⟨B, hB, hx⟩
      · cases hx
      · cases hx with
        | @ls a _ vs A1 k1 k2 k3 =>
          unfold atI at ez
          cases cj : ixN xs.length i with
          | none => rw [cj] at ez; cases ez
          | some j =>
            rw [cj] at ez
            obtain ⟨w, C, e1, e2, e3⟩ := own_at k2 ez
            refine .inl ⟨a, vs, i, w, rfl, rfl, SqL.of k1, ?_, q _ _ h (.inr ⟨C, fun b hb => hB b (List.mem_cons_of_mem _ (e3 b hb)), e2⟩)⟩
            unfold atI
            rw [own_len k2, cj]
            exact e1
    · exact h.elim
  · unfold itm at h
    split at h
    · rename_i z ez
      rcases hx with ⟨hx, _⟩ | ⟨B, hB, hx⟩
      · cases hx
      · cases hx with
        | da hx =>
          cases hx with
          | lst k1 k2 =>
            obtain ⟨w, e1, e2⟩ := atI_da k2 ez
            exact .inl ⟨_, _, i, w, rfl, rfl, SqL.of (fz_le _ _ k1), e1, q _ _ h (.mk e2)⟩
    · exact h.elim
  · unfold itm at h
    split at h
    · rename_i z ez
      rcases hx with ⟨hx, _⟩ | ⟨B, hB, hx⟩
      · cases hx
      · cases hx with
        | da hx =>
          cases hx with
          | tup k1 k2 =>
            obtain ⟨w, e1, e2⟩ := atI_da k2 ez
            exact .inr (.inl ⟨_, _, i, w, rfl, rfl, SqT.of (fz_le _ _ k1), e1, q _ _ h (.mk e2)⟩)
    · exact h.elim
  · exact h.elim
def oIx : OPX K where
  r := rIx K
  f := fun o p R => rd p fun _ e => match e with
    | .int i => ixF o i R
    | _ => False
  ok := fun {H0 S0 A S σ H1 H2 env R o p x y} c hx hy h Q q => by
    obtain ⟨m, e, h, D2⟩ := hy.rd c h
    cases D2 <;> first | exact h.elim | skip
    exact ixF_ok c hx h Q fun v z hz hv => q v H2 z hz (.refl S H2) hv
/-! slices -/
structure PX (K : PySem.W.Frag) where
  to : XK → TO
  wp : Env → (Option Int → Prop) → (Addr → Prop) → Prop
  ok : ∀ {E : XK} {H0 : Hp} {S0 A S : List Addr} {σ : L2.St} {H : Hp} {env : Env} {R : Option Int → Prop} {X : Addr → Prop}, Rel K H0 S0 A S σ H env → wp env R X → (∀ C H2, X C → Step S H H2 → E (.ref C) none H2) →
    ∀ Q : Option Int → Hp → Prop, (∀ b H2, R b → Step S H H2 → Q b H2) → to E σ H Q
def pNo : PX K where
  to := fun _ => tNoPart
  wp := fun _ R _ => R none
  ok := fun {E H0 S0 A S σ H env R X} r h hX Q q => q none H h (.refl S H)
def pAt (a : EX K) : PX K where
  to := fun E => tPart (a.te E)
  wp := fun env R X => a.wp env (fun o => rd o fun _ d => match d with | .int i => R (some i) | _ => False) X
  ok := fun {E H0 S0 A S σ H env R X} r h hX Q q => a.ok r h hX _ fun x H2 o hb s2 ho => by
    obtain ⟨l, d, h1, h2⟩ := ho.rd ⟨r, s2⟩ hb
    cases h2 <;> first | exact h1.elim | exact ⟨_, rfl, q _ H2 h1 s2⟩
def rSl (K : PySem.W.Frag) : V → Option Int → Option Int → Hp → VK → Prop := fun x lo hi H Q => rSlL K x lo hi H Q ∨ rSlA K x lo hi H Q
theorem sl_seq {X : Cx} : SlR X (rSl X.K) := sl_list.or sl_tupA
theorem cutI_whole {α : Type} {xs : List α} {lo hi : Option Int} (h1 : HT.sIx xs.length 0 lo = 0) (h2 : HT.sIx xs.length xs.length hi = xs.length) : cutI xs lo hi = xs := by
  unfold cutI
  rw [h1, h2]
  simp
def xSl (a : EX K) (lo hi : PX K) : EX K where
  te := fun E => tSl (rSl K) (a.te E) (lo.to E) (hi.to E)
  wp := fun env R X => a.wp env (fun o => lo.wp env (fun i => hi.wp env (fun j => rd o fun l d => match d with
    | .list ds => R (nl l (cutI ds i j))
    | .tuple ds => R (nt l (cutI ds i j))
    | _ => False) X) X) X
  ok := fun {E H0 S0 A S σ H env R X} r h hX Q q => a.ok r h hX _ fun x H2 o hb s2 ho => lo.ok (r.step s2) hb (fun C H3 hC s => hX C H3 hC (s2.trans s)) _ fun i H3 hi' s3 =>
    hi.ok (r.step (s2.trans s3)) hi' (fun C H3 hC s => hX C H3 hC ((s2.trans s3).trans s)) _ fun j H4 h4 s4 => by
    have c : At K H0 S0 A S σ env H H4 := ⟨r, (s2.trans s3).trans s4⟩
    obtain ⟨l, d, h1, h2⟩ := (ho.step ⟨r, s2⟩ (s3.trans s4)).rd c h4
    cases h2 <;> first | exact h1.elim | skip
    · rename_i a1 xs ds e1 k1
      exact .inl ⟨_, _, rfl, SqL.of (fz_le _ _ e1), fun p np => q _ _ _ h1 (c.s.new np) (vr_lst c np (da_cut k1))⟩
    · rename_i a1 xs ds e1 k1
      refine .inr ⟨_, _, rfl, SqT.of (fz_le _ _ e1), fun w => ?_, fun _ p np => q _ _ _ h1 (c.s.new np) (vr_tup c np (da_cut k1))⟩
      rw [k1.len] at w
      have h1 : R (nt l (cutI ds i j)) := h1
      rw [cutI_whole w.1 w.2] at h1
      exact q _ H4 _ h1 c.s (vr_tup' (p := 0) (vs := []) (.tup e1 k1))
/-! displays -/
/-- values as data, with their level -/
def rds : List OV → (Lv → List PyData → Prop) → Prop
  | [], k => k .nw []
  | o :: os, k => rd o fun l d => rds os fun m ds => k (l.sup m) (d :: ds)
theorem rds_of {H0 : Hp} {S0 A S : List Addr} {σ : L2.St} {H1 H2 : Hp} {env : Env} (c : At K H0 S0 A S σ env H1 H2) : ∀ {os : List OV} {vs : List V} {k : Lv → List PyData → Prop}, F2 (fun o v => VR K H0 A S H1 H2 o v) os vs → rds os k → ∃ l ds, k l ds ∧ DaAll (fz H0 A S H1 H2 l) vs ds
  | _, _, k, .nil, h => ⟨_, _, h, .nil⟩
  | _, _, k, .cons a b, h => by
    obtain ⟨l, d, h1, D1⟩ := a.rd c h
    obtain ⟨m, ds, h2, D2⟩ := rds_of c b h1
    exact ⟨_, _, h2, .cons (D1.up c (sup_l l m)) (D2.mono (fz_up c (sup_r l m)))⟩
def xTup (a : AX K) : EX K where
  te := fun E => tTup (a.ta E)
  wp := fun env R X => a.wp env (fun os => rds os fun l ds => ds.length ≤ 100000 ∧ R (nt l ds)) X
  ok := fun {E H0 S0 A S σ H env R X} r h hX Q q => a.ok r h hX _ fun vs H2 os hb s2 ho => by
    obtain ⟨l, ds, ⟨hz, h1⟩, D⟩ := rds_of ⟨r, s2⟩ ho hb
    exact ⟨sz (by rw [D.len]; exact hz), fun p np => q _ _ _ h1 (s2.new np) (vr_tup ⟨r, s2⟩ np D)⟩
def xLst (a : AX K) : EX K where
  te := fun E => tLst (a.ta E)
  wp := fun env R X => a.wp env (fun os => rds os fun l ds => ds.length ≤ 100000 ∧ R (nl l ds)) X
  ok := fun {E H0 S0 A S σ H env R X} r h hX Q q => a.ok r h hX _ fun vs H2 os hb s2 ho => by
    obtain ⟨l, ds, ⟨hz, h1⟩, D⟩ := rds_of ⟨r, s2⟩ ho hb
    exact ⟨sz (by rw [D.len]; exact hz), fun p np => q _ _ _ h1 (s2.new np) (vr_lst ⟨r, s2⟩ np D)⟩
def xNeg (a : EX K) : EX K := xUn (rU fun i => .int (-i)) (fun o R => rd o fun _ d => match d with | .int i => R (.da .nw (.int (-i))) | _ => False)
  (fun {H0 S0 A S σ H1 H2 env R o x} c hx h Q q => by
    obtain ⟨l, d, h1, D⟩ := hx.rd c h
    cases D <;> first | exact h1.elim | exact ⟨_, rfl, q _ H2 _ h1 (.refl S H2) (.int _)⟩) a
end
/-! ### built-in functions -/
section
variable {K : PySem.W.Frag}
abbrev cb1 (f : OV → (OV → Prop) → Prop) : List OV → (OV → Prop) → Prop := fun os R => match os with
  | [o] => f o R
  | _ => False
def rLenS (K : PySem.W.Frag) : List V → Hp → VK → Prop := fun xs H Q => ∃ p ys, xs = [.ref p] ∧ (SqL K H p ys ∨ SqT K H p ys) ∧ Q (.int ys.length) H
def lenF (o : OV) (R : OV → Prop) : Prop := match o with
  | .sc ws => R (.da .nw (.int ws.length))
  | .ls xs => R (.da .nw (.int xs.length))
  | .da _ (.list ds) => R (.da .nw (.int ds.length))
  | .da _ (.tuple ds) => R (.da .nw (.int ds.length))
  | _ => False
def bLen : CBX K where
  r := rLenS K
  f := cb1 lenF
  ok := fun {H0 S0 A S σ H1 H2 env R os vs} c ho h Q q => by
    cases ho with
    | nil => exact h.elim
    | cons a as =>
      cases as with
      | cons _ _ => exact h.elim
      | nil =>
        rename_i o v
        have h : lenF o R := h
        unfold lenF at h
        rcases a with ⟨rfl, _⟩ | ⟨B, hB, a⟩
        · exact h.elim
        split at h
        · cases a with
          | sc k =>
            rename_i ws a
            refine ⟨_, _, rfl, .inl (Evl.ex_l fz_le k), ?_⟩
            rw [List.length_map]
            exact q _ H2 _ h (.refl S H2) (.int _)
        · cases a with
          | ls k1 k2 k3 =>
            refine ⟨_, _, rfl, .inl (SqL.of k1), ?_⟩
            rw [own_len k2]
            exact q _ H2 _ h (.refl S H2) (.int _)
        · cases a with
          | da k =>
            cases k with
            | lst k1 k2 =>
              refine ⟨_, _, rfl, .inl (SqL.of (fz_le _ _ k1)), ?_⟩
              rw [k2.len]
              exact q _ H2 _ h (.refl S H2) (.int _)
        · cases a with
          | da k =>
            cases k with
            | tup k1 k2 =>
              refine ⟨_, _, rfl, .inr (SqT.of (fz_le _ _ k1)), ?_⟩
              rw [k2.len]
              exact q _ H2 _ h (.refl S H2) (.int _)
        · exact h.elim
/-- a built-in of one value, told by its data -/
def bData (r : List V → Hp → VK → Prop) (f : Lv → PyData → (OV → Prop) → Prop)
    (ok : ∀ {H0 : Hp} {S0 A S : List Addr} {σ : L2.St} {H1 H2 : Hp} {env : Env} {R : OV → Prop} {l : Lv} {d : PyData} {v : V}, At K H0 S0 A S σ env H1 H2 → Da (fz H0 A S H1 H2 l) v d → f l d R → ∀ Q : VK, (∀ v H3 q, R q → Step S H2 H3 → VR K H0 A S H1 H3 q v → Q v H3) → r [v] H2 Q) : CBX K where
  r := r
  f := cb1 fun o R => rd o fun l d => f l d R
  ok := fun {H0 S0 A S σ H1 H2 env R os vs} c ho h Q q => by
    cases ho with
    | nil => exact h.elim
    | cons a as =>
      cases as with
      | cons _ _ => exact h.elim
      | nil =>
        obtain ⟨l, d, h1, D⟩ := a.rd c h
        exact ok c D h1 Q q
def rListS (K : PySem.W.Frag) : List V → Hp → VK → Prop := fun xs H Q => ∃ p ys, xs = [.ref p] ∧ (SqL K H p ys ∨ SqT K H p ys) ∧ ∀ l, H l = none → Q (.ref l) (upd H l (.lst ys))
def bList : CBX K := bData (rListS K) (fun l d R => match d with | .list ds => R (nl l ds) | .tuple ds => R (nl l ds) | _ => False)
  fun {H0 S0 A S σ H1 H2 env R l d v} c D h Q q => by
    cases D <;> first | exact h.elim | skip
    · rename_i e1 k1
      exact ⟨_, _, rfl, .inl (SqL.of (fz_le _ _ e1)), fun p np => q _ _ _ h (.ex (Ex.new np)) (vr_lst c np k1)⟩
    · rename_i e1 k1
      exact ⟨_, _, rfl, .inr (SqT.of (fz_le _ _ e1)), fun p np => q _ _ _ h (.ex (Ex.new np)) (vr_lst c np k1)⟩
def rTupS (K : PySem.W.Frag) : List V → Hp → VK → Prop := fun xs H Q => ∃ p ys, xs = [.ref p] ∧ ((SqL K H p ys ∧ ∀ l, H l = none → Q (.ref l) (upd H l (.tup ys))) ∨ (SqT K H p ys ∧ Q (.ref p) H))
def bTuple : CBX K := bData (rTupS K) (fun l d R => match d with | .list ds => R (nt l ds) | .tuple ds => R (nt l ds) | _ => False)
  fun {H0 S0 A S σ H1 H2 env R l d v} c D h Q q => by
    cases D <;> first | exact h.elim | skip
    · rename_i e1 k1
      exact ⟨_, _, rfl, .inl ⟨SqL.of (fz_le _ _ e1), fun p np => q _ _ _ h (.ex (Ex.new np)) (vr_tup c np k1)⟩⟩
    · rename_i e1 k1
      exact ⟨_, _, rfl, .inr ⟨SqT.of (fz_le _ _ e1), q _ _ _ h (.refl S H2) (vr_tup' (p := 0) (vs := []) (.tup e1 k1))⟩⟩
def withInts (d : PyData) (k : List Int → Prop) : Prop := match d with
  | .list ds => match asInts ds with
    | some ws => k ws
    | none => False
  | _ => False
def withInts2 (d : PyData) (k : List Int → Prop) : Prop := match d with
  | .list ds => match asInts ds with
    | some ws => k ws
    | none => False
  | .tuple ds => match asInts ds with
    | some ws => k ws
    | none => False
  | _ => False
def withBools (d : PyData) (k : List Bool → Prop) : Prop := match d with
  | .list ds => match asBools ds with
    | some ws => k ws
    | none => False
  | _ => False
theorem withInts_of {H : Hp} {v : V} {d : PyData} {k : List Int → Prop} (D : Da H v d) (h : withInts d k) : ∃ a ws, v = .ref a ∧ H a = some (.lst (ws.map V.int)) ∧ k ws := by
  unfold withInts at h
  cases d <;> first | exact h.elim | skip
  rename_i ds
  cases e : asInts ds with
  | none => simp only [e] at h
  | some ws =>
    simp only [e] at h
    cases D with
    | lst e1 k1 =>
      rw [asInts_eq e] at k1
      rw [k1.ints_inv] at e1
      exact ⟨_, ws, rfl, e1, h⟩
theorem withInts2_of {H : Hp} {v : V} {d : PyData} {k : List Int → Prop} (D : Da H v d) (h : withInts2 d k) : ∃ a ws, v = .ref a ∧ (H a = some (.lst (ws.map V.int)) ∨ H a = some (.tup (ws.map V.int))) ∧ k ws := by
  unfold withInts2 at h
  cases d <;> first | exact h.elim | skip
  · rename_i ds
    cases e : asInts ds with
    | none => simp only [e] at h
    | some ws =>
      simp only [e] at h
      cases D with
      | lst e1 k1 =>
        rw [asInts_eq e] at k1
        rw [k1.ints_inv] at e1
        exact ⟨_, ws, rfl, .inl e1, h⟩
  · rename_i ds
    cases e : asInts ds with
    | none => simp only [e] at h
    | some ws =>
      simp only [e] at h
      cases D with
      | tup e1 k1 =>
        rw [asInts_eq e] at k1
        rw [k1.ints_inv] at e1
        exact ⟨_, ws, rfl, .inr e1, h⟩
theorem withBools_of {H : Hp} {v : V} {d : PyData} {k : List Bool → Prop} (D : Da H v d) (h : withBools d k) : ∃ a ws, v = .ref a ∧ H a = some (.lst (ws.map V.bl)) ∧ k ws := by
  unfold withBools at h
  cases d <;> first | exact h.elim | skip
  rename_i ds
  cases e : asBools ds with
  | none => simp only [e] at h
  | some ws =>
    simp only [e] at h
    cases D with
    | lst e1 k1 =>
      rw [asBools_eq e] at k1
      rw [k1.bools_inv] at e1
      exact ⟨_, ws, rfl, e1, h⟩
def bSum : CBX K := bData (rSum K) (fun _ d R => withInts d fun ws => R (.da .nw (.int ws.sum)))
  fun {H0 S0 A S σ H1 H2 env R l d v} c D h Q q => by
    obtain ⟨a, ws, rfl, e, h⟩ := withInts_of D h
    exact ⟨a, ws, rfl, SqL.of (fz_le _ _ e), q _ H2 _ h (.refl S H2) (.int _)⟩
def bMax : CBX K := bData (rMax K) (fun _ d R => withInts d fun ws => 0 < ws.length ∧ ∀ m, m ∈ ws → (∀ y, y ∈ ws → y ≤ m) → R (.da .nw (.int m)))
  fun {H0 S0 A S σ H1 H2 env R l d v} c D h Q q => by
    obtain ⟨a, ws, rfl, e, h0, h⟩ := withInts_of D h
    exact ⟨a, ws, rfl, SqL.of (fz_le _ _ e), h0, fun m hm hy => q _ H2 _ (h m hm hy) (.refl S H2) (.int _)⟩
def bMin : CBX K := bData (rMin K) (fun _ d R => withInts d fun ws => 0 < ws.length ∧ ∀ m, m ∈ ws → (∀ y, y ∈ ws → m ≤ y) → R (.da .nw (.int m)))
  fun {H0 S0 A S σ H1 H2 env R l d v} c D h Q q => by
    obtain ⟨a, ws, rfl, e, h0, h⟩ := withInts_of D h
    exact ⟨a, ws, rfl, SqL.of (fz_le _ _ e), h0, fun m hm hy => q _ H2 _ (h m hm hy) (.refl S H2) (.int _)⟩
def bAll : CBX K := bData (rAll K) (fun _ d R => withBools d fun bs => R (.da .nw (.bool (bs.all id))))
  fun {H0 S0 A S σ H1 H2 env R l d v} c D h Q q => by
    obtain ⟨a, ws, rfl, e, h⟩ := withBools_of D h
    exact ⟨a, ws, rfl, SqL.of (fz_le _ _ e), q _ H2 _ h (.refl S H2) (.bl _)⟩
def bAny : CBX K := bData (rAny K) (fun _ d R => withBools d fun bs => R (.da .nw (.bool (bs.any id))))
  fun {H0 S0 A S σ H1 H2 env R l d v} c D h Q q => by
    obtain ⟨a, ws, rfl, e, h⟩ := withBools_of D h
    exact ⟨a, ws, rfl, SqL.of (fz_le _ _ e), q _ H2 _ h (.refl S H2) (.bl _)⟩
def rInt1 : List V → Hp → VK → Prop := fun xs H Q => (∃ i, xs = [.int i] ∧ Q (.int i) H) ∨ ∃ k, xs = [.bl k] ∧ Q (.int (if k = true then 1 else 0)) H
def bInt : CBX K := bData rInt1 (fun _ d R => match d with | .int i => R (.da .nw (.int i)) | .bool b => R (.da .nw (.int (if b = true then 1 else 0))) | _ => False)
  fun {H0 S0 A S σ H1 H2 env R l d v} c D h Q q => by
    cases D <;> first | exact h.elim | skip
    · exact .inr ⟨_, rfl, q _ H2 _ h (.refl S H2) (.int _)⟩
    · exact .inl ⟨_, rfl, q _ H2 _ h (.refl S H2) (.int _)⟩
def rAbs1 : List V → Hp → VK → Prop := fun xs H Q => ∃ i, xs = [.int i] ∧ Q (.int (if i < 0 then -i else i)) H
def bAbs : CBX K := bData rAbs1 (fun _ d R => match d with | .int i => R (.da .nw (.int (if i < 0 then -i else i))) | _ => False)
  fun {H0 S0 A S σ H1 H2 env R l d v} c D h Q q => by
    cases D <;> first | exact h.elim | skip
    exact ⟨_, rfl, q _ H2 _ h (.refl S H2) (.int _)⟩
abbrev cb2 (f : Int → Int → Int) : List OV → (OV → Prop) → Prop := fun os R => match os with
  | [o, p] => rd2 o p fun _ d e => match d, e with
    | .int i, .int j => R (.da .nw (.int (f i j)))
    | _, _ => False
  | _ => False
def rMn2 : List V → Hp → VK → Prop := fun xs H Q => ∃ i j, xs = [.int i, .int j] ∧ Q (.int (if j < i then j else i)) H
def rMx2 : List V → Hp → VK → Prop := fun xs H Q => ∃ i j, xs = [.int i, .int j] ∧ Q (.int (if j > i then j else i)) H
theorem cb2_of {H0 : Hp} {S0 A S : List Addr} {σ : L2.St} {H1 H2 : Hp} {env : Env} {R : OV → Prop} {os : List OV} {vs : List V} {f : Int → Int → Int} (c : At K H0 S0 A S σ env H1 H2) (ho : F2 (fun o v => VR K H0 A S H1 H2 o v) os vs) (h : cb2 f os R) : ∃ i j, vs = [.int i, .int j] ∧ R (.da .nw (.int (f i j))) := by
  cases ho with
  | nil => exact h.elim
  | cons a as =>
    cases as with
    | nil => exact h.elim
    | cons b bs =>
      cases bs with
      | cons _ _ => exact h.elim
      | nil =>
        obtain ⟨l, d, e, h2, D1, D2⟩ := rd2_of c a b h
        cases D1 <;> cases D2 <;> first | exact h2.elim | exact ⟨_, _, rfl, h2⟩
def bMin2 : CBX K where
  r := rMn2
  f := cb2 fun i j => if j < i then j else i
  ok := fun {H0 S0 A S σ H1 H2 env R os vs} c ho h Q q => by
    obtain ⟨i, j, e, h⟩ := cb2_of c ho h
    exact ⟨i, j, e, q _ H2 _ h (.refl S H2) (.int _)⟩
def bMax2 : CBX K where
  r := rMx2
  f := cb2 fun i j => if j > i then j else i
  ok := fun {H0 S0 A S σ H1 H2 env R os vs} c ho h Q q => by
    obtain ⟨i, j, e, h⟩ := cb2_of c ho h
    exact ⟨i, j, e, q _ H2 _ h (.refl S H2) (.int _)⟩
def rSortedTu (K : PySem.W.Frag) : List V → Hp → VK → Prop := fun vs H Q => ∃ (a : Addr) (ns : List Int), vs = [V.ref a] ∧ SqT K H a (ns.map V.int) ∧
  ∀ (ns' : List Int) (p : Addr), ns'.Perm ns → ns'.Pairwise (· ≤ ·) → H p = none → Q (.ref p) (upd H p (.lst (ns'.map V.int)))
def rSrt (K : PySem.W.Frag) : List V → Hp → VK → Prop := fun vs H Q => rSortedI K vs H Q ∨ rSortedTu K vs H Q
def bSorted : CBX K := bData (rSrt K) (fun _ d R => withInts2 d fun ws => ∀ ws' : List Int, ws'.Perm ws → ws'.Pairwise (· ≤ ·) → R (.da .nw (.list (ws'.map .int))))
  fun {H0 S0 A S σ H1 H2 env R l d v} c D h Q q => by
    obtain ⟨a, ws, rfl, e | e, h⟩ := withInts2_of D h
    · exact .inl ⟨a, ws, rfl, SqL.of (fz_le _ _ e), fun ws' p h1 h2 np => q _ _ _ (h ws' h1 h2) (.ex (Ex.new np)) (.da (.lst (fz_new c np _) (DaAll.ints _)))⟩
    · exact .inr ⟨a, ws, rfl, SqT.of (fz_le _ _ e), fun ws' p h1 h2 np => q _ _ _ (h ws' h1 h2) (.ex (Ex.new np)) (.da (.lst (fz_new c np _) (DaAll.ints _)))⟩
/-! isinstance with a built-in class -/
def tyOf : PyData → String
  | .none => "NoneType"
  | .bool _ => "bool"
  | .int _ => "int"
  | .str _ => "str"
  | .list _ => "list"
  | .tuple _ => "tuple"
  | .dict _ => "dict"
def isiB (t u : String) : Bool := t == u || (t == "bool" && u == "int")
theorem tyX_of {H : Hp} {v : V} {d : PyData} (D : Da H v d) : TyX K H v (.type (tyOf d)) := by
  cases D with
  | non => exact .base .non
  | bl b => exact .base (.bl b)
  | int i => exact .base (.int i)
  | str x => exact .base (.str x)
  | lst e _ => exact .base (.lst e)
  | tup e _ => exact .base (.tup e)
def xIsi (u : String) (hu : ["NoneType", "bool", "int", "str", "list", "tuple"].all (fun t => kitB t u == some (isiB t u)) = true) (a : EX K) : EX K where
  te := fun E => tCB (rIsi K) (tCons (a.te E) (tCons (tC (.ty u)) tNil))
  wp := fun env R X => a.wp env (fun o => rd o fun _ d => R (.da .nw (.bool (isiB (tyOf d) u)))) X
  ok := fun {E H0 S0 A S σ H env R X} r h hX Q q => a.ok r h hX _ fun x H2 o hb s2 ho => by
    obtain ⟨l, d, h1, D⟩ := ho.rd' ⟨r, s2⟩ hb
    refine ⟨x, .ty u, _, _, _, rfl, .ty u, tyX_of D, kit_ty (r := isiB (tyOf d) u) ?_, q _ H2 _ h1 s2 (.bl _)⟩
    have h2 := List.all_eq_true.mp hu (tyOf d) (by cases D <;> simp [tyOf])
    simpa using h2
/-! list(range(..)) -/
def irg (lo : Int) (n : Nat) : List PyData := (List.range n).map fun (i : Nat) => .int (lo + (i : Int))
theorem da_rg {H : Hp} (a b : Int) : DaAll H (rgV a b) (irg a (b - a).toNat) := by
  unfold rgV irg
  generalize (b - a).toNat = n
  have e : (List.range n).map (fun (i : Nat) => V.int (a + (i : Int))) = ((List.range n).map fun (i : Nat) => a + (i : Int)).map V.int := by rw [List.map_map]; rfl
  have e2 : (List.range n).map (fun (i : Nat) => PyData.int (a + (i : Int))) = ((List.range n).map fun (i : Nat) => a + (i : Int)).map PyData.int := by rw [List.map_map]; rfl
  rw [e, e2]
  exact DaAll.ints _
def RgD (a b : Int) : Prop := -1000000 ≤ a ∧ a ≤ 1000000 ∧ -1000000 ≤ b ∧ b ≤ 1000000
theorem RgD.ok {a b : Int} (h : RgD a b) : RgOk a b := by
  obtain ⟨h1, h2, h3, h4⟩ := h
  exact ⟨by omega, by omega, by omega, by omega, by omega⟩
def xLRg1 (a : EX K) : EX K where
  te := fun E => tLstRg (tRg1 (a.te E))
  wp := fun env R X => a.wp env (fun o => rd o fun _ d => match d with | .int n => RgD 0 n ∧ R (.da .nw (.list (irg 0 n.toNat))) | _ => False) X
  ok := fun {E H0 S0 A S σ H env R X} r h hX Q q => a.ok r h hX _ fun x H2 o hb s2 ho => by
    obtain ⟨l, d, h1, D⟩ := ho.rd' ⟨r, s2⟩ hb
    cases D <;> first | exact h1.elim | skip
    rename_i n
    refine ⟨n, rfl, h1.1.ok, fun p np => q _ _ _ h1.2 (s2.new np) (.da (.lst (fz_new ⟨r, s2⟩ np _) ?_))⟩
    have := da_rg (H := fz H0 A S H (upd H2 p (.lst (rgV 0 n))) .nw) 0 n
    rw [Int.sub_zero] at this
    exact this
def xLRg2 (a b : EX K) : EX K where
  te := fun E => tLstRg (tRg2 (a.te E) (b.te E))
  wp := fun env R X => a.wp env (fun o => b.wp env (fun p => rd2 o p fun _ d e => match d, e with | .int m, .int n => RgD m n ∧ R (.da .nw (.list (irg m (n - m).toNat))) | _, _ => False) X) X
  ok := fun {E H0 S0 A S σ H env R X} r h hX Q q => a.ok r h hX _ fun x H2 o hb s2 ho => b.ok (r.step s2) hb (fun C H3 hC s => hX C H3 hC (s2.trans s)) _ fun y H3 p hb3 s3 hp => by
    have c : At K H0 S0 A S σ env H H3 := ⟨r, s2.trans s3⟩
    obtain ⟨l, d, e, h1, D1, D2⟩ := rd2_of c (ho.step ⟨r, s2⟩ s3) (hp.back ⟨r, s2⟩ s3) hb3
    cases D1 <;> cases D2 <;> first | exact h1.elim | skip
    exact ⟨_, _, rfl, rfl, h1.1.ok, fun p np => q _ _ _ h1.2 (c.s.new np) (.da (.lst (fz_new c np _) (da_rg _ _)))⟩
end
/-! ### what is walked -/
/-- what is frozen stays frozen, from one state of a def to a later one -/
def Fm (H0 : Hp) (A S : List Addr) (H : Hp) (A' S' : List Addr) (H' : Hp) : Prop := ∀ l, l = Lv.loc ∨ l = Lv.fr → Ex (fz H0 A S H H l) (fz H0 A' S' H' H' l)
theorem Fm.refl {H0 : Hp} {A S : List Addr} {H : Hp} : Fm H0 A S H A S H := fun _ _ _ _ h => h
theorem Fm.trans {H0 : Hp} {A S A' S' A2 S2 : List Addr} {H H' H2 : Hp} (a : Fm H0 A S H A' S' H') (b : Fm H0 A' S' H' A2 S2 H2) : Fm H0 A S H A2 S2 H2 := fun l hl => (a l hl).trans (b l hl)
theorem Fm.step {K : PySem.W.Frag} {H0 H H' : Hp} {S0 A S : List Addr} {σ : L2.St} {env : Env} (r : Rel K H0 S0 A S σ H env) (s : Step S H H') : Fm H0 A S H A S H' := fun l hl => by
  rcases hl with rfl | rfl
  · exact (fz_stay r.at' s .loc)
  · exact (fz_stay r.at' s .fr)
/-- a level as it is kept -/
def relv : OV → OV
  | .da .nw d => .da (nrm .loc d) d
  | o => o
def keep : OV → Option OV
  | .da .nw d => some (.da (nrm .loc d) d)
  | .ls xs => (OV.ds xs).map fun ds => .da .di (.list ds)
  | .ns => none
  | o => some o
def wipeE (env : Env) : List Nat → Env
  | [] => env
  | v :: vs => (wipeE env vs).set v none
section
variable {K : PySem.W.Frag} {H0 H H1 H2 H3 : Hp} {S0 A S : List Addr} {σ : L2.St} {env : Env} {o : OV} {v : V}
theorem fz_now (c : At K H0 S0 A S σ env H1 H2) {l : Lv} (h : l ≠ .nw) : Ex (fz H0 A S H1 H2 l) (fz H0 A S H2 H2 l) := by
  cases l <;> first | exact absurd rfl h | exact fun _ _ h => h
theorem keep_own (c : At K H0 S0 A S σ env H1 H2) (h : VR K H0 A S H1 H2 o v) {o' : OV} (e : keep o = some o') : Own K (fz H0 A S H2 H2) S H2 o' v [] := by
  have imm_nw : ∀ {d : PyData}, imm d = true → Da H2 v d → Da (fz H0 A S H2 H2 .nw) v d := fun c D => Da.imm (fun b hb => by simp only [bad, Bool.and_eq_true] at hb; exact .inl hb.2) c D
  rcases h with ⟨rfl, _⟩ | ⟨B, hB, h⟩
  · cases e
  · cases o with
    | da l d =>
      cases h with
      | da h =>
        cases l with
        | nw =>
          simp only [keep, Option.some.injEq] at e
          subst e
          refine .da ?_
          unfold nrm
          by_cases i : imm d = true
          · rw [if_pos i]; exact imm_nw i (h.mono fz_le)
          · rw [if_neg i]; exact (h.up c (m := .loc) (by decide)).mono (fz_now c (by decide))
        | loc => simp only [keep, Option.some.injEq] at e; subst e; exact .da (h.mono (fz_now c (by decide)))
        | fr => simp only [keep, Option.some.injEq] at e; subst e; exact .da (h.mono (fz_now c (by decide)))
        | di => simp only [keep, Option.some.injEq] at e; subst e; exact .da (h.mono (fz_now c (by decide)))
    | ls xs =>
      simp only [keep, Option.map_eq_some_iff] at e
      obtain ⟨ds, e, rfl⟩ := e
      refine .da ?_
      have : Da (fz H0 A S H1 H2 .di) v (.list ds) := own_d (fun l => fz_up c (by cases l <;> decide)) c.r.dis hB h (by simp only [OV.d, e]; rfl)
      exact this.mono (fz_now c (by decide))
    | fn f => simp only [keep, Option.some.injEq] at e; subst e; cases h; exact .fn
    | st => simp only [keep, Option.some.injEq] at e; subst e; cases h with | st h => exact .st h
    | ns => cases e
    | sc ws => simp only [keep, Option.some.injEq] at e; subst e; cases h with | sc h => exact .sc (Evl.ex_l (fz_now c (by decide)) h)
theorem fz_addD (r : Rel K H0 S0 A S σ H2 env) {D : Addr} (hD : H2 D = none) {H4 : Hp} (s : Step S H2 H4) (l : Lv) : Ex (fz H0 A S H2 H2 l) (fz H0 (D :: A) S H4 H4 l) := ct_ex fun b o hb e => by
  have nD : b ≠ D := fun z => by rw [z, hD] at e; cases e
  have nSb : b ∉ S := fun z => by
    cases l with
    | nw =>
      have : bad H0 A S H2 H2 .nw b = true := by
        show ((H2 b).isSome && isLo (H2 b)) = true
        rw [(r.str b z).lo, e]
        rfl
      rw [this] at hb; cases hb
    | _ => simp [bad, z] at hb
  have e2 := s.kp b o nSb e
  refine ⟨?_, e2⟩
  cases l <;> simp only [bad, e, e2, List.mem_cons, nD, false_or] at hb ⊢ <;> exact hb
theorem kp_item (c : At K H0 S0 A S σ env H1 H2) (h : VR K H0 A S H1 H2 o v) {H4 : Hp} (s : Step S H2 H4) : ∀ D o', H2 D = none → (∃ ys, H4 D = some (.lst ys)) → keep o = some o' → Own K (fz H0 (D :: A) S H4 H4) S H4 o' v [] := fun D o' hD _ e =>
  (keep_own c h e).mono (fz_addD c.rel hD s) (fun _ h => h) fun a ha => (List.not_mem_nil ha).elim
end
/-- a walk J yields os; b: also while a loop's body runs -/
structure Wk (K : PySem.W.Frag) (H0 : Hp) (A S : List Addr) (H H2 : Hp) (J : It) (b : Bool) (os : List OV) : Prop where
  go : ∀ i H3, i < os.length → Step S H2 H3 → J.go i H3
  yld : ∀ i H3 x H4, i < os.length → Step S H2 H3 → J.yld i H3 x H4 → Ex H3 H4 ∧ ∃ o, os[i]? = some o ∧ ∀ D o', H2 D = none → (∃ ys, H3 D = some (.lst ys)) → keep o = some o' → Own K (fz H0 (D :: A) S H4 H4) S H4 o' x []
  stop : ∀ H3, Step S H2 H3 → J.stop os.length H3
  goF : b = true → ∀ A' S' H3 i, Fm H0 A S H2 A' S' H3 → i < os.length → J.go i H3
  yldF : b = true → ∀ A' S' H3 i x H4, Fm H0 A S H2 A' S' H3 → (∀ p, H3 p = none → p ∉ A' ∧ p ∉ S' ∧ H0 p = none) → i < os.length → J.yld i H3 x H4 → Ex H3 H4 ∧ ∃ l d, os[i]?.map relv = some (.da l d) ∧ (l = .nw ∨ l = .loc ∨ l = .fr) ∧ Da (fz H0 A' S' H4 H4 l) x d
  stopF : b = true → ∀ A' S' H3, Fm H0 A S H2 A' S' H3 → J.stop os.length H3
structure IX (K : PySem.W.Frag) where
  ti : XK → TI
  wp : Env → (Bool → List OV → Prop) → (Addr → Prop) → Prop
  ok : ∀ {E : XK} {H0 : Hp} {S0 A S : List Addr} {σ : L2.St} {H : Hp} {env : Env} {R : Bool → List OV → Prop} {X : Addr → Prop}, Rel K H0 S0 A S σ H env → wp env R X → (∀ C H2, X C → Step S H H2 → E (.ref C) none H2) →
    ∀ Q : It → Hp → Prop, (∀ J H2 b os, R b os → Step S H H2 → Wk K H0 A S H H2 J b os → Q J H2) → ti E σ H Q
section
variable {K : PySem.W.Frag}
def irgO (lo c : Int) (n : Nat) : List OV := (List.range n).map fun (i : Nat) => .da .nw (.int (lo + (i : Int) * c))
theorem irgO_len (lo c : Int) (n : Nat) : (irgO lo c n).length = n := by unfold irgO; rw [List.length_map, List.length_range]
theorem irgO_at {lo c : Int} {n i : Nat} (h : i < n) : (irgO lo c n)[i]? = some (.da .nw (.int (lo + (i : Int) * c))) := by
  unfold irgO
  rw [List.getElem?_map, List.getElem?_range h]
  rfl
theorem wk_rgC {H0 : Hp} {A S : List Addr} {H H2 : Hp} (lo c : Int) (n : Nat) : Wk K H0 A S H H2 (Itc lo c n) true (irgO lo c n) := by
  refine ⟨fun i H3 h _ => ?_, fun i H3 x H4 h _ y => ?_, fun H3 _ => ?_, fun _ A' S' H3 i _ h => ?_, fun _ A' S' H3 i x H4 _ _ h y => ?_, fun _ A' S' H3 _ => ?_⟩
  · rw [irgO_len] at h; exact h
  · rw [irgO_len] at h
    obtain ⟨rfl, rfl⟩ := y
    exact ⟨Ex.refl _, _, irgO_at h, fun D o' _ _ e => by cases e; exact .da (.int _)⟩
  · rw [irgO_len]; exact Nat.le_refl n
  · rw [irgO_len] at h; exact h
  · rw [irgO_len] at h
    obtain ⟨rfl, rfl⟩ := y
    refine ⟨Ex.refl _, .nw, .int _, by rw [irgO_at h]; rfl, .inl rfl, .int _⟩
  · rw [irgO_len]; exact Nat.le_refl n
theorem wk_rg {H0 : Hp} {A S : List Addr} {H H2 : Hp} (lo : Int) (n : Nat) : Wk K H0 A S H H2 (Itr lo n) true (irgO lo 1 n) := by
  refine ⟨fun i H3 h _ => ?_, fun i H3 x H4 h _ y => ?_, fun H3 _ => ?_, fun _ A' S' H3 i _ h => ?_, fun _ A' S' H3 i x H4 _ _ h y => ?_, fun _ A' S' H3 _ => ?_⟩
  · rw [irgO_len] at h; exact h
  · rw [irgO_len] at h
    obtain ⟨rfl, rfl⟩ := y
    refine ⟨Ex.refl _, _, irgO_at h, fun D o' _ _ e => ?_⟩
    rw [Int.mul_one] at e
    cases e
    exact .da (.int _)
  · rw [irgO_len]; exact Nat.le_refl n
  · rw [irgO_len] at h; exact h
  · rw [irgO_len] at h
    obtain ⟨rfl, rfl⟩ := y
    refine ⟨Ex.refl _, .nw, .int (lo + i), by rw [irgO_at h, Int.mul_one]; rfl, .inl rfl, .int _⟩
  · rw [irgO_len]; exact Nat.le_refl n
def iRg1 (a : EX K) : IX K where
  ti := fun E => iRng1 (tCons (a.te E) tNil)
  wp := fun env R X => a.wp env (fun o => rd o fun _ d => match d with | .int n => (-1000000 ≤ n ∧ n ≤ 1000000) ∧ R true (irgO 0 1 n.toNat) | _ => False) X
  ok := fun {E H0 S0 A S σ H env R X} r h hX Q q => a.ok r h hX _ fun x H2 o hb s2 ho => by
    obtain ⟨l, d, h1, D⟩ := ho.rd' ⟨r, s2⟩ hb
    cases D <;> first | exact h1.elim | skip
    exact ⟨_, rfl, by have := h1.1; omega, by have := h1.1; omega, q _ H2 _ _ h1.2 s2 (wk_rg _ _)⟩
def iRg2 (a b : EX K) : IX K where
  ti := fun E => iRng2 (tCons (a.te E) (tCons (b.te E) tNil))
  wp := fun env R X => a.wp env (fun o => b.wp env (fun p => rd2 o p fun _ d e => match d, e with | .int m, .int n => RgD m n ∧ R true (irgO m 1 (n - m).toNat) | _, _ => False) X) X
  ok := fun {E H0 S0 A S σ H env R X} r h hX Q q => a.ok r h hX _ fun x H2 o hb s2 ho => b.ok (r.step s2) hb (fun C H3 hC s => hX C H3 hC (s2.trans s)) _ fun y H3 p hb3 s3 hp => by
    have c : At K H0 S0 A S σ env H H3 := ⟨r, s2.trans s3⟩
    obtain ⟨l, d, e, h1, D1, D2⟩ := rd2_of c (ho.step ⟨r, s2⟩ s3) (hp.back ⟨r, s2⟩ s3) hb3
    cases D1 <;> cases D2 <;> first | exact h1.elim | skip
    obtain ⟨⟨b1, b2, b3, b4⟩, h1⟩ := h1
    exact ⟨_, _, rfl, ⟨by omega, by omega, by omega, by omega⟩, q _ H3 _ _ h1 c.s (wk_rg _ _)⟩
/-- range(a, b, -1) -/
def iRgD (a b c : EX K) : IX K where
  ti := fun E => iRng3 (tCons (a.te E) (tCons (b.te E) (tCons (c.te E) tNil)))
  wp := fun env R X => a.wp env (fun o => b.wp env (fun p => c.wp env (fun z => rd2 o p fun _ d e => rd z fun _ u => match d, e, u with | .int m, .int n, .int k => k = -1 ∧ RgD m n ∧ R true (irgO m (-1) (m - n).toNat) | _, _, _ => False) X) X) X
  ok := fun {E H0 S0 A S σ H env R X} r h hX Q q => a.ok r h hX _ fun x H2 o hb s2 ho => b.ok (r.step s2) hb (fun C H3 hC s => hX C H3 hC (s2.trans s)) _ fun y H3 p hb3 s3 hp =>
    c.ok (r.step (s2.trans s3)) hb3 (fun C H4 hC s => hX C H4 hC ((s2.trans s3).trans s)) _ fun w H4 z hz s4 hzv => by
    have c3 : At K H0 S0 A S σ env H H3 := ⟨r, s2.trans s3⟩
    have c4 : At K H0 S0 A S σ env H H4 := c3.go s4
    obtain ⟨l, d, e, h1, D1, D2⟩ := rd2_of c4 ((ho.step ⟨r, s2⟩ s3).step c3 s4) ((hp.back ⟨r, s2⟩ s3).step c3 s4) hz
    obtain ⟨l2, u, h1, D3⟩ := (hzv.back c3 s4).rd c4 h1
    cases D1 <;> cases D2 <;> cases D3 <;> first | exact h1.elim | skip
    obtain ⟨rfl, ⟨b1, b2, b3, b4⟩, h1⟩ := h1
    exact ⟨_, _, _, _, rfl, RgC.neg (by omega) (by omega) (by omega) (by omega), q _ H4 _ _ h1 c4.s (wk_rgC _ _ _)⟩
/-- a list or a tuple -/
def iSeq (K : PySem.W.Frag) (tl : TE) : TI := fun σ H R => tl σ H fun x H1 => ∃ a, x = .ref a ∧ (((∃ xs, SqL K H1 a xs) ∧ R (Itl K a) H1) ∨ ((∃ xs, SqT K H1 a xs) ∧ R (Itt K a) H1))
theorem pi_seq {X : Cx} {tg l : Expr} {tl : TE} (hl : PE X l tl) : PI X tg l (iSeq X.K tl) := by
  refine ⟨fun pins s σ H R I h => ?_⟩
  refine thn (hl.run pins s σ H _ I h) fun v s1 ⟨x, H1, I1, r1, q1⟩ => ?_
  obtain ⟨a, e, q1⟩ := q1
  subst e
  cases r1
  rcases q1 with ⟨⟨xs, hq⟩, q⟩ | ⟨⟨xs, hq⟩, q⟩
  · obtain ⟨its, rv, p, hz⟩ := I1.list hq
    refine wpAny_pyIter_list p.isList ?_
    refine ⟨s1.heap.objs.size, [s1.heap.objs.size], _, _, H1, rfl, I1.kept (t' := s1.toks) fun b o e => Heap.get?_push_of_some _ e, turn_list a _, ⟨_, Heap.get?_push_size _ rfl, rfl, rfl⟩, fun b hb => ?_, q⟩
    have e : b = s1.heap.objs.size := by simpa using hb
    subst e
    exact I1.fpOk (Nat.le_refl _) (I1.hok.fresh (Nat.le_refl _))
  · obtain ⟨its, rv, p, hz⟩ := I1.tuple hq
    refine wpAny_pyIter_tuple (show s1.heap.IsTuple a its.toArray from p) ?_
    refine ⟨s1.heap.objs.size, [s1.heap.objs.size], _, _, H1, rfl, I1.kept (t' := s1.toks) fun b o e => Heap.get?_push_of_some _ e, turn_tuple a _, ⟨_, Heap.get?_push_size _ rfl, rfl, rfl⟩, fun b hb => ?_, q⟩
    have e : b = s1.heap.objs.size := by simpa using hb
    subst e
    exact I1.fpOk (Nat.le_refl _) (I1.hok.fresh (Nat.le_refl _))
/-- the items of a sequence -/
def seqF (o : OV) (R : Bool → List OV → Prop) : Prop := match o with
  | .ls xs => R false xs
  | .da l (.list ds) => R (decide (l ≠ .di)) (ds.map (mk l))
  | .da l (.tuple ds) => R (decide (l ≠ .di)) (ds.map (mk l))
  | _ => False
def lvF : Lv → Lv
  | .nw => .loc
  | l => l
theorem relv_mk (l : Lv) (d : PyData) : ∃ l', relv (mk l d) = .da l' d ∧ l' = nrm (lvF l) d := by
  unfold mk nrm
  by_cases c : imm d = true
  · rw [if_pos c]
    refine ⟨_, rfl, ?_⟩
    unfold nrm
    rw [if_pos c, if_pos c]
  · rw [if_neg c]
    cases l
    · refine ⟨_, rfl, ?_⟩
      unfold nrm
      rw [if_neg c, if_neg c]
      rfl
    · exact ⟨_, rfl, by rw [if_neg c]; rfl⟩
    · exact ⟨_, rfl, by rw [if_neg c]; rfl⟩
    · exact ⟨_, rfl, by rw [if_neg c]; rfl⟩
/-- data that stands frozen, at a later state -/
theorem da_later {H0 : Hp} {S0 A S A' S' : List Addr} {σ : L2.St} {H1 H2 H3 : Hp} {env : Env} {l : Lv} {v : V} {d : PyData} (c : At K H0 S0 A S σ env H1 H2) (hl : l ≠ .di) (D : Da (fz H0 A S H1 H2 l) v d) (f : Fm H0 A S H2 A' S' H3) : Da (fz H0 A' S' H3 H3 (lvF l)) v d := by
  have e : Ex (fz H0 A S H1 H2 .loc) (fz H0 A S H2 H2 .loc) := fun _ _ h => h
  have e2 : Ex (fz H0 A S H1 H2 .fr) (fz H0 A S H2 H2 .fr) := fun _ _ h => h
  cases l with
  | nw => exact (D.up c (m := .loc) (by decide)).mono (e.trans (f .loc (.inl rfl)))
  | loc => exact D.mono (e.trans (f .loc (.inl rfl)))
  | fr => exact D.mono (e2.trans (f .fr (.inr rfl)))
  | di => exact absurd rfl hl
theorem da_nrm' {H0 : Hp} {A S : List Addr} {H1 H2 : Hp} {l : Lv} {v : V} {d : PyData} (h : Da (fz H0 A S H1 H2 l) v d) : Da (fz H0 A S H1 H2 (nrm l d)) v d := h.nrm
theorem nrm_lv {l : Lv} {d : PyData} (hl : l ≠ .di) : nrm (lvF l) d = .nw ∨ nrm (lvF l) d = .loc ∨ nrm (lvF l) d = .fr := by
  unfold nrm
  by_cases c : imm d = true
  · rw [if_pos c]; exact .inl rfl
  · rw [if_neg c]
    cases l
    · exact .inr (.inl rfl)
    · exact .inr (.inl rfl)
    · exact .inr (.inr rfl)
    · exact absurd rfl hl
theorem wk_list {H0 : Hp} {S0 A S : List Addr} {σ : L2.St} {H H2 : Hp} {env : Env} {a : Addr} {l : Lv} {ds : List PyData} (c : At K H0 S0 A S σ env H H2) (D : Da (fz H0 A S H H2 l) (.ref a) (.list ds)) : Wk K H0 A S H H2 (Itl K a) (decide (l ≠ .di)) (ds.map (mk l)) := by
  have hlen : (ds.map (mk l)).length = ds.length := List.length_map ..
  have now : ∀ {H3}, Step S H2 H3 → ∃ vs, H3 a = some (.lst vs) ∧ DaAll (fz H0 A S H H3 l) vs ds := fun s => by
    cases D.mono (fz_stay c s l) with
    | lst e k => exact ⟨_, fz_le _ _ e, k⟩
  have nS : ∀ b, (∃ o, H2 b = some o) → b = a → b ∉ S := fun b _ eb z => by
    subst eb
    cases D with
    | lst e k =>
      obtain ⟨hb, e1⟩ := ct_at e
      cases l with
      | nw =>
        have h1 := (c.r.str b z).lo
        obtain ⟨xs, h1⟩ := lo_some h1
        have : bad H0 A S H H2 .nw b = true := by
          show ((H b).isSome && isLo (H2 b)) = true
          rw [h1, e1]
          rfl
        rw [this] at hb
        cases hb
      | _ => simp [bad, z] at hb
  have later : decide (l ≠ .di) = true → ∀ {A' S' H3}, Fm H0 A S H2 A' S' H3 → ∃ vs, H3 a = some (.lst vs) ∧ DaAll (fz H0 A' S' H3 H3 (lvF l)) vs ds := fun hl A' S' H3 f => by
    cases da_later c (of_decide_eq_true hl) D f with
    | lst e k => exact ⟨_, fz_le _ _ e, k⟩
  refine ⟨fun i H3 h s => ?_, fun i H3 x H4 h s y => ?_, fun H3 s => ?_, fun hl A' S' H3 i f h => ?_, fun hl A' S' H3 i x H4 f _ h y => ?_, fun hl A' S' H3 f => ?_⟩
  · obtain ⟨vs, e, k⟩ := now s
    rw [hlen] at h
    obtain ⟨v, ev, _⟩ := k.at' (List.getElem?_eq_getElem h)
    exact ⟨vs, v, SqL.of e, ev⟩
  · obtain ⟨vs, e, k⟩ := now (.refl S H2)
    rw [hlen] at h
    obtain ⟨v, ev, dv⟩ := k.at' (List.getElem?_eq_getElem h)
    obtain ⟨rfl, y⟩ := y
    have e2 := s.kp a _ (nS a ⟨_, e⟩ rfl) e
    have := y vs (SqL.of e2)
    rw [ev] at this
    cases this
    exact ⟨Ex.refl _, _, by rw [List.getElem?_map, List.getElem?_eq_getElem h]; rfl, kp_item c (.mk dv) s⟩
  · obtain ⟨vs, e, k⟩ := now s
    exact ⟨vs, SqL.of e, by rw [hlen, k.len]; exact Nat.le_refl _⟩
  · obtain ⟨vs, e, k⟩ := later hl f
    rw [hlen] at h
    obtain ⟨v, ev, _⟩ := k.at' (List.getElem?_eq_getElem h)
    exact ⟨vs, v, SqL.of e, ev⟩
  · obtain ⟨vs, e, k⟩ := later hl f
    rw [hlen] at h
    obtain ⟨v, ev, dv⟩ := k.at' (List.getElem?_eq_getElem h)
    obtain ⟨rfl, y⟩ := y
    have := y vs (SqL.of e)
    rw [ev] at this
    cases this
    obtain ⟨l', e1, e2⟩ := relv_mk l ds[i]
    refine ⟨Ex.refl _, l', ds[i], by rw [List.getElem?_map, List.getElem?_eq_getElem h]; exact congrArg some e1, ?_, ?_⟩
    · rw [e2]; exact nrm_lv (of_decide_eq_true hl)
    · rw [e2]; exact dv.nrm
  · obtain ⟨vs, e, k⟩ := later hl f
    exact ⟨vs, SqL.of e, by rw [hlen, k.len]; exact Nat.le_refl _⟩
theorem wk_tup {H0 : Hp} {S0 A S : List Addr} {σ : L2.St} {H H2 : Hp} {env : Env} {a : Addr} {l : Lv} {ds : List PyData} (c : At K H0 S0 A S σ env H H2) (D : Da (fz H0 A S H H2 l) (.ref a) (.tuple ds)) : Wk K H0 A S H H2 (Itt K a) (decide (l ≠ .di)) (ds.map (mk l)) := by
  have hlen : (ds.map (mk l)).length = ds.length := List.length_map ..
  have now : ∀ {H3}, Step S H2 H3 → ∃ vs, H3 a = some (.tup vs) ∧ DaAll (fz H0 A S H H3 l) vs ds := fun s => by
    cases D.mono (fz_stay c s l) with
    | tup e k => exact ⟨_, fz_le _ _ e, k⟩
  have later : decide (l ≠ .di) = true → ∀ {A' S' H3}, Fm H0 A S H2 A' S' H3 → ∃ vs, H3 a = some (.tup vs) ∧ DaAll (fz H0 A' S' H3 H3 (lvF l)) vs ds := fun hl A' S' H3 f => by
    cases da_later c (of_decide_eq_true hl) D f with
    | tup e k => exact ⟨_, fz_le _ _ e, k⟩
  refine ⟨fun i H3 h s => ?_, fun i H3 x H4 h s y => ?_, fun H3 s => ?_, fun hl A' S' H3 i f h => ?_, fun hl A' S' H3 i x H4 f _ h y => ?_, fun hl A' S' H3 f => ?_⟩
  · obtain ⟨vs, e, k⟩ := now s
    rw [hlen] at h
    obtain ⟨v, ev, _⟩ := k.at' (List.getElem?_eq_getElem h)
    exact ⟨vs, v, SqT.of e, ev⟩
  · obtain ⟨vs, e, k⟩ := now (.refl S H2)
    rw [hlen] at h
    obtain ⟨v, ev, dv⟩ := k.at' (List.getElem?_eq_getElem h)
    obtain ⟨rfl, y⟩ := y
    have e2 := s.kp a _ (fun z => by obtain ⟨_, q⟩ := lo_some (c.rel.lo a (.inr z)); rw [e] at q; cases q) e
    have := y vs (SqT.of e2)
    rw [ev] at this
    cases this
    exact ⟨Ex.refl _, _, by rw [List.getElem?_map, List.getElem?_eq_getElem h]; rfl, kp_item c (.mk dv) s⟩
  · obtain ⟨vs, e, k⟩ := now s
    exact ⟨vs, SqT.of e, by rw [hlen, k.len]; exact Nat.le_refl _⟩
  · obtain ⟨vs, e, k⟩ := later hl f
    rw [hlen] at h
    obtain ⟨v, ev, _⟩ := k.at' (List.getElem?_eq_getElem h)
    exact ⟨vs, v, SqT.of e, ev⟩
  · obtain ⟨vs, e, k⟩ := later hl f
    rw [hlen] at h
    obtain ⟨v, ev, dv⟩ := k.at' (List.getElem?_eq_getElem h)
    obtain ⟨rfl, y⟩ := y
    have := y vs (SqT.of e)
    rw [ev] at this
    cases this
    obtain ⟨l', e1, e2⟩ := relv_mk l ds[i]
    refine ⟨Ex.refl _, l', ds[i], by rw [List.getElem?_map, List.getElem?_eq_getElem h]; exact congrArg some e1, ?_, ?_⟩
    · rw [e2]; exact nrm_lv (of_decide_eq_true hl)
    · rw [e2]; exact dv.nrm
  · obtain ⟨vs, e, k⟩ := later hl f
    exact ⟨vs, SqT.of e, by rw [hlen, k.len]; exact Nat.le_refl _⟩
theorem wk_own {H0 : Hp} {S0 A S : List Addr} {σ : L2.St} {H H2 : Hp} {env : Env} {a : Addr} {vs : List V} {xs : List OV} {B : List Addr} (c : At K H0 S0 A S σ env H H2) (e : H2 a = some (.lst vs)) (k : OwnAll K (fz H0 A S H H2) S H2 xs vs B) (ha : a ∈ A) (hB : ∀ b ∈ B, b ∈ A) : Wk K H0 A S H H2 (Itl K a) false xs := by
  have hl := own_len k
  refine ⟨fun i H3 h s => ?_, fun i H3 x H4 h s y => ?_, fun H3 s => ?_, (nomatch ·), (nomatch ·), (nomatch ·)⟩
  · obtain ⟨v, C, e1, _, _⟩ := own_at k (List.getElem?_eq_getElem h)
    exact ⟨vs, v, SqL.of (s.kp _ _ (c.r.dis a ha) e), e1⟩
  · obtain ⟨v, C, e1, e2, e3⟩ := own_at k (List.getElem?_eq_getElem h)
    obtain ⟨rfl, y⟩ := y
    have := y vs (SqL.of (s.kp _ _ (c.r.dis a ha) e))
    rw [e1] at this
    cases this
    have vr : VR K H0 A S H H2 xs[i] _ := .inr ⟨C, fun b hb => hB b (e3 b hb), e2⟩
    exact ⟨Ex.refl _, _, List.getElem?_eq_getElem h, kp_item c vr s⟩
  · exact ⟨vs, SqL.of (s.kp _ _ (c.r.dis a ha) e), by rw [hl]; exact Nat.le_refl _⟩
def iSq (a : EX K) : IX K where
  ti := fun E => iSeq K (a.te E)
  wp := fun env R X => a.wp env (fun o => seqF o R) X
  ok := fun {E H0 S0 A S σ H env R X} r h hX Q q => a.ok r h hX _ fun x H2 o hb s2 ho => by
    have c : At K H0 S0 A S σ env H H2 := ⟨r, s2⟩
    rcases ho with ⟨rfl, _⟩ | ⟨B, hB, ho⟩
    · exact hb.elim
    unfold seqF at hb
    split at hb
    · cases ho with
      | ls k1 k2 k3 => exact ⟨_, rfl, .inl ⟨⟨_, SqL.of k1⟩, q _ H2 _ _ hb s2 (wk_own c k1 k2 (hB _ List.mem_cons_self) fun b z => hB b (List.mem_cons_of_mem _ z))⟩⟩
    · cases ho with
      | da k =>
        obtain ⟨p, xs, rfl, e⟩ : ∃ p xs, x = .ref p ∧ H2 p = some (.lst xs) := by
          cases k with
          | lst k1 k2 => exact ⟨_, _, rfl, fz_le _ _ k1⟩
        exact ⟨_, rfl, .inl ⟨⟨_, SqL.of e⟩, q _ H2 _ _ hb s2 (wk_list c k)⟩⟩
    · cases ho with
      | da k =>
        obtain ⟨p, xs, rfl, e⟩ : ∃ p xs, x = .ref p ∧ H2 p = some (.tup xs) := by
          cases k with
          | tup k1 k2 => exact ⟨_, _, rfl, fz_le _ _ k1⟩
        exact ⟨_, rfl, .inr ⟨⟨_, SqT.of e⟩, q _ H2 _ _ hb s2 (wk_tup c k)⟩⟩
    · exact hb.elim
end
/-! ### slots that are set; comprehensions -/
section
variable {K : PySem.W.Frag} {H0 H H1 H2 H3 : Hp} {S0 A S : List Addr} {σ : L2.St} {env : Env} {o : OV} {v : V}
theorem Rel.put (r : Rel K H0 S0 A S σ H env) {i : Nat} (h : Own K (fz H0 A S H H) S H o v []) : Rel K H0 S0 A S (σ.set i (some v)) H (env.set i (some o)) := by
  obtain ⟨B, h1, h2⟩ := r.own
  obtain ⟨B', h3, h4⟩ := h1.set (i := i) h (fun b hb => (List.not_mem_nil hb).elim)
  exact ⟨⟨B', h3, fun b hb => (h4 b hb).elim (h2 b) fun z => (List.not_mem_nil z).elim⟩, r.loA, r.dis, r.str, r.ext, r.sub, r.nA, r.nS⟩
theorem Rel.wipe1 (r : Rel K H0 S0 A S σ H env) (i : Nat) : Rel K H0 S0 A S (σ.set i none) H (env.set i none) := by
  obtain ⟨B, h1, h2⟩ := r.own
  obtain ⟨B', h3, h4⟩ := h1.wipe (i := i) (x := none)
  exact ⟨⟨B', h3, fun b hb => h2 b (h4 b hb)⟩, r.loA, r.dis, r.str, r.ext, r.sub, r.nA, r.nS⟩
theorem Rel.wipe (r : Rel K H0 S0 A S σ H env) : ∀ vs : List Nat, Rel K H0 S0 A S (L2.wipe σ vs) H (wipeE env vs)
  | [] => r
  | v :: vs => (r.wipe vs).wipe1 v
theorem Rel.addD (r : Rel K H0 S0 A S σ H env) {Hk : Hp} {D : Addr} {ws : List V} (s : Step S H Hk) (hD : H D = none) (eD : Hk D = some (.lst ws)) : Rel K H0 S0 (D :: A) S σ Hk env := by
  have r2 := r.step s
  have nS : D ∉ S := fun z => by
    obtain ⟨xs, e⟩ := lo_some (r.lo D (.inr z))
    rw [e] at hD; cases hD
  have n0 : H0 D = none := by
    cases q : H0 D with
    | none => rfl
    | some u =>
      have := r.dom (b := D) (by rw [q]; rfl)
      rw [hD] at this; cases this
  refine ⟨?_, fun a ha => ?_, fun a ha => ?_, r2.str, r2.ext, r2.sub, fun a ha => ?_, r2.nS⟩
  · obtain ⟨B, h1, h2⟩ := r.own
    refine ⟨B, h1.mono (fun l => ct_ex fun b o hb e => ?_) (fun _ h => h) (fun a ha u e => s.kp a u (r.dis a (h2 a ha)) e), fun b hb => List.mem_cons_of_mem _ (h2 b hb)⟩
    have nD : b ≠ D := fun z => by rw [z, hD] at e; cases e
    have nSb : b ∉ S := fun z => by
      cases l with
      | nw =>
        have : bad H0 A S H H .nw b = true := by
          show ((H b).isSome && isLo (H b)) = true
          rw [(r.str b z).lo, e]
          rfl
        rw [this] at hb; cases hb
      | _ => simp [bad, z] at hb
    have e2 := s.kp b o nSb e
    refine ⟨?_, e2⟩
    cases l <;> simp only [bad, e, e2, List.mem_cons, nD, false_or] at hb ⊢ <;> exact hb
  · rcases List.mem_cons.mp ha with z | z
    · subst z; rw [eD]; rfl
    · exact r2.loA a z
  · rcases List.mem_cons.mp ha with z | z
    · subst z; exact nS
    · exact r.dis a z
  · rcases List.mem_cons.mp ha with z | z
    · subst z; exact n0
    · exact r.nA a z
end
/-- a target of names: for values as they are kept -/
structure GX (K : PySem.W.Frag) where
  tg : TG
  ix : List Nat
  wp : OV → Env → (Env → Prop) → Prop
  ok : ∀ {H0 : Hp} {S0 A S : List Addr} {σ : L2.St} {H : Hp} {env : Env} {R : Env → Prop} {o : OV} {v : V}, Rel K H0 S0 A S σ H env → Own K (fz H0 A S H H) S H o v [] → wp o env R → ∀ Q : L2.St → Hp → Prop, (∀ σ2 env2, R env2 → Rel K H0 S0 A S σ2 H env2 → (∀ ws, (∀ i ∈ ix, i ∈ ws) → L2.wipe σ2 ws = L2.wipe σ ws) → Q σ2 H) → tg v σ H Q
structure GsX (K : PySem.W.Frag) where
  tg : TGs
  ix : List Nat
  wp : Lv → List PyData → Env → (Env → Prop) → Prop
  ok : ∀ {H0 : Hp} {S0 A S : List Addr} {σ : L2.St} {H : Hp} {env : Env} {R : Env → Prop} {l : Lv} {ds : List PyData} {vs : List V}, Rel K H0 S0 A S σ H env → DaAll (fz H0 A S H H l) vs ds → wp l ds env R → ∀ Q : L2.St → Hp → Prop, (∀ σ2 env2, R env2 → Rel K H0 S0 A S σ2 H env2 → (∀ ws, (∀ i ∈ ix, i ∈ ws) → L2.wipe σ2 ws = L2.wipe σ ws) → Q σ2 H) → tg vs σ H Q
section
variable {K : PySem.W.Frag}
theorem wipe_skip {σ : L2.St} {i : Nat} {x : Option V} : ∀ {ws : List Nat}, i ∉ ws → L2.wipe (σ.set i x) ws = (L2.wipe σ ws).set i x
  | [], _ => rfl
  | w :: ws, h => by
    have h1 : i ≠ w := fun e => h (by rw [e]; exact List.mem_cons_self)
    show (L2.wipe (σ.set i x) ws).set w none = ((L2.wipe σ ws).set w none).set i x
    rw [wipe_skip fun z => h (List.mem_cons_of_mem _ z), List.set_comm _ _ h1]
theorem wipe_set {σ : L2.St} {i : Nat} {x : Option V} : ∀ {ws : List Nat}, i ∈ ws → L2.wipe (σ.set i x) ws = L2.wipe σ ws
  | [], h => by cases h
  | w :: ws, h => by
    show (L2.wipe (σ.set i x) ws).set w none = (L2.wipe σ ws).set w none
    by_cases c : i ∈ ws
    · rw [wipe_set c]
    · have e : i = w := by
        rcases List.mem_cons.mp h with z | z
        · exact z
        · exact absurd z c
      rw [wipe_skip c, e, List.set_set]
theorem wipe_idem (σ : L2.St) : ∀ ws : List Nat, ∀ vs : List Nat, (∀ i ∈ ws, i ∈ vs) → L2.wipe (L2.wipe σ ws) vs = L2.wipe σ vs
  | [], _, _ => rfl
  | w :: ws, vs, h => by
    show L2.wipe ((L2.wipe σ ws).set w none) vs = L2.wipe σ vs
    rw [wipe_set (h w List.mem_cons_self), wipe_idem σ ws vs fun i hi => h i (List.mem_cons_of_mem _ hi)]
def gN (i : Nat) : GX K where
  tg := gName i
  ix := [i]
  wp := fun o env R => R (env.set i (some o))
  ok := fun {H0 S0 A S σ H env R o v} r ho h Q q => q _ _ h (r.put ho) fun ws hw => wipe_set (hw i (by simp))
def gNil' : GsX K where
  tg := gNil
  ix := []
  wp := fun _ ds env R => match ds with
    | [] => R env
    | _ => False
  ok := fun {H0 S0 A S σ H env R l ds vs} r hv h Q q => by
    cases hv with
    | nil => exact ⟨rfl, q _ _ h r fun _ _ => rfl⟩
    | cons _ _ => exact h.elim
def gCons' (g : GX K) (gs : GsX K) : GsX K where
  tg := gCons g.tg gs.tg
  ix := g.ix ++ gs.ix
  wp := fun l ds env R => match ds with
    | [] => False
    | d :: ds => g.wp (mk l d) env fun env' => gs.wp l ds env' R
  ok := fun {H0 S0 A S σ H env R l ds vs} r hv h Q q => by
    cases hv with
    | nil => exact h.elim
    | cons a b => exact ⟨_, _, rfl, g.ok r (.da a.nrm) h _ fun σ2 env2 h2 r2 w2 => gs.ok r2 (b : DaAll _ _ _) h2 Q fun σ3 env3 h3 r3 w3 => q σ3 env3 h3 r3 fun ws hw => (w3 ws fun i hi => hw i (List.mem_append_right _ hi)).trans (w2 ws fun i hi => hw i (List.mem_append_left _ hi))⟩
def gT (n : Nat) (gs : GsX K) : GX K where
  tg := gTup K n gs.tg
  ix := gs.ix
  wp := fun o env R => match o with
    | .da l (.tuple ds) => ds.length = n ∧ gs.wp l ds env R
    | _ => False
  ok := fun {H0 S0 A S σ H env R o v} r ho h Q q => by
    cases o with
    | da l d =>
      cases d <;> first | exact h.elim | skip
      cases ho with
      | da ho =>
        cases ho with
        | tup e k => exact ⟨_, _, rfl, SqT.of (fz_le _ _ e), by rw [k.len]; exact h.1, gs.ok r k h.2 Q q⟩
    | _ => exact h.elim
def gL (n : Nat) (gs : GsX K) : GX K where
  tg := gLst K n gs.tg
  ix := gs.ix
  wp := fun o env R => match o with
    | .da l (.list ds) => ds.length = n ∧ gs.wp l ds env R
    | _ => False
  ok := fun {H0 S0 A S σ H env R o v} r ho h Q q => by
    cases o with
    | da l d =>
      cases d <;> first | exact h.elim | skip
      cases ho with
      | da ho =>
        cases ho with
        | lst e k => exact ⟨_, _, rfl, SqL.of (fz_le _ _ e), by rw [k.len]; exact h.1, gs.ok r k h.2 Q q⟩
    | _ => exact h.elim
/-! comprehensions -/
/-- the base of a new list's items: what is there without the list -/
abbrev fzD (D : Addr) (H0 : Hp) (A S : List Addr) (H1 H2 : Hp) (l : Lv) : Hp := ct (fun b => decide (b = D)) (fz H0 A S H1 H2 l)
structure StepD (S : List Addr) (D : Addr) (H H' : Hp) : Prop where
  kp : ∀ b o, b ∉ S → b ≠ D → H b = some o → H' b = some o
  st : ∀ a ∈ S, Strm H a → Strm H' a
theorem fzD_step {H0 H1 H2 H3 : Hp} {A S : List Addr} {D : Addr} (hS : ∀ a ∈ S, Strm H1 a) (s1 : Step S H1 H2) (s : StepD S D H2 H3) (l : Lv) : Ex (fzD D H0 A S H1 H2 l) (fzD D H0 A S H1 H3 l) := ct_ex fun b o nb e => by
  obtain ⟨hb, e⟩ := ct_at e
  have nD : b ≠ D := of_decide_eq_false nb
  have hS2 : ∀ a ∈ S, Strm H2 a := fun a h => s1.st a h (hS a h)
  have nS : b ∉ S := fun z => by
    cases l with
    | nw =>
      have h1 := (hS b z).lo
      obtain ⟨xs, h1⟩ := lo_some h1
      have : bad H0 A S H1 H2 .nw b = true := by
        show ((H1 b).isSome && isLo (H2 b)) = true
        rw [h1, (hS2 b z).lo]
        rfl
      rw [this] at hb
      cases hb
    | _ => simp [bad, z] at hb
  have eh : H2 b = some o := e
  have e3 := s.kp b o nS nD eh
  refine ⟨nb, ct_of ?_ e3⟩
  rw [← hb]
  cases l <;> simp only [bad, eh, e3]
/-- the items that are kept -/
def lcW (g : GX K) (t : TX K) (e : EX K) (env : Env) (X : Addr → Prop) : List OV → Lv → List PyData → (Lv → List PyData → Prop) → Prop
  | [], l, acc, k => k l acc
  | o :: os, l, acc, k => match keep o with
    | none => False
    | some o' => g.wp o' env fun env' => t.wp env' (fun b => if b = true then e.wp env' (fun r => rd r fun m d => nrm m d ≠ .di ∧ lcW g t e env X os (l.sup (nrm m d)) (acc ++ [d]) k) X else lcW g t e env X os l acc k) X
theorem fzD_up {H0 H1 H2 : Hp} {A S : List Addr} {S0 : List Addr} {σ : L2.St} {env : Env} {D : Addr} {l m : Lv} (c : At K H0 S0 A S σ env H1 H2) (h : l.n ≤ m.n) : Ex (fzD D H0 A S H1 H2 l) (fzD D H0 A S H1 H2 m) := ct_ex fun b o nb e => ⟨nb, fz_up c h b o e⟩
theorem fz_newD {H0 H1 H2 Hk : Hp} {A S : List Addr} {S0 : List Addr} {σ : L2.St} {env : Env} {D : Addr} {u : HO} (c : At K H0 S0 A S σ env H1 H2) (n : H2 D = none) (e : Hk D = some u) (l : Lv) : fz H0 A S H1 Hk l D = some u := by
  obtain ⟨h1, h2⟩ := ct_at (fz_new c (u := .lst []) n l)
  refine ct_of ?_ e
  have nA : D ∉ A := fun z => by
    obtain ⟨xs, e⟩ := lo_some (c.rel.lo D (.inl z))
    rw [e] at n; cases n
  have nS : D ∉ S := fun z => by
    obtain ⟨xs, e⟩ := lo_some (c.rel.lo D (.inr z))
    rw [e] at n; cases n
  have n1 : (H1 D).isSome = false := by
    cases q : (H1 D).isSome with
    | false => rfl
    | true => rw [← c.dom q, n]; rfl
  have n0 : (H0 D).isSome = false := by
    cases q : (H0 D).isSome with
    | false => rfl
    | true => rw [c.r.dom q] at n1; cases n1
  cases l <;> simp [bad, nA, nS, n1, n0]
theorem fz_toD {H0 H1 H5 H6 : Hp} {A S : List Addr} {D : Addr} {l : Lv} (hd : ∀ b, (H1 b).isSome = true → (H5 b).isSome = true) (h5 : (H5 D).isSome = true) (h6 : isLo (H6 D) = true) (hl : l ≠ .di) : Ex (fz H0 (D :: A) S H5 H6 l) (fzD D H0 A S H1 H6 l) := fun b o e => by
  obtain ⟨hb, e⟩ := ct_at e
  have nD : b ≠ D := fun z => by
    subst z
    cases l with
    | nw => simp [bad, h5, h6] at hb
    | loc => simp [bad] at hb
    | fr => simp [bad] at hb
    | di => exact hl rfl
  refine ct_of (decide_eq_false nD) (ct_of ?_ e)
  cases l with
  | nw =>
    show ((H1 b).isSome && isLo (H6 b)) = false
    cases q : (H1 b).isSome with
    | false => rfl
    | true =>
      have hb : ((H5 b).isSome && isLo (H6 b)) = false := hb
      rw [hd b q] at hb
      exact hb
  | loc => simp only [bad, List.mem_cons, nD, false_or] at hb ⊢; exact hb
  | fr => simp only [bad, List.mem_cons, nD, false_or] at hb ⊢; exact hb
  | di => exact absurd rfl hl
theorem sup_ne {l m : Lv} (h1 : l ≠ .di) (h2 : m ≠ .di) : l.sup m ≠ .di := by cases l <;> cases m <;> first | exact absurd rfl h1 | exact absurd rfl h2 | decide
def xLc (src : IX K) (g : GX K) (t : TX K) (e : EX K) (ws : List Nat) (hw : ∀ i ∈ g.ix, i ∈ ws) : EX K where
  te := fun E => tLc (src.ti E) g.tg (t.tt E) (e.te E) ws
  wp := fun env R X => src.wp env (fun _ os => os.length ≤ 100000 ∧ lcW g t e (wipeE env ws) X os .nw [] fun l ds => R (nl l ds)) X
  ok := fun {E H0 S0 A S σ H env R X} r h hX Q q => src.ok r h hX _ fun J H2 b os hb s2 wk => fun D nD => by
    obtain ⟨hz, hb⟩ := hb
    have c2 : At K H0 S0 A S σ env H H2 := ⟨r, s2⟩
    have nDS : D ∉ S := fun z => by
      obtain ⟨xs, e⟩ := lo_some (c2.rel.lo D (.inr z))
      rw [e] at nD; cases nD
    have st2 : ∀ {H'}, Step S H2 H' → ∀ {ys}, Step S H2 (upd H' D (.lst ys)) := fun s ys => ⟨fun b o nb e => by
      have : b ≠ D := fun z => by rw [z, nD] at e; cases e
      rw [upd_ne this]
      exact s.kp b o nb e, fun a ha h => by
      obtain ⟨x, y, z, e⟩ := s.st a ha h
      exact ⟨x, y, z, by rw [upd_ne (fun (w : a = D) => nDS (by rw [← w]; exact ha))]; exact e⟩⟩
    refine ⟨fun i m Hk => m = os.length - i ∧ i ≤ os.length ∧ Step S H2 Hk ∧ ∃ (vs : List V) (ds : List PyData) (l : Lv), Hk D = some (.lst vs) ∧ vs.length ≤ i ∧ l ≠ .di ∧ DaAll (fzD D H0 A S H Hk l) vs ds ∧ lcW g t e (wipeE env ws) X (os.drop i) l ds fun l ds => R (nl l ds),
      ⟨os.length, by simp, Nat.zero_le _, .ex (Ex.new nD), [], [], .nw, upd_same, Nat.le_refl _, by decide, .nil, hb⟩, ?_⟩
    rintro i m Hk ⟨rfl, hi, sk, vs, ds, l, eD, hv, hl, hds, hw2⟩
    have ck : At K H0 S0 A S σ env H Hk := c2.go sk
    by_cases hlt : i < os.length
    · refine .inr ⟨wk.go i Hk hlt sk, fun H' => i + 1 ≤ os.length ∧ Step S H2 H' ∧ ∃ (vs : List V) (ds : List PyData) (l : Lv), H' D = some (.lst vs) ∧ vs.length ≤ i + 1 ∧ l ≠ .di ∧ DaAll (fzD D H0 A S H H' l) vs ds ∧ lcW g t e (wipeE env ws) X (os.drop (i + 1)) l ds fun l ds => R (nl l ds),
        fun H' h' => ⟨os.length - (i + 1), by omega, rfl, h'⟩, fun x H4 y => ?_⟩
      obtain ⟨ex4, o, eo, vo⟩ := wk.yld i Hk x H4 hlt sk y
      rw [List.drop_eq_getElem_cons hlt] at hw2
      have eo' : os[i] = o := by rw [List.getElem?_eq_getElem hlt] at eo; exact Option.some.inj eo
      rw [eo'] at hw2
      simp only [lcW] at hw2
      cases ek : keep o with
      | none => rw [ek] at hw2; exact hw2.elim
      | some o' =>
        rw [ek] at hw2
        have eD4 := ex4 _ _ eD
        have s4 : Step S Hk H4 := .ex ex4
        have rD : Rel K H0 S0 (D :: A) S (L2.wipe σ ws) H4 (wipeE env ws) := (c2.rel.addD (sk.trans s4) nD eD4).wipe ws
        refine g.ok rD (vo D o' nD ⟨_, eD⟩ ek) hw2 _ fun σ2 env2 h2 r2 w2 => ⟨(w2 ws hw).trans (wipe_idem σ ws ws fun _ h => h), t.ok r2 h2 (fun C H5 hC s5 => hX C H5 hC (((s2.trans sk).trans s4).trans s5)) _ fun b5 H5 hb5 s5 => ?_⟩
        have eD5 : H5 D = some (.lst vs) := s5.kp _ _ nDS eD4
        cases b5 with
        | true =>
          refine iteT (e.ok (r2.step s5) (by simpa using hb5) (fun C H6 hC s6 => hX C H6 hC ((((s2.trans sk).trans s4).trans s5).trans s6)) _ fun v6 H6 ro hR s6 vr => ?_)
          have eD6 : H6 D = some (.lst vs) := s6.kp _ _ nDS eD5
          have c6 : At K H0 S0 A S σ env H H6 := ck.go ((s4.trans s5).trans s6)
          obtain ⟨m, d, ⟨hm, hw3⟩, Dy⟩ := vr.rd ⟨r2.step s5, s6⟩ hR
          have sz6 : Step S H2 H6 := ((sk.trans s4).trans s5).trans s6
          have c7 : At K H0 S0 A S σ env H (upd H6 D (.lst (vs ++ [v6]))) := ⟨r, s2.trans (st2 sz6)⟩
          have sD : StepD S D H6 (upd H6 D (.lst (vs ++ [v6]))) := ⟨fun b o nb nD e => by rw [upd_ne nD]; exact e, fun a ha ⟨x, y, z, e⟩ => ⟨x, y, z, by rw [upd_ne (fun (w : a = D) => nDS (by rw [← w]; exact ha))]; exact e⟩⟩
          have dy : Da (fzD D H0 A S H (upd H6 D (.lst (vs ++ [v6]))) (nrm m d)) v6 d := (Dy.nrm.mono (fz_toD (H1 := H) (fun b hb => step_dom r2.str s5 (step_dom (ck.rel.str) s4 (ck.dom hb))) (by rw [eD5]; rfl) (by rw [eD6]; rfl) hm)).mono (fzD_step r.str c6.s sD _)
          have da : DaAll (fzD D H0 A S H (upd H6 D (.lst (vs ++ [v6]))) l) vs ds := (hds.mono (fzD_step r.str ck.s ⟨fun b o nb _ e => ((s4.trans s5).trans s6).kp b o nb e, ((s4.trans s5).trans s6).st⟩ l)).mono (fzD_step r.str c6.s sD l)
          exact ⟨vs, eD6, szl (by omega), by omega, st2 sz6, vs ++ [v6], ds ++ [d], l.sup (nrm m d), upd_same, by rw [List.length_append, List.length_singleton]; omega, sup_ne hl hm, (da.mono (fzD_up c7 (sup_l _ _))).snoc (dy.mono (fzD_up c7 (sup_r _ _))), hw3⟩
        | false =>
          refine iteF ⟨by omega, (sk.trans s4).trans s5, vs, ds, l, eD5, by omega, hl, hds.mono (fzD_step r.str ck.s ⟨fun b o nb _ e => (s4.trans s5).kp b o nb e, (s4.trans s5).st⟩ l), by simpa using hb5⟩
    · have e : i = os.length := by omega
      subst e
      rw [List.drop_length] at hw2
      refine .inl ⟨wk.stop Hk sk, q _ _ (nl l ds) hw2 ck.s (.da (.lst (fz_newD c2 nD eD _) ?_))⟩
      have h2 : DaAll (fz H0 A S H Hk l) vs ds := hds.mono ct_le
      by_cases i : immAll ds = true
      · rw [if_pos i]
        refine DaAll.imm (fun b hb => ?_) i (h2.mono fz_le)
        simp only [bad, Bool.and_eq_true] at hb
        exact .inl hb.2
      · rw [if_neg i]
        exact h2
end
/-! ### statements -/
mutual
def OV.nd : OV → Bool
  | .da l _ => decide (l ≠ .di)
  | .ls xs => OV.nds xs
  | _ => true
def OV.nds : List OV → Bool
  | [] => true
  | x :: xs => x.nd && OV.nds xs
end
mutual
/-- all lists are new since the def began -/
def OV.loc : OV → Bool
  | .da l d => decide (l.n ≤ 1) || imm d
  | .ls xs => OV.locs xs
  | _ => false
def OV.locs : List OV → Bool
  | [] => true
  | x :: xs => x.loc && OV.locs xs
end
def ND (env : Env) : Prop := ∀ o, some o ∈ env → o.nd = true
theorem ND.set {env : Env} {i : Nat} {o : OV} (h : ND env) (ho : o.nd = true) : ND (env.set i (some o)) := fun p hp => by
  rcases List.mem_or_eq_of_mem_set hp with z | z
  · exact h p z
  · cases z; exact ho
section
variable {K : PySem.W.Frag} {F F' : Lv → Hp} {S S' : List Addr} {H H' : Hp}
mutual
theorem Own.mono2 (hF : ∀ l, l ≠ .di → Ex (F l) (F' l)) (hS : ∀ a ∈ S, a ∈ S') : ∀ {o : OV} {v : V} {A : List Addr}, o.nd = true → (∀ a ∈ A, ∀ u, H a = some u → H' a = some u) → Own K F S H o v A → Own K F' S' H' o v A
  | .da l _, _, _, hn, _, h => by cases h with | da h => exact .da (h.mono (hF _ (by simpa [OV.nd] using hn)))
  | .fn _, _, _, _, _, h => by cases h; exact .fn
  | .ns, _, _, _, _, h => by cases h
  | .sc _, _, _, _, _, h => by cases h with | sc h => exact .sc (Evl.ex_l (hF _ (by decide)) h)
  | .st, _, _, _, _, h => by cases h with | st h => exact .st (hS _ h)
  | .ls xs, _, _, hn, hA, h => by
    cases h with
    | ls h1 h2 h3 => exact .ls (hA _ List.mem_cons_self _ h1) (OwnAll.mono2 hF hS (by simpa [OV.nd] using hn) (fun a ha => hA a (List.mem_cons_of_mem _ ha)) h2) h3
theorem OwnAll.mono2 (hF : ∀ l, l ≠ .di → Ex (F l) (F' l)) (hS : ∀ a ∈ S, a ∈ S') : ∀ {os : List OV} {vs : List V} {A : List Addr}, OV.nds os = true → (∀ a ∈ A, ∀ u, H a = some u → H' a = some u) → OwnAll K F S H os vs A → OwnAll K F' S' H' os vs A
  | [], _, _, _, _, h => by cases h; exact .nil
  | o :: os, _, _, hn, hA, h => by
    simp only [OV.nds, Bool.and_eq_true] at hn
    cases h with
    | cons a b c => exact .cons (Own.mono2 hF hS hn.1 (fun x hx => hA x (List.mem_append_left _ hx)) a) (OwnAll.mono2 hF hS hn.2 (fun x hx => hA x (List.mem_append_right _ hx)) b) c
end
theorem ND.cons {o : Option OV} {env : Env} (h : ND (o :: env)) : ND env := fun p hp => h p (List.mem_cons_of_mem _ hp)
theorem OwnEnv.mono2 (hF : ∀ l, l ≠ .di → Ex (F l) (F' l)) (hS : ∀ a ∈ S, a ∈ S') : ∀ {e : Env} {σ : L2.St} {A : List Addr}, ND e → (∀ a ∈ A, ∀ u, H a = some u → H' a = some u) → OwnEnv K F S H e σ A → OwnEnv K F' S' H' e σ A
  | [], _, _, _, _, h => by cases h; exact .nil
  | none :: _, _, _, hn, hA, h => by cases h with | vac a => exact .vac (OwnEnv.mono2 hF hS hn.cons hA a)
  | some _ :: _, _, _, hn, hA, h => by
    cases h with
    | has a b c => exact .has (Own.mono2 hF hS (hn _ List.mem_cons_self) (fun x hx => hA x (List.mem_append_left _ hx)) a) (OwnEnv.mono2 hF hS hn.cons (fun x hx => hA x (List.mem_append_right _ hx)) b) c
/-- a list of the def's own is changed -/
theorem OwnEnv.mut : ∀ {e : Env} {σ : L2.St} {B : List Addr} {i : Nat} {xs : List OV}, ND e → OwnEnv K F S H e σ B → e[i]? = some (some (.ls xs)) → ∃ a vs Bx, σ[i]? = some (some (.ref a)) ∧ H a = some (.lst vs) ∧ OwnAll K F S H xs vs Bx ∧ a ∉ Bx ∧ (∀ b ∈ a :: Bx, b ∈ B) ∧
    ∀ (F' : Lv → Hp) (H' : Hp) (xs' : List OV) (vs' : List V) (Bx' N : List Addr), (∀ l, l ≠ .di → Ex (F l) (F' l)) → (∀ b ∈ B, b ≠ a → b ∉ Bx → ∀ u, H b = some u → H' b = some u) → H' a = some (.lst vs') → OwnAll K F' S H' xs' vs' Bx' → a ∉ Bx' → (∀ b ∈ Bx', b ∈ Bx ∨ b ∈ N) → (∀ b ∈ N, b ∉ B) →
      ∃ B', OwnEnv K F' S H' (e.set i (some (.ls xs'))) σ B' ∧ ∀ b ∈ B', b ∈ B ∨ b ∈ N
  | [], _, _, _, _, _, _, h => by simp at h
  | none :: e, _, _, 0, _, _, _, h => by simp at h
  | some o :: e, _, _, 0, xs, hn, hh, h => by
    simp only [List.getElem?_cons_zero, Option.some.injEq] at h
    subst h
    cases hh with
    | has x y z =>
      cases x with
      | @ls a _ vs Bx h1 h2 h3 =>
        refine ⟨a, vs, Bx, rfl, h1, h2, h3, fun b hb => List.mem_append_left _ hb, fun F' H' xs' vs' Bx' N hF hk ha hall hni hsub hN => ?_⟩
        refine ⟨(a :: Bx') ++ _, .has (.ls ha hall hni) (y.mono2 hF (fun _ h => h) hn.cons fun b hb u e => hk b (List.mem_append_right _ hb) (fun w => z a List.mem_cons_self (w ▸ hb)) (fun w => z b (List.mem_cons_of_mem _ w) hb) u e) fun b hb hb2 => ?_, fun b hb => ?_⟩
        · rcases List.mem_cons.mp hb with w | w
          · subst w; exact z b List.mem_cons_self hb2
          · rcases hsub b w with q | q
            · exact z b (List.mem_cons_of_mem _ q) hb2
            · exact hN b q (List.mem_append_right _ hb2)
        · rcases List.mem_append.mp hb with w | w
          · rcases List.mem_cons.mp w with q | q
            · subst q; exact .inl (List.mem_append_left _ List.mem_cons_self)
            · rcases hsub b q with p | p
              · exact .inl (List.mem_append_left _ (List.mem_cons_of_mem _ p))
              · exact .inr p
          · exact .inl (List.mem_append_right _ w)
  | none :: e, _, _, i + 1, xs, hn, hh, h => by
    cases hh with
    | vac y =>
      obtain ⟨a, vs, Bx, h1, h2, h3, h4, h5, h6⟩ := OwnEnv.mut (i := i) hn.cons y (by simpa using h)
      refine ⟨a, vs, Bx, by simpa using h1, h2, h3, h4, h5, fun F' H' xs' vs' Bx' N hF hk ha hall hni hsub hN => ?_⟩
      obtain ⟨B', g1, g2⟩ := h6 F' H' xs' vs' Bx' N hF hk ha hall hni hsub hN
      exact ⟨B', .vac g1, g2⟩
  | some o :: e, _, _, i + 1, xs, hn, hh, h => by
    cases hh with
    | @has _ _ A1 _ _ B1 x y z =>
      obtain ⟨a, vs, Bx, h1, h2, h3, h4, h5, h6⟩ := OwnEnv.mut (i := i) hn.cons y (by simpa using h)
      refine ⟨a, vs, Bx, by simpa using h1, h2, h3, h4, fun b hb => List.mem_append_right _ (h5 b hb), fun F' H' xs' vs' Bx' N hF hk ha hall hni hsub hN => ?_⟩
      obtain ⟨B', g1, g2⟩ := h6 F' H' xs' vs' Bx' N hF (fun b hb n1 n2 u e => hk b (List.mem_append_right _ hb) n1 n2 u e) ha hall hni hsub fun b hb w => hN b hb (List.mem_append_right _ w)
      refine ⟨A1 ++ B', .has (x.mono2 hF (fun _ h => h) (hn _ List.mem_cons_self) fun b hb u e => hk b (List.mem_append_left _ hb) (fun w => z b hb (h5 b (by rw [w]; exact List.mem_cons_self))) (fun w => z b hb (h5 b (List.mem_cons_of_mem _ w))) u e) g1 fun b hb w => ?_, fun b hb => ?_⟩
      · rcases g2 b w with q | q
        · exact z b hb q
        · exact hN b q (List.mem_append_left _ hb)
      · rcases List.mem_append.mp hb with w | w
        · exact .inl (List.mem_append_left _ w)
        · exact (g2 b w).elim (fun q => .inl (List.mem_append_right _ q)) .inr
theorem OwnAll.mut : ∀ {xs : List OV} {vs : List V} {B : List Addr} {k : Nat} {ys : List OV}, OV.nds xs = true → OwnAll K F S H xs vs B → xs[k]? = some (.ls ys) → ∃ a us C, vs[k]? = some (.ref a) ∧ H a = some (.lst us) ∧ OwnAll K F S H ys us C ∧ a ∉ C ∧ (∀ b ∈ a :: C, b ∈ B) ∧
    ∀ (F' : Lv → Hp) (H' : Hp) (ys' : List OV) (us' : List V) (C' N : List Addr), (∀ l, l ≠ .di → Ex (F l) (F' l)) → (∀ b ∈ B, b ≠ a → b ∉ C → ∀ u, H b = some u → H' b = some u) → H' a = some (.lst us') → OwnAll K F' S H' ys' us' C' → a ∉ C' → (∀ b ∈ C', b ∈ C ∨ b ∈ N) → (∀ b ∈ N, b ∉ B) →
      ∃ B', OwnAll K F' S H' (xs.set k (.ls ys')) vs B' ∧ ∀ b ∈ B', b ∈ B ∨ b ∈ N
  | [], _, _, _, _, _, _, h => by simp at h
  | o :: e, _, _, 0, ys, hn, hh, h => by
    simp only [List.getElem?_cons_zero, Option.some.injEq] at h
    subst h
    simp only [OV.nds, Bool.and_eq_true] at hn
    cases hh with
    | cons x y z =>
      cases x with
      | @ls a _ vs Bx h1 h2 h3 =>
        refine ⟨a, vs, Bx, rfl, h1, h2, h3, fun b hb => List.mem_append_left _ hb, fun F' H' xs' vs' Bx' N hF hk ha hall hni hsub hN => ?_⟩
        refine ⟨(a :: Bx') ++ _, .cons (.ls ha hall hni) (y.mono2 hF (fun _ h => h) hn.2 fun b hb u e => hk b (List.mem_append_right _ hb) (fun w => z a List.mem_cons_self (w ▸ hb)) (fun w => z b (List.mem_cons_of_mem _ w) hb) u e) fun b hb hb2 => ?_, fun b hb => ?_⟩
        · rcases List.mem_cons.mp hb with w | w
          · subst w; exact z b List.mem_cons_self hb2
          · rcases hsub b w with q | q
            · exact z b (List.mem_cons_of_mem _ q) hb2
            · exact hN b q (List.mem_append_right _ hb2)
        · rcases List.mem_append.mp hb with w | w
          · rcases List.mem_cons.mp w with q | q
            · subst q; exact .inl (List.mem_append_left _ List.mem_cons_self)
            · rcases hsub b q with p | p
              · exact .inl (List.mem_append_left _ (List.mem_cons_of_mem _ p))
              · exact .inr p
          · exact .inl (List.mem_append_right _ w)
  | o :: e, _, _, k + 1, ys, hn, hh, h => by
    simp only [OV.nds, Bool.and_eq_true] at hn
    cases hh with
    | @cons _ _ A1 _ _ B1 x y z =>
      obtain ⟨a, vs, Bx, h1, h2, h3, h4, h5, h6⟩ := OwnAll.mut (k := k) hn.2 y (by simpa using h)
      refine ⟨a, vs, Bx, by simpa using h1, h2, h3, h4, fun b hb => List.mem_append_right _ (h5 b hb), fun F' H' xs' vs' Bx' N hF hk ha hall hni hsub hN => ?_⟩
      obtain ⟨B', g1, g2⟩ := h6 F' H' xs' vs' Bx' N hF (fun b hb n1 n2 u e => hk b (List.mem_append_right _ hb) n1 n2 u e) ha hall hni hsub fun b hb w => hN b hb (List.mem_append_right _ w)
      refine ⟨A1 ++ B', .cons (x.mono2 hF (fun _ h => h) hn.1 fun b hb u e => hk b (List.mem_append_left _ hb) (fun w => z b hb (h5 b (by rw [w]; exact List.mem_cons_self))) (fun w => z b hb (h5 b (List.mem_cons_of_mem _ w))) u e) g1 fun b hb w => ?_, fun b hb => ?_⟩
      · rcases g2 b w with q | q
        · exact z b hb q
        · exact hN b q (List.mem_append_left _ hb)
      · rcases List.mem_append.mp hb with w | w
        · exact .inl (List.mem_append_left _ w)
        · exact (g2 b w).elim (fun q => .inl (List.mem_append_right _ q)) .inr
end
structure Post where
  nx : Env → Prop
  rt : OV → Prop
  xc : Addr → Prop
  bk : Env → Prop
  ct : Env → Prop
/-- a value that is returned -/
def RetOk (K : PySem.W.Frag) (H0 : Hp) (S0 : List Addr) (H : Hp) (o : OV) (v : V) : Prop := match o with
  | .da .nw d => Da (fz H0 [] S0 H0 H .nw) v d
  | .da .di d => Da (fz H0 [] S0 H0 H .di) v d
  | .ns => ∃ a, v = .ref a ∧ H0 a = none ∧ Strm H a
  | _ => False
structure Conn (K : PySem.W.Frag) (E : XK) (H0 : Hp) (S0 A S : List Addr) (H : Hp) (P : Post) (D : Ends) : Prop where
  nx : ∀ A' S' σ' H' env', Rel K H0 S0 A' S' σ' H' env' → ND env' → Fm H0 A S H A' S' H' → P.nx env' → D.nx σ' H'
  rt : ∀ v H' o, P.rt o → Step S0 H0 H' → RetOk K H0 S0 H' o v → D.rt v H'
  xc : ∀ C H', P.xc C → Step S0 H0 H' → E (.ref C) none H'
  bk : ∀ A' S' σ' H' env', Rel K H0 S0 A' S' σ' H' env' → ND env' → Fm H0 A S H A' S' H' → P.bk env' → D.bk σ' H'
  ct : ∀ A' S' σ' H' env', Rel K H0 S0 A' S' σ' H' env' → ND env' → Fm H0 A S H A' S' H' → P.ct env' → D.ct σ' H'
structure SX (K : PySem.W.Frag) where
  ts : XK → TS
  wp : Env → Post → Prop
  ok : ∀ {E : XK} {H0 : Hp} {S0 A S : List Addr} {σ : L2.St} {H : Hp} {env : Env} {P : Post} {D : Ends}, Rel K H0 S0 A S σ H env → ND env → wp env P → Conn K E H0 S0 A S H P D → ts E D σ H
section
variable {K : PySem.W.Frag}
theorem Conn.at' {E : XK} {H0 : Hp} {S0 A S A' S' : List Addr} {H H' : Hp} {P : Post} {D : Ends} (c : Conn K E H0 S0 A S H P D) (f : Fm H0 A S H A' S' H') : Conn K E H0 S0 A' S' H' P D :=
  ⟨fun A2 S2 σ2 H2 env2 r n g => c.nx A2 S2 σ2 H2 env2 r n (f.trans g), c.rt, c.xc, fun A2 S2 σ2 H2 env2 r n g => c.bk A2 S2 σ2 H2 env2 r n (f.trans g), fun A2 S2 σ2 H2 env2 r n g => c.ct A2 S2 σ2 H2 env2 r n (f.trans g)⟩
theorem Rel.step0 {H0 H : Hp} {S0 A S : List Addr} {σ : L2.St} {env : Env} (r : Rel K H0 S0 A S σ H env) : Step S0 H0 H := ⟨r.ext, fun a ha _ => r.str a (r.sub a ha)⟩
/-- what an expression raises -/
theorem Conn.ex {E : XK} {H0 H : Hp} {S0 A S : List Addr} {σ : L2.St} {env : Env} {P : Post} {D : Ends} (c : Conn K E H0 S0 A S H P D) (r : Rel K H0 S0 A S σ H env) : ∀ C H2, P.xc C → Step S H H2 → E (.ref C) none H2 := fun C H2 h s => c.xc C H2 h (r.step s).step0
/-- a value that a name takes -/
def keepS (o : OV) : Option OV := match o with
  | .da .nw d => some (.da (nrm .loc d) d)
  | .da .di d => if imm d then some (.da .nw d) else none
  | .da l d => some (.da l d)
  | .fn f => some (.fn f)
  | .st => some .st
  | .sc ws => some (.sc ws)
  | .ls _ => none
  | .ns => none
theorem nrm_nd {l : Lv} {d : PyData} (h : l ≠ .di) : nrm l d ≠ .di := by
  unfold nrm
  by_cases c : imm d = true
  · rw [if_pos c]; decide
  · rw [if_neg c]; exact h
theorem keepS_own {H0 H1 H2 : Hp} {S0 A S : List Addr} {σ : L2.St} {env : Env} {o o' : OV} {v : V} (c : At K H0 S0 A S σ env H1 H2) (h : VR K H0 A S H1 H2 o v) (e : keepS o = some o') : Own K (fz H0 A S H2 H2) S H2 o' v [] ∧ o'.nd = true := by
  cases o with
  | da l d =>
    cases l with
    | nw =>
      simp only [keepS, Option.some.injEq] at e
      subst e
      exact ⟨keep_own c h rfl, by simp only [OV.nd, decide_eq_true_eq]; exact nrm_nd (by decide)⟩
    | loc => simp only [keepS, Option.some.injEq] at e; subst e; exact ⟨keep_own c h rfl, rfl⟩
    | fr => simp only [keepS, Option.some.injEq] at e; subst e; exact ⟨keep_own c h rfl, rfl⟩
    | di =>
      simp only [keepS] at e
      split at e
      · rename_i i
        cases e
        rcases h with ⟨z, _⟩ | ⟨B, hB, h⟩
        · cases z
        · cases h with
          | da h => exact ⟨.da (Da.imm (fun b hb => by simp only [bad, Bool.and_eq_true] at hb; exact .inl hb.2) i (h.mono fz_le)), rfl⟩
      · cases e
  | fn f => simp only [keepS, Option.some.injEq] at e; subst e; exact ⟨keep_own c h rfl, rfl⟩
  | st => simp only [keepS, Option.some.injEq] at e; subst e; exact ⟨keep_own c h rfl, rfl⟩
  | sc ws => simp only [keepS, Option.some.injEq] at e; subst e; exact ⟨keep_own c h rfl, rfl⟩
  | ls xs => cases e
  | ns => cases e
/-- a new stream joins -/
theorem Rel.addS {H0 H1 H2 : Hp} {S0 A S : List Addr} {σ : L2.St} {env : Env} {a : Addr} (c : At K H0 S0 A S σ env H1 H2) (n : H1 a = none) (h : Strm H2 a) : Rel K H0 S0 A (a :: S) σ H2 env ∧ Fm H0 A S H1 A (a :: S) H2 := by
  have r := c.r
  have nA : a ∉ A := fun z => by
    obtain ⟨xs, e⟩ := lo_some (r.lo a (.inl z))
    rw [e] at n; cases n
  have n0 : H0 a = none := by
    cases q : H0 a with
    | none => rfl
    | some u =>
      have := r.dom (b := a) (by rw [q]; rfl)
      rw [n] at this; cases this
  have up : ∀ l, Ex (fz H0 A S H1 H1 l) (fz H0 A (a :: S) H2 H2 l) := fun l => ct_ex fun b o hb e => by
    have na : b ≠ a := fun z => by rw [z, n] at e; cases e
    have nS : b ∉ S := fun z => by
      cases l with
      | nw =>
        have : bad H0 A S H1 H1 .nw b = true := by
          show ((H1 b).isSome && isLo (H1 b)) = true
          rw [(r.str b z).lo, e]
          rfl
        rw [this] at hb; cases hb
      | _ => simp [bad, z] at hb
    have e2 := c.s.kp b o nS e
    refine ⟨?_, e2⟩
    cases l <;> simp only [bad, e, e2, List.mem_cons, na, false_or] at hb ⊢ <;> exact hb
  refine ⟨⟨?_, c.rel.loA, fun b hb z => ?_, fun b hb => ?_, fun b o nb e => c.rel.ext b o nb e, fun b hb => List.mem_cons_of_mem _ (r.sub b hb), r.nA, fun b hb => ?_⟩, fun l _ => up l⟩
  · obtain ⟨B, h1, h2⟩ := r.own
    exact ⟨B, h1.mono up (fun _ h => List.mem_cons_of_mem _ h) (fun b hb u e => c.s.kp b u (r.dis b (h2 b hb)) e), h2⟩
  · rcases List.mem_cons.mp z with w | w
    · subst w; exact nA hb
    · exact r.dis b hb w
  · rcases List.mem_cons.mp hb with w | w
    · subst w; exact h
    · exact c.s.st b w (r.str b w)
  · rcases List.mem_cons.mp hb with w | w
    · subst w; exact .inr n0
    · exact r.nS b w
def asgF (o : OV) (k : OV → Prop) : Prop := match o with
  | .ns => k .st
  | o => match keepS o with
    | some o' => k o'
    | none => False
/-- x = e -/
def sAsg (i : Nat) (e : EX K) : SX K where
  ts := fun E => tAsg (e.te E) (gName i)
  wp := fun env P => e.wp env (fun o => asgF o fun o' => P.nx (env.set i (some o'))) P.xc
  ok := fun {E H0 S0 A S σ H env P D} r n h c => e.ok r h (c.ex r) _ fun v H2 o ho s2 vr => by
    have at2 : At K H0 S0 A S σ env H H2 := ⟨r, s2⟩
    show D.nx (σ.set i (some v)) H2
    by_cases q : o = .ns
    · subst q
      rcases vr with ⟨_, a, rfl, na, hs⟩ | ⟨B, hB, vr⟩
      · obtain ⟨r2, f2⟩ := Rel.addS at2 na hs
        exact c.nx A (a :: S) _ H2 _ (r2.put (.st List.mem_cons_self)) (n.set rfl) f2 ho
      · cases vr
    · have ho : match keepS o with
        | some o' => P.nx (env.set i (some o'))
        | none => False := by
        cases o <;> first | exact absurd rfl q | exact ho
      cases e : keepS o with
      | none => rw [e] at ho; exact ho.elim
      | some o' =>
        rw [e] at ho
        obtain ⟨h1, h2⟩ := keepS_own at2 vr e
        exact c.nx A S _ H2 _ (at2.rel.put h1) (n.set h2) (Fm.step r s2) ho
def sSeq (a b : SX K) : SX K where
  ts := fun E => tSeq (a.ts E) (b.ts E)
  wp := fun env P => a.wp env { P with nx := fun env' => b.wp env' P }
  ok := fun {E H0 S0 A S σ H env P D} r n h c => a.ok (P := { P with nx := fun env' => b.wp env' P }) (D := { D with nx := b.ts E D }) r n h ⟨fun A' S' σ' H' env' r' n' f h' => b.ok r' n' h' (c.at' f), c.rt, c.xc, c.bk, c.ct⟩
def sNext : SX K where
  ts := fun _ => tNext
  wp := fun env P => P.nx env
  ok := fun {E H0 S0 A S σ H env P D} r n h c => c.nx A S σ H env r n Fm.refl h
def sBreak : SX K where
  ts := fun _ => tBreak
  wp := fun env P => P.bk env
  ok := fun {E H0 S0 A S σ H env P D} r n h c => c.bk A S σ H env r n Fm.refl h
def sCont : SX K where
  ts := fun _ => tCont
  wp := fun env P => P.ct env
  ok := fun {E H0 S0 A S σ H env P D} r n h c => c.ct A S σ H env r n Fm.refl h
def sIf (t : TX K) (a b : SX K) : SX K where
  ts := fun E => tIfS (t.tt E) (a.ts E) (b.ts E)
  wp := fun env P => t.wp env (fun z => if z = true then a.wp env P else b.wp env P) P.xc
  ok := fun {E H0 S0 A S σ H env P D} r n h c => t.ok r h (c.ex r) _ fun z H2 hz s2 => by
    cases z with
    | true => exact iteT (a.ok (r.step s2) n (by simpa using hz) (c.at' (Fm.step r s2)))
    | false => exact iteF (b.ok (r.step s2) n (by simpa using hz) (c.at' (Fm.step r s2)))
/-- a ghost: another state that holds as well -/
def sGhost (f : Env → Env) (hf : ∀ {H0 : Hp} {S0 A S : List Addr} {σ : L2.St} {H : Hp} {env : Env}, Rel K H0 S0 A S σ H env → ND env → ∃ A', Rel K H0 S0 A' S σ H (f env) ∧ ND (f env) ∧ Fm H0 A S H A' S H) (s : SX K) : SX K where
  ts := s.ts
  wp := fun env P => s.wp (f env) P
  ok := fun {E H0 S0 A S σ H env P D} r n h c => by
    obtain ⟨A', r', n', f'⟩ := hf r n
    exact s.ok r' n' h (c.at' f')
def sExpr (e : EX K) : SX K where
  ts := fun E => tDrop (e.te E)
  wp := fun env P => e.wp env (fun _ => P.nx env) P.xc
  ok := fun {E H0 S0 A S σ H env P D} r n h c => e.ok r h (c.ex r) _ fun v H2 o ho s2 _ => c.nx A S σ H2 env (r.step s2) n (Fm.step r s2) ho
def retF (o : OV) (k : OV → Prop) : Prop := match o with
  | .ns => k .ns
  | o => rd o fun _ d => if o.loc = true then k (.da .nw d) else k (.da .di d)
mutual
theorem own_new {H0 H1 H2 : Hp} {A S S0 : List Addr} (hA : ∀ a ∈ A, H0 a = none) (hd : ∀ b, (H0 b).isSome = true → (H1 b).isSome = true) : ∀ {o : OV} {v : V} {B : List Addr} {d : PyData}, (∀ b ∈ B, b ∈ A) → o.loc = true → Own K (fz H0 A S H1 H2) S H2 o v B → o.d = some d → Da (fz H0 [] S0 H0 H2 .nw) v d
  | .da l d, v, _, _, _, hl, h, e => by
    simp only [OV.d, Option.some.injEq] at e
    subst e
    cases h with
    | da h =>
      by_cases i : imm d = true
      · exact Da.imm (fun b hb => by simp only [bad, Bool.and_eq_true] at hb; exact .inl hb.2) i (h.mono fz_le)
      · simp only [OV.loc, i, Bool.or_false, decide_eq_true_eq] at hl
        refine h.mono (ct_ex fun b o hb e => ⟨?_, e⟩)
        show ((H0 b).isSome && isLo (H2 b)) = false
        cases q : (H0 b).isSome with
        | false => rfl
        | true =>
          cases l with
          | nw =>
            have hb : ((H1 b).isSome && isLo (H2 b)) = false := hb
            rw [hd b q] at hb
            exact hb
          | loc =>
            simp only [bad, Bool.or_eq_false_iff] at hb
            have := hb.2
            rw [q] at this
            exact this
          | fr => exact absurd hl (by decide)
          | di => exact absurd hl (by decide)
  | .ls xs, v, _, _, hB, hl, h, e => by
    simp only [OV.d, Option.map_eq_some_iff] at e
    obtain ⟨ds, e, rfl⟩ := e
    cases h with
    | ls h1 h2 h3 =>
      refine .lst (ct_of ?_ h1) (own_news hA hd (fun b hb => hB b (List.mem_cons_of_mem _ hb)) (by simpa [OV.loc] using hl) h2 e)
      show ((H0 _).isSome && isLo (H2 _)) = false
      rw [hA _ (hB _ List.mem_cons_self)]
      rfl
  | .fn _, _, _, _, _, hl, _, _ => by simp [OV.loc] at hl
  | .st, _, _, _, _, hl, _, _ => by simp [OV.loc] at hl
  | .ns, _, _, _, _, hl, _, _ => by simp [OV.loc] at hl
  | .sc _, _, _, _, _, hl, _, _ => by simp [OV.loc] at hl
theorem own_news {H0 H1 H2 : Hp} {A S S0 : List Addr} (hA : ∀ a ∈ A, H0 a = none) (hd : ∀ b, (H0 b).isSome = true → (H1 b).isSome = true) : ∀ {os : List OV} {vs : List V} {B : List Addr} {ds : List PyData}, (∀ b ∈ B, b ∈ A) → OV.locs os = true → OwnAll K (fz H0 A S H1 H2) S H2 os vs B → OV.ds os = some ds → DaAll (fz H0 [] S0 H0 H2 .nw) vs ds
  | [], _, _, _, _, _, h, e => by
    cases h
    simp only [OV.ds, Option.some.injEq] at e
    subst e
    exact .nil
  | o :: os, _, _, _, hB, hl, h, e => by
    simp only [OV.ds, Option.bind_eq_some_iff, Option.map_eq_some_iff] at e
    obtain ⟨a, ea, b, eb, rfl⟩ := e
    simp only [OV.locs, Bool.and_eq_true] at hl
    cases h with
    | cons x y z => exact .cons (own_new hA hd (fun b hb => hB b (List.mem_append_left _ hb)) hl.1 x ea) (own_news hA hd (fun b hb => hB b (List.mem_append_right _ hb)) hl.2 y eb)
end
theorem rd_d {o : OV} {k : Lv → PyData → Prop} (h : rd o k) : ∃ l d, k l d ∧ o.d = some d := by
  unfold rd at h
  split at h
  · exact ⟨_, _, h, rfl⟩
  · split at h
    · rename_i e
      exact ⟨_, _, h, by simp only [OV.d, e]; rfl⟩
    · exact h.elim
  · exact h.elim
theorem ret_ok {H0 H1 H2 : Hp} {S0 A S : List Addr} {σ : L2.St} {env : Env} {o : OV} {v : V} {k : OV → Prop} (c : At K H0 S0 A S σ env H1 H2) (h : VR K H0 A S H1 H2 o v) (hk : retF o k) : ∃ o', k o' ∧ RetOk K H0 S0 H2 o' v := by
  by_cases q : o = .ns
  · subst q
    rcases h with ⟨_, a, rfl, na, hs⟩ | ⟨B, hB, vr⟩
    · refine ⟨.ns, hk, a, rfl, ?_, hs⟩
      cases z : H0 a with
      | none => rfl
      | some u =>
        have := c.r.dom (b := a) (by rw [z]; rfl)
        rw [na] at this; cases this
    · cases vr
  · have hk : rd o fun _ d => if o.loc = true then k (.da .nw d) else k (.da .di d) := by
      cases o <;> first | exact absurd rfl q | exact hk
    obtain ⟨l, d, h1, h2⟩ := h.rd' c hk
    obtain ⟨_, d', h1', e⟩ := rd_d hk
    rcases h with ⟨z, _⟩ | ⟨B, hB, hv⟩
    · exact absurd z q
    by_cases i : o.loc = true
    · rw [if_pos i] at h1'
      exact ⟨_, h1', own_new c.r.nA (fun b hb => c.r.dom hb) hB i hv e⟩
    · rw [if_neg i] at h1'
      refine ⟨_, h1', ?_⟩
      have h3 : Da (fz H0 A S H1 H2 .di) v d' := own_d (fun l => fz_up c (by cases l <;> decide)) c.r.dis hB hv e
      refine h3.mono (ct_ex fun b o hb e => ⟨?_, e⟩)
      simp only [bad, decide_eq_false_iff_not] at hb ⊢
      exact fun z => hb (c.r.sub b z)
def sRet (e : EX K) : SX K where
  ts := fun E => tRet (e.te E)
  wp := fun env P => e.wp env (fun o => retF o P.rt) P.xc
  ok := fun {E H0 S0 A S σ H env P D} r n h c => e.ok r h (c.ex r) _ fun v H2 o ho s2 vr => by
    obtain ⟨o', h1, h2⟩ := ret_ok ⟨r, s2⟩ vr ho
    exact c.rt v H2 o' h1 (r.step s2).step0 h2
def sRetN : SX K where
  ts := fun _ => tRetN
  wp := fun _ P => P.rt (.da .nw .none)
  ok := fun {E H0 S0 A S σ H env P D} r n h c => c.rt .non H _ h r.step0 .non
def sRaise (C : Addr) : SX K where
  ts := fun E _ _ H => E (.ref C) none H
  wp := fun _ P => P.xc C
  ok := fun {E H0 S0 A S σ H env P D} r n h c => c.xc C H h r.step0
end
/-! ### loops -/
section
variable {K : PySem.W.Frag}
def forW (g : GX K) (body : SX K) (P : Post) : List OV → Env → Prop
  | [], env => P.nx env
  | o :: os, env => g.wp o env fun env' => body.wp env' { nx := forW g body P os, rt := P.rt, xc := P.xc, bk := P.nx, ct := forW g body P os }
theorem gx_nd {o : OV} {env env2 : Env} {i : Nat} (h : ND env) (ho : o.nd = true) : ND (env.set i (some o)) := h.set ho
/-- a target of names that keeps out what is not the def's own -/
structure GN (K : PySem.W.Frag) extends GX K where
  nd : ∀ {o : OV} {env : Env} {R : Env → Prop}, o.nd = true → ND env → wp o env R → wp o env fun env' => R env' ∧ ND env'
structure GNs (K : PySem.W.Frag) extends GsX K where
  nd : ∀ {l : Lv} {ds : List PyData} {env : Env} {R : Env → Prop}, l ≠ .di → ND env → wp l ds env R → wp l ds env fun env' => R env' ∧ ND env'
def nN (i : Nat) : GN K where
  toGX := gN i
  nd := fun {o env R} ho hn h => ⟨h, hn.set ho⟩
def nNil : GNs K where
  toGsX := gNil'
  nd := fun {l ds env R} hl hn h => by
    cases ds with
    | nil => exact ⟨h, hn⟩
    | cons _ _ => exact h
theorem Rel.freshP {H0 H : Hp} {S0 A S : List Addr} {σ : L2.St} {env : Env} (r : Rel K H0 S0 A S σ H env) {p : Addr} (hp : H p = none) : p ∉ A ∧ p ∉ S ∧ H0 p = none := by
  refine ⟨fun z => ?_, fun z => ?_, ?_⟩
  · obtain ⟨_, e⟩ := lo_some (r.lo p (.inl z))
    rw [e] at hp; cases hp
  · obtain ⟨_, e⟩ := lo_some (r.lo p (.inr z))
    rw [e] at hp; cases hp
  · cases q : H0 p with
    | none => rfl
    | some u =>
      have := r.dom (b := p) (by rw [q]; rfl)
      rw [hp] at this; cases this
theorem mk_nd {l : Lv} {d : PyData} (h : l ≠ .di) : (mk l d).nd = true := by
  show decide (nrm l d ≠ .di) = true
  exact decide_eq_true (nrm_nd h)
/-- targets are monotone -/
structure Mon (K : PySem.W.Frag) (g : GX K) : Prop where
  m : ∀ {o : OV} {env : Env} {R R' : Env → Prop}, (∀ e, R e → R' e) → g.wp o env R → g.wp o env R'
def sFor (src : IX K) (g : GN K) (body : SX K) : SX K where
  ts := fun E => tFor (src.ti E) g.tg (body.ts E)
  wp := fun env P => src.wp env (fun b os => b = true ∧ forW g.toGX body P (os.map relv) env) P.xc
  ok := fun {E H0 S0 A S σ H env P D} r n h c => src.ok r h (c.ex r) _ fun J H2 b os hb s2 wk => by
    obtain ⟨rfl, hb⟩ := hb
    refine ⟨fun i m σ' H' => m = os.length - i ∧ i ≤ os.length ∧ ∃ A' S' env', Rel K H0 S0 A' S' σ' H' env' ∧ ND env' ∧ Fm H0 A S H2 A' S' H' ∧ forW g.toGX body P ((os.map relv).drop i) env', ⟨os.length, by simp, Nat.zero_le _, A, S, env, r.step s2, n, Fm.refl, hb⟩, ?_⟩
    rintro i m σ' H' ⟨rfl, hi, A', S', env', r', n', f', hw⟩
    by_cases hlt : i < os.length
    · refine .inr ⟨wk.goF rfl A' S' H' i f' hlt, fun σ' H' => i + 1 ≤ os.length ∧ ∃ A' S' env', Rel K H0 S0 A' S' σ' H' env' ∧ ND env' ∧ Fm H0 A S H2 A' S' H' ∧ forW g.toGX body P ((os.map relv).drop (i + 1)) env', fun σ2 H2' h' => ⟨os.length - (i + 1), by omega, rfl, h'⟩, fun x H4 y => ?_⟩
      obtain ⟨ex4, l, d, eo, hl, dx⟩ := wk.yldF rfl A' S' H' i x H4 f' (fun p hp => r'.freshP hp) hlt y
      have hlt' : i < (os.map relv).length := by rw [List.length_map]; exact hlt
      rw [List.drop_eq_getElem_cons hlt'] at hw
      have eo' : (os.map relv)[i] = .da l d := by
        have : (os.map relv)[i]? = some (.da l d) := by rw [List.getElem?_map]; exact eo
        rw [List.getElem?_eq_getElem hlt'] at this
        exact Option.some.inj this
      rw [eo'] at hw
      simp only [forW] at hw
      have s4 : Step S' H' H4 := .ex ex4
      have hnd : (OV.da l d).nd = true := by rcases hl with rfl | rfl | rfl <;> rfl
      refine g.ok (r'.step s4) (.da dx) (g.nd hnd n' hw) _ fun σ2 env2 h2 r2 _ => body.ok r2 h2.2 h2.1 ?_
      have f4 : Fm H0 A S H2 A' S' H4 := f'.trans (Fm.step r' s4)
      exact ⟨fun A3 S3 σ3 H3 env3 r3 n3 f3 h3 => ⟨by omega, A3, S3, env3, r3, n3, f4.trans f3, h3⟩, c.rt, c.xc, fun A3 S3 σ3 H3 env3 r3 n3 f3 h3 => c.nx A3 S3 σ3 H3 env3 r3 n3 ((Fm.step r s2).trans (f4.trans f3)) h3, fun A3 S3 σ3 H3 env3 r3 n3 f3 h3 => ⟨by omega, A3, S3, env3, r3, n3, f4.trans f3, h3⟩⟩
    · have e : i = os.length := by omega
      subst e
      have : (os.map relv).drop os.length = [] := by rw [List.drop_eq_nil_iff, List.length_map]; exact Nat.le_refl _
      rw [this] at hw
      exact .inl ⟨wk.stopF rfl A' S' H' f', c.nx A' S' σ' H' env' r' n' ((Fm.step r s2).trans f') hw⟩
def nCons (g : GN K) (gs : GNs K) (mg : Mon K g.toGX) : GNs K where
  toGsX := gCons' g.toGX gs.toGsX
  nd := fun {l ds env R} hl hn h => by
    cases ds with
    | nil => exact h
    | cons d ds => exact mg.m (fun e ⟨h1, h2⟩ => gs.nd hl h2 h1) (g.nd (mk_nd hl) hn h)
def nT (n : Nat) (gs : GNs K) : GN K where
  toGX := gT n gs.toGsX
  nd := fun {o env R} ho hn h => by
    cases o with
    | da l d =>
      cases d <;> first | exact h | skip
      have hl : l ≠ .di := by simpa [OV.nd] using ho
      exact ⟨h.1, gs.nd hl hn h.2⟩
    | _ => exact h
def nL (n : Nat) (gs : GNs K) : GN K where
  toGX := gL n gs.toGsX
  nd := fun {o env R} ho hn h => by
    cases o with
    | da l d =>
      cases d <;> first | exact h | skip
      have hl : l ≠ .di := by simpa [OV.nd] using ho
      exact ⟨h.1, gs.nd hl hn h.2⟩
    | _ => exact h
theorem mon_nN (i : Nat) : Mon K (nN i).toGX := ⟨fun h w => h _ w⟩
def whW (t : TX K) (body : SX K) (P : Post) : Nat → Env → Prop
  | 0, _ => False
  | m + 1, env => t.wp env (fun b => if b = true then body.wp env { nx := whW t body P m, rt := P.rt, xc := P.xc, bk := P.nx, ct := whW t body P m } else P.nx env) P.xc
def sWhile (t : TX K) (body : SX K) : SX K where
  ts := fun E => tWhile (t.tt E) (body.ts E)
  wp := fun env P => ∃ m, whW t body P m env
  ok := fun {E H0 S0 A S σ H env P D} r n h c => by
    obtain ⟨m0, h⟩ := h
    refine ⟨fun m σ' H' => ∃ A' S' env', Rel K H0 S0 A' S' σ' H' env' ∧ ND env' ∧ Fm H0 A S H A' S' H' ∧ whW t body P m env', ⟨m0, A, S, env, r, n, Fm.refl, h⟩, ?_⟩
    rintro m σ' H' ⟨A', S', env', r', n', f', hw⟩
    cases m with
    | zero => exact hw.elim
    | succ m =>
      simp only [whW] at hw
      refine t.ok r' hw ((c.at' f').ex r') _ fun b H5 hb s5 => ?_
      have f5 : Fm H0 A S H A' S' H5 := f'.trans (Fm.step r' s5)
      cases b with
      | true =>
        refine iteT ⟨fun σ2 H2 => ∃ A' S' env', Rel K H0 S0 A' S' σ2 H2 env' ∧ ND env' ∧ Fm H0 A S H A' S' H2 ∧ whW t body P m env', fun σ2 H2 h' => ⟨m, by omega, h'⟩, body.ok (r'.step s5) n' (by simpa using hb) ?_⟩
        exact ⟨fun A3 S3 σ3 H3 env3 r3 n3 f3 h3 => ⟨A3, S3, env3, r3, n3, f5.trans f3, h3⟩, c.rt, c.xc, fun A3 S3 σ3 H3 env3 r3 n3 f3 h3 => c.nx A3 S3 σ3 H3 env3 r3 n3 (f5.trans f3) h3, fun A3 S3 σ3 H3 env3 r3 n3 f3 h3 => ⟨A3, S3, env3, r3, n3, f5.trans f3, h3⟩⟩
      | false => exact iteF (c.nx A' S' σ' H5 env' (r'.step s5) n' f5 (by simpa using hb))
/-! what changes a list -/
theorem Rel.mut {H0 H1 H2 : Hp} {S0 A S : List Addr} {σ : L2.St} {env : Env} {i : Nat} {xs : List OV} (c : At K H0 S0 A S σ env H1 H2) (n : ND env) (he : env[i]? = some (some (.ls xs))) :
    ∃ a vs Bx, σ[i]? = some (some (.ref a)) ∧ H2 a = some (.lst vs) ∧ OwnAll K (fz H0 A S H2 H2) S H2 xs vs Bx ∧ a ∈ A ∧ a ∉ Bx ∧ (∀ b ∈ Bx, b ∈ A) ∧
      ∀ (H' : Hp) (xs' : List OV) (vs' : List V) (Bx' N : List Addr), (∀ b o, b ∉ S → b ≠ a → b ∉ Bx → H2 b = some o → H' b = some o) → (∀ s ∈ S, Strm H' s) → H' a = some (.lst vs') → (∀ b ∈ Bx, isLo (H' b) = true) → (∀ p ∈ N, H1 p = none ∧ isLo (H' p) = true) →
        OwnAll K (fz H0 (N ++ A) S H' H') S H' xs' vs' Bx' → a ∉ Bx' → (∀ b ∈ Bx', b ∈ Bx ∨ b ∈ N) → Rel K H0 S0 (N ++ A) S σ H' (env.set i (some (.ls xs'))) ∧ Fm H0 A S H1 (N ++ A) S H' := by
  have r := c.r
  obtain ⟨B, hB, hBA⟩ := r.own
  obtain ⟨a, vs, Bx, h1, h2, h3, h4, h5, h6⟩ := OwnEnv.mut n hB he
  have aA : a ∈ A := hBA a (h5 a List.mem_cons_self)
  have bxA : ∀ b ∈ Bx, b ∈ A := fun b hb => hBA b (h5 b (List.mem_cons_of_mem _ hb))
  have e2 : H2 a = some (.lst vs) := c.s.kp a _ (r.dis a aA) h2
  refine ⟨a, vs, Bx, h1, e2, ?_, aA, h4, bxA, fun H' xs' vs' Bx' N hk hs ha hlo hN hall hni hsub => ?_⟩
  · refine h3.mono (fun l => ?_) (fun _ h => h) fun b hb u e => c.s.kp b u (r.dis b (bxA b hb)) e
    refine ct_ex fun b o hb e => ?_
    have nS : b ∉ S := fun z => by
      cases l with
      | nw =>
        have : bad H0 A S H1 H1 .nw b = true := by
          show ((H1 b).isSome && isLo (H1 b)) = true
          rw [(r.str b z).lo, e]
          rfl
        rw [this] at hb; cases hb
      | _ => simp [bad, z] at hb
    have e3 := c.s.kp b o nS e
    refine ⟨?_, e3⟩
    rw [← hb]
    cases l <;> simp only [bad, e, e3]
  have nAd : ∀ p ∈ N, p ∉ A := fun p hp z => by
    obtain ⟨_, e⟩ := lo_some (r.lo p (.inl z))
    rw [(hN p hp).1] at e; cases e
  have nSd : ∀ p ∈ N, p ∉ S := fun p hp z => by
    obtain ⟨_, e⟩ := lo_some (r.lo p (.inr z))
    rw [(hN p hp).1] at e; cases e
  have up : ∀ l, l ≠ .di → Ex (fz H0 A S H1 H1 l) (fz H0 (N ++ A) S H' H' l) := fun l hl => ct_ex fun b o hb e => by
    have nS : b ∉ S := fun z => by
      cases l with
      | nw =>
        have : bad H0 A S H1 H1 .nw b = true := by
          show ((H1 b).isSome && isLo (H1 b)) = true
          rw [(r.str b z).lo, e]
          rfl
        rw [this] at hb; cases hb
      | _ => simp [bad, z] at hb
    have nA : b ∉ A := fun z => by
      cases l with
      | nw =>
        have : bad H0 A S H1 H1 .nw b = true := by
          show ((H1 b).isSome && isLo (H1 b)) = true
          rw [r.lo b (.inl z), e]
          rfl
        rw [this] at hb; cases hb
      | di => exact hl rfl
      | _ => simp [bad, z] at hb
    have nN : b ∉ N := fun z => by rw [(hN b z).1] at e; cases e
    have e3 := hk b o nS (fun z => nA (z ▸ aA)) (fun z => nA (bxA b z)) (c.s.kp b o nS e)
    refine ⟨?_, e3⟩
    cases l <;> simp only [bad, e, e3, List.mem_append, nN, nA, nS, or_self, decide_false, Bool.false_or] at hb ⊢ <;> first | exact hb | rfl
  obtain ⟨B', g1, g2⟩ := h6 (fz H0 (N ++ A) S H' H') H' xs' vs' Bx' N up (fun b hb n1 n2 u e => hk b u (r.dis b (hBA b hb)) n1 n2 (c.s.kp b u (r.dis b (hBA b hb)) e)) ha hall hni hsub fun b hb z => nAd b hb (hBA b z)
  refine ⟨⟨⟨B', g1, fun b hb => (g2 b hb).elim (fun z => List.mem_append_right _ (hBA b z)) fun z => List.mem_append_left _ z⟩, fun b hb => ?_, fun b hb => ?_, hs, fun b o nb e => ?_, r.sub, fun b hb => ?_, r.nS⟩, fun l hl => up l (by rcases hl with rfl | rfl <;> decide)⟩
  · rcases List.mem_append.mp hb with z | z
    · exact (hN b z).2
    · by_cases q : b = a
      · subst q; rw [ha]; rfl
      · by_cases q2 : b ∈ Bx
        · exact hlo b q2
        · obtain ⟨ys, e⟩ := lo_some (r.loA b z)
          rw [hk b _ (r.dis b z) q q2 (c.s.kp b _ (r.dis b z) e)]
          rfl
  · rcases List.mem_append.mp hb with z | z
    · exact nSd b z
    · exact r.dis b z
  · have nA : b ∉ A := fun z => by rw [r.nA b z] at e; cases e
    have nS : b ∉ S := fun z => by
      rcases r.nS b z with w | w
      · exact nb w
      · rw [w] at e; cases e
    exact hk b o nS (fun z => nA (z ▸ aA)) (fun z => nA (bxA b z)) (c.s.kp b o nS (r.ext b o nb e))
  · rcases List.mem_append.mp hb with z | z
    · cases q : H0 b with
      | none => rfl
      | some u =>
        have := r.dom (b := b) (by rw [q]; rfl)
        rw [(hN b z).1] at this; cases this
    · exact r.nA b z
theorem ND.setls {env : Env} {i : Nat} {xs : List OV} (h : ND env) (hx : OV.nds xs = true) : ND (env.set i (some (.ls xs))) := h.set (by simpa [OV.nd] using hx)
theorem nds_append {xs ys : List OV} (h1 : OV.nds xs = true) (h2 : OV.nds ys = true) : OV.nds (xs ++ ys) = true := by
  induction xs with
  | nil => exact h2
  | cons x xs ih =>
    simp only [OV.nds, List.cons_append, Bool.and_eq_true] at h1 ⊢
    exact ⟨h1.1, ih h1.2⟩
theorem nds_set {xs : List OV} {k : Nat} {o : OV} (h1 : OV.nds xs = true) (h2 : o.nd = true) : OV.nds (xs.set k o) = true := by
  induction xs generalizing k with
  | nil => exact h1
  | cons x xs ih =>
    simp only [OV.nds, Bool.and_eq_true] at h1
    cases k with
    | zero => simp only [List.set_cons_zero, OV.nds, Bool.and_eq_true]; exact ⟨h2, h1.2⟩
    | succ k => simp only [List.set_cons_succ, OV.nds, Bool.and_eq_true]; exact ⟨h1.1, ih h1.2⟩
theorem nds_at {xs : List OV} {k : Nat} {o : OV} (h1 : OV.nds xs = true) (h : xs[k]? = some o) : o.nd = true := by
  induction xs generalizing k with
  | nil => simp at h
  | cons x xs ih =>
    simp only [OV.nds, Bool.and_eq_true] at h1
    cases k with
    | zero => simp at h; subst h; exact h1.1
    | succ k => exact ih h1.2 (by simpa using h)
theorem ND.at' {env : Env} {i : Nat} {o : OV} (h : ND env) (e : env[i]? = some (some o)) : o.nd = true := h o (List.mem_of_getElem? e)
theorem OwnAll.app {F : Lv → Hp} {S : List Addr} {H : Hp} : ∀ {xs : List OV} {vs : List V} {B : List Addr} {y : OV} {w : V} {C : List Addr}, OwnAll K F S H xs vs B → Own K F S H y w C → (∀ a ∈ B, a ∉ C) → ∃ B', OwnAll K F S H (xs ++ [y]) (vs ++ [w]) B' ∧ ∀ b ∈ B', b ∈ B ∨ b ∈ C
  | [], _, _, _, _, C, h, hy, _ => by
    cases h
    exact ⟨C ++ [], .cons hy .nil fun a _ z => (List.not_mem_nil z).elim, fun b hb => .inr (by simpa using hb)⟩
  | x :: xs, _, _, _, _, C, h, hy, hd => by
    cases h with
    | @cons _ _ A1 _ _ B1 a b c =>
      obtain ⟨B', g1, g2⟩ := OwnAll.app b hy fun z hz => hd z (List.mem_append_right _ hz)
      refine ⟨A1 ++ B', .cons a g1 fun z hz w => ?_, fun z hz => ?_⟩
      · rcases g2 z w with q | q
        · exact c z hz q
        · exact hd z (List.mem_append_left _ hz) q
      · rcases List.mem_append.mp hz with w | w
        · exact .inl (List.mem_append_left _ w)
        · exact (g2 z w).elim (fun q => .inl (List.mem_append_right _ q)) .inr
theorem OwnAll.set {F : Lv → Hp} {S : List Addr} {H : Hp} : ∀ {xs : List OV} {vs : List V} {B : List Addr} {k : Nat} {y : OV} {w : V}, OwnAll K F S H xs vs B → Own K F S H y w [] → ∃ B', OwnAll K F S H (xs.set k y) (vs.set k w) B' ∧ ∀ b ∈ B', b ∈ B
  | [], _, _, _, _, _, h, _ => by
    cases h
    exact ⟨[], .nil, fun b hb => (List.not_mem_nil hb).elim⟩
  | x :: xs, _, _, 0, _, _, h, hy => by
    cases h with
    | cons a b c => exact ⟨[] ++ _, .cons hy b fun z hz => (List.not_mem_nil hz).elim, fun z hz => List.mem_append_right _ (by simpa using hz)⟩
  | x :: xs, _, _, k + 1, _, _, h, hy => by
    cases h with
    | @cons _ _ A1 _ _ B1 a b c =>
      obtain ⟨B', g1, g2⟩ := OwnAll.set (k := k) b hy
      exact ⟨A1 ++ B', .cons a g1 fun z hz w => c z hz (g2 z w), fun z hz => (List.mem_append.mp hz).elim (fun q => List.mem_append_left _ q) fun q => List.mem_append_right _ (g2 z q)⟩
theorem OwnAll.erase {F : Lv → Hp} {S : List Addr} {H : Hp} : ∀ {xs : List OV} {vs : List V} {B : List Addr} (k : Nat), OwnAll K F S H xs vs B → ∃ B', OwnAll K F S H (xs.eraseIdx k) (vs.eraseIdx k) B' ∧ ∀ b ∈ B', b ∈ B
  | [], _, _, _, h => by
    cases h
    exact ⟨[], .nil, fun b hb => (List.not_mem_nil hb).elim⟩
  | x :: xs, _, _, 0, h => by
    cases h with
    | cons a b c => exact ⟨_, b, fun z hz => List.mem_append_right _ hz⟩
  | x :: xs, _, _, k + 1, h => by
    cases h with
    | @cons _ _ A1 _ _ B1 a b c =>
      obtain ⟨B', g1, g2⟩ := OwnAll.erase k b
      exact ⟨A1 ++ B', .cons a g1 fun z hz w => c z hz (g2 z w), fun z hz => (List.mem_append.mp hz).elim (fun q => List.mem_append_left _ q) fun q => List.mem_append_right _ (g2 z q)⟩
end
/-! ### statements that change lists -/
section
variable {K : PySem.W.Frag}
theorem ne_mem {a b : Addr} {B : List Addr} (h : b ∈ B) (n : a ∉ B) : b ≠ a := fun z => n (by rw [← z]; exact h)
theorem fz_mut {H0 H2 : Hp} {A S : List Addr} {a : Addr} {ys : List V} {l : Lv} (hS : ∀ s ∈ S, isLo (H2 s) = true) (aA : a ∈ A) (ha : isLo (H2 a) = true) (hl : l ≠ .di) : Ex (fz H0 A S H2 H2 l) (fz H0 A S (upd H2 a (.lst ys)) (upd H2 a (.lst ys)) l) := ct_ex fun b o hb e => by
  have nb : b ≠ a := fun z => by
    subst z
    cases l with
    | nw => simp [bad, e, ha] at hb; rw [e] at ha; rw [ha] at hb; cases hb
    | di => exact hl rfl
    | _ => simp [bad, aA] at hb
  refine ⟨?_, by rw [upd_ne nb]; exact e⟩
  cases l <;> simp only [bad, upd_ne nb] at hb ⊢ <;> exact hb
theorem Rel.mut1 {H0 H1 H2 : Hp} {S0 A S : List Addr} {σ : L2.St} {env : Env} {i : Nat} {xs : List OV} (c : At K H0 S0 A S σ env H1 H2) (n : ND env) (he : env[i]? = some (some (.ls xs))) :
    ∃ a vs Bx, σ[i]? = some (some (.ref a)) ∧ H2 a = some (.lst vs) ∧ vs.length = xs.length ∧ OwnAll K (fz H0 A S H2 H2) S H2 xs vs Bx ∧ a ∈ A ∧ (∀ b ∈ Bx, b ∈ A) ∧ ∀ vs', OwnAll K (fz H0 A S (upd H2 a (.lst vs')) (upd H2 a (.lst vs'))) S (upd H2 a (.lst vs')) xs vs Bx ∧
      (∀ o v, o.nd = true → Own K (fz H0 A S H2 H2) S H2 o v [] → Own K (fz H0 A S (upd H2 a (.lst vs')) (upd H2 a (.lst vs'))) S (upd H2 a (.lst vs')) o v []) ∧
      ∀ xs' Bx', OwnAll K (fz H0 A S (upd H2 a (.lst vs')) (upd H2 a (.lst vs'))) S (upd H2 a (.lst vs')) xs' vs' Bx' → (∀ b ∈ Bx', b ∈ Bx) → Rel K H0 S0 A S σ (upd H2 a (.lst vs')) (env.set i (some (.ls xs'))) ∧ Fm H0 A S H1 A S (upd H2 a (.lst vs')) := by
  obtain ⟨a, vs, Bx, h1, h2, h3, h4, h5, h6, h7⟩ := Rel.mut c n he
  have hlo : isLo (H2 a) = true := by rw [h2]; rfl
  have hS : ∀ s ∈ S, isLo (H2 s) = true := fun s hs => (c.rel.str s hs).lo
  have aS : a ∉ S := c.r.dis a h4
  have hx : OV.nds xs = true := by
    have := n.at' he
    simpa [OV.nd] using this
  refine ⟨a, vs, Bx, h1, h2, own_len h3, h3, h4, h6, fun vs' => ⟨h3.mono2 (fun l hl => fz_mut hS h4 hlo hl) (fun _ h => h) hx fun b hb u e => ?_, fun o v hn ho => ho.mono2 (fun l hl => fz_mut hS h4 hlo hl) (fun _ h => h) hn fun b hb => (List.not_mem_nil hb).elim, fun xs' Bx' hall hsub => ?_⟩⟩
  · rw [upd_ne (ne_mem hb h5)]; exact e
  · have := h7 (upd H2 a (.lst vs')) xs' vs' Bx' [] (fun b o _ nb _ e => by rw [upd_ne nb]; exact e) (fun s hs => by
      obtain ⟨x, y, z, e⟩ := c.rel.str s hs
      exact ⟨x, y, z, by rw [upd_ne (ne_mem hs aS)]; exact e⟩) upd_same (fun b hb => by
      rw [upd_ne (ne_mem hb h5)]
      exact c.rel.lo b (.inl (h6 b hb))) (fun p hp => (List.not_mem_nil hp).elim) hall (fun z => h5 (hsub a z)) fun b hb => .inl (hsub b hb)
    exact this
theorem Fm.nilA {H0 H1 H' : Hp} {A S : List Addr} (h : Fm H0 A S H1 ([] ++ A) S H') : Fm H0 A S H1 A S H' := h
/-- a list in a list of the def's own -/
theorem Rel.mut2 {H0 H1 H2 : Hp} {S0 A S : List Addr} {σ : L2.St} {env : Env} {i k : Nat} {xs ys : List OV} (c : At K H0 S0 A S σ env H1 H2) (n : ND env) (he : env[i]? = some (some (.ls xs))) (hk : xs[k]? = some (.ls ys)) :
    ∃ a vs p us C, σ[i]? = some (some (.ref a)) ∧ H2 a = some (.lst vs) ∧ vs.length = xs.length ∧ vs[k]? = some (.ref p) ∧ H2 p = some (.lst us) ∧ us.length = ys.length ∧ ∀ us', OwnAll K (fz H0 A S (upd H2 p (.lst us')) (upd H2 p (.lst us'))) S (upd H2 p (.lst us')) ys us C ∧
      (∀ o v, o.nd = true → Own K (fz H0 A S H2 H2) S H2 o v [] → Own K (fz H0 A S (upd H2 p (.lst us')) (upd H2 p (.lst us'))) S (upd H2 p (.lst us')) o v []) ∧
      ∀ ys' C', OwnAll K (fz H0 A S (upd H2 p (.lst us')) (upd H2 p (.lst us'))) S (upd H2 p (.lst us')) ys' us' C' → (∀ b ∈ C', b ∈ C) → Rel K H0 S0 A S σ (upd H2 p (.lst us')) (env.set i (some (.ls (xs.set k (.ls ys'))))) ∧ Fm H0 A S H1 A S (upd H2 p (.lst us')) := by
  obtain ⟨a, vs, Bx, h1, h2, h3, h4, h5, h6, h7⟩ := Rel.mut c n he
  have hx : OV.nds xs = true := by
    have := n.at' he
    simpa [OV.nd] using this
  have hy : OV.nds ys = true := by
    have := nds_at hx hk
    simpa [OV.nd] using this
  obtain ⟨p, us, C, g1, g2, g3, g4, g5, g6⟩ := OwnAll.mut hx h3 hk
  have pA : p ∈ A := h6 p (g5 p List.mem_cons_self)
  have hlo : isLo (H2 p) = true := by rw [g2]; rfl
  have hS : ∀ s ∈ S, isLo (H2 s) = true := fun s hs => (c.rel.str s hs).lo
  have pS : p ∉ S := c.r.dis p pA
  have np : p ≠ a := ne_mem (g5 p List.mem_cons_self) h5
  refine ⟨a, vs, p, us, C, h1, h2, own_len h3, g1, g2, own_len g3, fun us' => ⟨g3.mono2 (fun l hl => fz_mut hS pA hlo hl) (fun _ h => h) hy fun b hb u e => ?_, fun o v hn ho => ho.mono2 (fun l hl => fz_mut hS pA hlo hl) (fun _ h => h) hn fun b hb => (List.not_mem_nil hb).elim, fun ys' C' hall hsub => ?_⟩⟩
  · rw [upd_ne (ne_mem hb g4)]; exact e
  · obtain ⟨B', k1, k2⟩ := g6 (fz H0 A S (upd H2 p (.lst us')) (upd H2 p (.lst us'))) (upd H2 p (.lst us')) ys' us' C' [] (fun l hl => fz_mut hS pA hlo hl) (fun b hb nb _ u e => by rw [upd_ne nb]; exact e) upd_same hall (fun z => g4 (hsub p z)) (fun b hb => .inl (hsub b hb)) fun b hb => (List.not_mem_nil hb).elim
    have k2' : ∀ b ∈ B', b ∈ Bx := fun b hb => (k2 b hb).elim id fun z => (List.not_mem_nil z).elim
    have := h7 (upd H2 p (.lst us')) (xs.set k (.ls ys')) vs B' [] (fun b o _ _ nb e => by rw [upd_ne (ne_mem (g5 p List.mem_cons_self) nb).symm]; exact e) (fun s hs => by
      obtain ⟨x, y, z, e⟩ := c.rel.str s hs
      exact ⟨x, y, z, by rw [upd_ne (ne_mem hs pS)]; exact e⟩) (by rw [upd_ne np.symm]; exact h2) (fun b hb => by
      by_cases q : b = p
      · subst q; rw [upd_same]; rfl
      · rw [upd_ne q]; exact c.rel.lo b (.inl (h6 b hb))) (fun p hp => (List.not_mem_nil hp).elim) k1 (fun z => h5 (k2' a z)) fun b hb => .inl (k2' b hb)
    exact this
/-- what an item becomes -/
def itemF (o : OV) (k : OV → Prop) : Prop := match keepS o with
  | some o' => k o'
  | none => False
def onLs (env : Env) (i : Nat) (k : List OV → Prop) : Prop := match env[i]? with
  | some (some (.ls xs)) => k xs
  | _ => False
theorem onLs_of {env : Env} {i : Nat} {k : List OV → Prop} (h : onLs env i k) : ∃ xs, env[i]? = some (some (.ls xs)) ∧ k xs := by
  unfold onLs at h
  split at h
  · rename_i xs e
    exact ⟨xs, e, h⟩
  · exact h.elim
theorem itemF_of {o : OV} {k : OV → Prop} (h : itemF o k) : ∃ o', keepS o = some o' ∧ k o' := by
  unfold itemF at h
  split at h
  · rename_i o' e
    exact ⟨o', e, h⟩
  · exact h.elim
/-- x.append(e) -/
def sAppend (i : Nat) (e : EX K) : SX K where
  ts := fun E => tDrop (tBM K "list" rAppend (tVar i) (tCons (e.te E) tNil))
  wp := fun env P => onLs env i fun xs => e.wp env (fun o => xs.length < 100000 ∧ itemF o fun o' => P.nx (env.set i (some (.ls (xs ++ [o']))))) P.xc
  ok := fun {E H0 S0 A S σ H env P D} r n h c => by
    obtain ⟨xs, he, h⟩ := onLs_of h
    obtain ⟨a, vs, Bx, h1, h2, _⟩ := Rel.mut1 r.at' n he
    refine ⟨.ref a, h1, .inl ⟨rfl, _, SqL.of h2⟩, e.ok r h (c.ex r) _ fun v H2 o ho s2 vr => ?_⟩
    obtain ⟨hz, ho⟩ := ho
    obtain ⟨o', ek, hk⟩ := itemF_of ho
    have c2 : At K H0 S0 A S σ env H H2 := ⟨r, s2⟩
    obtain ⟨a', vs', Bx', h1', h2', hl, _, hA, _, hm⟩ := Rel.mut1 c2 n he
    rw [h1] at h1'
    cases h1'
    obtain ⟨k1, k2⟩ := keepS_own c2 vr ek
    obtain ⟨m1, m2, m3⟩ := hm (vs' ++ [v])
    obtain ⟨B2, b1, b2⟩ := OwnAll.app m1 (m2 o' v k2 k1) fun z hz w => (List.not_mem_nil w).elim
    obtain ⟨r3, f3⟩ := m3 (xs ++ [o']) B2 b1 fun b hb => (b2 b hb).elim id fun z => (List.not_mem_nil z).elim
    refine ⟨a, vs', v, rfl, rfl, h2', szl (by rw [hl]; exact hz), c.nx A S σ _ _ r3 (n.setls (nds_append (by have := n.at' he; simpa [OV.nd] using this) (by simp [OV.nds, k2]))) f3 hk⟩
/-- x[j].append(e) -/
def sAppendAt (i : Nat) (j : EX K) (e : EX K) : SX K where
  ts := fun E => tDrop (tBM K "list" rAppend (tOp (rIx K) (tVar i) (j.te E)) (tCons (e.te E) tNil))
  wp := fun env P => onLs env i fun xs => j.wp env (fun q => rd q fun _ d => match d with
    | .int z => match ixN xs.length z with
      | some k => match xs[k]? with
        | some (.ls ys) => e.wp env (fun o => ys.length < 100000 ∧ itemF o fun o' => P.nx (env.set i (some (.ls (xs.set k (.ls (ys ++ [o']))))))) P.xc
        | _ => False
      | none => False
    | _ => False) P.xc
  ok := fun {E H0 S0 A S σ H env P D} r n h c => by
    obtain ⟨xs, he, h⟩ := onLs_of h
    obtain ⟨a, vs, Bx, h1, h2, _⟩ := Rel.mut1 r.at' n he
    refine ⟨.ref a, h1, j.ok r h (c.ex r) _ fun x1 H1 q hq s1 vq => ?_⟩
    obtain ⟨l, d, hq, dq⟩ := vq.rd ⟨r, s1⟩ hq
    cases dq <;> first | exact hq.elim | skip
    rename_i z
    have hq : (match ixN xs.length z with
      | some k => match xs[k]? with
        | some (.ls ys) => e.wp env (fun o => ys.length < 100000 ∧ itemF o fun o' => P.nx (env.set i (some (.ls (xs.set k (.ls (ys ++ [o']))))))) P.xc
        | _ => False
      | none => False) := hq
    cases ez : ixN xs.length z with
    | none => simp only [ez] at hq
    | some k =>
      simp only [ez] at hq
      split at hq
      · rename_i ys hk
        have c1 : At K H0 S0 A S σ env H H1 := ⟨r, s1⟩
        obtain ⟨a', vs', p, us, C, g1, g2, g3, g4, g5, g6, _⟩ := Rel.mut2 c1 n he hk
        rw [h1] at g1
        cases g1
        refine .inl ⟨a, vs', z, .ref p, rfl, rfl, SqL.of g2, by unfold atI; rw [g3, ez]; exact g4, .inl ⟨rfl, _, SqL.of g5⟩, e.ok c1.rel hq (fun C' H' hC s => c.ex r C' H' hC (s1.trans s)) _ fun v H2 o ho s2 vr => ?_⟩
        obtain ⟨hz, ho⟩ := ho
        obtain ⟨o', ek, hk'⟩ := itemF_of ho
        have c2 : At K H0 S0 A S σ env H H2 := c1.go s2
        obtain ⟨a2, vs2, p2, us2, C2, q1, q2, q3, q4, q5, q6, hm⟩ := Rel.mut2 c2 n he hk
        rw [h1] at q1
        cases q1
        have e2 := s2.kp a _ (r.dis a (by obtain ⟨x, _, _, y, _, _, _, w, _⟩ := Rel.mut1 r.at' n he; rw [h1] at y; cases y; exact w)) g2
        rw [q2] at e2
        cases e2
        rw [g4] at q4
        cases q4
        obtain ⟨k1, k2⟩ := keepS_own c2 (vr.back c1 s2) ek
        obtain ⟨m1, m2, m3⟩ := hm (us2 ++ [v])
        obtain ⟨B2, b1, b2⟩ := OwnAll.app m1 (m2 o' v k2 k1) fun z hz w => (List.not_mem_nil w).elim
        obtain ⟨r3, f3⟩ := m3 (ys ++ [o']) B2 b1 fun b hb => (b2 b hb).elim id fun z => (List.not_mem_nil z).elim
        have hx : OV.nds xs = true := by have := n.at' he; simpa [OV.nd] using this
        have hy : OV.nds ys = true := by have := nds_at hx hk; simpa [OV.nd] using this
        exact ⟨p, us2, v, rfl, rfl, q5, szl (by rw [q6]; exact hz), c.nx A S σ _ _ r3 (n.setls (nds_set hx (by simpa [OV.nd] using nds_append hy (by simp [OV.nds, k2])))) f3 hk'⟩
      · exact hq.elim
/-! targets -/
structure GM (K : PySem.W.Frag) where
  tg : XK → TG
  wp : OV → Env → (Env → Prop) → (Addr → Prop) → Prop
  ok : ∀ {E : XK} {H0 : Hp} {S0 A S : List Addr} {σ : L2.St} {H : Hp} {env : Env} {R : Env → Prop} {X : Addr → Prop} {o : OV} {v : V}, Rel K H0 S0 A S σ H env → ND env → Own K (fz H0 A S H H) S H o v [] → o.nd = true → wp o env R X → (∀ C H2, X C → Step S0 H0 H2 → E (.ref C) none H2) →
    ∀ Q : L2.St → Hp → Prop, (∀ σ2 H2 env2, R env2 → Rel K H0 S0 A S σ2 H2 env2 → ND env2 → Fm H0 A S H A S H2 → Q σ2 H2) → tg E v σ H Q
structure GMs (K : PySem.W.Frag) where
  tg : XK → TGs
  wp : Lv → List PyData → Env → (Env → Prop) → (Addr → Prop) → Prop
  ok : ∀ {E : XK} {H0 : Hp} {S0 A S : List Addr} {σ : L2.St} {H : Hp} {env : Env} {R : Env → Prop} {X : Addr → Prop} {l : Lv} {ds : List PyData} {vs : List V}, Rel K H0 S0 A S σ H env → ND env → l = .loc ∨ l = .fr → DaAll (fz H0 A S H H l) vs ds → wp l ds env R X → (∀ C H2, X C → Step S0 H0 H2 → E (.ref C) none H2) →
    ∀ Q : L2.St → Hp → Prop, (∀ σ2 H2 env2, R env2 → Rel K H0 S0 A S σ2 H2 env2 → ND env2 → Fm H0 A S H A S H2 → Q σ2 H2) → tg E vs σ H Q
def mN (i : Nat) : GM K where
  tg := fun _ => gName i
  wp := fun o env R _ => R (env.set i (some o))
  ok := fun {E H0 S0 A S σ H env R X o v} r n ho hn h hX Q q => q _ _ _ h (r.put ho) (n.set hn) Fm.refl
/-- x[j] = .. -/
def mSub (i : Nat) (j : EX K) : GM K where
  tg := fun E => gSub (tVar i) (j.te E) rSetL
  wp := fun o env R X => onLs env i fun xs => j.wp env (fun q => rd q fun _ d => match d with
    | .int z => match ixN xs.length z with
      | some k => R (env.set i (some (.ls (xs.set k o))))
      | none => False
    | _ => False) X
  ok := fun {E H0 S0 A S σ H env R X o v} r n ho hn h hX Q q => by
    obtain ⟨xs, he, h⟩ := onLs_of h
    obtain ⟨a, vs, Bx, h1, h2, _⟩ := Rel.mut1 r.at' n he
    refine ⟨.ref a, h1, j.ok r h (fun C H2 hC s => hX C H2 hC (r.step s).step0) _ fun x1 H1 w hq s1 vq => ?_⟩
    have c1 : At K H0 S0 A S σ env H H1 := ⟨r, s1⟩
    obtain ⟨l, d, hq, dq⟩ := vq.rd c1 hq
    cases dq <;> first | exact hq.elim | skip
    rename_i z
    cases ez : ixN xs.length z with
    | none => simp only [ez] at hq
    | some k =>
      simp only [ez] at hq
      obtain ⟨a', vs', Bx', h1', h2', hl, _, hA, _, hm⟩ := Rel.mut1 c1 n he
      rw [h1] at h1'
      cases h1'
      obtain ⟨m1, m2, m3⟩ := hm (vs'.set k v)
      have ho1 : Own K (fz H0 A S H1 H1) S H1 o v [] := ho.mono2 (fun l hl => by
        have := (r.step s1)
        exact ct_ex fun b u hb e => by
          have nS : b ∉ S := fun z => by
            cases l with
            | nw =>
              have : bad H0 A S H H .nw b = true := by
                show ((H b).isSome && isLo (H b)) = true
                rw [(r.str b z).lo, e]
                rfl
              rw [this] at hb; cases hb
            | _ => simp [bad, z] at hb
          have e3 := s1.kp b u nS e
          refine ⟨?_, e3⟩
          rw [← hb]
          cases l <;> simp only [bad, e, e3]) (fun _ h => h) hn fun b hb => (List.not_mem_nil hb).elim
      obtain ⟨B2, b1, b2⟩ := OwnAll.set (k := k) m1 (m2 o v hn ho1)
      obtain ⟨r3, f3⟩ := m3 _ B2 b1 b2
      refine ⟨a, vs', z, k, rfl, rfl, h2', by rw [hl]; exact ez, q _ _ _ hq r3 (n.setls (nds_set (by have := n.at' he; simpa [OV.nd] using this) hn)) f3⟩
def mNil : GMs K where
  tg := fun _ => gNil
  wp := fun _ ds env R _ => match ds with
    | [] => R env
    | _ => False
  ok := fun {E H0 S0 A S σ H env R X l ds vs} r n hl hv h hX Q q => by
    cases hv with
    | nil => exact ⟨rfl, q _ _ _ h r n Fm.refl⟩
    | cons _ _ => exact h.elim
def mCons (g : GM K) (gs : GMs K) : GMs K where
  tg := fun E => gCons (g.tg E) (gs.tg E)
  wp := fun l ds env R X => match ds with
    | [] => False
    | d :: ds => g.wp (mk l d) env (fun env' => gs.wp l ds env' R X) X
  ok := fun {E H0 S0 A S σ H env R X l ds vs} r n hl hv h hX Q q => by
    cases hv with
    | nil => exact h.elim
    | cons a b => exact ⟨_, _, rfl, g.ok r n (.da a.nrm) (mk_nd (by rcases hl with rfl | rfl <;> decide)) h hX _ fun σ2 H2 env2 h2 r2 n2 f2 => gs.ok r2 n2 hl (b.mono (f2 l hl)) h2 hX Q fun σ3 H3 env3 h3 r3 n3 f3 => q σ3 H3 env3 h3 r3 n3 (f2.trans f3)⟩
def mT (n : Nat) (gs : GMs K) : GM K where
  tg := fun E => gTup K n (gs.tg E)
  wp := fun o env R X => match o with
    | .da .fr (.tuple ds) => ds.length = n ∧ gs.wp .fr ds env R X
    | .da _ (.tuple ds) => ds.length = n ∧ gs.wp .loc ds env R X
    | _ => False
  ok := fun {E H0 S0 A S σ H env R X o v} r nn ho hn h hX Q q => by
    cases o with
    | da l d =>
      cases d <;> first | (cases l <;> exact h.elim) | skip
      rename_i ds
      cases ho with
      | da ho =>
        cases l with
        | nw =>
          cases ho.mono (fz_up r.at' (m := .loc) (by decide)) with
          | tup e k => exact ⟨_, _, rfl, SqT.of (fz_le _ _ e), by rw [k.len]; exact h.1, gs.ok r nn (.inl rfl) k h.2 hX Q q⟩
        | loc =>
          cases ho with
          | tup e k => exact ⟨_, _, rfl, SqT.of (fz_le _ _ e), by rw [k.len]; exact h.1, gs.ok r nn (.inl rfl) k h.2 hX Q q⟩
        | fr =>
          cases ho with
          | tup e k => exact ⟨_, _, rfl, SqT.of (fz_le _ _ e), by rw [k.len]; exact h.1, gs.ok r nn (.inr rfl) k h.2 hX Q q⟩
        | di => simp [OV.nd] at hn
    | _ => exact h.elim
def mL (n : Nat) (gs : GMs K) : GM K where
  tg := fun E => gLst K n (gs.tg E)
  wp := fun o env R X => match o with
    | .da .fr (.list ds) => ds.length = n ∧ gs.wp .fr ds env R X
    | .da _ (.list ds) => ds.length = n ∧ gs.wp .loc ds env R X
    | _ => False
  ok := fun {E H0 S0 A S σ H env R X o v} r nn ho hn h hX Q q => by
    cases o with
    | da l d =>
      cases d <;> first | (cases l <;> exact h.elim) | skip
      rename_i ds
      cases ho with
      | da ho =>
        cases l with
        | nw =>
          cases ho.mono (fz_up r.at' (m := .loc) (by decide)) with
          | lst e k => exact ⟨_, _, rfl, SqL.of (fz_le _ _ e), by rw [k.len]; exact h.1, gs.ok r nn (.inl rfl) k h.2 hX Q q⟩
        | loc =>
          cases ho with
          | lst e k => exact ⟨_, _, rfl, SqL.of (fz_le _ _ e), by rw [k.len]; exact h.1, gs.ok r nn (.inl rfl) k h.2 hX Q q⟩
        | fr =>
          cases ho with
          | lst e k => exact ⟨_, _, rfl, SqL.of (fz_le _ _ e), by rw [k.len]; exact h.1, gs.ok r nn (.inr rfl) k h.2 hX Q q⟩
        | di => simp [OV.nd] at hn
    | _ => exact h.elim
/-- targets .. = e -/
def sTgt (g : GM K) (e : EX K) : SX K where
  ts := fun E => tAsg (e.te E) (g.tg E)
  wp := fun env P => e.wp env (fun o => itemF o fun o' => g.wp o' env P.nx P.xc) P.xc
  ok := fun {E H0 S0 A S σ H env P D} r n h c => e.ok r h (c.ex r) _ fun v H2 o ho s2 vr => by
    have at2 : At K H0 S0 A S σ env H H2 := ⟨r, s2⟩
    obtain ⟨o', ek, ho⟩ := itemF_of ho
    obtain ⟨h1, h2⟩ := keepS_own at2 vr ek
    exact g.ok at2.rel n h1 h2 ho c.xc _ fun σ3 H3 env3 h3 r3 n3 f3 => c.nx A S σ3 H3 env3 r3 n3 ((Fm.step r s2).trans f3) h3
/-- x = e, e a new list that the def will change -/
def ownF (o : OV) (k : List OV → Prop) : Prop := match o with
  | .da .nw (.list ds) => k (ds.map fun d => .da (nrm .loc d) d)
  | _ => False
theorem own_items {H0 H1 H2 : Hp} {S0 A S : List Addr} {σ : L2.St} {env : Env} {p : Addr} {ds : List PyData} (c : At K H0 S0 A S σ env H1 H2) (D : Da (fz H0 A S H1 H2 .nw) (.ref p) (.list ds)) : ∃ vs, H1 p = none ∧ H2 p = some (.lst vs) ∧ DaAll (fz H0 (p :: A) S H2 H2 .loc) vs ds := by
  cases D with
  | lst e k =>
    rename_i vs
    obtain ⟨hb, e2⟩ := ct_at e
    have hb : ((H1 p).isSome && isLo (H2 p)) = false := hb
    have n1 : H1 p = none := by
      rw [e2] at hb
      have : (H1 p).isSome = false := by simpa [isLo] using hb
      cases q : H1 p with
      | none => rfl
      | some u => rw [q] at this; cases this
    have hz : sizeOf ds < sizeOf (PyData.list ds) := by
      have : sizeOf (PyData.list ds) = 1 + sizeOf ds := by simp
      omega
    refine ⟨vs, n1, e2, (DaAll.less e k hz k).mono (fun b o eb => ?_)⟩
    obtain ⟨nb, eb⟩ := ct_at eb
    have nb : b ≠ p := of_decide_eq_false nb
    have eb2 := fz_up c (m := .loc) (by decide) b o eb
    obtain ⟨hb2, eb2⟩ := ct_at eb2
    refine ct_of ?_ eb2
    simp only [bad, List.mem_cons, nb, false_or] at hb2 ⊢
    exact hb2
theorem own_all_da {F : Lv → Hp} {S : List Addr} {H : Hp} : ∀ {vs : List V} {ds : List PyData}, (∀ v d, Da (F .loc) v d → Da (F (nrm .loc d)) v d) → DaAll (F .loc) vs ds → OwnAll K F S H (ds.map fun d => .da (nrm .loc d) d) vs []
  | _, _, _, .nil => .nil
  | _, _, hn, .cons a b => (OwnAll.cons (Own.da (hn _ _ a)) (own_all_da hn b) fun z hz => (List.not_mem_nil hz).elim : OwnAll K F S H _ _ ([] ++ []))
theorem map_nd (ds : List PyData) : OV.nds (ds.map fun d => OV.da (nrm .loc d) d) = true := by
  induction ds with
  | nil => rfl
  | cons d ds ih =>
    simp only [List.map_cons, OV.nds, Bool.and_eq_true]
    exact ⟨by simp only [OV.nd, decide_eq_true_eq]; exact nrm_nd (by decide), ih⟩
/-- a new list joins the def's own -/
theorem Rel.addA {H0 H1 H2 : Hp} {S0 A S : List Addr} {σ : L2.St} {env : Env} {p : Addr} {i : Nat} {xs : List OV} {vs : List V} (c : At K H0 S0 A S σ env H1 H2) (n : ND env) (n1 : H1 p = none) (e : H2 p = some (.lst vs)) (h : OwnAll K (fz H0 (p :: A) S H2 H2) S H2 xs vs []) :
    Rel K H0 S0 (p :: A) S (σ.set i (some (.ref p))) H2 (env.set i (some (.ls xs))) ∧ Fm H0 A S H1 (p :: A) S H2 := by
  have rD := c.r.addD c.s n1 e
  have pA : p ∉ A := fun z => by
    obtain ⟨_, q⟩ := lo_some (c.r.lo p (.inl z))
    rw [n1] at q; cases q
  refine ⟨?_, fun l hl => ?_⟩
  · obtain ⟨B, h1, h2⟩ := c.r.own
    have h1' : OwnEnv K (fz H0 (p :: A) S H2 H2) S H2 env σ B := h1.mono (fun l => fz_addD c.r n1 c.s l) (fun _ h => h) fun b hb u e => c.s.kp b u (c.r.dis b (h2 b hb)) e
    obtain ⟨B', h3, h4⟩ := h1'.set (i := i) (.ls e h (List.not_mem_nil)) (fun b hb z => by
      rcases List.mem_cons.mp hb with w | w
      · subst w; exact pA (h2 b z)
      · exact (List.not_mem_nil w).elim)
    refine ⟨⟨B', h3, fun b hb => ?_⟩, rD.loA, rD.dis, rD.str, rD.ext, rD.sub, rD.nA, rD.nS⟩
    rcases h4 b hb with z | z
    · exact List.mem_cons_of_mem _ (h2 b z)
    · rcases List.mem_cons.mp z with w | w
      · subst w; exact List.mem_cons_self
      · exact (List.not_mem_nil w).elim
  · exact fz_addD c.r n1 c.s l
def sOwn (i : Nat) (e : EX K) : SX K where
  ts := fun E => tAsg (e.te E) (gName i)
  wp := fun env P => e.wp env (fun o => ownF o fun xs => P.nx (env.set i (some (.ls xs)))) P.xc
  ok := fun {E H0 S0 A S σ H env P D} r n h c => e.ok r h (c.ex r) _ fun v H2 o ho s2 vr => by
    have at2 : At K H0 S0 A S σ env H H2 := ⟨r, s2⟩
    unfold ownF at ho
    split at ho
    · rename_i ds
      rcases vr with ⟨z, _⟩ | ⟨B, hB, vr⟩
      · cases z
      · cases vr with
        | da vr =>
          obtain ⟨p, rfl⟩ : ∃ p, v = .ref p := by cases vr; exact ⟨_, rfl⟩
          obtain ⟨vs, n1, e2, k⟩ := own_items at2 vr
          obtain ⟨r3, f3⟩ := Rel.addA (i := i) at2 n n1 e2 (own_all_da (fun v d h => h.nrm) k)
          exact c.nx (p :: A) S _ H2 _ r3 (n.setls (map_nd ds)) f3 ho
    · exact ho.elim
end
/-! ### defs -/
section
variable {K : PySem.W.Frag}
def ArgOk (K : PySem.W.Frag) (S : List Addr) (H : Hp) (o : OV) (v : V) : Prop := Own K (fz H [] S H H) S H o v [] ∧ o.nd = true
/-- a def's promise, told by values -/
abbrev FnW := List OV → (OV → Prop) → (Addr → Prop) → Prop
def spF (K : PySem.W.Frag) (n : Nat) (F : FnW) : Sp := fun vs H Q E => ∃ (os : List OV) (S : List Addr) (R : OV → Prop) (X : Addr → Prop), os.length = n ∧ F os R X ∧ F2 (ArgOk K S H) os vs ∧ (∀ a ∈ S, Strm H a) ∧
  (∀ v H2 o, R o → Step S H H2 → RetOk K H S H2 o v → Q v H2) ∧ (∀ C H2, X C → Step S H H2 → E (.ref C) none H2)
theorem F2.len {α β : Type} {P : α → β → Prop} : ∀ {as : List α} {bs : List β}, F2 P as bs → as.length = bs.length
  | _, _, .nil => rfl
  | _, _, .cons _ b => by rw [List.length_cons, List.length_cons, F2.len b]
theorem spF_len {n : Nat} {F : FnW} {ps : List Str} (hn : ps.length = n) {vs : List V} {H : Hp} {Q : VK} {E : XK} (h : spF K n F vs H Q E) : vs.length = ps.length := by
  obtain ⟨os, S, R, X, h1, h2, h3, _⟩ := h
  rw [hn, ← h1, h3.len]
def bodyF (N : Nat) (b : SX K) : FnW := fun os R X => b.wp (os.map some ++ List.replicate (N - os.length) none) { nx := fun _ => R (.da .nw .none), rt := R, xc := X, bk := fun _ => False, ct := fun _ => False }
theorem own_args {F : Lv → Hp} {S : List Addr} {H : Hp} {m : Nat} : ∀ {os : List OV} {vs : List V}, F2 (fun o v => Own K F S H o v [] ∧ o.nd = true) os vs → OwnEnv K F S H (os.map some ++ List.replicate m none) (vs.map some ++ List.replicate m none) []
  | _, _, .nil => by
    show OwnEnv K F S H (List.replicate m none) (List.replicate m none) []
    induction m with
    | zero => exact .nil
    | succ m ih => exact .vac ih
  | _, _, .cons a b => (OwnEnv.has a.1 (own_args b) fun z hz => (List.not_mem_nil hz).elim : OwnEnv K F S H _ _ ([] ++ []))
theorem nd_args {m : Nat} {P : OV → V → Prop} (hP : ∀ o v, P o v → o.nd = true) : ∀ {os : List OV} {vs : List V}, F2 P os vs → ND (os.map some ++ List.replicate m none)
  | _, _, .nil => fun o ho => by
    have : some o ∈ List.replicate m (none : Option OV) := by simpa using ho
    exact absurd (List.eq_of_mem_replicate this) (by simp)
  | _, _, .cons a b => fun o ho => by
    rcases List.mem_cons.mp ho with z | z
    · cases z; exact hP _ _ a
    · exact nd_args hP b o z
/-- a body keeps its def's promise -/
theorem body_ok {N ps : List Str} (b : SX K) {vs : List V} {H : Hp} {Q : VK} {E : XK} (h : spF K ps.length (bodyF N.length b) vs H Q E) : b.ts E { nx := fun _ H' => Q .non H', rt := Q } (L2.start N vs) H := by
  obtain ⟨os, S, R, X, h1, h2, h3, h4, h5, h6⟩ := h
  have hl : os.length = vs.length := h3.len
  have r : Rel K H S [] S (L2.start N vs) H (os.map some ++ List.replicate (N.length - os.length) none) := by
    refine ⟨⟨[], ?_, fun b hb => (List.not_mem_nil hb).elim⟩, fun a ha => (List.not_mem_nil ha).elim, fun a ha => (List.not_mem_nil ha).elim, h4, fun b o _ h => h, fun a h => h, fun a ha => (List.not_mem_nil ha).elim, fun a h => .inl h⟩
    unfold L2.start
    rw [hl]
    exact own_args h3
  refine b.ok r (nd_args (fun _ _ h => h.2) h3) h2 ⟨fun A' S' σ' H' env' r' _ _ hr => h5 .non H' _ hr r'.step0 .non, h5, h6, fun _ _ _ _ _ _ _ _ hr => hr.elim, fun _ _ _ _ _ _ _ _ hr => hr.elim⟩
/-! calls -/
def argv (o : OV) : Option OV := match o with
  | .da _ d => some (.da (nrm .fr d) d)
  | .ls xs => (OV.ds xs).map fun ds => .da .fr (.list ds)
  | .fn f => some (.fn f)
  | .st => some .st
  | .sc ws => some (.sc ws)
  | .ns => none
def argsF : List OV → (List OV → Prop) → Prop
  | [], k => k []
  | o :: os, k => match argv o with
    | some o' => argsF os fun os' => k (o' :: os')
    | none => False
/-- what a caller has of what is returned -/
def rc (o : OV) : OV := match o with
  | .da .di d => .da (nrm .di d) d
  | o => o
theorem argv_ok {H0 H1 H2 : Hp} {S0 A S : List Addr} {σ : L2.St} {env : Env} {o o' : OV} {v : V} (c : At K H0 S0 A S σ env H1 H2) (h : VR K H0 A S H1 H2 o v) (e : argv o = some o') : ArgOk K S H2 o' v := by
  have toF : ∀ {d}, Da (fz H0 A S H1 H2 .di) v d → Da (fz H2 [] S H2 H2 (nrm .fr d)) v d := fun {d} D => by
    have : Da (fz H2 [] S H2 H2 .fr) v d := D.mono (ct_ex fun b o hb e => ⟨by simpa [bad] using hb, e⟩)
    exact this.nrm
  rcases h with ⟨rfl, _⟩ | ⟨B, hB, h⟩
  · cases e
  · cases o with
    | da l d =>
      simp only [argv, Option.some.injEq] at e
      subst e
      cases h with
      | da h => exact ⟨.da (toF (h.up c (m := .di) (by cases l <;> decide))), by simp only [OV.nd, decide_eq_true_eq]; exact nrm_nd (by decide)⟩
    | ls xs =>
      simp only [argv, Option.map_eq_some_iff] at e
      obtain ⟨ds, e, rfl⟩ := e
      have : Da (fz H0 A S H1 H2 .di) v (.list ds) := own_d (fun l => fz_up c (by cases l <;> decide)) c.r.dis hB h (by simp only [OV.d, e]; rfl)
      have h2 := toF this
      have en : nrm .fr (.list ds) = .fr := rfl
      rw [en] at h2
      exact ⟨.da h2, rfl⟩
    | fn f => simp only [argv, Option.some.injEq] at e; subst e; cases h; exact ⟨.fn, rfl⟩
    | st => simp only [argv, Option.some.injEq] at e; subst e; cases h with | st h => exact ⟨.st h, rfl⟩
    | ns => cases e
    | sc ws =>
      simp only [argv, Option.some.injEq] at e
      subst e
      cases h with
      | sc h => exact ⟨.sc (Evl.ex_l (ct_ex fun b o hb e => ⟨by simp only [bad, List.not_mem_nil, decide_false, Bool.false_or, Bool.or_eq_false_iff] at hb ⊢; exact hb.2, e⟩) h), rfl⟩
theorem args_ok {H0 H1 H2 : Hp} {S0 A S : List Addr} {σ : L2.St} {env : Env} (c : At K H0 S0 A S σ env H1 H2) : ∀ {os : List OV} {vs : List V} {k : List OV → Prop}, F2 (fun o v => VR K H0 A S H1 H2 o v) os vs → argsF os k → ∃ os', k os' ∧ F2 (ArgOk K S H2) os' vs ∧ os'.length = os.length
  | _, _, _, .nil, h => ⟨[], h, .nil, rfl⟩
  | _, _, k, .cons a b, h => by
    simp only [argsF] at h
    split at h
    · rename_i o' e
      obtain ⟨os', h1, h2, h3⟩ := args_ok c b h
      exact ⟨o' :: os', h1, .cons (argv_ok c a e) h2, by rw [List.length_cons, List.length_cons, h3]⟩
    · exact h.elim
theorem rc_ok {H0 H1 H2 H3 : Hp} {S0 A S : List Addr} {σ : L2.St} {env : Env} {o : OV} {v : V} (c : At K H0 S0 A S σ env H1 H2) (h : RetOk K H2 S H3 o v) : VR K H0 A S H1 H3 (rc o) v := by
  cases o with
  | da l d =>
    cases l with
    | nw =>
      have h : Da (fz H2 [] S H2 H3 .nw) v d := h
      refine .da (h.mono (ct_ex fun b o hb e => ⟨?_, e⟩))
      have hb : ((H2 b).isSome && isLo (H3 b)) = false := hb
      show ((H1 b).isSome && isLo (H3 b)) = false
      cases q : (H1 b).isSome with
      | false => rfl
      | true => rw [c.dom q] at hb; exact hb
    | di =>
      have h : Da (fz H2 [] S H2 H3 .di) v d := h
      have h' : Da (fz H0 A S H1 H3 .di) v d := h.mono (ct_ex fun b o hb e => ⟨hb, e⟩)
      exact .da h'.nrm
    | loc => exact h.elim
    | fr => exact h.elim
  | ns =>
    obtain ⟨a, rfl, n, s⟩ := h
    refine .inl ⟨rfl, a, rfl, ?_, s⟩
    cases q : H1 a with
    | none => rfl
    | some u =>
      have := c.dom (b := a) (by rw [q]; rfl)
      rw [n] at this; cases this
  | _ => exact h.elim
/-- f(..), f raises nothing -/
def xCall (n : Nat) (F : FnW) (a : AX K) : EX K where
  te := fun E => tCall (spF K n F) [] E0 (a.ta E)
  wp := fun env R X => a.wp env (fun os => os.length = n ∧ argsF os fun os' => F os' (fun o => R (rc o)) fun _ => False) X
  ok := fun {E H0 S0 A S σ H env R X} r h hX Q q => a.ok r h hX _ fun vs H2 os hb s2 ho => by
    obtain ⟨hn, hb⟩ := hb
    have c : At K H0 S0 A S σ env H H2 := ⟨r, s2⟩
    obtain ⟨os', h1, h2, h3⟩ := args_ok c ho hb
    show spF K n F (vs ++ []) H2 Q E0
    rw [List.append_nil]
    exact ⟨os', S, _, _, by rw [h3]; exact hn, h1, h2, c.rel.str, fun v H3 o hR s3 hv => q v H3 _ hR (s2.trans s3) (rc_ok c hv), fun C H3 hf _ => hf.elim⟩
/-- f(..), f may raise -/
def xCallX (n : Nat) (F : FnW) (a : AX K) : EX K where
  te := fun E => tCall (spF K n F) [] E (a.ta E)
  wp := fun env R X => a.wp env (fun os => os.length = n ∧ argsF os fun os' => F os' (fun o => R (rc o)) X) X
  ok := fun {E H0 S0 A S σ H env R X} r h hX Q q => a.ok r h hX _ fun vs H2 os hb s2 ho => by
    obtain ⟨hn, hb⟩ := hb
    have c : At K H0 S0 A S σ env H H2 := ⟨r, s2⟩
    obtain ⟨os', h1, h2, h3⟩ := args_ok c ho hb
    show spF K n F (vs ++ []) H2 Q E
    rw [List.append_nil]
    exact ⟨os', S, _, _, by rw [h3]; exact hn, h1, h2, c.rel.str, fun v H3 o hR s3 hv => q v H3 _ hR (s2.trans s3) (rc_ok c hv), fun C H3 hf s3 => hX C H3 hf (s2.trans s3)⟩
/-- x(..), x a name that holds a def -/
def xCallL (i : Nat) (f : Addr) (n : Nat) (F : FnW) (a : AX K) : EX K where
  te := fun E => tCallL i f (spF K n F) [] E0 (a.ta E)
  wp := fun env R X => (∃ g, env[i]? = some (some (.fn g)) ∧ g = f) ∧ a.wp env (fun os => os.length = n ∧ argsF os fun os' => F os' (fun o => R (rc o)) fun _ => False) X
  ok := fun {E H0 S0 A S σ H env R X} r h hX Q q => by
    obtain ⟨⟨g, hg, rfl⟩, h⟩ := h
    refine ⟨?_, a.ok r h hX _ fun vs H2 os hb s2 ho => ?_⟩
    · obtain ⟨B, h1, _⟩ := r.own
      obtain ⟨v, B', h2, h3, _⟩ := h1.at' hg
      cases h3
      exact h2
    · obtain ⟨hn, hb⟩ := hb
      have c : At K H0 S0 A S σ env H H2 := ⟨r, s2⟩
      obtain ⟨os', h1, h2, h3⟩ := args_ok c ho hb
      show spF K n F (vs ++ []) H2 Q E0
      rw [List.append_nil]
      exact ⟨os', S, _, _, by rw [h3]; exact hn, h1, h2, c.rel.str, fun v H3 o hR s3 hv => q v H3 _ hR (s2.trans s3) (rc_ok c hv), fun C H3 hf _ => hf.elim⟩
def xFn (f : Addr) : EX K where
  te := fun _ => tC (.ref f)
  wp := fun _ R _ => R (.fn f)
  ok := fun {E H0 S0 A S σ H env R X} r h _ Q q => q (.ref f) H _ h (.refl S H) (.inr ⟨[], fun b hb => (List.not_mem_nil hb).elim, .fn⟩)
end
/-! ### what every law draws -/
def FNext : FnW := fun os R _ => match os with
  | [.st, .da _ (.int n)] => 0 < n ∧ n < 2 ^ 200 ∧ ∀ d : Int, 0 ≤ d → d < n → R (.da .nw (.int d))
  | _ => False
def FStream : FnW := fun os R _ => match os with
  | [.da _ (.int _)] => R .ns
  | _ => False
def FCell : FnW := fun os R _ => match os with
  | [.sc _, .da _ (.int k)] => 0 ≤ k ∧ ∀ c : Int, R (.da .nw (.int c))
  | _ => False
/-! ### a def of the top, a class of errors -/
structure D1 (K : PySem.W.Frag) (mg : Str → Option Value) (x : Str) (st : Stmt) (ps : List Str) where
  f : Addr
  fd : FuncData
  F : Fun K x x st f fd
  g : mg x = some (.ref f)
  b : Binds K fd ps []
def D1.mk' {K : PySem.W.Frag} {h : Heap} {mg : Str → Option Value} (X : K.In h) (G : h.Ns mainGlobals mg) {x : Str} {st : Stmt} {ps : List Str} {f : Addr} {oc : Value} {od an : Option Addr} {osl : Array (Option Value)} {kV doc pm cdv ct : Value}
    (a : PySem.W.nsIn K mainGlobals x = some (some (.ref f))) (l : K.lookup f = some ⟨oc, od, .func (PySem.W.fnOf x x (defArgs st) (defBody st) (defScope st) .none kV doc pm an cdv ct), osl⟩) (c : PySem.W.codeIn K cdv x = true) (k : PySem.W.keepIn K (.ref f) = true)
    (hb : ∀ (kV doc pm : Value) (an : Option Addr) (cdv ct : Value) (us : List Value), us.length = ps.length → bindArgs (PySem.W.fnOf x x (defArgs st) (defBody st) (defScope st) .none kV doc pm an cdv ct) ⟨us, []⟩ = pure (ps.zip us)) : D1 K mg x st ps :=
  ⟨f, _, fun_mk l c k, PySem.W.mg_of X G a, (fun_mk l c k).binds hb⟩
structure ErrC (K : PySem.W.Frag) (mg : Str → Option Value) (x : Str) where
  C : Addr
  g : mg x = some (.ref C)
  x : PySem.W.excIn K C [.type "ValueError", .type "Exception", .type "BaseException", .type "object"] "ValueError.__new__" = true
  k : PySem.W.keepIn K (.ref C) = true
  b : PySem.W.subIn K (.ref C) (.type "BaseException") = some true
  t : PySem.W.typeIn K (.ref C) = some (.type "type")
  e : PySem.W.exmOne K (.ref C) (.ref C) = some true
  hg : PySem.W.findIn K (.ref C) "__getattribute__" = some (some (.builtin "BaseException.__getattribute__"))
  hk : PySem.W.findIn K (.ref C) "__getattr__" = some none
  hd : PySem.W.hasDictIn K C = true
  ha : PySem.W.findIn K (.ref C) "__class__" = some (some (.builtin "object.__class__"))
  hn : PySem.W.specialIn K (.builtin "object.__class__") "__get__" = some (some (.builtin "getset_descriptor.__get__"))
  ht : PySem.W.takesIn K (.builtin "object.__class__") = some true
  hm : PySem.W.mroIn K C (.type "object") = some true
  kv : PySem.W.kitOne K (.ref C) (.type "ValueError") = some true
theorem ErrC.c {K : PySem.W.Frag} {mg : Str → Option Value} {x : Str} (e : ErrC K mg x) : ExcC K e.C := ⟨e.hg, e.hk, e.b, e.hd, e.ha, e.hn, e.ht, e.hm⟩
theorem hr65 {k : Nat} {A : Around} (hr : Room k A) : A.units + 65 < cLine := by
  have := hr.un
  omega
theorem pss_when {X : Cx} {p : Prop} {body : List Stmt} {t : TS} (h : p → PSs X body t) : PSs X body (fun D σ H => p ∧ t D σ H) := ⟨fun pins s σ H D I hh => (h hh.1).run pins s σ H D I hh.2⟩
theorem exm_self {K : PySem.W.Frag} {S : Addr} (h1 : PySem.W.subIn K (.ref S) (.type "BaseException") = some true) (h2 : PySem.W.isClsIn K S = true) (h3 : PySem.W.typeIn K (.ref S) = some (.type "type")) (h4 : PySem.W.subIn K (.ref S) (.ref S) = some true) :
    PySem.W.exmOne K (.ref S) (.ref S) = some true := by
  have e1 : (PySem.W.subIn K (.ref S) (.type "BaseException") == some true) = true := by rw [h1] <;> rfl
  have e2 : ((PySem.W.clsIn K S).isSome && PySem.W.typeIn K (.ref S) == some (.type "type")) = true := by
    have h2' : (PySem.W.clsIn K S).isSome = true := h2
    rw [h2', h3] <;> rfl
  show (if (PySem.W.subIn K (.ref S) (.type "BaseException") == some true) = true then (if ((PySem.W.clsIn K S).isSome && PySem.W.typeIn K (.ref S) == some (.type "type")) = true then PySem.W.subIn K (.ref S) (.ref S) else none) else none) = some true
  rw [if_pos e1, if_pos e2]
  exact h4
theorem kit_sub {K : PySem.W.Frag} {A B : Addr} {r : Bool} (n : (Value.ref A == Value.ref B) = false) (h : PySem.W.subIn K (.ref A) (.ref B) = some r) (i : PySem.W.isClsIn K B = true) (t : PySem.W.typeIn K (.ref B) = some (.type "type")) : PySem.W.kitOne K (.ref A) (.ref B) = some r := by
  unfold PySem.W.kitOne
  rw [n, if_neg Bool.false_ne_true]
  show (if ((PySem.W.clsIn K B).isSome && PySem.W.typeIn K (.ref B) == some (.type "type")) = true then PySem.W.subIn K (.ref A) (.ref B) else none) = some r
  have i' : (PySem.W.clsIn K B).isSome = true := i
  rw [i', t]
  exact h
theorem kit_val {K : PySem.W.Frag} {A : Addr} (h : PySem.W.subIn K (.ref A) (.type "ValueError") = some true) : PySem.W.kitOne K (.ref A) (.type "ValueError") = some true := by
  unfold PySem.W.kitOne
  rw [show (Value.ref A == Value.type "ValueError") = false from rfl, if_neg Bool.false_ne_true]
  show (if PySem.W.kitMeta "ValueError" = true then PySem.W.subIn K (.ref A) (.type "ValueError") else none) = some true
  rw [if_pos (by decide +kernel)]
  exact h
/-! ### three rules more: an item for xs[i] += e, sorted of a tuple, a tuple read backwards -/
section
variable {X : Cx}
def rGetL (K : PySem.W.Frag) : V → V → Hp → VK → Prop := fun x y H Q => ∃ (p : Addr) (xs : List V) (j : Nat) (v : V), x = .ref p ∧ y = .int (j : Int) ∧ SqL K H p xs ∧ xs[j]? = some v ∧ Q v H
theorem get_list : PGet X (rGetL X.K) := by
  intro pins s σ H o i ov iv Q I r1 r2 h
  obtain ⟨p, xs, j, v, rfl, rfl, hs, hv, q⟩ := h
  cases r1
  obtain ⟨t, rfl⟩ := r2
  obtain ⟨its, r, pl, hz⟩ := I.list hs
  obtain ⟨w, ew, rw'⟩ := r.get hv
  have hl := r.length
  have hn := line63
  have hj : j < xs.length := (List.getElem?_eq_some_iff.mp hv).1
  exact wpAny_getItem_list pl.isList (by omega) (by omega) (by rw [Int.toNat_natCast]; simpa using ew) ⟨v, H, I, rw', q⟩
theorem cr_sortedTu : CallR X (.builtin "sorted") (rSortedTu X.K) := by
  intro pins s σ H vs us Q I r h
  obtain ⟨a, ns, rfl, hs, q⟩ := h
  obtain ⟨its, rv, pl, hz⟩ := I.tuple hs
  rw [Vals.ref1 r]
  have hi := rv.ints
  have hlen := rv.length
  obtain ⟨o, ho, hc, n, hd⟩ := pl
  refine Calls.call_function_entry kind_sorted plain_sorted entry_sorted (args_sorted1 _) ?_
  unfold Builtin.«sorted»
  refine wpAny_bind (m := checkCount "sorted" 1 1 _) (wpAny_pure ?_)
  refine wpAny_bind (wpAny_collect_seq a (.inr rfl) ho hc hd (fun h' hk => ?_) (by rw [List.size_toArray, ← hlen]; exact hz))
  have I2 : Inv X pins σ H { s with heap := h' } := I.kept (t' := s.toks) hk
  refine wpAny_bind (wpAny_newList ?_ (by rw [← hlen]; exact hz))
  have hoL : (h'.push (seqObj "list" its.toArray 0)).get? h'.objs.size = some (seqObj "list" its.toArray 0) := Heap.get?_push_size _ rfl
  refine wpAny_bind (wpAny_holding (wpAny_call_entry slot_list_sort ⟨_, hoL, rfl⟩ entry_list_sort (SrtO.list_sort_ord SrtO.swo_int hoL (by rw [← hlen]; exact hz) (fun h2 => SrtO.ints_sortable hi h2) fun out h1 h2 => ⟨_, rfl, ?_⟩) (args_list_sort _)))
  refine wpAny_pure ⟨_, rfl, ?_⟩
  obtain ⟨k1, k2, k3⟩ := SrtO.ints_out hi h1 h2
  obtain ⟨ep, he'⟩ := PyProof.Rows.sortedHeap_at (out := out.toArray) hoL
  have hlen : ((out.map SrtO.iv).map V.int).length ≤ sizeLine := by
    rw [List.length_map, k2.length_eq]
    rw [List.length_map] at hz
    exact hz
  refine ⟨.ref _, upd H h'.objs.size (.lst ((out.map SrtO.iv).map V.int)), I2.laid (t' := s.toks) (fun b o e => ?_) (Nat.le_refl _) ⟨hlen, out, ep, vals_of_ints k1, he'⟩, rfl, q _ _ k2 k3 (I2.hok.fresh (Nat.le_refl _))⟩
  have hb : b < h'.objs.size := Heap.lt_size e
  rw [PyProof.Rows.sortedHeap_old (Nat.ne_of_lt hb) (by rw [size_push']; exact Nat.lt_succ_of_lt hb)]
  exact Heap.get?_push_of_some _ e
end
section
variable {prog : Program} {w : World} {A : Around} {E : Value → Shared → Prop} {s : Shared}
open HT in
theorem sliceApplied_rev {sl : Addr} {t : Tok} {n : Nat} {Q : Int × Int × Nat → Shared → Prop} (hs : s.heap.IsSliceOf sl .none .none (.int (-1) t)) (h : Q ((n : Int) - 1, -1, n) s) : wpAny (model prog w) A (Builtin.Slice.sliceApplied (.ref sl) (pure (n : Int))) Q E s := by
  obtain ⟨os, hos, hcs, hds⟩ := id hs
  unfold Builtin.Slice.sliceApplied Builtin.Slice.sliceFields
  refine wpAny_bind (wpAny_bind (wpAny_field hos hds (x := .none) rfl (wpAny_bind (wpAny_field hos hds (x := .none) rfl (wpAny_bind (wpAny_field hos hds (x := .int (-1) t) rfl (wpAny_pure ?_)))))))
  refine wpAny_bind (slicePart_int ?_)
  show wpAny _ _ (if ((-1 : Int) == 0) = true then _ else _) _ _ s
  rw [if_neg (by decide)]
  refine wpAny_bind (slicePart_none (wpAny_bind (slicePart_none (wpAny_bind (wpAny_pure ?_)))))
  show wpAny _ _ (match Builtin.Slice.sliceAdjust none none (-1) (n : Int) with | (lo, hi) => pure (lo, (-1 : Int), Builtin.Slice.slicePlaces lo hi (-1))) _ _ s
  have ha : Builtin.Slice.sliceAdjust none none (-1) (n : Int) = ((n : Int) - 1, -1) := rfl
  rw [ha]
  show wpAny _ _ (pure ((n : Int) - 1, (-1 : Int), Builtin.Slice.slicePlaces ((n : Int) - 1) (-1) (-1))) _ _ s
  have hp : Builtin.Slice.slicePlaces ((n : Int) - 1) (-1) (-1) = n := by
    unfold Builtin.Slice.slicePlaces
    rw [if_neg (by decide)]
    by_cases c : (n : Int) - 1 > -1
    · rw [if_pos c]
      have : ((n : Int) - 1 - -1 - 1) / (- -1) + 1 = (n : Int) := by
        rw [show (- -1 : Int) = 1 by decide, Int.ediv_one]
        omega
      rw [this, Int.toNat_natCast]
    · rw [if_neg c]
      omega
  rw [hp]
  exact wpAny_pure h
theorem pick_rev (xs : Array Value) : ((List.range xs.size).filterMap fun (m : Nat) => xs[((xs.size : Int) - 1 + (m : Int) * (-1)).toNat]?).toArray = xs.toList.reverse.toArray := by
  have hk : ∀ k, k ≤ xs.size → (List.range k).filterMap (fun (m : Nat) => xs[((xs.size : Int) - 1 + (m : Int) * (-1)).toNat]?) = xs.toList.reverse.take k := fun k => by
    induction k with
    | zero => intro _; simp
    | succ k ih =>
      intro hk
      have e : ((xs.size : Int) - 1 + (k : Int) * (-1)).toNat = xs.size - 1 - k := by omega
      have h1 : xs[xs.size - 1 - k]? = some xs[xs.size - 1 - k] := Array.getElem?_eq_getElem (by omega)
      have e2 : [k].filterMap (fun (m : Nat) => xs[((xs.size : Int) - 1 + (m : Int) * (-1)).toNat]?) = [xs[xs.size - 1 - k]] := by
        rw [List.filterMap_cons_some (by rw [e]; exact h1), List.filterMap_nil]
      rw [List.range_succ, List.filterMap_append, ih (by omega), e2, List.take_add_one, List.getElem?_reverse (by rw [Array.length_toList]; omega), Array.length_toList, Array.getElem?_toList, h1]
      rfl
  have h2 := hk xs.size (Nat.le_refl _)
  rw [h2, List.take_of_length_le (by simp)]
theorem getItem_tuple_rev {t sl : Addr} {items : Array Value} {u : Tok} {Q : Value → Shared → Prop} (ht : IsTup s.heap t items) (hs : s.heap.IsSliceOf sl .none .none (.int (-1) u))
    (h : Q (.ref s.heap.objs.size) { s with heap := s.heap.push { cls := .type "tuple", data := .seq items.toList.reverse.toArray } })
    (hsz : items.size ≤ sizeLine) : wpAny (model prog w) A (getItem (.ref t) (.ref sl)) Q E s := by
  have htake : sizeOk (.seq items.toList.reverse.toArray) := by
    show items.toList.reverse.toArray.size ≤ sizeLine
    rw [List.size_toArray, List.length_reverse, Array.length_toList]
    exact hsz
  obtain ⟨os, hos, hcs, hds⟩ := id hs
  have hTs : s.TypeIs (.ref sl) "slice" := ⟨os, hos, hcs⟩
  unfold getItem
  try with_reducible refine wpAny_holding ?_
  first | refine wpAny_bind (wpAny_pure ?_) | skip
  refine wpAny_bind (wpAny_sequenceKey ht.typeIs (by decide) ?_)
  refine wpAny_bind (wpAny_callSpecial?_slot (name := Str.ofString "__getitem__") ht.typeIs PyProof.Rows.slot_tuple_getitem
    (wpAny_call_entry PyProof.Rows.slot_tuple_getitem ht.typeIs entry_tuple_getitem ?_ (args_tuple_getitem _ _)))
  show wpAny _ _ (Builtin.Tuple.tupleItemsOf (.ref t) >>= _) _ _ s
  refine wpAny_bind (PyProof.Rows.tupleItemsOf_ ht ?_)
  refine wpAny_bind (wpAny_typeOf hTs ?_)
  rw [if_pos (by decide)]
  refine wpAny_bind (sliceApplied_rev hs ?_)
  show wpAny _ _ (if (((items.size : Int) - 1) == 0 && (-1 : Int) == 1 && items.size == items.size) = true then _ else _) _ _ s
  rw [if_neg (by intro q; rw [Bool.and_eq_true, Bool.and_eq_true] at q; exact absurd q.1.2 (by decide)), pick_rev]
  first
    | exact wpAny_bind (m := Builtin.Tuple.tupleExact _) (wpAny_newObj_type (wpAny_pure ⟨_, rfl, wpAny_pure h⟩) htake)
    | exact wpAny_bind (m := Builtin.Tuple.tupleExact _) (wpAny_newObj_type (wpAny_bind (wpAny_pure (wpAny_pure ⟨_, rfl, wpAny_pure h⟩))) htake)
    | exact wpAny_bind (wpAny_bind (m := Builtin.Tuple.tupleExact _) (wpAny_newObj_type (wpAny_pure (wpAny_pure ⟨_, rfl, wpAny_pure h⟩)) htake))
    | exact wpAny_bind (wpAny_bind (m := Builtin.Tuple.tupleExact _) (wpAny_newObj_type (wpAny_pure ⟨_, rfl, wpAny_pure h⟩) htake))
end
section
variable {X : Cx}
def tRevT (K : PySem.W.Frag) (te : TE) : TE := fun σ H Q => te σ H fun x H1 => ∃ a xs, x = .ref a ∧ SqT K H1 a xs ∧ ∀ p, H1 p = none → Q (.ref p) (upd H1 p (.tup xs.reverse))
theorem pe_revT {e : Expr} {te : TE} {k : Nat} {p1 p2 p3 pos : Pos} (he : PE X e te) : PE X (.Subscript e (.Slice none none (some (.UnaryOp .USub (.Constant (.int 1) k p1) p2)) p3) pos) (tRevT X.K te) := by
  refine ⟨fun pins s σ H Q I h => ?_⟩
  refine Subscript_ (thn (he.run pins s σ H _ I h) fun v s1 ⟨x, H1, I1, r1, q1⟩ => ?_)
  obtain ⟨a, xs, ex, hx, q⟩ := q1
  subst ex
  cases r1
  have hst : PO X (some (.UnaryOp .USub (.Constant (.int 1) k p1) p2)) (tPart (tUn (rU fun i => .int (-i)) (tC (.int 1)))) := po_some (pe_un un_neg pe_int)
  refine wpAny_Slice (thn (po_none.run pins s1 σ H1 (fun o H2 => o = none ∧ H2 = H1) I1 ⟨rfl, rfl⟩) fun vl s2 ⟨l, H2, I2, pl, el, e2⟩ => ?_)
  subst el e2
  refine thn (po_none.run pins s2 σ H2 (fun o H3 => o = none ∧ H3 = H2) I2 ⟨rfl, rfl⟩) fun vu s3 ⟨u, H3, I3, pu, eu, e3⟩ => ?_
  subst eu e3
  refine thn (hst.run pins s3 σ H3 (fun o H4 => o = some (-1) ∧ H4 = H3) I3 ⟨1, rfl, -1, rfl, rfl, rfl⟩) fun vs s4 ⟨o, H4, I4, ps, eo, e4⟩ => ?_
  subst eo e4
  cases pl
  cases pu
  obtain ⟨tk, rfl⟩ : ∃ tk, vs = .int (-1) tk := by
    cases ps with
    | int _ tk => exact ⟨tk, rfl⟩
  have I5 : L2.Inv X pins σ H4 { s4 with heap := s4.heap.push { cls := .type "slice", data := .fields #[.none, .none, .int (-1) tk] } } := I4.kept (t' := s4.toks) fun b ob q => Heap.get?_push_of_some _ q
  obtain ⟨its, r, ht, hz⟩ := I5.tuple hx
  have hlen := r.length
  show wpAny (model X.prog X.w) X.A (subscriptTail e (.Slice none none (some (.UnaryOp .USub (.Constant (.int 1) k p1) p2)) p3) (.ref a) (.ref s4.heap.objs.size)) (EP X pins σ Q) X.xe { s4 with heap := s4.heap.push { cls := .type "slice", data := .fields #[.none, .none, .int (-1) tk] } }
  refine tail_any (ops := [.ref a, .ref s4.heap.objs.size]) ht.typeIs (PyProof.Rows.slot_tuple_getitem.lookup) ?_ (by with_unfolding_all rfl)
  refine getItem_tuple_rev ht (Heap.IsSliceOf.new _ .none .none (.int (-1) tk)) ?_ (by rw [List.size_toArray]; omega)
  refine ⟨.ref _, _, I5.laid (t' := s4.toks) (o := .tup xs.reverse) (fun b ob q => Heap.get?_push_of_some _ q) (Nat.le_refl _) ?_, rfl, q _ (I5.hok.fresh (Nat.le_refl _))⟩
  exact ⟨by rw [List.length_reverse]; exact hz, _, r.reverse, IsTup.new _ _⟩
end
/-! ### what is asked, opened -/
section
variable {K : PySem.W.Frag} {env : Env} {R : OV → Prop} {X : Addr → Prop} {P : Post}
theorem w_var (i : Nat) : (xVar i : EX K).wp env R X = gt env i R := (rfl)
theorem w_int (i : Int) : (xInt i : EX K).wp env R X = R (.da .nw (.int i)) := (rfl)
theorem w_str (i : Str) : (xStr i : EX K).wp env R X = R (.da .nw (.str i)) := (rfl)
theorem w_bl (b : Bool) : (xBl b : EX K).wp env R X = R (.da .nw (.bool b)) := (rfl)
theorem w_none : (xNone : EX K).wp env R X = R (.da .nw .none) := (rfl)
theorem w_op (op : OPX K) (a b : EX K) : (xOp op a b).wp env R X = a.wp env (fun o => b.wp env (fun p => op.f o p R) X) X := (rfl)
theorem w_nil {R : List OV → Prop} : (xNil : AX K).wp env R X = R [] := (rfl)
theorem w_cons {R : List OV → Prop} (a : EX K) (b : AX K) : (xCons a b).wp env R X = a.wp env (fun o => b.wp env (fun os => R (o :: os)) X) X := (rfl)
theorem w_cb (c : CBX K) (a : AX K) : (xCB c a).wp env R X = a.wp env (fun os => c.f os R) X := (rfl)
theorem w_B {R : Bool → Prop} (a : EX K) : (tB' a).wp env R X = a.wp env (fun o => asB o R) X := (rfl)
theorem w_T {R : Bool → Prop} (a : EX K) : (tT' a).wp env R X = a.wp env (fun o => asB o R) X := (rfl)
theorem w_tand {R : Bool → Prop} (a b : TX K) : (tAnd' a b).wp env R X = a.wp env (fun c => if c = true then b.wp env R X else R false) X := (rfl)
theorem w_tor {R : Bool → Prop} (a b : TX K) : (tOr' a b).wp env R X = a.wp env (fun c => if c = true then R true else b.wp env R X) X := (rfl)
theorem w_tnot {R : Bool → Prop} (a : TX K) : (tNot' a).wp env R X = a.wp env (fun c => R (!c)) X := (rfl)
theorem w_tyes {R : Bool → Prop} : (tYes' : TX K).wp env R X = R true := (rfl)
theorem w_and (a b : EX K) : (xAnd a b).wp env R X = a.wp env (fun o => asB o fun c => if c = true then b.wp env R X else R (.da .nw (.bool false))) X := (rfl)
theorem w_or (a b : EX K) : (xOr a b).wp env R X = a.wp env (fun o => asB o fun c => if c = true then R (.da .nw (.bool true)) else b.wp env R X) X := (rfl)
theorem w_not (a : EX K) : (xNot a).wp env R X = a.wp env (fun o => asB o fun c => R (.da .nw (.bool (!c)))) X := (rfl)
theorem w_if (t : TX K) (a b : EX K) : (xIf t a b).wp env R X = t.wp env (fun c => if c = true then a.wp env R X else b.wp env R X) X := (rfl)
theorem w_neg (a : EX K) : (xNeg a).wp env R X = a.wp env (fun o => rd o fun _ d => match d with | .int i => R (.da .nw (.int (-i))) | _ => False) X := (rfl)
theorem w_tup (a : AX K) : (xTup a).wp env R X = a.wp env (fun os => rds os fun l ds => ds.length ≤ 100000 ∧ R (nt l ds)) X := (rfl)
theorem w_lst (a : AX K) : (xLst a).wp env R X = a.wp env (fun os => rds os fun l ds => ds.length ≤ 100000 ∧ R (nl l ds)) X := (rfl)
theorem w_no {R : Option Int → Prop} : (pNo : PX K).wp env R X = R none := (rfl)
theorem w_at {R : Option Int → Prop} (a : EX K) : (pAt a).wp env R X = a.wp env (fun o => rd o fun _ d => match d with | .int i => R (some i) | _ => False) X := (rfl)
theorem w_sl (a : EX K) (lo hi : PX K) : (xSl a lo hi).wp env R X = a.wp env (fun o => lo.wp env (fun i => hi.wp env (fun j => rd o fun l d => match d with
    | .list ds => R (nl l (cutI ds i j))
    | .tuple ds => R (nt l (cutI ds i j))
    | _ => False) X) X) X := (rfl)
theorem w_isi (u : String) (hu) (a : EX K) : (xIsi u hu a).wp env R X = a.wp env (fun o => rd o fun _ d => R (.da .nw (.bool (isiB (tyOf d) u)))) X := (rfl)
theorem w_call (n : Nat) (F : FnW) (a : AX K) : (xCall n F a).wp env R X = a.wp env (fun os => os.length = n ∧ argsF os fun os' => F os' (fun o => R (rc o)) fun _ => False) X := (rfl)
theorem w_callX (n : Nat) (F : FnW) (a : AX K) : (xCallX n F a).wp env R X = a.wp env (fun os => os.length = n ∧ argsF os fun os' => F os' (fun o => R (rc o)) X) X := (rfl)
theorem w_callL (i : Nat) (f : Addr) (n : Nat) (F : FnW) (a : AX K) : (xCallL i f n F a).wp env R X = ((∃ g, env[i]? = some (some (.fn g)) ∧ g = f) ∧ a.wp env (fun os => os.length = n ∧ argsF os fun os' => F os' (fun o => R (rc o)) fun _ => False) X) := (rfl)
theorem w_fn (f : Addr) : (xFn f : EX K).wp env R X = R (.fn f) := (rfl)
theorem w_lrg1 (a : EX K) : (xLRg1 a).wp env R X = a.wp env (fun o => rd o fun _ d => match d with | .int n => RgD 0 n ∧ R (.da .nw (.list (irg 0 n.toNat))) | _ => False) X := (rfl)
theorem w_lrg2 (a b : EX K) : (xLRg2 a b).wp env R X = a.wp env (fun o => b.wp env (fun p => rd2 o p fun _ d e => match d, e with | .int m, .int n => RgD m n ∧ R (.da .nw (.list (irg m (n - m).toNat))) | _, _ => False) X) X := (rfl)
theorem w_lc (src : IX K) (g : GX K) (t : TX K) (e : EX K) (ws : List Nat) (hw) : (xLc src g t e ws hw).wp env R X = src.wp env (fun _ os => os.length ≤ 100000 ∧ lcW g t e (wipeE env ws) X os .nw [] fun l ds => R (nl l ds)) X := (rfl)
theorem w_sq {R : Bool → List OV → Prop} (a : EX K) : (iSq a).wp env R X = a.wp env (fun o => seqF o R) X := (rfl)
theorem w_rg1 {R : Bool → List OV → Prop} (a : EX K) : (iRg1 a).wp env R X = a.wp env (fun o => rd o fun _ d => match d with | .int n => (-1000000 ≤ n ∧ n ≤ 1000000) ∧ R true (irgO 0 1 n.toNat) | _ => False) X := (rfl)
theorem w_rg2 {R : Bool → List OV → Prop} (a b : EX K) : (iRg2 a b).wp env R X = a.wp env (fun o => b.wp env (fun p => rd2 o p fun _ d e => match d, e with | .int m, .int n => RgD m n ∧ R true (irgO m 1 (n - m).toNat) | _, _ => False) X) X := (rfl)
theorem w_rgD {R : Bool → List OV → Prop} (a b c : EX K) : (iRgD a b c).wp env R X = a.wp env (fun o => b.wp env (fun p => c.wp env (fun z => rd2 o p fun _ d e => rd z fun _ u => match d, e, u with | .int m, .int n, .int k => k = -1 ∧ RgD m n ∧ R true (irgO m (-1) (m - n).toNat) | _, _, _ => False) X) X) X := (rfl)
theorem w_asg (i : Nat) (e : EX K) : (sAsg i e).wp env P = e.wp env (fun o => asgF o fun o' => P.nx (env.set i (some o'))) P.xc := (rfl)
theorem w_own (i : Nat) (e : EX K) : (sOwn i e).wp env P = e.wp env (fun o => ownF o fun xs => P.nx (env.set i (some (.ls xs)))) P.xc := (rfl)
theorem w_seq (a b : SX K) : (sSeq a b).wp env P = a.wp env ⟨fun env' => b.wp env' P, P.rt, P.xc, P.bk, P.ct⟩ := (rfl)
theorem w_next : (sNext : SX K).wp env P = P.nx env := (rfl)
theorem w_break : (sBreak : SX K).wp env P = P.bk env := (rfl)
theorem w_cont : (sCont : SX K).wp env P = P.ct env := (rfl)
theorem w_sif (t : TX K) (a b : SX K) : (sIf t a b).wp env P = t.wp env (fun z => if z = true then a.wp env P else b.wp env P) P.xc := (rfl)
theorem w_expr (e : EX K) : (sExpr e).wp env P = e.wp env (fun _ => P.nx env) P.xc := (rfl)
theorem w_ret (e : EX K) : (sRet e).wp env P = e.wp env (fun o => retF o P.rt) P.xc := (rfl)
theorem w_retN : (sRetN : SX K).wp env P = P.rt (.da .nw .none) := (rfl)
theorem w_raise (C : Addr) : (sRaise C : SX K).wp env P = P.xc C := (rfl)
theorem w_for (src : IX K) (g : GN K) (body : SX K) : (sFor src g body).wp env P = src.wp env (fun b os => b = true ∧ forW g.toGX body P (os.map relv) env) P.xc := (rfl)
theorem w_while (t : TX K) (body : SX K) : (sWhile t body).wp env P = ∃ m, whW t body P m env := (rfl)
theorem w_app (i : Nat) (e : EX K) : (sAppend i e).wp env P = onLs env i fun xs => e.wp env (fun o => xs.length < 100000 ∧ itemF o fun o' => P.nx (env.set i (some (.ls (xs ++ [o']))))) P.xc := (rfl)
theorem w_tgt (g : GM K) (e : EX K) : (sTgt g e).wp env P = e.wp env (fun o => itemF o fun o' => g.wp o' env P.nx P.xc) P.xc := (rfl)
theorem w_mN (i : Nat) (o : OV) (R : Env → Prop) : (mN i : GM K).wp o env R X = R (env.set i (some o)) := (rfl)
theorem w_mSub (i : Nat) (j : EX K) (o : OV) (R : Env → Prop) : (mSub i j).wp o env R X = onLs env i fun xs => j.wp env (fun q => rd q fun _ d => match d with
    | .int z => match ixN xs.length z with
      | some k => R (env.set i (some (.ls (xs.set k o))))
      | none => False
    | _ => False) X := (rfl)
theorem w_mT (n : Nat) (gs : GMs K) (o : OV) (R : Env → Prop) : (mT n gs).wp o env R X = match o with
    | .da .fr (.tuple ds) => ds.length = n ∧ gs.wp .fr ds env R X
    | .da _ (.tuple ds) => ds.length = n ∧ gs.wp .loc ds env R X
    | _ => False := (rfl)
theorem w_mNil (l : Lv) (R : Env → Prop) : (mNil : GMs K).wp l [] env R X = R env := (rfl)
theorem w_mCons (g : GM K) (gs : GMs K) (l : Lv) (d : PyData) (ds : List PyData) (R : Env → Prop) : (mCons g gs).wp l (d :: ds) env R X = g.wp (mk l d) env (fun env' => gs.wp l ds env' R X) X := (rfl)
theorem w_gN (i : Nat) (o : OV) (R : Env → Prop) : (gN i : GX K).wp o env R = R (env.set i (some o)) := (rfl)
theorem w_nN (i : Nat) (o : OV) (R : Env → Prop) : (nN i : GN K).toGX.wp o env R = R (env.set i (some o)) := (rfl)
/-! operators -/
theorem f_plus {o p : OV} : (oPlus : OPX K).f o p R = rd2 o p fun l d e => match d, e with
    | .int i, .int j => R (.da .nw (.int (i + j)))
    | .list a, .list b => a.length + b.length ≤ 100000 ∧ R (nl l (a ++ b))
    | .tuple a, .tuple b => a.length + b.length ≤ 100000 ∧ R (nt l (a ++ b))
    | _, _ => False := (rfl)
theorem f_times {o p : OV} : (oTimes : OPX K).f o p R = rd2 o p fun l d e => match d, e with
    | .int i, .int j => CMul i j ∧ R (.da .nw (.int (i * j)))
    | .list a, .int k => (-(2 ^ 63) ≤ k ∧ k < 2 ^ 63 ∧ a.length * k.toNat ≤ 100000) ∧ R (nl l (List.replicate k.toNat a).flatten)
    | _, _ => False := (rfl)
theorem f_I {C : Int → Int → Prop} {g : Int → Int → Int} {o p : OV} : (oI C g : OPX K).f o p R = rd2 o p fun _ d e => match d, e with
    | .int i, .int j => C i j ∧ R (.da .nw (.int (g i j)))
    | _, _ => False := (rfl)
theorem f_I0 {g : Int → Int → Int} {o p : OV} : (oI0 g : OPX K).f o p R = rd2 o p fun _ d e => match d, e with
    | .int i, .int j => R (.da .nw (.int (g i j)))
    | _, _ => False := (rfl)
theorem f_B0 {g : Int → Int → Bool} {o p : OV} : (oB0 g : OPX K).f o p R = rd2 o p fun _ d e => match d, e with
    | .int i, .int j => R (.da .nw (.bool (g i j)))
    | _, _ => False := (rfl)
theorem f_eq {o p : OV} : (oEq : OPX K).f o p R = rd2 o p fun _ d e => SeqAt.shaped d = true ∧ SeqAt.shaped e = true ∧ R (.da .nw (.bool (PyData.eqv d e))) := (rfl)
theorem f_ne {o p : OV} : (oNe : OPX K).f o p R = rd2 o p fun _ d e => SeqAt.shaped d = true ∧ SeqAt.shaped e = true ∧ R (.da .nw (.bool (!PyData.eqv d e))) := (rfl)
theorem f_is {o p : OV} : (oIs : OPX K).f o p R = rd2 o p fun _ d e => match e with
    | .none => R (.da .nw (.bool (isN d)))
    | _ => False := (rfl)
theorem f_isNot {o p : OV} : (oIsNot : OPX K).f o p R = rd2 o p fun _ d e => match e with
    | .none => R (.da .nw (.bool (!isN d)))
    | _ => False := (rfl)
theorem f_in {o p : OV} : (oIn : OPX K).f o p R = rd2 o p fun _ d e => match e with
    | .list ds => SeqAt.shaped d = true ∧ SeqAt.shaped (.list ds) = true ∧ R (.da .nw (.bool (ds.any fun z => PyData.eqv z d)))
    | _ => False := (rfl)
theorem f_notIn {o p : OV} : (oNotIn : OPX K).f o p R = rd2 o p fun _ d e => match e with
    | .list ds => SeqAt.shaped d = true ∧ SeqAt.shaped (.list ds) = true ∧ R (.da .nw (.bool (!ds.any fun z => PyData.eqv z d)))
    | _ => False := (rfl)
theorem f_ix {o p : OV} : (oIx : OPX K).f o p R = rd p fun _ e => match e with
    | .int i => ixF o i R
    | _ => False := (rfl)
/-! built-ins -/
theorem f_cb1 {f : OV → (OV → Prop) → Prop} {o : OV} : cb1 f [o] R = f o R := (rfl)
theorem f_len {o : OV} : (bLen : CBX K).f [o] R = lenF o R := (rfl)
theorem f_list {o : OV} : (bList : CBX K).f [o] R = rd o fun l d => match d with | .list ds => R (nl l ds) | .tuple ds => R (nl l ds) | _ => False := (rfl)
theorem f_tuple {o : OV} : (bTuple : CBX K).f [o] R = rd o fun l d => match d with | .list ds => R (nt l ds) | .tuple ds => R (nt l ds) | _ => False := (rfl)
theorem f_sum {o : OV} : (bSum : CBX K).f [o] R = rd o fun _ d => withInts d fun ws => R (.da .nw (.int ws.sum)) := (rfl)
theorem f_max {o : OV} : (bMax : CBX K).f [o] R = rd o fun _ d => withInts d fun ws => 0 < ws.length ∧ ∀ m, m ∈ ws → (∀ y, y ∈ ws → y ≤ m) → R (.da .nw (.int m)) := (rfl)
theorem f_min {o : OV} : (bMin : CBX K).f [o] R = rd o fun _ d => withInts d fun ws => 0 < ws.length ∧ ∀ m, m ∈ ws → (∀ y, y ∈ ws → m ≤ y) → R (.da .nw (.int m)) := (rfl)
theorem f_all {o : OV} : (bAll : CBX K).f [o] R = rd o fun _ d => withBools d fun bs => R (.da .nw (.bool (bs.all id))) := (rfl)
theorem f_any {o : OV} : (bAny : CBX K).f [o] R = rd o fun _ d => withBools d fun bs => R (.da .nw (.bool (bs.any id))) := (rfl)
theorem f_int {o : OV} : (bInt : CBX K).f [o] R = rd o fun _ d => match d with | .int i => R (.da .nw (.int i)) | .bool b => R (.da .nw (.int (if b = true then 1 else 0))) | _ => False := (rfl)
theorem f_abs {o : OV} : (bAbs : CBX K).f [o] R = rd o fun _ d => match d with | .int i => R (.da .nw (.int (if i < 0 then -i else i))) | _ => False := (rfl)
theorem f_sorted {o : OV} : (bSorted : CBX K).f [o] R = rd o fun _ d => withInts2 d fun ws => ∀ ws' : List Int, ws'.Perm ws → ws'.Pairwise (· ≤ ·) → R (.da .nw (.list (ws'.map .int))) := (rfl)
theorem f_min2 {o p : OV} : (bMin2 : CBX K).f [o, p] R = rd2 o p fun _ d e => match d, e with
    | .int i, .int j => R (.da .nw (.int (if j < i then j else i)))
    | _, _ => False := (rfl)
theorem f_max2 {o p : OV} : (bMax2 : CBX K).f [o, p] R = rd2 o p fun _ d e => match d, e with
    | .int i, .int j => R (.da .nw (.int (if j > i then j else i)))
    | _, _ => False := (rfl)
/-! values -/
theorem rd_da {l : Lv} {d : PyData} {k : Lv → PyData → Prop} : rd (.da l d) k = k l d := (rfl)
theorem rd2_da {l m : Lv} {d e : PyData} {k : Lv → PyData → PyData → Prop} : rd2 (.da l d) (.da m e) k = k (l.sup m) d e := (rfl)
theorem rds_nil {k : Lv → List PyData → Prop} : rds [] k = k .nw [] := (rfl)
theorem rds_cons {o : OV} {os : List OV} {k : Lv → List PyData → Prop} : rds (o :: os) k = rd o fun l d => rds os fun m ds => k (l.sup m) (d :: ds) := (rfl)
theorem asB_bool {l : Lv} {b : Bool} {k : Bool → Prop} : asB (.da l (.bool b)) k = k b := (rfl)
theorem gt_of {i : Nat} {o : OV} {k : OV → Prop} (h : env[i]? = some (some o)) : gt env i k = k o := by unfold gt; rw [h]
theorem gt_z {o : OV} {k : OV → Prop} : gt (some o :: env) 0 k = k o := (rfl)
theorem gt_s {x : Option OV} {i : Nat} {k : OV → Prop} : gt (x :: env) (i + 1) k = gt env i k := (rfl)
theorem onLs_z {xs : List OV} {k : List OV → Prop} : onLs (some (.ls xs) :: env) 0 k = k xs := (rfl)
theorem onLs_s {x : Option OV} {i : Nat} {k : List OV → Prop} : onLs (x :: env) (i + 1) k = onLs env i k := (rfl)
theorem keepS_nw {d : PyData} : keepS (.da .nw d) = some (.da (nrm .loc d) d) := (rfl)
theorem keepS_loc {d : PyData} : keepS (.da .loc d) = some (.da .loc d) := (rfl)
theorem keepS_fr {d : PyData} : keepS (.da .fr d) = some (.da .fr d) := (rfl)
theorem keepS_di {d : PyData} : keepS (.da .di d) = if imm d then some (.da .nw d) else none := (rfl)
theorem keepS_fn {f : Addr} : keepS (.fn f) = some (.fn f) := (rfl)
theorem asgF_nw {d : PyData} {k : OV → Prop} : asgF (.da .nw d) k = k (.da (nrm .loc d) d) := (rfl)
theorem asgF_loc {d : PyData} {k : OV → Prop} : asgF (.da .loc d) k = k (.da .loc d) := (rfl)
theorem asgF_fr {d : PyData} {k : OV → Prop} : asgF (.da .fr d) k = k (.da .fr d) := (rfl)
theorem asgF_ns {k : OV → Prop} : asgF .ns k = k .st := (rfl)
theorem asgF_fn {f : Addr} {k : OV → Prop} : asgF (.fn f) k = k (.fn f) := (rfl)
theorem itemF_nw {d : PyData} {k : OV → Prop} : itemF (.da .nw d) k = k (.da (nrm .loc d) d) := (rfl)
theorem itemF_loc {d : PyData} {k : OV → Prop} : itemF (.da .loc d) k = k (.da .loc d) := (rfl)
theorem itemF_fr {d : PyData} {k : OV → Prop} : itemF (.da .fr d) k = k (.da .fr d) := (rfl)
theorem ownF_nw {ds : List PyData} {k : List OV → Prop} : ownF (.da .nw (.list ds)) k = k (ds.map fun d => .da (nrm .loc d) d) := (rfl)
theorem retF_da {l : Lv} {d : PyData} {k : OV → Prop} : retF (.da l d) k = if (decide (l.n ≤ 1) || imm d) = true then k (.da .nw d) else k (.da .di d) := (rfl)
theorem retF_ns {k : OV → Prop} : retF .ns k = k .ns := (rfl)
theorem rc_nw {d : PyData} : rc (.da .nw d) = .da .nw d := (rfl)
theorem rc_di {d : PyData} : rc (.da .di d) = .da (nrm .di d) d := (rfl)
theorem rc_ns : rc .ns = .ns := (rfl)
theorem args_nil {k : List OV → Prop} : argsF [] k = k [] := (rfl)
theorem args_da {l : Lv} {d : PyData} {os : List OV} {k : List OV → Prop} : argsF (.da l d :: os) k = argsF os fun os' => k (.da (nrm .fr d) d :: os') := (rfl)
theorem args_st {os : List OV} {k : List OV → Prop} : argsF (.st :: os) k = argsF os fun os' => k (.st :: os') := (rfl)
theorem args_sc {ws : List Int} {os : List OV} {k : List OV → Prop} : argsF (.sc ws :: os) k = argsF os fun os' => k (.sc ws :: os') := (rfl)
theorem args_fn {f : Addr} {os : List OV} {k : List OV → Prop} : argsF (.fn f :: os) k = argsF os fun os' => k (.fn f :: os') := (rfl)
theorem len_da_l {l : Lv} {ds : List PyData} : lenF (.da l (.list ds)) R = R (.da .nw (.int ds.length)) := (rfl)
theorem len_da_t {l : Lv} {ds : List PyData} : lenF (.da l (.tuple ds)) R = R (.da .nw (.int ds.length)) := (rfl)
theorem len_ls {xs : List OV} : lenF (.ls xs) R = R (.da .nw (.int xs.length)) := (rfl)
theorem len_sc {ws : List Int} : lenF (.sc ws) R = R (.da .nw (.int ws.length)) := (rfl)
theorem ix_ls {xs : List OV} {i : Int} : ixF (.ls xs) i R = match atI xs i with
  | some q => R q
  | none => False := (rfl)
theorem ix_l {l : Lv} {ds : List PyData} {i : Int} : ixF (.da l (.list ds)) i R = itm ds i fun e => R (mk l e) := (rfl)
theorem ix_t {l : Lv} {ds : List PyData} {i : Int} : ixF (.da l (.tuple ds)) i R = itm ds i fun e => R (mk l e) := (rfl)
theorem seq_l {l : Lv} {ds : List PyData} {R : Bool → List OV → Prop} : seqF (.da l (.list ds)) R = R (decide (l ≠ .di)) (ds.map (mk l)) := (rfl)
theorem seq_t {l : Lv} {ds : List PyData} {R : Bool → List OV → Prop} : seqF (.da l (.tuple ds)) R = R (decide (l ≠ .di)) (ds.map (mk l)) := (rfl)
theorem seq_ls {xs : List OV} {R : Bool → List OV → Prop} : seqF (.ls xs) R = R false xs := (rfl)
theorem imm_int {i : Int} : imm (.int i) = true := (rfl)
theorem imm_bool {i : Bool} : imm (.bool i) = true := (rfl)
theorem imm_str {i : Str} : imm (.str i) = true := (rfl)
theorem imm_none : imm .none = true := (rfl)
theorem imm_list {ds : List PyData} : imm (.list ds) = false := by simp [imm]
theorem imm_tuple {ds : List PyData} : imm (.tuple ds) = immAll ds := by simp [imm]
theorem immAll_nil : immAll [] = true := by simp [immAll]
theorem immAll_cons {d : PyData} {ds : List PyData} : immAll (d :: ds) = (imm d && immAll ds) := by simp [immAll]
theorem immAll_map {α : Type} {f : α → PyData} (h : ∀ x, imm (f x) = true) (xs : List α) : immAll (xs.map f) = true := by
  induction xs with
  | nil => exact immAll_nil
  | cons x xs ih => rw [List.map_cons, immAll_cons, h, ih]; rfl
theorem immAll_app {xs ys : List PyData} : immAll (xs ++ ys) = (immAll xs && immAll ys) := by
  induction xs with
  | nil => rw [immAll_nil]; rfl
  | cons x xs ih => rw [List.cons_append, immAll_cons, immAll_cons, ih, Bool.and_assoc]
theorem immAll_ints (ws : List Int) : immAll (ws.map PyData.int) = true := immAll_map (fun _ => imm_int) ws
end
/-! ### loops and comprehensions, told -/
section
variable {K : PySem.W.Frag}
theorem forW_ind {g : GX K} {body : SX K} {P : Post} {os : List OV} {env : Env} (I : Nat → Env → Prop) (h0 : I 0 env)
    (hs : ∀ i o env (N : Env → Prop), os[i]? = some o → I i env → (∀ env', I (i + 1) env' → N env') → g.wp o env fun env' => body.wp env' ⟨N, P.rt, P.xc, P.nx, N⟩) (hd : ∀ env, I os.length env → P.nx env) : forW g body P os env := by
  have h : ∀ n i env, n = os.length - i → i ≤ os.length → I i env → forW g body P (os.drop i) env := fun n => by
    induction n with
    | zero =>
      intro i env hn hi h
      have e : i = os.length := by omega
      subst e
      rw [List.drop_length]
      exact hd env h
    | succ n ih =>
      intro i env hn hi h
      have hlt : i < os.length := by omega
      rw [List.drop_eq_getElem_cons hlt]
      exact hs i _ env _ (List.getElem?_eq_getElem hlt) h fun env' h' => ih (i + 1) env' (by omega) hlt h'
  exact h _ 0 env rfl (Nat.zero_le _) h0
def turnW (g : GX K) (t : TX K) (e : EX K) (env : Env) (X : Addr → Prop) (o : OV) (N1 : Lv → PyData → Prop) (N2 : Prop) : Prop := match keep o with
  | none => False
  | some o' => g.wp o' env fun env' => t.wp env' (fun b => if b = true then e.wp env' (fun r => rd r fun m d => nrm m d ≠ .di ∧ N1 (nrm m d) d) X else N2) X
theorem lcW_ind {g : GX K} {t : TX K} {e : EX K} {env : Env} {X : Addr → Prop} {os : List OV} {k : Lv → List PyData → Prop} (I : Nat → Lv → List PyData → Prop) (h0 : I 0 .nw [])
    (hs : ∀ i o l acc (N1 : Lv → PyData → Prop) (N2 : Prop), os[i]? = some o → I i l acc → (∀ m d, I (i + 1) (l.sup m) (acc ++ [d]) → N1 m d) → (I (i + 1) l acc → N2) → turnW g t e env X o N1 N2) (hd : ∀ l acc, I os.length l acc → k l acc) : lcW g t e env X os .nw [] k := by
  have h : ∀ n i l acc, n = os.length - i → i ≤ os.length → I i l acc → lcW g t e env X (os.drop i) l acc k := fun n => by
    induction n with
    | zero =>
      intro i l acc hn hi h
      have e : i = os.length := by omega
      subst e
      rw [List.drop_length]
      exact hd l acc h
    | succ n ih =>
      intro i l acc hn hi h
      have hlt : i < os.length := by omega
      rw [List.drop_eq_getElem_cons hlt]
      exact hs i _ l acc (fun m d => lcW g t e env X (os.drop (i + 1)) (l.sup m) (acc ++ [d]) k) _ (List.getElem?_eq_getElem hlt) h (fun m d h' => ih (i + 1) _ _ (by omega) hlt h') fun h' => ih (i + 1) _ _ (by omega) hlt h'
  exact h _ 0 _ _ rfl (Nat.zero_le _) h0
/-- the items of xs that pass p, by f -/
theorem lcW_fm {α : Type} {g : GX K} {t : TX K} {e : EX K} {env : Env} {X : Addr → Prop} {k : Lv → List PyData → Prop} (xs : List α) (it : α → OV) (p : α → Bool) (f : α → PyData)
    (hs : ∀ x ∈ xs, ∀ (N1 : Lv → PyData → Prop) (N2 : Prop), (p x = true → N1 .nw (f x)) → (p x = false → N2) → turnW g t e env X (it x) N1 N2) (hk : k .nw ((xs.filter p).map f)) : lcW g t e env X (xs.map it) .nw [] k := by
  refine lcW_ind (fun i l acc => l = .nw ∧ acc = ((xs.take i).filter p).map f) ⟨rfl, rfl⟩ (fun i o l acc N1 N2 hi ⟨hl, ha⟩ h1 h2 => ?_) fun l acc ⟨hl, ha⟩ => ?_
  · subst hl
    rw [List.getElem?_map] at hi
    cases c : xs[i]? with
    | none => rw [c] at hi; cases hi
    | some x =>
      rw [c] at hi
      cases hi
      have e2 : xs.take (i + 1) = xs.take i ++ [x] := by rw [List.take_add_one, c]; rfl
      refine hs x (List.mem_of_getElem? c) N1 N2 (fun hp => h1 .nw (f x) ⟨rfl, ?_⟩) fun hp => h2 ⟨rfl, ?_⟩
      · rw [ha, e2, List.filter_append, List.map_append, List.filter_cons, if_pos hp]
        rfl
      · rw [ha, e2, List.filter_append, List.map_append, List.filter_cons, if_neg (by rw [hp]; exact Bool.false_ne_true)]
        simp
  · subst hl
    rw [List.length_map, List.take_length] at ha
    subst ha
    exact hk
theorem turn_eq {g : GX K} {t : TX K} {e : EX K} {env : Env} {X : Addr → Prop} {o : OV} {N1 : Lv → PyData → Prop} {N2 : Prop} : turnW g t e env X o N1 N2 = match keep o with
  | none => False
  | some o' => g.wp o' env fun env' => t.wp env' (fun b => if b = true then e.wp env' (fun r => rd r fun m d => nrm m d ≠ .di ∧ N1 (nrm m d) d) X else N2) X := (rfl)
theorem keep_nw {d : PyData} : keep (.da .nw d) = some (.da (nrm .loc d) d) := (rfl)
theorem keep_loc {d : PyData} : keep (.da .loc d) = some (.da .loc d) := (rfl)
theorem keep_fr {d : PyData} : keep (.da .fr d) = some (.da .fr d) := (rfl)
theorem keep_di {d : PyData} : keep (.da .di d) = some (.da .di d) := (rfl)
theorem itm_of {ds : List PyData} {i : Int} {j : Nat} {d : PyData} {k : PyData → Prop} (hi : i = (j : Int)) (hj : ds[j]? = some d) (h : k d) : itm ds i k := by
  unfold itm
  rw [hi, atI_nat hj]
  exact h
theorem dW_at {ws : List Int} {j : Nat} (h : j < ws.length) : (ws.map PyData.int)[j]? = some (.int (ws.getD j 0)) := by
  rw [List.getElem?_map, List.getElem?_eq_getElem h, List.getD_eq_getElem?_getD, List.getElem?_eq_getElem h]
  rfl
/-- an int of a list -/
theorem itm_int {ws : List Int} {i : Int} {k : PyData → Prop} (h0 : 0 ≤ i) (h1 : i < ws.length) (h : k (.int (ws.getD i.toNat 0))) : itm (ws.map PyData.int) i k := itm_of (j := i.toNat) (by omega) (dW_at (by omega)) h
end
/-- a list of ints; a tuple; lists of such -/
abbrev dW (ws : List Int) : PyData := .list (ws.map .int)
abbrev dR (ws : List Int) : PyData := .tuple (ws.map .int)
abbrev dF (fs : List (List Int)) : PyData := .list (fs.map dW)
abbrev dT (fs : List (List Int)) : PyData := .tuple (fs.map dR)
/-- the letters that a law draws -/
def Lets (ws : List Int) : Prop := ∀ x ∈ ws, -(10 ^ 30) - 1000 ≤ x ∧ x ≤ 10 ^ 30 + 1000
theorem kinds (k : Int) (h0 : 0 ≤ k) (h1 : k < 6) : ∃ s l : Int, atI [PyData.int 2, .int 3, .int 6, .int 20, .int (10 ^ (15 : Int).toNat), .int (10 ^ (30 : Int).toNat)] k = some (.int s) ∧
    atI [PyData.int 1, .int 1, .int 0, .int (-9), .int (-(10 ^ (14 : Int).toNat)), .int (-(10 ^ (29 : Int).toNat))] k = some (.int l) ∧ 0 < s ∧ l + s ≤ 10 ^ 30 ∧ -(10 ^ 29) ≤ l ∧ s ≤ 10 ^ 30 := by
  have c : k = 0 ∨ k = 1 ∨ k = 2 ∨ k = 3 ∨ k = 4 ∨ k = 5 := by omega
  rcases c with rfl | rfl | rfl | rfl | rfl | rfl <;> exact ⟨_, _, rfl, rfl, by decide, by decide, by decide, by decide⟩
section
variable {K : PySem.W.Frag} {R : OV → Prop} {X : Addr → Prop}
theorem f_next {l : Lv} {n : Int} : FNext [.st, .da l (.int n)] R X = (0 < n ∧ n < 2 ^ 200 ∧ ∀ d : Int, 0 ≤ d → d < n → R (.da .nw (.int d))) := (rfl)
theorem f_stream {l : Lv} {n : Int} : FStream [.da l (.int n)] R X = R .ns := (rfl)
theorem f_cell {ws : List Int} {l : Lv} {n : Int} : FCell [.sc ws, .da l (.int n)] R X = (0 ≤ n ∧ ∀ c : Int, R (.da .nw (.int c))) := (rfl)
theorem sup_nwl {l : Lv} : Lv.nw.sup l = l := by cases l <;> rfl
theorem sup_nwr {l : Lv} : l.sup .nw = l := by cases l <;> rfl
theorem sup_self {l : Lv} : l.sup l = l := by cases l <;> rfl
theorem nrm_int {l : Lv} {i : Int} : nrm l (.int i) = .nw := (rfl)
theorem nrm_bool {l : Lv} {i : Bool} : nrm l (.bool i) = .nw := (rfl)
theorem nrm_str {l : Lv} {i : Str} : nrm l (.str i) = .nw := (rfl)
theorem nrm_none {l : Lv} : nrm l .none = .nw := (rfl)
theorem nrm_list {l : Lv} {ds : List PyData} : nrm l (.list ds) = l := by unfold nrm; rw [imm_list]; rfl
theorem nrm_tuple {l : Lv} {ds : List PyData} : nrm l (.tuple ds) = if immAll ds = true then .nw else l := by unfold nrm; rw [imm_tuple]
theorem nrm_R {l : Lv} {ws : List Int} : nrm l (.tuple (ws.map .int)) = .nw := by rw [nrm_tuple, immAll_ints]; rfl
theorem nrm_nw {d : PyData} : nrm .nw d = .nw := by unfold nrm; split <;> rfl
theorem nl_nw {ds : List PyData} : nl .nw ds = .da .nw (.list ds) := by unfold nl; split <;> rfl
theorem nt_nw {ds : List PyData} : nt .nw ds = .da .nw (.tuple ds) := by unfold nt; split <;> rfl
theorem nl_ints {l : Lv} {ws : List Int} : nl l (ws.map .int) = .da .nw (.list (ws.map .int)) := by unfold nl; rw [immAll_ints]; rfl
theorem nt_ints {l : Lv} {ws : List Int} : nt l (ws.map .int) = .da .nw (.tuple (ws.map .int)) := by unfold nt; rw [immAll_ints]; rfl
theorem mk_def {l : Lv} {d : PyData} : mk l d = .da (nrm l d) d := (rfl)
theorem retF_nw {d : PyData} {k : OV → Prop} : retF (.da .nw d) k = k (.da .nw d) := (rfl)
theorem retF_loc {d : PyData} {k : OV → Prop} : retF (.da .loc d) k = k (.da .nw d) := (rfl)
theorem asgF_int {l : Lv} {i : Int} {k : OV → Prop} (h : k (.da .nw (.int i))) : asgF (.da .nw (.int i)) k := h
theorem c_p14 : CPow 10 14 = True := eq_true ⟨by decide, by decide, by decide⟩
theorem c_p15 : CPow 10 15 = True := eq_true ⟨by decide, by decide, by decide⟩
theorem c_p18 : CPow 10 18 = True := eq_true ⟨by decide, by decide, by decide⟩
theorem c_p29 : CPow 10 29 = True := eq_true ⟨by decide, by decide, by decide⟩
theorem c_p30 : CPow 10 30 = True := eq_true ⟨by decide, by decide, by decide⟩
theorem c_p4 : CPow 10 4 = True := eq_true ⟨by decide, by decide, by decide⟩
theorem OV_ds_nil : OV.ds [] = some [] := by simp [OV.ds]
theorem ds_ints {l : Lv} (ws : List Int) : OV.ds (ws.map fun w => .da l (.int w)) = some (ws.map .int) := by
  induction ws with
  | nil => exact OV_ds_nil
  | cons w ws ih => simp [OV.ds, OV.d, ih]
theorem locs_ints {l : Lv} (ws : List Int) : OV.locs (ws.map fun w => .da l (.int w)) = true := by
  induction ws with
  | nil => simp [OV.locs]
  | cons w ws ih => simp [OV.locs, OV.loc, ih, imm]
theorem rd_lsI {l : Lv} {ws : List Int} {k : Lv → PyData → Prop} : rd (.ls (ws.map fun w => .da l (.int w))) k = k .di (dW ws) := by
  show (match OV.ds (ws.map fun w => .da l (.int w)) with
    | some ds => k .di (.list ds)
    | none => False) = _
  rw [ds_ints]
theorem retF_lsI {l : Lv} {ws : List Int} {k : OV → Prop} : retF (.ls (ws.map fun w => .da l (.int w))) k = k (.da .nw (dW ws)) := by
  show (rd (.ls (ws.map fun w => .da l (.int w))) fun _ d => if (OV.ls (ws.map fun w => .da l (.int w))).loc = true then k (.da .nw d) else k (.da .di d)) = _
  rw [rd_lsI, if_pos (by simp only [OV.loc]; exact locs_ints ws)]
theorem args_lsI {l : Lv} {ws : List Int} {os : List OV} {k : List OV → Prop} : argsF (.ls (ws.map fun w => .da l (.int w)) :: os) k = argsF os fun os' => k (.da .fr (dW ws) :: os') := by
  show (match (OV.ds (ws.map fun w => .da l (.int w))).map fun ds => OV.da .fr (.list ds) with
    | some o' => argsF os fun os' => k (o' :: os')
    | none => False) = _
  rw [ds_ints]
  rfl
end
theorem relv_irg (lo c : Int) (n : Nat) : (irgO lo c n).map relv = irgO lo c n := by
  unfold irgO
  rw [List.map_map]
  rfl
theorem irg_at {lo c : Int} {n i : Nat} {o : OV} (h : (irgO lo c n)[i]? = some o) : i < n ∧ o = .da .nw (.int (lo + (i : Int) * c)) := by
  have hi : i < n := by
    have := (List.getElem?_eq_some_iff.mp h).1
    rw [irgO_len] at this
    exact this
  rw [irgO_at hi] at h
  exact ⟨hi, (Option.some.inj h).symm⟩
theorem eqv_int {i j : Int} : PyData.eqv (.int i) (.int j) = decide (i = j) := by rw [Bool.eq_iff_iff]; simp [PyData.eqv]
theorem eqv_str {i j : Str} : PyData.eqv (.str i) (.str j) = decide (i = j) := by rw [Bool.eq_iff_iff]; simp [PyData.eqv]
theorem shp_int {i : Int} : SeqAt.shaped (.int i) = true := (rfl)
/-- the items of a list of ints that the def changes -/
abbrev oI' (ws : List Int) : List OV := ws.map fun w => .da .nw (.int w)
theorem oI_snoc (ws : List Int) (x : Int) : oI' ws ++ [.da .nw (.int x)] = oI' (ws ++ [x]) := by simp [oI']
theorem oI_set (ws : List Int) (k : Nat) (x : Int) : (oI' ws).set k (.da .nw (.int x)) = oI' (ws.set k x) := by simp [oI', List.map_set]
theorem oI_len (ws : List Int) : (oI' ws).length = ws.length := by simp [oI']
theorem oI_at {ws : List Int} {i : Int} {R : OV → Prop} (h0 : 0 ≤ i) (h1 : i < ws.length) (h : R (.da .nw (.int (ws.getD i.toNat 0)))) : ixF (.ls (oI' ws)) i R := by
  have e : atI (oI' ws) i = some (.da .nw (.int (ws.getD i.toNat 0))) := by
    have : i = ((i.toNat : Nat) : Int) := by omega
    rw [this]
    refine atI_nat ?_
    rw [Int.toNat_natCast, List.getElem?_map, List.getElem?_eq_getElem (by omega), List.getD_eq_getElem?_getD, List.getElem?_eq_getElem (by omega)]
    rfl
  show (match atI (oI' ws) i with
    | some q => R q
    | none => False)
  rw [e]
  exact h
theorem ixN_of {n : Nat} {i : Int} (h0 : 0 ≤ i) (h1 : i < n) : ixN n i = some i.toNat := by
  unfold ixN
  rw [if_pos h0, if_pos h1]
theorem ifd {c : Prop} [Decidable c] {A B : Prop} (h1 : c → A) (h2 : ¬ c → B) : if decide c = true then A else B := by
  by_cases h : c
  · rw [decide_eq_true h, if_pos rfl]; exact h1 h
  · rw [decide_eq_false h, if_neg Bool.false_ne_true]; exact h2 h
theorem ifb {b : Bool} {A B : Prop} (h1 : b = true → A) (h2 : b = false → B) : if b = true then A else B := by
  cases b with
  | true => exact h1 rfl
  | false => exact h2 rfl
/-- where several ways meet -/
theorem cutE {K : PySem.W.Frag} (c : SX K) {P : Post} {G : Prop} (Φ : Env → Prop) (h1 : (∀ env, Φ env → c.wp env P) → G) (h2 : ∀ env, Φ env → c.wp env P) : G := h1 h2
theorem mk_ints {l : Lv} (ws : List Int) : (ws.map PyData.int).map (mk l) = ws.map fun w => .da .nw (.int w) := by
  rw [List.map_map]
  rfl
theorem mk_rows {l : Lv} (fs : List (List Int)) : (fs.map dR).map (mk l) = fs.map fun r => .da .nw (dR r) := by
  rw [List.map_map]
  refine List.map_congr_left fun r _ => ?_
  show OV.da (nrm l (dR r)) (dR r) = _
  rw [nrm_R]
theorem immAll_rows (fs : List (List Int)) : immAll (fs.map dR) = true := immAll_map (fun r => by rw [imm_tuple]; exact immAll_ints r) fs
theorem nl_rows {l : Lv} {fs : List (List Int)} : nl l (fs.map dR) = .da .nw (.list (fs.map dR)) := by unfold nl; rw [immAll_rows]; rfl
theorem nt_rows {l : Lv} {fs : List (List Int)} : nt l (fs.map dR) = .da .nw (dT fs) := by unfold nt; rw [immAll_rows]; rfl
theorem relv_ints (ws : List Int) : (ws.map fun w => OV.da .nw (.int w)).map relv = ws.map fun w => .da .nw (.int w) := by
  rw [List.map_map]
  rfl
theorem relv_rows (fs : List (List Int)) : (fs.map fun r => OV.da .nw (dR r)).map relv = fs.map fun r => .da .nw (dR r) := by
  rw [List.map_map]
  refine List.map_congr_left fun r _ => ?_
  show OV.da (nrm .loc (dR r)) (dR r) = _
  rw [nrm_R]
/-- how many letters are not greater -/
def insRow (r : List Int) (x : Int) : Nat := (r.filter fun y => decide (y ≤ x)).length
theorem insRow_le (r : List Int) (x : Int) : insRow r x ≤ r.length := List.length_filter_le _ _
theorem hw1 {K : PySem.W.Frag} (j : Nat) : ∀ i ∈ (gN j : GX K).ix, i ∈ [j] := fun _ h => h
theorem hwT {K : PySem.W.Frag} (n : Nat) (gs : GsX K) (ws : List Nat) (h : gs.ix = ws) : ∀ i ∈ (gT n gs).ix, i ∈ ws := fun i hi => h ▸ hi
theorem nw_ne {d : PyData} : nrm .nw d ≠ .di := by rw [nrm_nw]; decide
/-! ### data that == tells apart -/
def purN : Nat → PyData → Bool
  | _, .none => true
  | _, .int _ => true
  | _, .str x => PyData.strOk x
  | n + 1, .list xs => xs.all (purN n)
  | n + 1, .tuple xs => xs.all (purN n)
  | _, _ => false
theorem layAll_of : ∀ {xs : List PyData}, (∀ x ∈ xs, x.canLay0 = true) → PyData.canLayAll0 xs = true
  | [], _ => by simp [PyData.canLayAll0]
  | x :: xs, h => by
    simp only [PyData.canLayAll0, Bool.and_eq_true]
    exact ⟨h x List.mem_cons_self, layAll_of fun y hy => h y (List.mem_cons_of_mem _ hy)⟩
theorem depthAll_of {n : Nat} : ∀ {xs : List PyData}, (∀ x ∈ xs, x.depth ≤ n) → PyData.depthAll xs ≤ n
  | [], _ => by simp [PyData.depthAll]
  | x :: xs, h => by
    have h1 := h x List.mem_cons_self
    have h2 := depthAll_of (n := n) (xs := xs) fun y hy => h y (List.mem_cons_of_mem _ hy)
    simp only [PyData.depthAll]
    omega
theorem purN_ok : ∀ (n : Nat) (d : PyData), purN n d = true → d.canLay0 = true ∧ d.depth ≤ n
  | _, .none, _ => by simp [PyData.canLay0, PyData.depth]
  | _, .int _, _ => by simp [PyData.canLay0, PyData.depth]
  | n, .str x, h => by
    have h' : PyData.strOk x = true := by cases n <;> simpa [purN] using h
    simp [PyData.canLay0, PyData.depth, h']
  | n + 1, .list xs, h => by
    have h' : ∀ x ∈ xs, purN n x = true := by simpa [purN] using h
    simp only [PyData.canLay0, PyData.depth]
    exact ⟨layAll_of fun x hx => (purN_ok n x (h' x hx)).1, Nat.succ_le_succ (depthAll_of fun x hx => (purN_ok n x (h' x hx)).2)⟩
  | n + 1, .tuple xs, h => by
    have h' : ∀ x ∈ xs, purN n x = true := by simpa [purN] using h
    simp only [PyData.canLay0, PyData.depth]
    exact ⟨layAll_of fun x hx => (purN_ok n x (h' x hx)).1, Nat.succ_le_succ (depthAll_of fun x hx => (purN_ok n x (h' x hx)).2)⟩
  | 0, .list _, h => by simp [purN] at h
  | 0, .tuple _, h => by simp [purN] at h
  | n, .bool _, h => by cases n <;> simp [purN] at h
  | n, .dict _, h => by cases n <;> simp [purN] at h
theorem purN_shaped {n : Nat} {d : PyData} (h : purN n d = true) (hn : n ≤ 64) : SeqAt.shaped d = true := by
  obtain ⟨a, b⟩ := purN_ok n d h
  show (d.canLay0 && decide (d.depth ≤ 64)) = true
  rw [Bool.and_eq_true]
  exact ⟨a, decide_eq_true (by omega)⟩
theorem eqvAll_iff : ∀ {xs ys : List PyData}, (∀ x ∈ xs, ∀ y ∈ ys, PyData.eqv x y = true → x = y) → PyData.eqvAll xs ys = true → xs = ys
  | [], [], _, _ => rfl
  | [], _ :: _, _, h => by simp [PyData.eqvAll] at h
  | _ :: _, [], _, h => by simp [PyData.eqvAll] at h
  | x :: xs, y :: ys, h, e => by
    simp only [PyData.eqvAll, Bool.and_eq_true] at e
    rw [h x List.mem_cons_self y List.mem_cons_self e.1, eqvAll_iff (fun u hu v hv => h u (List.mem_cons_of_mem _ hu) v (List.mem_cons_of_mem _ hv)) e.2]
theorem purN_inj : ∀ (n m : Nat) (d e : PyData), purN n d = true → purN m e = true → PyData.eqv d e = true → d = e
  | n, m, .none, e, _, h2, q => by cases e <;> simp [PyData.eqv] at q <;> rfl
  | n, m, .int i, e, _, h2, q => by
    cases e with
    | int j => simp [PyData.eqv] at q; rw [q]
    | bool b => cases m <;> simp [purN] at h2
    | _ => simp [PyData.eqv] at q
  | n, m, .str x, e, _, h2, q => by
    cases e with
    | str y => simp [PyData.eqv] at q; rw [q]
    | _ => simp [PyData.eqv] at q
  | n + 1, m, .list xs, e, h1, h2, q => by
    cases e with
    | list ys =>
      cases m with
      | zero => simp [purN] at h2
      | succ m =>
        have h1' : ∀ x ∈ xs, purN n x = true := by simpa [purN] using h1
        have h2' : ∀ x ∈ ys, purN m x = true := by simpa [purN] using h2
        simp only [PyData.eqv] at q
        rw [eqvAll_iff (fun x hx y hy => purN_inj n m x y (h1' x hx) (h2' y hy)) q]
    | _ => simp [PyData.eqv] at q
  | n + 1, m, .tuple xs, e, h1, h2, q => by
    cases e with
    | tuple ys =>
      cases m with
      | zero => simp [purN] at h2
      | succ m =>
        have h1' : ∀ x ∈ xs, purN n x = true := by simpa [purN] using h1
        have h2' : ∀ x ∈ ys, purN m x = true := by simpa [purN] using h2
        simp only [PyData.eqv] at q
        rw [eqvAll_iff (fun x hx y hy => purN_inj n m x y (h1' x hx) (h2' y hy)) q]
    | _ => simp [PyData.eqv] at q
  | 0, _, .list _, _, h, _, _ => by simp [purN] at h
  | 0, _, .tuple _, _, h, _, _ => by simp [purN] at h
  | n, _, .bool _, _, h, _, _ => by cases n <;> simp [purN] at h
  | n, _, .dict _, _, h, _, _ => by cases n <;> simp [purN] at h
theorem purN_eqv {n m : Nat} {d e : PyData} (h1 : purN n d = true) (h2 : purN m e = true) : PyData.eqv d e = true ↔ d = e := by
  refine ⟨purN_inj n m d e h1 h2, fun q => ?_⟩
  subst q
  exact SeqAt.eqv_refl d (purN_ok n d h1).1
theorem pur_ints (n : Nat) (ws : List Int) : (ws.map PyData.int).all (purN n) = true := by
  rw [List.all_map, List.all_eq_true]
  intro x _
  cases n <;> rfl
theorem pur_W (ws : List Int) : purN 1 (dW ws) = true := pur_ints 0 ws
theorem pur_R (ws : List Int) : purN 1 (dR ws) = true := pur_ints 0 ws
theorem pur_F (fs : List (List Int)) : purN 2 (dF fs) = true := by
  show (fs.map dW).all (purN 1) = true
  rw [List.all_map, List.all_eq_true]
  intro x _
  exact pur_W x
theorem pur_T (fs : List (List Int)) : purN 2 (dT fs) = true := by
  show (fs.map dR).all (purN 1) = true
  rw [List.all_map, List.all_eq_true]
  intro x _
  exact pur_R x
theorem map_int_inj {xs ys : List Int} (h : xs.map PyData.int = ys.map PyData.int) : xs = ys := by
  induction xs generalizing ys with
  | nil => cases ys with
    | nil => rfl
    | cons _ _ => cases h
  | cons x xs ih => cases ys with
    | nil => cases h
    | cons y ys =>
      simp only [List.map_cons, List.cons.injEq, PyData.int.injEq] at h
      rw [h.1, ih h.2]
theorem dW_inj {xs ys : List Int} (h : dW xs = dW ys) : xs = ys := map_int_inj (PyData.list.inj h)
theorem dR_inj {xs ys : List Int} (h : dR xs = dR ys) : xs = ys := map_int_inj (PyData.tuple.inj h)
theorem map_inj_of {α β : Type} {f : α → β} (hf : ∀ x y, f x = f y → x = y) : ∀ {xs ys : List α}, xs.map f = ys.map f → xs = ys
  | [], [], _ => rfl
  | [], _ :: _, h => by cases h
  | _ :: _, [], h => by cases h
  | x :: xs, y :: ys, h => by
    simp only [List.map_cons, List.cons.injEq] at h
    rw [hf x y h.1, map_inj_of hf h.2]
theorem dF_inj {xs ys : List (List Int)} (h : dF xs = dF ys) : xs = ys := map_inj_of (fun _ _ => dW_inj) (PyData.list.inj h)
theorem dT_inj {xs ys : List (List Int)} (h : dT xs = dT ys) : xs = ys := map_inj_of (fun _ _ => dR_inj) (PyData.tuple.inj h)


theorem eqv_dec {n m : Nat} {d e : PyData} (h1 : purN n d = true) (h2 : purN m e = true) : PyData.eqv d e = true ↔ d = e := purN_eqv h1 h2
theorem eqv_self {n : Nat} {d : PyData} (h : purN n d = true) : PyData.eqv d d = true := (purN_eqv h h).mpr rfl
theorem eqv_ne {n m : Nat} {d e : PyData} (h1 : purN n d = true) (h2 : purN m e = true) (h : d ≠ e) : PyData.eqv d e = false := by
  cases c : PyData.eqv d e with
  | false => rfl
  | true => exact absurd ((purN_eqv h1 h2).mp c) h
theorem pur_up : ∀ {n m : Nat} {d : PyData}, n ≤ m → purN n d = true → purN m d = true
  | n, m, .none, _, _ => by cases m <;> rfl
  | n, m, .int _, _, _ => by cases m <;> rfl
  | n, m, .str x, _, h => by
    have h' : PyData.strOk x = true := by cases n <;> simpa [purN] using h
    cases m <;> simpa [purN] using h'
  | n + 1, m + 1, .list xs, h, e => by
    have h' : ∀ x ∈ xs, purN n x = true := by simpa [purN] using e
    simp only [purN, List.all_eq_true]
    exact fun x hx => pur_up (by omega) (h' x hx)
  | n + 1, m + 1, .tuple xs, h, e => by
    have h' : ∀ x ∈ xs, purN n x = true := by simpa [purN] using e
    simp only [purN, List.all_eq_true]
    exact fun x hx => pur_up (by omega) (h' x hx)
  | n + 1, 0, _, h, _ => by omega
  | 0, _, .list _, _, h => by simp [purN] at h
  | 0, _, .tuple _, _, h => by simp [purN] at h
  | n, _, .bool _, _, h => by cases n <;> simp [purN] at h
  | n, _, .dict _, _, h => by cases n <;> simp [purN] at h
theorem pur_tup {n : Nat} {ds : List PyData} (h : ∀ d ∈ ds, purN n d = true) : purN (n + 1) (.tuple ds) = true := by
  simp only [purN, List.all_eq_true]
  exact h
theorem pur_lst {n : Nat} {ds : List PyData} (h : ∀ d ∈ ds, purN n d = true) : purN (n + 1) (.list ds) = true := by
  simp only [purN, List.all_eq_true]
  exact h
theorem pur_int {n : Nat} {i : Int} : purN n (.int i) = true := by cases n <;> rfl
theorem pur_none {n : Nat} : purN n .none = true := by cases n <;> rfl
theorem pur_pair {n : Nat} {d e : PyData} (h1 : purN n d = true) (h2 : purN n e = true) : purN (n + 1) (.tuple [d, e]) = true := pur_tup fun x hx => by
  rcases List.mem_cons.mp hx with z | z
  · rw [z]; exact h1
  · rw [List.mem_singleton.mp z]; exact h2
theorem shp {n : Nat} {d : PyData} (h : purN n d = true) (hn : n ≤ 64 := by decide) : SeqAt.shaped d = true := purN_shaped h hn
theorem ifT {c : Bool} {A B : Prop} (hc : c = true) (h : A) : if c = true then A else B := by
  rw [if_pos hc]
  exact h
theorem ifF {c : Bool} {A B : Prop} (hc : c = false) (h : B) : if c = true then A else B := by
  rw [hc, if_neg Bool.false_ne_true]
  exact h
/-! ### the table of a word, made row by row -/
def ins : List (List Int) → Int → List (List Int)
  | [], x => [[x]]
  | r :: rs, x => if insRow r x = r.length then (r ++ [x]) :: rs else r.set (insRow r x) x :: ins rs (r.getD (insRow r x) 0)
def tab (ws : List Int) : List (List Int) := ws.foldl ins []
theorem ins_flat (x : Int) : ∀ (fs : List (List Int)) (x : Int), (ins fs x).flatten.length = fs.flatten.length + 1
  | [], x => rfl
  | r :: rs, x => by
    unfold ins
    split
    · simp
      omega
    · rename_i h
      rw [List.flatten_cons, List.flatten_cons, List.length_append, List.length_append, List.length_set, ins_flat x rs]
      omega
theorem ins_rows (x : Int) : ∀ (fs : List (List Int)) (x : Int), (ins fs x).length ≤ fs.length + 1
  | [], x => by simp [ins]
  | r :: rs, x => by
    unfold ins
    split
    · simp
    · have := ins_rows x rs (r.getD (insRow r x) 0)
      simp only [List.length_cons]
      omega
theorem tab_snoc (ws : List Int) (x : Int) : tab (ws ++ [x]) = ins (tab ws) x := by
  unfold tab
  rw [List.foldl_append]
  rfl
theorem tab_take {ws : List Int} {i : Nat} {x : Int} (h : ws[i]? = some x) : tab (ws.take (i + 1)) = ins (tab (ws.take i)) x := by
  rw [List.take_add_one, h]
  exact tab_snoc _ _
theorem tab_flat (ws : List Int) : (tab ws).flatten.length = ws.length := by
  have h : ∀ n, n ≤ ws.length → (tab (ws.take n)).flatten.length = n := fun n => by
    induction n with
    | zero => intro _; simp [tab]
    | succ n ih =>
      intro hn
      rw [tab_take (List.getElem?_eq_getElem hn), ins_flat 0, ih (by omega)]
  have := h ws.length (Nat.le_refl _)
  rw [List.take_length] at this
  exact this
theorem tab_rows (ws : List Int) : (tab ws).length ≤ ws.length := by
  have h : ∀ n, n ≤ ws.length → (tab (ws.take n)).length ≤ n := fun n => by
    induction n with
    | zero => intro _; simp [tab]
    | succ n ih =>
      intro hn
      rw [tab_take (List.getElem?_eq_getElem hn)]
      have := ins_rows 0 (tab (ws.take n)) ws[n]
      have := ih (by omega)
      omega
  have := h ws.length (Nat.le_refl _)
  rw [List.take_length] at this
  exact this
namespace Old
/-! ### heaps: all but one kept; the stream -/
def Kp (a : Addr) (H H' : Hp) : Prop := ∀ b o, b ≠ a → H b = some o → H' b = some o
theorem Kp.refl (a : Addr) (H : Hp) : Kp a H H := fun _ _ _ h => h
theorem Kp.trans {a : Addr} {H H1 H2 : Hp} (x : Kp a H H1) (y : Kp a H1 H2) : Kp a H H2 := fun b o n h => y b o n (x b o n h)
theorem Kp.upd {a : Addr} {H H1 : Hp} {o : HO} (x : Kp a H H1) : Kp a H (L2.upd H1 a o) := fun b u n h => by
  rw [upd_ne n]
  exact x b u n h
theorem Kp.free {a : Addr} {H H1 : Hp} (x : Kp a H H1) {b : Addr} (n : b ≠ a) (h : H1 b = none) : H b = none := by
  cases e : H b with
  | none => rfl
  | some o =>
    rw [x b o n e] at h
    cases h
theorem Kp.of {a : Addr} {H H1 : Hp} (x : Ex H H1) : Kp a H H1 := fun b o _ h => x b o h
theorem Kp.new {a : Addr} {H H1 : Hp} {p : Addr} {o : HO} (x : Kp a H H1) (np : H1 p = none) : Kp a H (L2.upd H1 p o) := fun b u n h => by
  have h1 := x b u n h
  rw [upd_ne (ne_of_none h1 np)]
  exact h1
/-- an object that the first heap didn't know changes -/
theorem Kp.mut {a : Addr} {H H1 : Hp} {p : Addr} {o : HO} (x : Kp a H H1) (np : H p = none) : Kp a H (L2.upd H1 p o) := fun b u n h => by
  rw [upd_ne (ne_of_none h np)]
  exact x b u n h
theorem Kp.seq {K : PySem.W.Frag} {a : Addr} {H H1 : Hp} (x : Kp a H H1) {p : Addr} {xs : List V} (n : p ≠ a) (h : SqL K H p xs) : SqL K H1 p xs := by
  rcases h with (h | ⟨o, h⟩) | h
  · exact .inl (.inl (x _ _ n h))
  · exact .inl (.inr ⟨o, x _ _ n h⟩)
  · exact .inr h
def Strm (H : Hp) (a : Addr) : Prop := ∃ s0 s1 s2 : Int, H a = some (.lst [.int s0, .int s1, .int s2])
theorem Strm.some {H : Hp} {a : Addr} (h : Strm H a) : ∃ o, H a = some o := by
  obtain ⟨_, _, _, e⟩ := h
  exact ⟨_, e⟩
theorem Strm.ne {H : Hp} {a p : Addr} (h : Strm H a) (np : H p = none) : p ≠ a := fun e => by
  obtain ⟨_, _, _, q⟩ := h
  rw [e, q] at np
  cases np
theorem Strm.new {H : Hp} {a p : Addr} {o : HO} (h : Strm H a) (np : H p = none) : Strm (upd H p o) a := by
  obtain ⟨s0, s1, s2, q⟩ := h
  exact ⟨s0, s1, s2, by rw [upd_ne (ne_of_none q np)]; exact q⟩
theorem Strm.off {H : Hp} {a p : Addr} {o : HO} (h : Strm H a) (n : a ≠ p) : Strm (upd H p o) a := by
  obtain ⟨s0, s1, s2, q⟩ := h
  exact ⟨s0, s1, s2, by rw [upd_ne n]; exact q⟩
theorem Strm.ex {H H' : Hp} {a : Addr} (h : Strm H a) (x : Ex H H') : Strm H' a := by
  obtain ⟨s0, s1, s2, q⟩ := h
  exact ⟨s0, s1, s2, x _ _ q⟩
theorem ifT {c : Bool} {A B : Prop} (hc : c = true) (h : A) : if c = true then A else B := by
  rw [if_pos hc]
  exact h
theorem ifF {c : Bool} {A B : Prop} (hc : c = false) (h : B) : if c = true then A else B := by
  rw [hc, if_neg Bool.false_ne_true]
  exact h
theorem sz {n : Nat} (h : n ≤ 100000) : n ≤ sizeLine := Nat.le_trans h (by decide)
theorem szl {n : Nat} (h : n < 100000) : n < sizeLine := Nat.lt_of_lt_of_le h (by decide)
theorem mapAt {ws : List Int} {j : Nat} {x : Int} (h : ws[j]? = some x) : (ws.map V.int)[j]? = some (.int x) := by
  rw [List.getElem?_map, h]
  rfl
theorem mapAt' {ws : List Int} {j : Nat} {v : V} (h : (ws.map V.int)[j]? = some v) : ∃ x, ws[j]? = some x ∧ v = .int x := by
  rw [List.getElem?_map] at h
  cases e : ws[j]? with
  | none => rw [e] at h; cases h
  | some x => rw [e] at h; exact ⟨x, rfl, (Option.some.inj h).symm⟩
theorem getD_some' {ws : List Int} {i : Nat} (h : i < ws.length) : ws[i]? = some (ws.getD i 0) := by
  rw [List.getD_eq_getElem?_getD, List.getElem?_eq_getElem h]
  rfl
/-! ### data: lists and tuples of ints and texts, at any depth -/
def purN : Nat → PyData → Bool
  | _, .none => true
  | _, .int _ => true
  | _, .str x => PyData.strOk x
  | n + 1, .list xs => xs.all (purN n)
  | n + 1, .tuple xs => xs.all (purN n)
  | _, _ => false
theorem layAll_of : ∀ {xs : List PyData}, (∀ x ∈ xs, x.canLay0 = true) → PyData.canLayAll0 xs = true
  | [], _ => by simp [PyData.canLayAll0]
  | x :: xs, h => by
    simp only [PyData.canLayAll0, Bool.and_eq_true]
    exact ⟨h x List.mem_cons_self, layAll_of fun y hy => h y (List.mem_cons_of_mem _ hy)⟩
theorem depthAll_of {n : Nat} : ∀ {xs : List PyData}, (∀ x ∈ xs, x.depth ≤ n) → PyData.depthAll xs ≤ n
  | [], _ => by simp [PyData.depthAll]
  | x :: xs, h => by
    have h1 := h x List.mem_cons_self
    have h2 := depthAll_of (n := n) (xs := xs) fun y hy => h y (List.mem_cons_of_mem _ hy)
    simp only [PyData.depthAll]
    omega
theorem purN_ok : ∀ (n : Nat) (d : PyData), purN n d = true → d.canLay0 = true ∧ d.depth ≤ n
  | _, .none, _ => by simp [PyData.canLay0, PyData.depth]
  | _, .int _, _ => by simp [PyData.canLay0, PyData.depth]
  | n, .str x, h => by
    have h' : PyData.strOk x = true := by cases n <;> simpa [purN] using h
    simp [PyData.canLay0, PyData.depth, h']
  | n + 1, .list xs, h => by
    have h' : ∀ x ∈ xs, purN n x = true := by simpa [purN] using h
    simp only [PyData.canLay0, PyData.depth]
    exact ⟨layAll_of fun x hx => (purN_ok n x (h' x hx)).1, Nat.succ_le_succ (depthAll_of fun x hx => (purN_ok n x (h' x hx)).2)⟩
  | n + 1, .tuple xs, h => by
    have h' : ∀ x ∈ xs, purN n x = true := by simpa [purN] using h
    simp only [PyData.canLay0, PyData.depth]
    exact ⟨layAll_of fun x hx => (purN_ok n x (h' x hx)).1, Nat.succ_le_succ (depthAll_of fun x hx => (purN_ok n x (h' x hx)).2)⟩
  | 0, .list _, h => by simp [purN] at h
  | 0, .tuple _, h => by simp [purN] at h
  | n, .bool _, h => by cases n <;> simp [purN] at h
  | n, .dict _, h => by cases n <;> simp [purN] at h
theorem purN_shaped {n : Nat} {d : PyData} (h : purN n d = true) (hn : n ≤ 64) : SeqAt.shaped d = true := by
  obtain ⟨a, b⟩ := purN_ok n d h
  show (d.canLay0 && decide (d.depth ≤ 64)) = true
  rw [Bool.and_eq_true]
  exact ⟨a, decide_eq_true (by omega)⟩
theorem eqvAll_iff : ∀ {xs ys : List PyData}, (∀ x ∈ xs, ∀ y ∈ ys, PyData.eqv x y = true → x = y) → PyData.eqvAll xs ys = true → xs = ys
  | [], [], _, _ => rfl
  | [], _ :: _, _, h => by simp [PyData.eqvAll] at h
  | _ :: _, [], _, h => by simp [PyData.eqvAll] at h
  | x :: xs, y :: ys, h, e => by
    simp only [PyData.eqvAll, Bool.and_eq_true] at e
    rw [h x List.mem_cons_self y List.mem_cons_self e.1, eqvAll_iff (fun u hu v hv => h u (List.mem_cons_of_mem _ hu) v (List.mem_cons_of_mem _ hv)) e.2]
theorem purN_inj : ∀ (n m : Nat) (d e : PyData), purN n d = true → purN m e = true → PyData.eqv d e = true → d = e
  | n, m, .none, e, _, h2, q => by cases e <;> simp [PyData.eqv] at q <;> rfl
  | n, m, .int i, e, _, h2, q => by
    cases e with
    | int j => simp [PyData.eqv] at q; rw [q]
    | bool b => cases m <;> simp [purN] at h2
    | _ => simp [PyData.eqv] at q
  | n, m, .str x, e, _, h2, q => by
    cases e with
    | str y => simp [PyData.eqv] at q; rw [q]
    | _ => simp [PyData.eqv] at q
  | n + 1, m, .list xs, e, h1, h2, q => by
    cases e with
    | list ys =>
      cases m with
      | zero => simp [purN] at h2
      | succ m =>
        have h1' : ∀ x ∈ xs, purN n x = true := by simpa [purN] using h1
        have h2' : ∀ x ∈ ys, purN m x = true := by simpa [purN] using h2
        simp only [PyData.eqv] at q
        rw [eqvAll_iff (fun x hx y hy => purN_inj n m x y (h1' x hx) (h2' y hy)) q]
    | _ => simp [PyData.eqv] at q
  | n + 1, m, .tuple xs, e, h1, h2, q => by
    cases e with
    | tuple ys =>
      cases m with
      | zero => simp [purN] at h2
      | succ m =>
        have h1' : ∀ x ∈ xs, purN n x = true := by simpa [purN] using h1
        have h2' : ∀ x ∈ ys, purN m x = true := by simpa [purN] using h2
        simp only [PyData.eqv] at q
        rw [eqvAll_iff (fun x hx y hy => purN_inj n m x y (h1' x hx) (h2' y hy)) q]
    | _ => simp [PyData.eqv] at q
  | 0, _, .list _, _, h, _, _ => by simp [purN] at h
  | 0, _, .tuple _, _, h, _, _ => by simp [purN] at h
  | n, _, .bool _, _, h, _, _ => by cases n <;> simp [purN] at h
  | n, _, .dict _, _, h, _, _ => by cases n <;> simp [purN] at h
theorem purN_eqv {n m : Nat} {d e : PyData} (h1 : purN n d = true) (h2 : purN m e = true) : PyData.eqv d e = true ↔ d = e := by
  refine ⟨purN_inj n m d e h1 h2, fun q => ?_⟩
  subst q
  exact SeqAt.eqv_refl d (purN_ok n d h1).1
/-- a list of ints; of such; a tuple of such -/
abbrev dW (ws : List Int) : PyData := .list (ws.map .int)
abbrev dR (ws : List Int) : PyData := .tuple (ws.map .int)
abbrev dF (fs : List (List Int)) : PyData := .list (fs.map dW)
abbrev dT (fs : List (List Int)) : PyData := .tuple (fs.map dR)
theorem pur_ints (n : Nat) (ws : List Int) : (ws.map PyData.int).all (purN n) = true := by
  rw [List.all_map, List.all_eq_true]
  intro x _
  cases n <;> rfl
theorem pur_W (ws : List Int) : purN 1 (dW ws) = true := pur_ints 0 ws
theorem pur_R (ws : List Int) : purN 1 (dR ws) = true := pur_ints 0 ws
theorem pur_F (fs : List (List Int)) : purN 2 (dF fs) = true := by
  show (fs.map dW).all (purN 1) = true
  rw [List.all_map, List.all_eq_true]
  intro x _
  exact pur_W x
theorem pur_T (fs : List (List Int)) : purN 2 (dT fs) = true := by
  show (fs.map dR).all (purN 1) = true
  rw [List.all_map, List.all_eq_true]
  intro x _
  exact pur_R x
theorem map_int_inj {xs ys : List Int} (h : xs.map PyData.int = ys.map PyData.int) : xs = ys := by
  induction xs generalizing ys with
  | nil => cases ys with
    | nil => rfl
    | cons _ _ => cases h
  | cons x xs ih => cases ys with
    | nil => cases h
    | cons y ys =>
      simp only [List.map_cons, List.cons.injEq, PyData.int.injEq] at h
      rw [h.1, ih h.2]
theorem dW_inj {xs ys : List Int} (h : dW xs = dW ys) : xs = ys := map_int_inj (PyData.list.inj h)
theorem dR_inj {xs ys : List Int} (h : dR xs = dR ys) : xs = ys := map_int_inj (PyData.tuple.inj h)
theorem map_inj_of {α β : Type} {f : α → β} (hf : ∀ x y, f x = f y → x = y) : ∀ {xs ys : List α}, xs.map f = ys.map f → xs = ys
  | [], [], _ => rfl
  | [], _ :: _, h => by cases h
  | _ :: _, [], h => by cases h
  | x :: xs, y :: ys, h => by
    simp only [List.map_cons, List.cons.injEq] at h
    rw [hf x y h.1, map_inj_of hf h.2]
theorem dF_inj {xs ys : List (List Int)} (h : dF xs = dF ys) : xs = ys := map_inj_of (fun _ _ => dW_inj) (PyData.list.inj h)
theorem dT_inj {xs ys : List (List Int)} (h : dT xs = dT ys) : xs = ys := map_inj_of (fun _ _ => dR_inj) (PyData.tuple.inj h)

/-! ### data in the heap -/
section
variable {K : PySem.W.Frag} {H H' : Hp}
mutual
theorem Dp.ex (e : Ex H H') : ∀ (d : PyData) (v : V), Dp K H v d → Dp K H' v d
  | .none, _, h => by cases h; exact .non
  | .bool _, _, h => by cases h; exact .bl _
  | .int _, _, h => by cases h; exact .int _
  | .str _, _, h => by cases h; exact .str _
  | .list ds, _, h => by cases h with | lst hs ha => exact .lst (Evl.ex_l e hs) (DpAll.ex e ds _ ha)
  | .tuple ds, _, h => by cases h with | tup hs ha => exact .tup (Evl.ex_t e hs) (DpAll.ex e ds _ ha)
  | .dict _, _, h => by cases h
theorem DpAll.ex (e : Ex H H') : ∀ (ds : List PyData) (vs : List V), DpAll K H vs ds → DpAll K H' vs ds
  | [], _, h => by cases h; exact .nil
  | d :: ds, _, h => by cases h with | cons a b => exact .cons (Dp.ex e d _ a) (DpAll.ex e ds _ b)
end
theorem _root_.L2.Dp.mono {v : V} {d : PyData} (h : Dp K H v d) (e : Ex H H') : Dp K H' v d := Dp.ex e d v h
theorem _root_.L2.DpAll.mono {vs : List V} {ds : List PyData} (h : DpAll K H vs ds) (e : Ex H H') : DpAll K H' vs ds := DpAll.ex e ds vs h
theorem dp_ints : ∀ ws : List Int, DpAll K H (ws.map V.int) (ws.map PyData.int)
  | [] => .nil
  | w :: ws => .cons (.int w) (dp_ints ws)
theorem dp_ints_inv : ∀ {ws : List Int} {vs : List V}, DpAll K H vs (ws.map PyData.int) → vs = ws.map V.int
  | [], _, h => by cases h; rfl
  | w :: ws, _, h => by
    cases h with
    | cons a b =>
      cases a
      rw [dp_ints_inv b]
      rfl
theorem dp_W {p : Addr} {ws : List Int} (h : SqL K H p (ws.map V.int)) : Dp K H (.ref p) (dW ws) := .lst h (dp_ints ws)
theorem dp_R {p : Addr} {ws : List Int} (h : SqT K H p (ws.map V.int)) : Dp K H (.ref p) (dR ws) := .tup h (dp_ints ws)
theorem dp_W_inv {v : V} {ws : List Int} (h : Dp K H v (dW ws)) : ∃ p, v = .ref p ∧ SqL K H p (ws.map V.int) := by
  cases h with
  | lst hs ha =>
    rw [dp_ints_inv ha] at hs
    exact ⟨_, rfl, hs⟩
theorem dp_R_inv {v : V} {ws : List Int} (h : Dp K H v (dR ws)) : ∃ p, v = .ref p ∧ SqT K H p (ws.map V.int) := by
  cases h with
  | tup hs ha =>
    rw [dp_ints_inv ha] at hs
    exact ⟨_, rfl, hs⟩
theorem dp_len : ∀ {vs : List V} {ds : List PyData}, DpAll K H vs ds → vs.length = ds.length
  | _, _, .nil => rfl
  | _, _, .cons _ b => by rw [List.length_cons, List.length_cons, dp_len b]
theorem dp_at : ∀ {vs : List V} {ds : List PyData} {j : Nat} {v : V}, DpAll K H vs ds → vs[j]? = some v → ∃ d, ds[j]? = some d ∧ Dp K H v d
  | _, _, _, _, .nil, h => by simp at h
  | _, _, 0, _, .cons a _, h => by
    simp only [List.getElem?_cons_zero, Option.some.injEq] at h
    subst h
    exact ⟨_, rfl, a⟩
  | _, _, j + 1, v, .cons _ b, h => by
    rw [List.getElem?_cons_succ] at h
    obtain ⟨d, e, q⟩ := dp_at b h
    exact ⟨d, by rw [List.getElem?_cons_succ]; exact e, q⟩
theorem dp_at' {vs : List V} {ds : List PyData} {j : Nat} {d : PyData} (h : DpAll K H vs ds) (e : ds[j]? = some d) : ∃ v, vs[j]? = some v ∧ Dp K H v d := by
  have hj : j < vs.length := by rw [dp_len h]; exact (List.getElem?_eq_some_iff.mp e).1
  obtain ⟨d', e', q⟩ := dp_at h (List.getElem?_eq_getElem hj)
  rw [e] at e'
  cases e'
  exact ⟨_, List.getElem?_eq_getElem hj, q⟩
theorem dp_snoc : ∀ {vs : List V} {ds : List PyData} {v : V} {d : PyData}, DpAll K H vs ds → Dp K H v d → DpAll K H (vs ++ [v]) (ds ++ [d])
  | _, _, _, _, .nil, h => .cons h .nil
  | _, _, _, _, .cons a b, h => .cons a (dp_snoc b h)
/-- == and != of such data -/
theorem eq_data {x y : V} {d e : PyData} {n m : Nat} {Q : VK} (hx : Dp K H x d) (hy : Dp K H y e) (h1 : purN n d = true) (h2 : purN m e = true) (hn : n ≤ 64) (hm : m ≤ 64) (qt : d = e → Q (.bl true) H) (qf : d ≠ e → Q (.bl false) H) : rEqD K x y H Q := by
  refine ⟨d, e, hx, hy, purN_shaped h1 hn, purN_shaped h2 hm, ?_⟩
  cases c : PyData.eqv d e with
  | true => exact qt ((purN_eqv h1 h2).mp c)
  | false => exact qf fun z => by rw [(purN_eqv h1 h2).mpr z] at c; cases c
theorem ne_data {x y : V} {d e : PyData} {n m : Nat} {Q : VK} (hx : Dp K H x d) (hy : Dp K H y e) (h1 : purN n d = true) (h2 : purN m e = true) (hn : n ≤ 64) (hm : m ≤ 64) (qt : d ≠ e → Q (.bl true) H) (qf : d = e → Q (.bl false) H) : rNeD K x y H Q := by
  refine ⟨d, e, hx, hy, purN_shaped h1 hn, purN_shaped h2 hm, ?_⟩
  cases c : PyData.eqv d e with
  | true => exact qf ((purN_eqv h1 h2).mp c)
  | false => exact qt fun z => by rw [(purN_eqv h1 h2).mpr z] at c; cases c
theorem notIn_data {x y : V} {d : PyData} {ds : List PyData} {n m : Nat} {Q : VK} (hx : Dp K H x d) (hy : Dp K H y (.list ds)) (h1 : purN n d = true) (h2 : purN m (.list ds) = true) (hn : n ≤ 64) (hm : m ≤ 64) (qt : d ∉ ds → Q (.bl true) H) (qf : d ∈ ds → Q (.bl false) H) : rNotInD K x y H Q := by
  refine ⟨d, ds, hx, hy, purN_shaped h1 hn, purN_shaped h2 hm, ?_⟩
  have hz : ∀ z ∈ ds, ∃ k, purN k z = true := fun z hz => by
    cases m with
    | zero => simp [purN] at h2
    | succ m => exact ⟨m, (by simpa [purN] using h2 : ∀ x ∈ ds, purN m x = true) z hz⟩
  cases c : (ds.any fun z => PyData.eqv z d) with
  | true =>
    obtain ⟨z, hm, q⟩ := List.any_eq_true.mp c
    obtain ⟨k, hk⟩ := hz z hm
    exact qf ((purN_eqv hk h1).mp q ▸ hm)
  | false =>
    refine qt fun hd => ?_
    have : (ds.any fun z => PyData.eqv z d) = true := List.any_eq_true.mpr ⟨d, hd, SeqAt.eqv_refl d (purN_ok n d h1).1⟩
    rw [this] at c
    cases c
/-- a heap without one object -/
def wo (a : Addr) (H : Hp) : Hp := fun b => if b = a then none else H b
theorem wo_at {a b : Addr} {o : HO} (h : wo a H b = some o) : b ≠ a ∧ H b = some o := by
  unfold wo at h
  by_cases e : b = a
  · rw [if_pos e] at h
    cases h
  · rw [if_neg e] at h
    exact ⟨e, h⟩
theorem wo_of {a b : Addr} {o : HO} (n : b ≠ a) (h : H b = some o) : wo a H b = some o := by
  unfold wo
  rw [if_neg n]
  exact h
theorem wo_ex (a : Addr) : Ex (wo a H) H := fun b o h => (wo_at h).2
theorem Kp.wo {a : Addr} (x : Kp a H H') : Ex (wo a H) (CP.Old.wo a H') := fun b o h => by
  obtain ⟨n, q⟩ := wo_at h
  exact wo_of n (x b o n q)
theorem ex_wo {a : Addr} (x : Ex H H') : Ex (CP.Old.wo a H) (CP.Old.wo a H') := Kp.wo (Kp.of x)
theorem wo_seq {a p : Addr} {xs : List V} (n : p ≠ a) (h : SqL K H p xs) : SqL K (wo a H) p xs := by
  rcases h with (h | ⟨o, h⟩) | h
  · exact .inl (.inl (wo_of n h))
  · exact .inl (.inr ⟨o, wo_of n h⟩)
  · exact .inr h
end

/-! ### what an expression gives, told as data; B: the heap that the value may lean on besides what is new -/
def via (B H1 H2 : Hp) : Hp := fun b => if (B b).isNone && (H1 b).isSome then none else H2 b
section
variable {B B' H H1 H2 H3 : Hp}
theorem via_le : Ex (via B H1 H2) H2 := fun b o h => by
  unfold via at h
  split at h
  · cases h
  · exact h
theorem via_base (e : Ex B H2) : Ex B (via B H1 H2) := fun b o h => by
  unfold via
  rw [h]
  exact e b o h
theorem via_new {p : Addr} {o : HO} (n : H1 p = none) (h : H2 p = some o) : via B H1 H2 p = some o := by
  unfold via
  rw [n]
  simpa using h
theorem via_up (e : Ex H2 H3) : Ex (via B H1 H2) (via B H1 H3) := fun b o h => by
  unfold via at h ⊢
  split at h
  · cases h
  · rename_i c
    rw [if_neg c]
    exact e b o h
theorem via_down (e : Ex H1 H2) : Ex (via B H2 H3) (via B H1 H3) := fun b o h => by
  unfold via at h ⊢
  split at h
  · cases h
  · rename_i c
    rw [if_neg]
    · exact h
    · intro c2
      apply c
      simp only [Bool.and_eq_true, Option.isNone_iff_eq_none, Option.isSome_iff_exists] at c2 ⊢
      obtain ⟨c3, u, c4⟩ := c2
      exact ⟨c3, u, e b u c4⟩
theorem via_mono (e : Ex B B') : Ex (via B H1 H2) (via B' H1 H2) := fun b o h => by
  unfold via at h ⊢
  split at h
  · cases h
  · rename_i c
    rw [if_neg]
    · exact h
    · intro c2
      apply c
      simp only [Bool.and_eq_true, Option.isNone_iff_eq_none] at c2 ⊢
      refine ⟨?_, c2.2⟩
      cases q : B b with
      | none => rfl
      | some u => rw [e b u q] at c2; cases c2.1
theorem via_self : via H H H2 = H2 := by
  funext b
  unfold via
  cases H b <;> rfl
theorem via_wo {p : Addr} (nB : B p = none) (h : ∃ o, H1 p = some o) : Ex (via B H1 H2) (wo p (via B H1 H2)) := fun b o q => by
  refine wo_of (fun e => ?_) q
  subst e
  obtain ⟨u, hu⟩ := h
  unfold via at q
  rw [nB, hu] at q
  cases q
end
/-- the empty heap; what is new -/
def emp : Hp := fun _ => none
theorem emp_ex {H : Hp} : Ex emp H := fun _ _ h => by cases h
abbrev nw (H H2 : Hp) : Hp := via emp H H2
def EvB (K : PySem.W.Frag) (B : Hp) (te : TE) (σ : L2.St) (H : Hp) (d : PyData) : Prop := ∀ H1, Ex H H1 → ∀ Q : VK, (∀ v H2, Ex H1 H2 → Dp K (via B H1 H2) v d → Q v H2) → te σ H1 Q
def EvA (K : PySem.W.Frag) (B : Hp) (ta : TA) (σ : L2.St) (H : Hp) (ds : List PyData) : Prop := ∀ H1, Ex H H1 → ∀ Q : List V → Hp → Prop, (∀ vs H2, Ex H1 H2 → DpAll K (via B H1 H2) vs ds → Q vs H2) → ta σ H1 Q
def scD : PyData → Bool
  | .list _ => false
  | .tuple _ => false
  | .dict _ => false
  | _ => true
section
variable {K : PySem.W.Frag} {B B' H H' : Hp} {σ : L2.St} {ta tb te : TE} {t u : TT} {x y : V} {d e : PyData}
theorem dp_scal (hs : scD d = true) (h : Dp K H x d) : Dp K H' x d := by
  cases h with
  | non => exact .non
  | bl b => exact .bl b
  | int i => exact .int i
  | str s => exact .str s
  | lst _ _ => cases hs
  | tup _ _ => cases hs
theorem EvB.mono (h : EvB K B te σ H d) (e : Ex H H') : EvB K B te σ H' d := fun H1 a Q q => h H1 (e.trans a) Q q
theorem EvB.base (h : EvB K B te σ H d) (e : Ex B B') : EvB K B' te σ H d := fun H1 a Q q => h H1 a Q fun v H2 e2 hv => q v H2 e2 (hv.mono (via_mono e))
theorem EvB.scal (h : EvB K B te σ H d) (hs : scD d = true) : EvB K B' te σ H d := fun H1 a Q q => h H1 a Q fun v H2 e2 hv => q v H2 e2 (dp_scal hs hv)
theorem EvB.is (h : EvB K B te σ H d) (q : d = e) : EvB K B te σ H e := q ▸ h
theorem evb_run {Q : VK} (h : EvB K B te σ H d) (hB : Ex B H) (q : ∀ v H1, Ex H H1 → Dp K H1 v d → Dp K (via B H H1) v d → Q v H1) : te σ H Q := h H (Ex.refl H) Q fun v H2 e hv => q v H2 e (hv.mono via_le) hv
theorem evb_var {i : Nat} (h : σ[i]? = some (some x)) (hd : Dp K B x d) (hB : Ex B H) : EvB K B (tVar i) σ H d := fun H1 e _ q => ⟨x, h, q _ H1 (Ex.refl H1) (hd.mono (via_base (hB.trans e)))⟩
/-- a slot that holds data of the heap as it stands -/
theorem evb_v {i : Nat} (h : σ[i]? = some (some x)) (hd : Dp K H x d) : EvB K H (tVar i) σ H d := evb_var h hd (Ex.refl H)
theorem evb_sv {i : Nat} (h : σ[i]? = some (some x)) (hd : Dp K H x d) (hs : scD d = true) : EvB K B (tVar i) σ H d := (evb_v h hd).scal hs
theorem evb_int {i : Int} : EvB K B (tC (.int i)) σ H (.int i) := fun H1 _ _ q => q _ H1 (Ex.refl H1) (.int i)
theorem evb_str {s : Str} : EvB K B (tC (.str s)) σ H (.str s) := fun H1 _ _ q => q _ H1 (Ex.refl H1) (.str s)
theorem evb_bl {b : Bool} : EvB K B (tC (.bl b)) σ H (.bool b) := fun H1 _ _ q => q _ H1 (Ex.refl H1) (.bl b)
theorem evb_non : EvB K B (tC .non) σ H .none := fun H1 _ _ q => q _ H1 (Ex.refl H1) .non
theorem eva_nil : EvA K B tNil σ H [] := fun H1 _ _ q => q _ H1 (Ex.refl H1) .nil
theorem eva_cons {tr : TA} {ds : List PyData} (h : EvB K B ta σ H d) (hr : EvA K B tr σ H ds) : EvA K B (tCons ta tr) σ H (d :: ds) := fun H1 e _ q =>
  h H1 e _ fun v H2 e2 hv => hr H2 (e.trans e2) _ fun vs H3 e3 hvs => q _ H3 (e2.trans e3) (.cons (hv.mono (via_up e3)) (hvs.mono (via_down e2)))
theorem eva1 (h : EvB K B ta σ H d) : EvA K B (tCons ta tNil) σ H [d] := eva_cons h eva_nil
theorem eva2 (h : EvB K B ta σ H d) (h2 : EvB K B tb σ H e) : EvA K B (tCons ta (tCons tb tNil)) σ H [d, e] := eva_cons h (eva1 h2)
theorem evb_tup {tr : TA} {ds : List PyData} (h : EvA K B tr σ H ds) (hl : ds.length ≤ 100000) : EvB K B (tTup tr) σ H (.tuple ds) := fun H1 e _ q =>
  h H1 e _ fun vs H2 e2 hvs => ⟨sz (by rw [dp_len hvs]; exact hl), fun p hp => q _ _ (e2.trans (Ex.new hp)) (.tup (Evl.st_of (via_new (Evl.fresh_back e2 hp) upd_same)) (hvs.mono (via_up (Ex.new hp))))⟩
theorem evb_lst {tr : TA} {ds : List PyData} (h : EvA K B tr σ H ds) (hl : ds.length ≤ 100000) : EvB K B (tLst tr) σ H (.list ds) := fun H1 e _ q =>
  h H1 e _ fun vs H2 e2 hvs => ⟨sz (by rw [dp_len hvs]; exact hl), fun p hp => q _ _ (e2.trans (Ex.new hp)) (.lst (Evl.sq_of (via_new (Evl.fresh_back e2 hp) upd_same)) (hvs.mono (via_up (Ex.new hp))))⟩
theorem evb_op {r : R2} {z : PyData} (ha : EvB K B ta σ H d) (hb : EvB K B' tb σ H e) (hr : ∀ x y H1, Dp K H1 x d → Dp K H1 y e → ∀ Q : VK, (∀ v, (∀ H2, Dp K H2 v z) → Q v H1) → r x y H1 Q) {B2 : Hp} : EvB K B2 (tOp r ta tb) σ H z := fun H1 e1 Q q =>
  ha H1 e1 _ fun v H2 e2 hv => hb H2 (e1.trans e2) _ fun u H3 e3 hu => hr v u H3 ((hv.mono via_le).mono e3) (hu.mono via_le) Q fun z' hz => q _ H3 (e2.trans e3) (hz _)
theorem evb_ii {g : Int → Int → Int} {i j : Int} (ha : EvB K B ta σ H (.int i)) (hb : EvB K B' tb σ H (.int j)) {B2 : Hp} : EvB K B2 (tOp (rI0 fun i j => .int (g i j)) ta tb) σ H (.int (g i j)) := evb_op ha hb fun x y H1 hx hy Q q => by
  cases hx
  cases hy
  exact ⟨i, j, rfl, rfl, q _ fun _ => .int _⟩
theorem evb_iic {C : Int → Int → Prop} {g : Int → Int → Int} {i j : Int} (ha : EvB K B ta σ H (.int i)) (hb : EvB K B' tb σ H (.int j)) (hc : C i j) {B2 : Hp} : EvB K B2 (tOp (rI C fun i j => .int (g i j)) ta tb) σ H (.int (g i j)) := evb_op ha hb fun x y H1 hx hy Q q => by
  cases hx
  cases hy
  exact ⟨i, j, rfl, rfl, hc, q _ fun _ => .int _⟩
theorem evb_ib {g : Int → Int → Bool} {i j : Int} (ha : EvB K B ta σ H (.int i)) (hb : EvB K B' tb σ H (.int j)) {B2 : Hp} : EvB K B2 (tOp (rI0 fun i j => .bl (g i j)) ta tb) σ H (.bool (g i j)) := evb_op ha hb fun x y H1 hx hy Q q => by
  cases hx
  cases hy
  exact ⟨i, j, rfl, rfl, q _ fun _ => .bl _⟩
theorem evb_eqi {i j : Int} (ha : EvB K B ta σ H (.int i)) (hb : EvB K B' tb σ H (.int j)) {B2 : Hp} : EvB K B2 (tOp rEq ta tb) σ H (.bool (decide (i = j))) := evb_op ha hb fun x y H1 hx hy Q q => by
  cases hx
  cases hy
  refine ⟨rfl, q _ fun _ => ?_⟩
  rw [show decide (V.int i = V.int j) = decide (i = j) by simp]
  exact .bl _
theorem evb_neg {i : Int} (ha : EvB K B ta σ H (.int i)) {B2 : Hp} : EvB K B2 (tUn (rU fun i => .int (-i)) ta) σ H (.int (-i)) := fun H1 e Q q =>
  ha H1 e _ fun v H2 e2 hv => by
    cases hv
    exact ⟨i, rfl, q _ H2 e2 (.int _)⟩
theorem evb_ixL {ds : List PyData} {j : Nat} {i : Int} (ha : EvB K B ta σ H (.list ds)) (hb : EvB K B' tb σ H (.int i)) (hi : i = (j : Int)) (hj : ds[j]? = some d) : EvB K B (tOp (rIxL K) ta tb) σ H d := fun H1 e1 Q q =>
  ha H1 e1 _ fun v H2 e2 hv => hb H2 (e1.trans e2) _ fun u H3 e3 hu => by
    subst hi
    cases hu
    cases hv with
    | lst hs hall =>
      obtain ⟨w, hw, hd⟩ := dp_at' hall hj
      exact ⟨_, _, _, w, rfl, rfl, Evl.ex_l (via_le.trans e3) hs, atI_nat hw, q _ H3 (e2.trans e3) (hd.mono (via_up e3))⟩
theorem evb_ixT {ds : List PyData} {j : Nat} {i : Int} (ha : EvB K B ta σ H (.tuple ds)) (hb : EvB K B' tb σ H (.int i)) (hi : i = (j : Int)) (hj : ds[j]? = some d) : EvB K B (tOp (rIxT K) ta tb) σ H d := fun H1 e1 Q q =>
  ha H1 e1 _ fun v H2 e2 hv => hb H2 (e1.trans e2) _ fun u H3 e3 hu => by
    subst hi
    cases hu
    cases hv with
    | tup hs hall =>
      obtain ⟨w, hw, hd⟩ := dp_at' hall hj
      exact ⟨_, _, _, w, rfl, rfl, Evl.ex_t (via_le.trans e3) hs, atI_nat hw, q _ H3 (e2.trans e3) (hd.mono (via_up e3))⟩
/-- len, list, tuple, sum, all -/
def rLenS (K : PySem.W.Frag) : List V → Hp → VK → Prop := fun xs H Q => ∃ p ys, xs = [.ref p] ∧ (SqL K H p ys ∨ SqT K H p ys) ∧ Q (.int ys.length) H
def rListS (K : PySem.W.Frag) : List V → Hp → VK → Prop := fun xs H Q => ∃ p ys, xs = [.ref p] ∧ (SqL K H p ys ∨ SqT K H p ys) ∧ ∀ l, H l = none → Q (.ref l) (upd H l (.lst ys))
def rMn2 : List V → Hp → VK → Prop := fun xs H Q => ∃ i j, xs = [.int i, .int j] ∧ Q (.int (if j < i then j else i)) H
def rMx2 : List V → Hp → VK → Prop := fun xs H Q => ∃ i j, xs = [.int i, .int j] ∧ Q (.int (if j > i then j else i)) H
def rInt1 : List V → Hp → VK → Prop := fun xs H Q => (∃ i, xs = [.int i] ∧ Q (.int i) H) ∨ ∃ k, xs = [.bl k] ∧ Q (.int (if k = true then 1 else 0)) H
theorem evb_mn {i j : Int} (ha : EvB K B ta σ H (.int i)) (hb : EvB K B' tb σ H (.int j)) {B2 : Hp} : EvB K B2 (tCB rMn2 (tCons ta (tCons tb tNil))) σ H (.int (if j < i then j else i)) := fun H1 e Q q =>
  ha H1 e _ fun v H2 e2 hv => hb H2 (e.trans e2) _ fun u H3 e3 hu => by
    cases hv
    cases hu
    exact ⟨i, j, rfl, q _ H3 (e2.trans e3) (.int _)⟩
theorem evb_mx {i j : Int} (ha : EvB K B ta σ H (.int i)) (hb : EvB K B' tb σ H (.int j)) {B2 : Hp} : EvB K B2 (tCB rMx2 (tCons ta (tCons tb tNil))) σ H (.int (if j > i then j else i)) := fun H1 e Q q =>
  ha H1 e _ fun v H2 e2 hv => hb H2 (e.trans e2) _ fun u H3 e3 hu => by
    cases hv
    cases hu
    exact ⟨i, j, rfl, q _ H3 (e2.trans e3) (.int _)⟩
theorem evb_int1 {i : Int} (ha : EvB K B ta σ H (.int i)) {B2 : Hp} : EvB K B2 (tCB rInt1 (tCons ta tNil)) σ H (.int i) := fun H1 e Q q =>
  ha H1 e _ fun v H2 e2 hv => by
    cases hv
    exact .inl ⟨i, rfl, q _ H2 e2 (.int _)⟩
theorem evb_len {ds : List PyData} (h : EvB K B ta σ H (.list ds)) {B2 : Hp} : EvB K B2 (tCB (rLenS K) (tCons ta tNil)) σ H (.int (ds.length : Int)) := fun H1 e Q q =>
  h H1 e _ fun v H2 e2 hv => by
    cases hv with
    | lst hs ha => exact ⟨_, _, rfl, .inl (Evl.ex_l via_le hs), by rw [dp_len ha]; exact q _ H2 e2 (.int _)⟩
theorem evb_lenT {ds : List PyData} (h : EvB K B ta σ H (.tuple ds)) {B2 : Hp} : EvB K B2 (tCB (rLenS K) (tCons ta tNil)) σ H (.int (ds.length : Int)) := fun H1 e Q q =>
  h H1 e _ fun v H2 e2 hv => by
    cases hv with
    | tup hs ha => exact ⟨_, _, rfl, .inr (Evl.ex_t via_le hs), by rw [dp_len ha]; exact q _ H2 e2 (.int _)⟩
theorem evb_list {ds : List PyData} (h : EvB K B ta σ H (.list ds)) : EvB K B (tCB (rListS K) (tCons ta tNil)) σ H (.list ds) := fun H1 e Q q =>
  h H1 e _ fun v H2 e2 hv => by
    cases hv with
    | lst hs ha => exact ⟨_, _, rfl, .inl (Evl.ex_l via_le hs), fun l nl => q _ _ (e2.trans (Ex.new nl)) (.lst (Evl.sq_of (via_new (Evl.fresh_back e2 nl) upd_same)) (ha.mono (via_up (Ex.new nl))))⟩
theorem evb_listT {ds : List PyData} (h : EvB K B ta σ H (.tuple ds)) : EvB K B (tCB (rListS K) (tCons ta tNil)) σ H (.list ds) := fun H1 e Q q =>
  h H1 e _ fun v H2 e2 hv => by
    cases hv with
    | tup hs ha => exact ⟨_, _, rfl, .inr (Evl.ex_t via_le hs), fun l nl => q _ _ (e2.trans (Ex.new nl)) (.lst (Evl.sq_of (via_new (Evl.fresh_back e2 nl) upd_same)) (ha.mono (via_up (Ex.new nl))))⟩
/-- list(..) of ints: new -/
theorem evb_listW {ws : List Int} (h : EvB K B ta σ H (dW ws)) {B2 : Hp} : EvB K B2 (tCB (rListS K) (tCons ta tNil)) σ H (dW ws) := fun H1 e Q q =>
  h H1 e _ fun v H2 e2 hv => by
    obtain ⟨p, rfl, hs⟩ := dp_W_inv hv
    exact ⟨p, _, rfl, .inl (Evl.ex_l via_le hs), fun l nl => q _ _ (e2.trans (Ex.new nl)) (dp_W (Evl.sq_of (via_new (Evl.fresh_back e2 nl) upd_same)))⟩
theorem dp_bools_inv : ∀ {bs : List Bool} {vs : List V}, DpAll K H vs (bs.map PyData.bool) → vs = bs.map V.bl
  | [], _, h => by cases h; rfl
  | w :: ws, _, h => by
    cases h with
    | cons a b =>
      cases a
      rw [dp_bools_inv b]
      rfl
theorem evb_all {bs : List Bool} (h : EvB K B ta σ H (.list (bs.map .bool))) {B2 : Hp} : EvB K B2 (tCB (rAll K) (tCons ta tNil)) σ H (.bool (bs.all id)) := fun H1 e Q q =>
  h H1 e _ fun v H2 e2 hv => by
    cases hv with
    | lst hs ha =>
      rw [dp_bools_inv ha] at hs
      exact ⟨_, bs, rfl, Evl.ex_l via_le hs, q _ H2 e2 (.bl _)⟩
theorem evb_any {bs : List Bool} (h : EvB K B ta σ H (.list (bs.map .bool))) {B2 : Hp} : EvB K B2 (tCB (rAny K) (tCons ta tNil)) σ H (.bool (bs.any id)) := fun H1 e Q q =>
  h H1 e _ fun v H2 e2 hv => by
    cases hv with
    | lst hs ha =>
      rw [dp_bools_inv ha] at hs
      exact ⟨_, bs, rfl, Evl.ex_l via_le hs, q _ H2 e2 (.bl _)⟩
theorem evb_sum {ns : List Int} (h : EvB K B ta σ H (dW ns)) {B2 : Hp} : EvB K B2 (tCB (rSum K) (tCons ta tNil)) σ H (.int ns.sum) := fun H1 e Q q =>
  h H1 e _ fun v H2 e2 hv => by
    obtain ⟨p, rfl, hs⟩ := dp_W_inv hv
    exact ⟨p, ns, rfl, Evl.ex_l via_le hs, q _ H2 e2 (.int _)⟩
/-- a slice of a list of ints: new -/
def EvO (to : TO) (σ : L2.St) (H : Hp) (o : Option Int) : Prop := ∀ H1, Ex H H1 → ∀ Q : Option Int → Hp → Prop, (∀ H2, Ex H1 H2 → Q o H2) → to σ H1 Q
theorem evo_none : EvO tNoPart σ H none := fun H1 _ _ q => q H1 (Ex.refl H1)
theorem evo_some {i : Int} (h : EvB K B te σ H (.int i)) : EvO (tPart te) σ H (some i) := fun H1 e _ q => h H1 e _ fun v H2 e2 hv => by
  cases hv
  exact ⟨i, rfl, q H2 e2⟩
def cutI {α : Type} (xs : List α) (lo hi : Option Int) : List α := (xs.drop (HT.sIx xs.length 0 lo)).take (HT.sIx xs.length xs.length hi - HT.sIx xs.length 0 lo)
theorem cutV_map (ws : List Int) (lo hi : Option Int) : cutV (ws.map V.int) lo hi = (cutI ws lo hi).map V.int := by
  unfold cutV cutI
  rw [List.length_map, List.map_take, List.map_drop]
theorem dp_drop : ∀ {vs : List V} {ds : List PyData} (n : Nat), DpAll K H vs ds → DpAll K H (vs.drop n) (ds.drop n)
  | _, _, 0, h => h
  | _, _, _ + 1, .nil => .nil
  | _, _, n + 1, .cons _ b => dp_drop n b
theorem dp_take : ∀ {vs : List V} {ds : List PyData} (n : Nat), DpAll K H vs ds → DpAll K H (vs.take n) (ds.take n)
  | _, _, 0, _ => .nil
  | _, _, _ + 1, .nil => .nil
  | _, _, n + 1, .cons a b => .cons a (dp_take n b)
theorem dp_cut {vs : List V} {ds : List PyData} {lo hi : Option Int} (h : DpAll K H vs ds) : DpAll K H (cutV vs lo hi) (cutI ds lo hi) := by
  unfold cutV cutI
  rw [dp_len h]
  exact dp_take _ (dp_drop _ h)
theorem evb_slice {tl th : TO} {ds : List PyData} {lo hi : Option Int} (h : EvB K B te σ H (.list ds)) (h1 : EvO tl σ H lo) (h2 : EvO th σ H hi) : EvB K B (tSl (rSlL K) te tl th) σ H (.list (cutI ds lo hi)) := fun H1 e _ q =>
  h H1 e _ fun v H2 e2 hv => h1 H2 (e.trans e2) _ fun H3 e3 => h2 H3 ((e.trans e2).trans e3) _ fun H4 e4 => by
    cases hv with
    | @lst a xs _ hs ha =>
      refine ⟨_, _, rfl, Evl.ex_l (via_le.trans (e3.trans e4)) hs, fun p hp => q _ _ ((e2.trans (e3.trans e4)).trans (Ex.new hp)) (.lst (Evl.sq_of (via_new (Evl.fresh_back (e2.trans (e3.trans e4)) hp) upd_same)) ?_)⟩
      have h5 : DpAll K (via B H1 (upd H4 p (.lst (cutV xs lo hi)))) xs ds := ha.mono (via_up ((e3.trans e4).trans (Ex.new hp)))
      exact dp_cut h5
/-- truth -/
theorem evb_not {b : Bool} (h : EvB K B ta σ H (.bool b)) {B2 : Hp} : EvB K B2 (tNotV ta) σ H (.bool (!b)) := fun H1 e Q q => h H1 e _ fun v H2 e2 hv => by
  cases hv
  exact ⟨b, rfl, q _ H2 e2 (.bl _)⟩
theorem evb_and {a b : Bool} (h1 : EvB K B ta σ H (.bool a)) (h2 : a = true → EvB K B' tb σ H (.bool b)) {B2 : Hp} : EvB K B2 (tAndV ta tb) σ H (.bool (a && b)) := fun H1 e Q q => h1 H1 e _ fun v H2 e2 hv => by
  cases hv
  refine ⟨a, rfl, ?_⟩
  cases a with
  | true => exact iteT (h2 rfl H2 (e.trans e2) Q fun v H3 e3 hv => q v H3 (e2.trans e3) (dp_scal rfl hv))
  | false => exact iteF (q _ H2 e2 (.bl _))
theorem evb_or {a b : Bool} (h1 : EvB K B ta σ H (.bool a)) (h2 : a = false → EvB K B' tb σ H (.bool b)) {B2 : Hp} : EvB K B2 (tOrV ta tb) σ H (.bool (a || b)) := fun H1 e Q q => h1 H1 e _ fun v H2 e2 hv => by
  cases hv
  refine ⟨a, rfl, ?_⟩
  cases a with
  | true => exact iteT (q _ H2 e2 (.bl _))
  | false => exact iteF (h2 rfl H2 (e.trans e2) Q fun v H3 e3 hv => q v H3 (e2.trans e3) (dp_scal rfl hv))
theorem evt_B {b : Bool} (h : EvB K B te σ H (.bool b)) : Evl.EvT (tB te) σ H b := fun H1 e _ q => h H1 e _ fun v H2 e2 hv => by
  cases hv
  exact ⟨b, rfl, q H2 e2⟩
theorem evt_T {b : Bool} (h : EvB K B te σ H (.bool b)) : Evl.EvT (tTest te) σ H b := fun H1 e _ q => h H1 e _ fun v H2 e2 hv => by
  cases hv
  exact ⟨b, rfl, q H2 e2⟩
theorem evt_yes : Evl.EvT tYes σ H true := fun H1 _ _ q => q H1 (Ex.refl H1)
theorem evb_if {b : Bool} (h : Evl.EvT t σ H b) (h1 : b = true → EvB K B ta σ H d) (h2 : b = false → EvB K B tb σ H d) : EvB K B (tIf t ta tb) σ H d := fun H1 e Q q => h H1 e _ fun H2 e2 => by
  cases b with
  | true => exact iteT (h1 rfl H2 (e.trans e2) Q fun v H3 e3 hv => q v H3 (e2.trans e3) (hv.mono (via_down e2)))
  | false => exact iteF (h2 rfl H2 (e.trans e2) Q fun v H3 e3 hv => q v H3 (e2.trans e3) (hv.mono (via_down e2)))
theorem evb_eqD {n m : Nat} (ha : EvB K B ta σ H d) (hb : EvB K B' tb σ H e) (h1 : purN n d = true) (h2 : purN m e = true) (hn : n ≤ 64) (hm : m ≤ 64) {b : Bool} (hb2 : b = true ↔ d = e) {B2 : Hp} : EvB K B2 (tOp (rEqD K) ta tb) σ H (.bool b) := evb_op ha hb fun x y H1 hx hy Q q =>
  eq_data hx hy h1 h2 hn hm (fun c => by
    have : b = true := hb2.mpr c
    subst this
    exact q _ fun _ => .bl _) (fun c => by
    have : b = false := by
      cases b with
      | true => exact absurd (hb2.mp rfl) c
      | false => rfl
    subst this
    exact q _ fun _ => .bl _)
/-- a call -/
def SpD (K : PySem.W.Frag) (sp : Sp) (ds : List PyData) (d : PyData) : Prop := ∀ vs H, DpAll K H vs ds → ∀ (Q : VK) (E : XK), (∀ v H2, Ex H H2 → Dp K (nw H H2) v d → Q v H2) → sp vs H Q E
theorem evb_call {sp : Sp} {E : XK} {ta : TA} {ds : List PyData} (h : EvA K B ta σ H ds) (hs : SpD K sp ds d) {B2 : Hp} : EvB K B2 (tCall sp [] E ta) σ H d := fun H1 e Q q =>
  h H1 e _ fun vs H2 e2 hvs => by
    show sp (vs ++ []) H2 Q E
    rw [List.append_nil]
    exact hs vs H2 (hvs.mono via_le) Q E fun v H3 e3 hv => q v H3 (e2.trans e3) (hv.mono ((via_mono emp_ex).trans (via_down e2)))
/-- statements -/
theorem qd_asg {tz : TS} {D : Ends} {i : Nat} (h : EvB K B te σ H d) (k : ∀ v H1, Ex H H1 → Dp K (via B H H1) v d → tz D (σ.set i (some v)) H1) : tSeq (tAsg te (gName i)) tz D σ H := h H (Ex.refl H) _ fun v H1 e hv => k v H1 e hv
theorem qd_ret {D : Ends} (h : EvB K B te σ H d) (k : ∀ v H1, Ex H H1 → Dp K (via B H H1) v d → D.rt v H1) : tRet te D σ H := h H (Ex.refl H) _ k
theorem qd_when {tz tu : TS} {D : Ends} {b : Bool} (h : Evl.EvT t σ H b) (h1 : b = true → ∀ H1, Ex H H1 → tu { D with nx := tz D } σ H1) (h2 : b = false → ∀ H1, Ex H H1 → tz D σ H1) : tSeq (tIfS t tu tNext) tz D σ H := Evl.q_when h h1 h2
/-! comprehensions -/
def Cwd (K : PySem.W.Frag) (B H1 : Hp) (D : Addr) (out : List PyData) (H' : Hp) : Prop := H1 D = none ∧ Ex H1 H' ∧ ∃ vs, H' D = some (.lst vs) ∧ DpAll K (wo D (via B H1 H')) vs out
theorem wo_via_upd {D : Addr} {o : HO} {H1 H2 : Hp} : wo D (via B H1 (upd H2 D o)) = wo D (via B H1 H2) := by
  funext b
  unfold wo
  by_cases c : b = D
  · rw [if_pos c, if_pos c]
  · rw [if_neg c, if_neg c]
    unfold via
    rw [upd_ne c]
theorem cwd_turn {H1 H2 : Hp} {D : Addr} {out : List PyData} {σ2 : L2.St} {b : Bool} (hB : Ex B H1) (p : Cwd K B H1 D out H2) (hl : out.length < 100000) (ht : Evl.EvT t σ2 H1 b) (he : b = true → EvB K B te σ2 H1 d) :
    t σ2 H2 fun b' H3 => if b' = true then te σ2 H3 fun y H4 => ∃ acc, H4 D = some (.lst acc) ∧ acc.length < sizeLine ∧ Cwd K B H1 D (if b then out ++ [d] else out) (upd H4 D (.lst (acc ++ [y]))) else Cwd K B H1 D (if b then out ++ [d] else out) H3 := by
  obtain ⟨p1, p2, vs, p3, p4⟩ := p
  refine ht H2 p2 _ fun H3 e3 => ?_
  cases b with
  | true =>
    refine iteT ?_
    refine he rfl H3 (p2.trans e3) _ fun v H4 e4 hv => ⟨vs, e4 D _ (e3 D _ p3), szl (by rw [dp_len p4]; exact hl), p1, Ex.mut ((p2.trans e3).trans e4) p1, vs ++ [v], upd_same, ?_⟩
    rw [wo_via_upd, if_pos rfl]
    have nB : B D = none := Evl.fresh_back hB p1
    refine dp_snoc (p4.mono (ex_wo (via_up (e3.trans e4)))) ?_
    exact hv.mono ((via_wo nB ⟨_, e3 D _ p3⟩).trans (ex_wo (via_down (p2.trans e3))))
  | false =>
    refine iteF ⟨p1, p2.trans e3, vs, e3 D _ p3, ?_⟩
    rw [if_neg Bool.false_ne_true]
    exact p4.mono (ex_wo (via_up e3))
theorem cwd_end {H1 H' : Hp} {D : Addr} {out : List PyData} (p : Cwd K B H1 D out H') : Ex H1 H' ∧ Dp K (via B H1 H') (.ref D) (.list out) := by
  obtain ⟨p1, p2, vs, p3, p4⟩ := p
  exact ⟨p2, .lst (Evl.sq_of (via_new p1 p3)) (p4.mono (wo_ex D))⟩
theorem cwd_start {H1 : Hp} {D : Addr} (nD : H1 D = none) : Cwd K B H1 D [] (upd H1 D (.lst [])) := ⟨nD, Ex.new nD, [], upd_same, .nil⟩
theorem outs_len {outs : Nat → List PyData} (h0 : outs 0 = []) {n : Nat} (hs : ∀ i, i < n → ∃ (b : Bool) (d : PyData), outs (i + 1) = if b then outs i ++ [d] else outs i) : ∀ i, i ≤ n → (outs i).length ≤ i
  | 0, _ => by rw [h0]; exact Nat.le_refl _
  | i + 1, hi => by
    have h1 := outs_len h0 hs i (by omega)
    obtain ⟨b, d, e⟩ := hs i (by omega)
    rw [e]
    cases b with
    | true => rw [if_pos rfl, List.length_append, List.length_singleton]; omega
    | false => rw [if_neg Bool.false_ne_true]; omega
theorem evb_lcL {tl : TE} {j : Nat} {vs : List Nat} {ds : List PyData} (hB : Ex B H) (h : EvB K B' tl σ H (.list ds)) (hz : ds.length ≤ 50000) (hw : ∀ x, wipe ((wipe σ vs).set j (some x)) vs = wipe σ vs) (outs : Nat → List PyData) (h0 : outs 0 = [])
    (hs : ∀ i x dx H2, Ex H H2 → ds[i]? = some dx → Dp K H2 x dx → ∃ (b : Bool) (d : PyData), Evl.EvT t ((wipe σ vs).set j (some x)) H2 b ∧ (b = true → EvB K B te ((wipe σ vs).set j (some x)) H2 d) ∧ outs (i + 1) = if b then outs i ++ [d] else outs i) :
    EvB K B (tLc (iList K tl) (gName j) t te vs) σ H (.list (outs ds.length)) := fun H1 e Q q =>
  h H1 e _ fun v H2 e2 hv => by
    cases hv with
    | @lst a xs _ hsl ha =>
      have hsl2 : SqL K H2 a xs := Evl.ex_l via_le hsl
      have ha2 : DpAll K H2 xs ds := ha.mono via_le
      have el : xs.length = ds.length := dp_len ha
      have ol := outs_len h0 (n := ds.length) fun i hi => by
        obtain ⟨x, _, hx⟩ := dp_at' ha2 (List.getElem?_eq_getElem hi)
        obtain ⟨b, d, _, _, q⟩ := hs i x _ H2 (e.trans e2) (List.getElem?_eq_getElem hi) hx
        exact ⟨b, d, q⟩
      refine ⟨a, rfl, ⟨xs, hsl2⟩, fun D nD => lc_list (xs := xs) (fun i H' => Cwd K B H2 D (outs i) H') (by rw [h0]; exact cwd_start nD) (fun i H' _ p => Evl.ex_l p.2.1 hsl2) (fun i x H' hi p => ?_) fun H' p => ?_⟩
      · obtain ⟨dx, hdx, hx⟩ := dp_at ha2 hi
        obtain ⟨b, d, h1, h2, h3⟩ := hs i x dx H2 (e.trans e2) hdx hx
        have hi2 : i < ds.length := (List.getElem?_eq_some_iff.mp hdx).1
        refine ⟨hw x, ?_⟩
        rw [h3]
        exact cwd_turn (hB.trans (e.trans e2)) p (by have := ol i (by omega); omega) h1 h2
      · rw [el] at p
        obtain ⟨p1, p2⟩ := cwd_end p
        exact q _ _ (e2.trans p1) (p2.mono (via_down e2))
theorem evb_lcR {tr : TA} {j : Nat} {vs : List Nat} {n : Int} (hB : Ex B H) (h : EvA K B' tr σ H [.int n]) (hn : n ≤ 50000 ∧ -50000 ≤ n) (hw : ∀ x, wipe ((wipe σ vs).set j (some x)) vs = wipe σ vs) (outs : Nat → List PyData) (h0 : outs 0 = [])
    (hs : ∀ (i : Nat) H2, Ex H H2 → (i : Int) < n → ∃ (b : Bool) (d : PyData), Evl.EvT t ((wipe σ vs).set j (some (.int (i : Int)))) H2 b ∧ (b = true → EvB K B te ((wipe σ vs).set j (some (.int (i : Int)))) H2 d) ∧ outs (i + 1) = if b then outs i ++ [d] else outs i) :
    EvB K B (tLc (iRng1 tr) (gName j) t te vs) σ H (.list (outs n.toNat)) := fun H1 e Q q =>
  h H1 e _ fun vs' H2 e2 hv => by
    cases hv with
    | cons ha hb =>
      cases hb
      cases ha
      have ol := outs_len h0 (n := n.toNat) fun i hi => by
        obtain ⟨b, d, _, _, q⟩ := hs i H2 (e.trans e2) (by omega)
        exact ⟨b, d, q⟩
      refine ⟨n, rfl, by omega, by omega, fun D nD => lc_range (lo := 0) (n := n.toNat) (fun i H' => Cwd K B H2 D (outs i) H') (by rw [h0]; exact cwd_start nD) (fun i H' hi p => ?_) fun H' p => ?_⟩
      · obtain ⟨b, d, h1, h2, h3⟩ := hs i H2 (e.trans e2) (by omega)
        rw [show (0 : Int) + (i : Int) = (i : Int) from Int.zero_add _]
        refine ⟨hw _, ?_⟩
        rw [h3]
        exact cwd_turn (hB.trans (e.trans e2)) p (by have := ol i (by omega); omega) h1 h2
      · obtain ⟨p1, p2⟩ := cwd_end p
        exact q _ _ (e2.trans p1) (p2.mono (via_down e2))
/-- a new list of the values of a function -/
theorem evb_mapL {tl : TE} {j : Nat} {vs : List Nat} {ds : List PyData} (f : PyData → PyData) (hB : Ex B H) (h : EvB K B' tl σ H (.list ds)) (hz : ds.length ≤ 50000) (hw : ∀ x, wipe ((wipe σ vs).set j (some x)) vs = wipe σ vs)
    (hs : ∀ x dx H2, Ex H H2 → dx ∈ ds → Dp K H2 x dx → EvB K B te ((wipe σ vs).set j (some x)) H2 (f dx)) : EvB K B (tLc (iList K tl) (gName j) tYes te vs) σ H (.list (ds.map f)) := by
  have r := evb_lcL (t := tYes) (te := te) (j := j) (vs := vs) hB h hz hw (fun i => (ds.take i).map f) rfl fun i x dx H2 e hi hx => ⟨true, f dx, evt_yes, fun _ => hs x dx H2 e (List.mem_of_getElem? hi) hx, by
    rw [if_pos rfl, List.take_add_one, hi, List.map_append]
    rfl⟩
  rw [List.take_length] at r
  exact r
theorem lc_zip {K : PySem.W.Frag} {a b : Addr} {xs ys : List V} {g : TG} {tt : TT} {te : TE} {vs : List Nat} {σ : L2.St} {H1 : Hp} {D : Addr} {Qd : Hp → Prop} (Pv : Nat → Hp → Prop) (h0 : Pv 0 (upd H1 D (.lst []))) (hl : ∀ i H, Pv i H → SqL K H a xs ∧ SqL K H b ys)
    (hs : ∀ i x y T H, xs[i]? = some x → ys[i]? = some y → H T = none → Pv i H → g (.ref T) (wipe σ vs) (upd H T (.tup [x, y])) fun σ2 H2 => wipe σ2 vs = wipe σ vs ∧ tt σ2 H2 fun b H3 =>
      if b = true then te σ2 H3 fun y H4 => ∃ acc, H4 D = some (.lst acc) ∧ acc.length < sizeLine ∧ Pv (i + 1) (upd H4 D (.lst (acc ++ [y]))) else Pv (i + 1) H3) (hd : ∀ H, Pv (min xs.length ys.length) H → Qd H) :
    ∃ W : Nat → Nat → Hp → Prop, (∃ m, W 0 m (upd H1 D (.lst []))) ∧ ∀ i m H, W i m H →
      ((Itz K a b).stop i H ∧ Qd H) ∨ ((Itz K a b).go i H ∧ ∃ Nx : Hp → Prop, (∀ H', Nx H' → ∃ m', m' < m ∧ W (i + 1) m' H') ∧ ∀ x H', (Itz K a b).yld i H x H' → g x (wipe σ vs) H' fun σ2 H2 => wipe σ2 vs = wipe σ vs ∧ tt σ2 H2 fun b H3 =>
        if b = true then te σ2 H3 fun y H4 => ∃ acc, H4 D = some (.lst acc) ∧ acc.length < sizeLine ∧ Nx (upd H4 D (.lst (acc ++ [y]))) else Nx H3) := by
  refine ⟨fun i m H => m = min xs.length ys.length - i ∧ i ≤ min xs.length ys.length ∧ Pv i H, ⟨min xs.length ys.length, by simp, Nat.zero_le _, h0⟩, ?_⟩
  rintro i m H ⟨rfl, hi, p⟩
  obtain ⟨qx, qy⟩ := hl i H p
  by_cases hlt : i < min xs.length ys.length
  · have hx : xs[i]? = some xs[i] := List.getElem?_eq_getElem (by omega)
    have hy : ys[i]? = some ys[i] := List.getElem?_eq_getElem (by omega)
    refine .inr ⟨⟨xs, ys, _, _, qx, qy, hx, hy⟩, Pv (i + 1), fun H' p' => ⟨min xs.length ys.length - (i + 1), by omega, rfl, hlt, p'⟩, fun v H' y => ?_⟩
    obtain ⟨T, x', y', rfl, hT, rfl, f1, f2⟩ := y
    exact hs i x' y' T H (f1 _ qx) (f2 _ qy) hT p
  · have e : i = min xs.length ys.length := by omega
    subst e
    exact .inl ⟨⟨xs, ys, qx, qy, by omega⟩, hd H p⟩
end
/-! ### comprehensions with two for -/
theorem wo_upd {H : Hp} {a : Addr} {o : HO} : wo a (upd H a o) = wo a H := by
  funext b
  unfold wo upd
  by_cases e : b = a
  · rw [if_pos e, if_pos e]
  · rw [if_neg e, if_neg e, if_neg e]
theorem lc2_range {lo : Int} {n : Nat} {g g1 : TG} {tt tt1 : TT} {te : TE} {wi1 : TI} {vs vs1 : List Nat} {σ : L2.St} {H1 : Hp} {D : Addr} {Qd : Hp → Prop} (Pv : Nat → Hp → Prop) (h0 : Pv 0 (upd H1 D (.lst [])))
    (hs : ∀ i H, i < n → Pv i H → g (.int (lo + i)) (wipe σ vs) H fun σ2 H2 => wipe σ2 vs = wipe σ vs ∧ tt σ2 H2 fun b H3 =>
      if b = true then wi1 σ2 H3 fun J1 H4 => ∃ W1 : Nat → Nat → Hp → Prop, (∃ m, W1 0 m H4) ∧ ∀ j k H, W1 j k H →
        (J1.stop j H ∧ Pv (i + 1) H) ∨ (J1.go j H ∧ ∃ Nx1 : Hp → Prop, (∀ H', Nx1 H' → ∃ k', k' < k ∧ W1 (j + 1) k' H') ∧ ∀ x H', J1.yld j H x H' → g1 x (wipe σ2 vs1) H' fun σ3 H5 => wipe σ3 vs1 = wipe σ2 vs1 ∧ tt1 σ3 H5 fun b H6 =>
          if b = true then te σ3 H6 fun y H7 => ∃ acc, H7 D = some (.lst acc) ∧ acc.length < sizeLine ∧ Nx1 (upd H7 D (.lst (acc ++ [y]))) else Nx1 H6)
      else Pv (i + 1) H3) (hd : ∀ H, Pv n H → Qd H) :
    ∃ W : Nat → Nat → Hp → Prop, (∃ m, W 0 m (upd H1 D (.lst []))) ∧ ∀ i m H, W i m H →
      ((Itr lo n).stop i H ∧ Qd H) ∨ ((Itr lo n).go i H ∧ ∃ Nx : Hp → Prop, (∀ H', Nx H' → ∃ m', m' < m ∧ W (i + 1) m' H') ∧ ∀ x H', (Itr lo n).yld i H x H' → g x (wipe σ vs) H' fun σ2 H2 => wipe σ2 vs = wipe σ vs ∧ tt σ2 H2 fun b H3 =>
        if b = true then wi1 σ2 H3 fun J1 H4 => ∃ W1 : Nat → Nat → Hp → Prop, (∃ m, W1 0 m H4) ∧ ∀ j k H, W1 j k H →
          (J1.stop j H ∧ Nx H) ∨ (J1.go j H ∧ ∃ Nx1 : Hp → Prop, (∀ H', Nx1 H' → ∃ k', k' < k ∧ W1 (j + 1) k' H') ∧ ∀ x H', J1.yld j H x H' → g1 x (wipe σ2 vs1) H' fun σ3 H5 => wipe σ3 vs1 = wipe σ2 vs1 ∧ tt1 σ3 H5 fun b H6 =>
            if b = true then te σ3 H6 fun y H7 => ∃ acc, H7 D = some (.lst acc) ∧ acc.length < sizeLine ∧ Nx1 (upd H7 D (.lst (acc ++ [y]))) else Nx1 H6)
        else Nx H3) := by
  refine ⟨fun i m H => m = n - i ∧ i ≤ n ∧ Pv i H, ⟨n, by simp, Nat.zero_le _, h0⟩, ?_⟩
  rintro i m H ⟨rfl, hi, p⟩
  by_cases hlt : i < n
  · refine .inr ⟨hlt, Pv (i + 1), fun H' p' => ⟨n - (i + 1), by omega, rfl, hlt, p'⟩, fun x H' y => ?_⟩
    obtain ⟨e, y⟩ := y
    subst e y
    exact hs i _ hlt p
  · have e : i = n := by omega
    subst e
    exact .inl ⟨Nat.le_refl _, hd H p⟩
theorem lcin_tup {K : PySem.W.Frag} {a : Addr} {xs : List V} {g1 : TG} {tt1 : TT} {te : TE} {vs1 : List Nat} {σ2 : L2.St} {H4 : Hp} {D : Addr} {Nx : Hp → Prop} (Pw : Nat → Hp → Prop) (h0 : Pw 0 H4) (hl : ∀ j H, j ≤ xs.length → Pw j H → SqT K H a xs)
    (hs : ∀ j x H, xs[j]? = some x → Pw j H → g1 x (wipe σ2 vs1) H fun σ3 H5 => wipe σ3 vs1 = wipe σ2 vs1 ∧ tt1 σ3 H5 fun b H6 =>
      if b = true then te σ3 H6 fun y H7 => ∃ acc, H7 D = some (.lst acc) ∧ acc.length < sizeLine ∧ Pw (j + 1) (upd H7 D (.lst (acc ++ [y]))) else Pw (j + 1) H6) (hd : ∀ H, Pw xs.length H → Nx H) :
    ∃ W1 : Nat → Nat → Hp → Prop, (∃ m, W1 0 m H4) ∧ ∀ j k H, W1 j k H →
      ((Itt K a).stop j H ∧ Nx H) ∨ ((Itt K a).go j H ∧ ∃ Nx1 : Hp → Prop, (∀ H', Nx1 H' → ∃ k', k' < k ∧ W1 (j + 1) k' H') ∧ ∀ x H', (Itt K a).yld j H x H' → g1 x (wipe σ2 vs1) H' fun σ3 H5 => wipe σ3 vs1 = wipe σ2 vs1 ∧ tt1 σ3 H5 fun b H6 =>
        if b = true then te σ3 H6 fun y H7 => ∃ acc, H7 D = some (.lst acc) ∧ acc.length < sizeLine ∧ Nx1 (upd H7 D (.lst (acc ++ [y]))) else Nx1 H6) := by
  refine ⟨fun i m H => m = xs.length - i ∧ i ≤ xs.length ∧ Pw i H, ⟨xs.length, by simp, Nat.zero_le _, h0⟩, ?_⟩
  rintro i m H ⟨rfl, hi, p⟩
  have q := hl i H hi p
  by_cases hlt : i < xs.length
  · refine .inr ⟨⟨xs, xs[i], q, by simp [hlt]⟩, Pw (i + 1), fun H' p' => ⟨xs.length - (i + 1), by omega, rfl, hlt, p'⟩, fun x H' y => ?_⟩
    obtain ⟨e, y⟩ := y
    subst e
    exact hs i x _ (y xs q) p
  · have e : i = xs.length := by omega
    subst e
    exact .inl ⟨⟨xs, q, Nat.le_refl _⟩, hd H p⟩
/-! ### told by a proposition -/
open Classical in
noncomputable def pB (p : Prop) : Bool := decide p
theorem pB_iff {p : Prop} : pB p = true ↔ p := by
  unfold pB
  exact @decide_eq_true_iff _ (Classical.propDecidable _)
theorem pB_t {p : Prop} (h : p) : pB p = true := pB_iff.mpr h
theorem pB_f {p : Prop} (h : ¬ p) : pB p = false := by
  cases c : pB p with
  | true => exact absurd (pB_iff.mp c) h
  | false => rfl
theorem bool_iff {a b : Bool} (h : a = true ↔ b = true) : a = b := by
  cases a <;> cases b <;> simp_all
/-! ### lists of lists, in data and in the heap -/
section
variable {P : Program} {w : World} {K : PySem.W.Frag} {mg : Str → Option Value} {base : Heap}
/-- a family, bounded -/
def Small (fs : List (List Int)) : Prop := fs.length ≤ 20000 ∧ fs.flatten.length ≤ 20000
theorem mem_len {fs : List (List Int)} {l : List Int} (h : l ∈ fs) : l.length ≤ fs.flatten.length := by
  induction fs with
  | nil => simp at h
  | cons a fs ih =>
    rw [List.flatten_cons, List.length_append]
    rcases List.mem_cons.mp h with h | h
    · subst h
      omega
    · have := ih h
      omega
theorem Small.mem {fs : List (List Int)} {l : List Int} (h : Small fs) (hl : l ∈ fs) : l.length ≤ 20000 := by
  have := mem_len hl
  have := h.2
  omega
theorem dF_at {fs : List (List Int)} {i : Nat} {d : PyData} (h : (fs.map dW)[i]? = some d) : ∃ l, fs[i]? = some l ∧ d = dW l := by
  rw [List.getElem?_map] at h
  cases e : fs[i]? with
  | none => rw [e] at h; cases h
  | some l => rw [e] at h; exact ⟨l, rfl, (Option.some.inj h).symm⟩
theorem sum_lens (fs : List (List Int)) : (fs.map fun l => (l.length : Int)).sum = (fs.flatten.length : Int) := by
  induction fs with
  | nil => rfl
  | cons l fs ih => rw [List.map_cons, List.sum_cons, ih, List.flatten_cons, List.length_append]; omega
theorem drop1 (ws : List Int) : cutI (ws.map PyData.int) (some 1) none = (ws.drop 1).map PyData.int := by
  unfold cutI
  rw [show HT.sIx (ws.map PyData.int).length 0 (some 1) = min 1 (ws.map PyData.int).length from HT.sIx_nat _ 0 1, HT.sIx_none, List.length_map, ← List.map_drop]
  cases ws with
  | nil => rfl
  | cons x r =>
    rw [show min 1 (x :: r).length = 1 by rw [List.length_cons]; omega]
    exact List.take_of_length_le (by simp)
theorem mapsel {B H : Hp} {σ : L2.St} {tl te : TE} {fs : List (List Int)} {j : Nat} {vs : List Nat} {g : List Int → Bool} {B' : Hp} (hB : Ex B H) (h : EvB K B' tl σ H (dF fs)) (hz : fs.length ≤ 50000) (hw : ∀ x, wipe ((wipe σ vs).set j (some x)) vs = wipe σ vs)
    (he : ∀ x l H2, Ex H H2 → l ∈ fs → Dp K H2 x (dW l) → EvB K B te ((wipe σ vs).set j (some x)) H2 (.bool (g l))) : EvB K B (tLc (iList K tl) (gName j) tYes te vs) σ H (.list ((fs.map g).map PyData.bool)) := by
  have r := evb_lcL (t := tYes) (te := te) (j := j) (vs := vs) hB h (by rw [List.length_map]; exact hz) hw (fun i => ((fs.take i).map g).map PyData.bool) rfl fun i x dx H2 e hi hx => by
    obtain ⟨l, hl, rfl⟩ := dF_at hi
    refine ⟨true, _, evt_yes, fun _ => he x l H2 e (List.mem_of_getElem? hl) hx, ?_⟩
    rw [if_pos rfl, List.take_add_one, hl, List.map_append, List.map_append]
    rfl
  rw [List.length_map, List.take_length] at r
  exact r
theorem mapI {B H : Hp} {σ : L2.St} {tl te : TE} {ls : List Int} {j : Nat} {vs : List Nat} {g : Int → Int} {B' : Hp} (hB : Ex B H) (h : EvB K B' tl σ H (dW ls)) (hz : ls.length ≤ 50000) (hw : ∀ x, wipe ((wipe σ vs).set j (some x)) vs = wipe σ vs)
    (he : ∀ x H2, Ex H H2 → x ∈ ls → EvB K B te ((wipe σ vs).set j (some (.int x))) H2 (.int (g x))) : EvB K B (tLc (iList K tl) (gName j) tYes te vs) σ H (dW (ls.map g)) := by
  have r := evb_lcL (t := tYes) (te := te) (j := j) (vs := vs) hB h (by rw [List.length_map]; exact hz) hw (fun i => ((ls.take i).map g).map PyData.int) rfl fun i x dx H2 e hi hx => by
    rw [List.getElem?_map] at hi
    cases c : ls[i]? with
    | none => rw [c] at hi; cases hi
    | some z =>
      rw [c] at hi
      cases hi
      cases hx
      refine ⟨true, _, evt_yes, fun _ => he z H2 e (List.mem_of_getElem? c), ?_⟩
      rw [if_pos rfl, List.take_add_one, c, List.map_append, List.map_append]
      rfl
  rw [List.length_map, List.take_length] at r
  exact r
theorem letter_at {H : Hp} {σ : L2.St} {ws : List Int} {i j : Nat} {v : V} {x : Int} {B2 : Hp} (hv : σ[i]? = some (some v)) (hw : Dp K H v (dW ws)) (hx : σ[j]? = some (some (.int x))) (h0 : 0 ≤ x ∧ x < ws.length) : EvB K B2 (tOp (rIxL K) (tVar i) (tVar j)) σ H (.int (ws.getD x.toNat 0)) :=
  (evb_ixL (B := H) (B' := H) (j := x.toNat) (evb_v hv hw) (evb_v hx (.int x)) (by omega) (by rw [List.getElem?_map, getD_some' (by omega)]; rfl)).scal rfl
end
/-! ### a list of lists that is being made -/
theorem dpAll_of {K : PySem.W.Frag} {G : Hp} : ∀ {vs : List V} {ds : List PyData}, vs.length = ds.length → (∀ (i : Nat) v d, vs[i]? = some v → ds[i]? = some d → Dp K G v d) → DpAll K G vs ds
  | [], [], _, _ => .nil
  | [], _ :: _, h, _ => by simp at h
  | _ :: _, [], h, _ => by simp at h
  | v :: vs, d :: ds, h, k => .cons (k 0 v d rfl rfl) (dpAll_of (by simpa using h) fun i v' d' h1 h2 => k (i + 1) v' d' h1 h2)
structure FamAt (H0 H : Hp) (D : Addr) (ps : List Addr) (fs : List (List Int)) : Prop where
  d : H D = some (.lst (ps.map V.ref))
  len : ps.length = fs.length
  at' : ∀ (i : Nat) (p : Addr) (l : List Int), ps[i]? = some p → fs[i]? = some l → H p = some (.lst (l.map V.int))
  nd : ps.Nodup
  nD : D ∉ ps
  fD : H0 D = none
  fr : ∀ p ∈ ps, H0 p = none
theorem FamAt.dp {K : PySem.W.Frag} {H0 H : Hp} {D : Addr} {ps : List Addr} {fs : List (List Int)} (F : FamAt H0 H D ps fs) : Dp K (nw H0 H) (.ref D) (dF fs) := by
  refine .lst (Evl.sq_of (via_new F.fD F.d)) (dpAll_of (by rw [List.length_map, List.length_map, F.len]) fun i v d hv hd => ?_)
  rw [List.getElem?_map] at hv
  obtain ⟨l, hl, rfl⟩ := dF_at hd
  cases c : ps[i]? with
  | none => rw [c] at hv; cases hv
  | some p =>
    rw [c] at hv
    cases hv
    exact dp_W (Evl.sq_of (via_new (F.fr p (List.mem_of_getElem? c)) (F.at' i p l c hl)))
theorem FamAt.kp {H0 H H' : Hp} {a D : Addr} {ps : List Addr} {fs : List (List Int)} (F : FamAt H0 H D ps fs) (k : Kp a H H') (ha : ∃ o, H0 a = some o) : FamAt H0 H' D ps fs := by
  obtain ⟨o, ho⟩ := ha
  have ne : ∀ {p : Addr}, H0 p = none → p ≠ a := fun h e => by rw [e, ho] at h; cases h
  exact ⟨k _ _ (ne F.fD) F.d, F.len, fun i p l h1 h2 => k _ _ (ne (F.fr p (List.mem_of_getElem? h1))) (F.at' i p l h1 h2), F.nd, F.nD, F.fD, F.fr⟩
theorem FamAt.ex {H0 H H' : Hp} {D : Addr} {ps : List Addr} {fs : List (List Int)} (F : FamAt H0 H D ps fs) (e : Ex H H') : FamAt H0 H' D ps fs :=
  ⟨e _ _ F.d, F.len, fun i p l h1 h2 => e _ _ (F.at' i p l h1 h2), F.nd, F.nD, F.fD, F.fr⟩
theorem FamAt.set {H0 H : Hp} {D p : Addr} {ps : List Addr} {fs : List (List Int)} {i : Nat} (F : FamAt H0 H D ps fs) (hp : ps[i]? = some p) (l' : List Int) : FamAt H0 (upd H p (.lst (l'.map V.int))) D ps (fs.set i l') := by
  have hm := List.mem_of_getElem? hp
  refine ⟨by rw [upd_ne (fun e => F.nD (by rw [e]; exact hm))]; exact F.d, by rw [List.length_set]; exact F.len, fun j q l h1 h2 => ?_, F.nd, F.nD, F.fD, F.fr⟩
  rw [List.getElem?_set] at h2
  by_cases c : i = j
  · subst c
    rw [hp] at h1
    cases h1
    rw [if_pos rfl] at h2
    split at h2
    · cases h2
      exact upd_same
    · cases h2
  · rw [if_neg c] at h2
    rw [upd_ne (fun e => c (nd_ix F.nd (show ps[i]? = some q by rw [e]; exact hp) h1))]
    exact F.at' j q l h1 h2
theorem FamAt.snoc {H0 H : Hp} {D p : Addr} {ps : List Addr} {fs : List (List Int)} {l : List Int} (F : FamAt H0 H D ps fs) (hl : H p = some (.lst (l.map V.int))) (np : p ∉ ps) (nD : p ≠ D) (f0 : H0 p = none) : FamAt H0 (upd H D (.lst ((ps ++ [p]).map V.ref))) D (ps ++ [p]) (fs ++ [l]) := by
  refine ⟨upd_same, by rw [List.length_append, List.length_append, F.len]; rfl, fun i q l' h1 h2 => ?_, ?_, ?_, F.fD, ?_⟩
  · by_cases c : i < ps.length
    · rw [List.getElem?_append_left c] at h1
      rw [List.getElem?_append_left (by rw [← F.len]; exact c)] at h2
      rw [upd_ne (fun e => F.nD (by rw [← e]; exact List.mem_of_getElem? h1))]
      exact F.at' i q l' h1 h2
    · rw [List.getElem?_append_right (by omega)] at h1
      rw [List.getElem?_append_right (by rw [← F.len]; omega), ← F.len] at h2
      have hi : i - ps.length = 0 := by
        have := (List.getElem?_eq_some_iff.mp h1).1
        simp at this
        omega
      rw [hi] at h1 h2
      cases h1
      cases h2
      rw [upd_ne nD]
      exact hl
  · rw [List.nodup_append]
    refine ⟨F.nd, by simp, fun a ha b hb => ?_⟩
    rw [List.mem_singleton] at hb
    subst hb
    exact fun e => np (e ▸ ha)
  · intro h
    rcases List.mem_append.mp h with h | h
    · exact F.nD h
    · rw [List.mem_singleton] at h
      exact nD h.symm
  · intro q h
    rcases List.mem_append.mp h with h | h
    · exact F.fr q h
    · rw [List.mem_singleton] at h
      rw [h]
      exact f0
theorem FamAt.fresh {H0 H : Hp} {D p : Addr} {ps : List Addr} {fs : List (List Int)} (F : FamAt H0 H D ps fs) (np : H p = none) : p ∉ ps ∧ p ≠ D := by
  refine ⟨fun h => ?_, fun e => by rw [e, F.d] at np; cases np⟩
  obtain ⟨i, hi⟩ := List.mem_iff_getElem?.mp h
  have hl : i < fs.length := by rw [← F.len]; exact (List.getElem?_eq_some_iff.mp hi).1
  rw [F.at' i p _ hi (List.getElem?_eq_getElem hl)] at np
  cases np
theorem flatten_set_len {fs : List (List Int)} {i : Nat} {l l' : List Int} (h : fs[i]? = some l) : (fs.set i l').flatten.length + l.length = fs.flatten.length + l'.length := by
  induction fs generalizing i with
  | nil => simp at h
  | cons a fs ih =>
    cases i with
    | zero =>
      cases h
      rw [List.set_cons_zero, List.flatten_cons, List.flatten_cons, List.length_append, List.length_append]
      omega
    | succ i =>
      rw [List.getElem?_cons_succ] at h
      have := ih h
      rw [List.set_cons_succ, List.flatten_cons, List.flatten_cons, List.length_append, List.length_append]
      omega
theorem evb_ixLast {K : PySem.W.Frag} {B B' H : Hp} {ta tb : TE} {σ : L2.St} {l : List Int} {z : Int} (ha : EvB K B ta σ H (dW (l ++ [z]))) (hb : EvB K B' tb σ H (.int (-1))) {B2 : Hp} : EvB K B2 (tOp (rIxL K) ta tb) σ H (.int z) := evb_op ha hb fun x y H1 hx hy Q q => by
  cases hy
  obtain ⟨p, rfl, hs⟩ := dp_W_inv hx
  refine ⟨p, _, _, .int z, rfl, rfl, hs, ?_, q _ fun _ => .int _⟩
  rw [List.map_append]
  exact atI_last _ _
section
variable {P : Program} {w : World} {K : PySem.W.Frag} {mg : Str → Option Value} {base : Heap}
section
variable {B B' H : Hp} {σ : L2.St} {ta te : TE} {t : TT}
/-- tuple(..) of a list -/
def rTupS (K : PySem.W.Frag) : List V → Hp → VK → Prop := fun xs H Q => ∃ p ys, xs = [.ref p] ∧ ((SqL K H p ys ∧ ∀ l, H l = none → Q (.ref l) (upd H l (.tup ys))) ∨ (SqT K H p ys ∧ Q (.ref p) H))
theorem evb_tupL {ds : List PyData} (h : EvB K B ta σ H (.list ds)) : EvB K B (tCB (rTupS K) (tCons ta tNil)) σ H (.tuple ds) := fun H1 e Q q =>
  h H1 e _ fun v H2 e2 hv => by
    cases hv with
    | lst hs ha => exact ⟨_, _, rfl, .inl ⟨Evl.ex_l via_le hs, fun l nl => q _ _ (e2.trans (Ex.new nl)) (.tup (Evl.st_of (via_new (Evl.fresh_back e2 nl) upd_same)) (ha.mono (via_up (Ex.new nl))))⟩⟩
/-- tuple(..) of a list of ints: new -/
theorem evb_tupW {ws : List Int} (h : EvB K B ta σ H (dW ws)) {B2 : Hp} : EvB K B2 (tCB (rTupS K) (tCons ta tNil)) σ H (dR ws) := fun H1 e Q q =>
  h H1 e _ fun v H2 e2 hv => by
    obtain ⟨p, rfl, hs⟩ := dp_W_inv hv
    exact ⟨p, _, rfl, .inl ⟨Evl.ex_l via_le hs, fun l nl => q _ _ (e2.trans (Ex.new nl)) (dp_R (Evl.st_of (via_new (Evl.fresh_back e2 nl) upd_same)))⟩⟩
/-- the letters of a list that pass a test -/
theorem filterI {tl : TE} {ls : List Int} {j : Nat} {vs : List Nat} {g : Int → Bool} (hB : Ex B H) (h : EvB K B' tl σ H (dW ls)) (hz : ls.length ≤ 50000) (hw : ∀ x, wipe ((wipe σ vs).set j (some x)) vs = wipe σ vs)
    (ht : ∀ (x : Int) H2, Ex H H2 → Evl.EvT t ((wipe σ vs).set j (some (.int x))) H2 (g x)) (he : ∀ (x : Int) H2, Ex H H2 → EvB K B te ((wipe σ vs).set j (some (.int x))) H2 (.int x)) : EvB K B (tLc (iList K tl) (gName j) t te vs) σ H (dW (ls.filter g)) := by
  have r := evb_lcL (t := t) (te := te) (j := j) (vs := vs) hB h (by rw [List.length_map]; exact hz) hw (fun i => ((ls.take i).filter g).map PyData.int) rfl fun i x dx H2 e hi hx => by
    rw [List.getElem?_map] at hi
    cases c : ls[i]? with
    | none => rw [c] at hi; cases hi
    | some z =>
      rw [c] at hi
      cases hi
      cases hx
      refine ⟨g z, .int z, ht z H2 e, fun _ => he z H2 e, ?_⟩
      rw [List.take_add_one, c, List.filter_append, List.map_append]
      cases d : g z <;> simp [d]
  rw [List.length_map, List.take_length] at r
  exact r
end
def spInsert (K : PySem.W.Frag) : Sp := fun vs H Q _ => ∃ (H0 : Hp) (D : Addr) (ps : List Addr) (fs : List (List Int)) (x : Int), vs = [.ref D, .int x] ∧ FamAt H0 H D ps fs ∧ Ex H0 H ∧ fs.length ≤ 1000 ∧ fs.flatten.length ≤ 1000 ∧
  ∀ (H' : Hp) (ps' : List Addr), (∀ p ∈ ps, p ∈ ps') → FamAt H0 H' D ps' (ins fs x) → Ex H0 H' → Q .non H'
end
end Old
/-! ### the law's insertion into rows of the def's own -/
abbrev ovFs (fs : List (List Int)) : List OV := fs.map fun r => .ls (oI' r)
section
variable {K : PySem.W.Frag}
theorem own_ints {F : Lv → Hp} {S : List Addr} {H : Hp} : ∀ (ws : List Int), OwnAll K F S H (oI' ws) (ws.map V.int) []
  | [] => .nil
  | w :: ws => (OwnAll.cons (.da (.int w)) (own_ints ws) fun z hz => (List.not_mem_nil hz).elim : OwnAll K F S H _ _ ([] ++ []))
theorem own_ints_inv {F : Lv → Hp} {S : List Addr} {H : Hp} : ∀ {ws : List Int} {vs : List V} {B : List Addr}, OwnAll K F S H (oI' ws) vs B → vs = ws.map V.int ∧ B = []
  | [], _, _, h => by cases h; exact ⟨rfl, rfl⟩
  | w :: ws, _, _, h => by
    cases h with
    | cons a b c =>
      obtain ⟨rfl, rfl⟩ := own_ints_inv b
      cases a with
      | da a =>
        cases a
        exact ⟨rfl, rfl⟩
theorem own_fam {F : Lv → Hp} {S : List Addr} {H : Hp} : ∀ {fs : List (List Int)} {vs : List V} {B : List Addr}, OwnAll K F S H (ovFs fs) vs B → vs = B.map V.ref ∧ B.length = fs.length ∧ (∀ (i : Nat) (p : Addr) (l : List Int), B[i]? = some p → fs[i]? = some l → H p = some (.lst (l.map V.int))) ∧ B.Nodup
  | [], _, _, h => by cases h; exact ⟨rfl, rfl, fun i p l h => by simp at h, List.nodup_nil⟩
  | r :: fs, _, _, h => by
    cases h with
    | @cons _ _ A1 _ _ B1 a b c =>
      obtain ⟨h1, h2, h3, h4⟩ := own_fam b
      cases a with
      | @ls a _ vs A2 k1 k2 k3 =>
        obtain ⟨e1, e2⟩ := own_ints_inv k2
        subst e1 e2
        refine ⟨by rw [h1]; rfl, by simp [h2], fun i p l hp hl => ?_, by
          rw [show [a] ++ B1 = a :: B1 from rfl, List.nodup_cons]
          exact ⟨c a (by simp), h4⟩⟩
        cases i with
        | zero =>
          simp only [List.cons_append, List.getElem?_cons_zero, Option.some.injEq] at hp hl
          subst hp hl
          exact k1
        | succ i => exact h3 i p l (by simpa using hp) (by simpa using hl)
theorem fam_own {F : Lv → Hp} {S : List Addr} {H : Hp} : ∀ {fs : List (List Int)} {ps : List Addr}, ps.length = fs.length → (∀ (i : Nat) (p : Addr) (l : List Int), ps[i]? = some p → fs[i]? = some l → H p = some (.lst (l.map V.int))) → ps.Nodup → OwnAll K F S H (ovFs fs) (ps.map V.ref) ps
  | [], [], _, _, _ => .nil
  | [], _ :: _, h, _, _ => by simp at h
  | _ :: _, [], h, _, _ => by simp at h
  | r :: fs, p :: ps, h, k, n => by
    rw [List.nodup_cons] at n
    have h1 := k 0 p r rfl rfl
    exact (OwnAll.cons (.ls h1 (own_ints r) List.not_mem_nil) (fam_own (by simpa using h) (fun i q l hq hl => k (i + 1) q l (by simpa using hq) (by simpa using hl)) n.2) (fun z hz => by rw [List.mem_singleton.mp hz]; exact n.1) : OwnAll K F S H _ _ ([p] ++ ps))
/-- _law_insert(x, e) -/
def sIns (i : Nat) (e : EX K) : SX K where
  ts := fun E => tDrop (tCall (Old.spInsert K) [] E0 (tCons (tVar i) (tCons (e.te E) tNil)))
  wp := fun env P => onLs env i fun xs => e.wp env (fun o => rd o fun _ d => match d with
    | .int x => ∃ fs, xs = ovFs fs ∧ fs.length ≤ 1000 ∧ fs.flatten.length ≤ 1000 ∧ P.nx (env.set i (some (.ls (ovFs (ins fs x)))))
    | _ => False) P.xc
  ok := fun {E H0 S0 A S σ H env P D} r n h c => by
    obtain ⟨xs, he, h⟩ := onLs_of h
    obtain ⟨a, vs, Bx, h1, h2, _⟩ := Rel.mut1 r.at' n he
    refine ⟨.ref a, h1, e.ok r h (c.ex r) _ fun v H2 o ho s2 vr => ?_⟩
    have c2 : At K H0 S0 A S σ env H H2 := ⟨r, s2⟩
    obtain ⟨l, d, ho, dv⟩ := vr.rd c2 ho
    cases dv <;> first | exact ho.elim | skip
    rename_i x
    obtain ⟨fs, rfl, z1, z2, hk⟩ := ho
    obtain ⟨a', vs', B, h1', h2', h3, aA, aB, hBA, hm⟩ := Rel.mut c2 n he
    rw [h1] at h1'
    cases h1'
    obtain ⟨rfl, f2, f3, f4⟩ := own_fam h3
    have G : Ex (ct (fun b => decide (b ∈ a :: B)) H2) H2 := ct_le
    have F0 : Old.FamAt (ct (fun b => decide (b ∈ a :: B)) H2) H2 a B fs := by
      refine ⟨h2', f2, f3, f4, aB, ?_, fun p hp => ?_⟩
      · show (if decide (a ∈ a :: B) = true then none else H2 a) = none
        rw [if_pos (decide_eq_true List.mem_cons_self)]
      · show (if decide (p ∈ a :: B) = true then none else H2 p) = none
        rw [if_pos (decide_eq_true (List.mem_cons_of_mem _ hp))]
    refine (?_ : Old.spInsert K ([V.ref a, V.int x] ++ []) H2 (fun _ H' => D.nx σ H') E0)
    rw [List.append_nil]
    refine ⟨_, a, B, fs, x, rfl, F0, G, z1, z2, fun H' ps' hsub F1 e1 => ?_⟩
    have aS : a ∉ S := r.dis a aA
    have old : ∀ p ∈ ps', p ∈ B ∨ H2 p = none := fun p hp => by
      have := F1.fr p hp
      by_cases q : p ∈ a :: B
      · rcases List.mem_cons.mp q with w | w
        · subst w; exact absurd hp F1.nD
        · exact .inl w
      · refine .inr ?_
        have e : ct (fun b => decide (b ∈ a :: B)) H2 p = H2 p := by
          show (if decide (p ∈ a :: B) = true then none else H2 p) = H2 p
          rw [if_neg (by simpa using q)]
        rw [← e]; exact this
    have hk' : ∀ b o, b ≠ a → b ∉ B → H2 b = some o → H' b = some o := fun b o n1 n2 eb => e1 b o (ct_of (decide_eq_false fun z => (List.mem_cons.mp z).elim n1 n2) eb)
    have lo' : ∀ p ∈ ps', isLo (H' p) = true := fun p hp => by
      obtain ⟨i, hi⟩ := List.mem_iff_getElem?.mp hp
      have hl : i < (ins fs x).length := by rw [← F1.len]; exact (List.getElem?_eq_some_iff.mp hi).1
      rw [F1.at' i p _ hi (List.getElem?_eq_getElem hl)]
      rfl
    have hx := hm H' (ovFs (ins fs x)) (ps'.map V.ref) ps' (ps'.filter fun p => decide (p ∉ B)) (fun b o _ n1 n2 eb => hk' b o n1 n2 eb) (fun s hs => by
      obtain ⟨u, y, z, e⟩ := c2.rel.str s hs
      exact ⟨u, y, z, hk' s _ (fun w => aS (by rw [← w]; exact hs)) (fun w => r.dis s (hBA s w) hs) e⟩) F1.d (fun b hb => lo' b (hsub b hb)) (fun p hp => by
      rw [List.mem_filter] at hp
      have nB : p ∉ B := by simpa using hp.2
      refine ⟨?_, lo' p hp.1⟩
      rcases old p hp.1 with w | w
      · exact absurd w nB
      · cases q : H p with
        | none => rfl
        | some u =>
          have := c2.dom (b := p) (by rw [q]; rfl)
          rw [w] at this; cases this) (fam_own F1.len F1.at' F1.nd) F1.nD (fun b hb => by
      by_cases w : b ∈ B
      · exact .inl w
      · exact .inr (List.mem_filter.mpr ⟨hb, by simpa using w⟩))
    obtain ⟨r3, f3⟩ := hx
    refine c.nx _ S σ H' _ r3 (n.setls ?_) f3 hk
    have : ∀ gs : List (List Int), OV.nds (ovFs gs) = true := fun gs => by
      induction gs with
      | nil => rfl
      | cons g gs ih =>
        simp only [List.map_cons, OV.nds, OV.nd, Bool.and_eq_true]
        refine ⟨?_, ih⟩
        induction g with
        | nil => rfl
        | cons w ws ih2 => simp only [List.map_cons, OV.nds, OV.nd, Bool.and_eq_true]; exact ⟨by decide, ih2⟩
    exact this _
end
theorem keep_lsI {l : Lv} {ws : List Int} : keep (.ls (ws.map fun w => .da l (.int w))) = some (.da .di (dW ws)) := by
  show (OV.ds (ws.map fun w => OV.da l (.int w))).map (fun ds => OV.da .di (.list ds)) = _
  rw [ds_ints]
  rfl
theorem w_ins {K : PySem.W.Frag} {env : Env} {P : Post} (i : Nat) (e : EX K) : (sIns i e).wp env P = onLs env i fun xs => e.wp env (fun o => rd o fun _ d => match d with
    | .int x => ∃ fs, xs = ovFs fs ∧ fs.length ≤ 1000 ∧ fs.flatten.length ≤ 1000 ∧ P.nx (env.set i (some (.ls (ovFs (ins fs x)))))
    | _ => False) P.xc := (rfl)
/-! ### tables: inserting by rows, taking out -/
def srt (r : List Int) : Prop := r.Pairwise (· ≤ ·)
def below (lo up : List Int) : Prop := lo.length ≤ up.length ∧ ∀ m, m < lo.length → up.getD m 0 < lo.getD m 0
def IsT : List (List Int) → Prop
  | [] => True
  | r :: rs => r ≠ [] ∧ srt r ∧ (∀ l, rs.head? = some l → below l r) ∧ IsT rs
theorem gd_of {r : List Int} {i : Nat} (h : i < r.length) : r.getD i 0 = r[i] := by
  rw [List.getD_eq_getElem?_getD, List.getElem?_eq_getElem h]
  rfl
theorem gd_set {r : List Int} {c i : Nat} {x : Int} (h : c < r.length) : (r.set c x).getD i 0 = if i = c then x else r.getD i 0 := by
  rw [List.getD_eq_getElem?_getD, List.getElem?_set, List.getD_eq_getElem?_getD]
  by_cases e : c = i
  · subst e
    rw [if_pos rfl, if_pos h, if_pos rfl]
    rfl
  · rw [if_neg e, if_neg (fun z => e z.symm)]
theorem gd_app {r : List Int} {x : Int} {i : Nat} : (r ++ [x]).getD i 0 = if i < r.length then r.getD i 0 else if i = r.length then x else 0 := by
  rw [List.getD_eq_getElem?_getD]
  by_cases h : i < r.length
  · rw [if_pos h, List.getElem?_append_left h, List.getD_eq_getElem?_getD]
  · rw [if_neg h]
    by_cases e : i = r.length
    · subst e
      rw [if_pos rfl]
      simp
    · rw [if_neg e, List.getElem?_eq_none (by rw [List.length_append, List.length_singleton]; omega)]
      rfl
theorem srt_le {r : List Int} (h : srt r) {i j : Nat} (hij : i ≤ j) (hj : j < r.length) : r.getD i 0 ≤ r.getD j 0 := by
  rw [gd_of (show i < r.length by omega), gd_of hj]
  rcases Nat.lt_or_eq_of_le hij with z | z
  · exact List.pairwise_iff_getElem.mp h i j (by omega) hj z
  · subst z; exact Int.le_refl _
theorem srt_of {r : List Int} (h : ∀ i j, i < j → j < r.length → r.getD i 0 ≤ r.getD j 0) : srt r := by
  refine List.pairwise_iff_getElem.mpr fun i j hi hj hij => ?_
  have := h i j hij hj
  rwa [gd_of hi, gd_of hj] at this
/-- how many items of a list satisfy p, if just the first k do -/
theorem count_first {p : Int → Bool} : ∀ {r : List Int} {k : Nat}, k ≤ r.length → (∀ i, i < r.length → (p (r.getD i 0) = true ↔ i < k)) → (r.filter p).length = k
  | [], k, hk, _ => by simp at hk; subst hk; rfl
  | a :: r, k, hk, h => by
    have h0 : p a = true ↔ 0 < k := h 0 (by simp)
    have hr : ∀ k', (∀ i, i < r.length → (i + 1 < k ↔ i < k')) → k' ≤ r.length → (r.filter p).length = k' := fun k' hk' hl => count_first hl fun i hi => (h (i + 1) (by simpa using hi)).trans (hk' i hi)
    rw [List.filter_cons]
    cases k with
    | zero =>
      have : p a = false := by
        cases c : p a with
        | false => rfl
        | true => exact absurd (h0.mp c) (by omega)
      rw [this, if_neg Bool.false_ne_true]
      exact hr 0 (fun i _ => by omega) (Nat.zero_le _)
    | succ k =>
      rw [if_pos (h0.mpr (by omega)), List.length_cons, hr k (fun i _ => by omega) (by simpa using hk)]
theorem insRow_at {r : List Int} {x : Int} (hs : srt r) : ∀ k, k < r.length → (r.getD k 0 ≤ x ↔ k < insRow r x) := by
  induction r with
  | nil => intro k hk; simp at hk
  | cons a r ih =>
    intro k hk
    have hs' := List.pairwise_cons.mp hs
    have e : insRow (a :: r) x = (if a ≤ x then 1 else 0) + insRow r x := by
      unfold insRow
      rw [List.filter_cons]
      by_cases c : a ≤ x
      · rw [if_pos (decide_eq_true c), if_pos c, List.length_cons]; omega
      · rw [if_neg (by simpa using c), if_neg c]; omega
    rw [e]
    by_cases c : a ≤ x
    · rw [if_pos c]
      cases k with
      | zero =>
        show a ≤ x ↔ _
        exact ⟨fun _ => by omega, fun _ => c⟩
      | succ k =>
        have := ih hs'.2 k (by simpa using hk)
        show r.getD k 0 ≤ x ↔ _
        rw [this]
        omega
    · have z : insRow r x = 0 := by
        unfold insRow
        rw [List.length_eq_zero_iff, List.filter_eq_nil_iff]
        intro y hy
        have := hs'.1 y hy
        rw [decide_eq_true_iff]
        omega
      rw [if_neg c, z]
      refine ⟨fun h => ?_, fun h => by omega⟩
      exfalso
      cases k with
      | zero => exact c h
      | succ k =>
        have hk2 : k < r.length := by simpa using hk
        have h : r.getD k 0 ≤ x := h
        rw [gd_of hk2] at h
        have := hs'.1 r[k] (List.getElem_mem hk2)
        omega
theorem insRow_eq {r : List Int} {x : Int} {k : Nat} (hk : k ≤ r.length) (h : ∀ i, i < r.length → (r.getD i 0 ≤ x ↔ i < k)) : insRow r x = k := count_first hk fun i hi => by rw [decide_eq_true_iff]; exact h i hi
/-- the row after the insertion, the letter that is pushed out -/
theorem srt_app {r : List Int} {x : Int} (hs : srt r) (h : insRow r x = r.length) : srt (r ++ [x]) := by
  refine srt_of fun i j hij hj => ?_
  rw [List.length_append, List.length_singleton] at hj
  rw [gd_app, gd_app, if_pos (show i < r.length by omega)]
  by_cases c : j < r.length
  · rw [if_pos c]; exact srt_le hs (by omega) c
  · rw [if_neg c, if_pos (by omega)]
    exact (insRow_at hs i (by omega)).mpr (by omega)
theorem srt_set {r : List Int} {x : Int} (hs : srt r) (h : insRow r x < r.length) : srt (r.set (insRow r x) x) := by
  refine srt_of fun i j hij hj => ?_
  rw [List.length_set] at hj
  rw [gd_set h, gd_set h]
  by_cases c1 : i = insRow r x
  · subst c1
    rw [if_pos rfl, if_neg (by omega)]
    have := (insRow_at (x := x) hs j hj)
    have h2 : ¬ r.getD j 0 ≤ x := fun z => by have := this.mp z; omega
    omega
  · rw [if_neg c1]
    by_cases c2 : j = insRow r x
    · rw [if_pos c2]
      exact (insRow_at hs i (by omega)).mpr (by omega)
    · rw [if_neg c2]
      exact srt_le hs (by omega) hj
theorem pushed_gt {r : List Int} {x : Int} (hs : srt r) (h : insRow r x < r.length) : x < r.getD (insRow r x) 0 := by
  have := (insRow_at (x := x) hs _ h)
  have h2 : ¬ r.getD (insRow r x) 0 ≤ x := fun z => by have := this.mp z; omega
  omega
/-- the head of what is below goes on being below -/
theorem ins_below {r : List Int} {x : Int} {rs : List (List Int)} (hs : srt r) (h : insRow r x < r.length) (ht : IsT rs) (hb : ∀ l, rs.head? = some l → below l r) :
    ∀ l, (ins rs (r.getD (insRow r x) 0)).head? = some l → below l (r.set (insRow r x) x) := by
  intro l hl
  have hy := pushed_gt hs h
  have low : ∀ d, d ≤ insRow r x → (r.set (insRow r x) x).getD d 0 < r.getD (insRow r x) 0 := fun d hd => by
    rw [gd_set h]
    by_cases c : d = insRow r x
    · rw [if_pos c]; exact hy
    · rw [if_neg c]
      have := (insRow_at (x := x) hs d (by omega)).mpr (by omega)
      omega
  cases rs with
  | nil =>
    unfold ins at hl
    simp only [List.head?_cons, Option.some.injEq] at hl
    subst hl
    refine ⟨by rw [List.length_set]; simp; omega, fun m hm => ?_⟩
    have : m = 0 := by simpa using hm
    subst this
    exact low 0 (Nat.zero_le _)
  | cons l0 rs =>
    obtain ⟨b1, b2⟩ := hb l0 rfl
    obtain ⟨_, hs0, _, _⟩ := ht
    have hd : insRow l0 (r.getD (insRow r x) 0) ≤ insRow r x := by
      by_cases q : insRow l0 (r.getD (insRow r x) 0) ≤ insRow r x
      · exact q
      · exfalso
        have hlt : insRow r x < l0.length := by have := insRow_le l0 (r.getD (insRow r x) 0); omega
        have h1 := (insRow_at (x := r.getD (insRow r x) 0) hs0 (insRow r x) hlt).mpr (by omega)
        have h2 := b2 _ hlt
        omega
    have bel : ∀ m, m < l0.length → (r.set (insRow r x) x).getD m 0 < l0.getD m 0 := fun m hm => by
      have := b2 m hm
      rw [gd_set h]
      by_cases c : m = insRow r x
      · rw [if_pos c]
        subst c
        omega
      · rw [if_neg c]; exact this
    unfold ins at hl
    by_cases c : insRow l0 (r.getD (insRow r x) 0) = l0.length
    · rw [if_pos c] at hl
      simp only [List.head?_cons, Option.some.injEq] at hl
      subst hl
      refine ⟨by rw [List.length_append, List.length_set, List.length_singleton]; omega, fun m hm => ?_⟩
      rw [List.length_append, List.length_singleton] at hm
      rw [gd_app]
      by_cases q : m < l0.length
      · rw [if_pos q]; exact bel m q
      · rw [if_neg q, if_pos (by omega)]; exact low m (by omega)
    · rw [if_neg c] at hl
      simp only [List.head?_cons, Option.some.injEq] at hl
      subst hl
      have hlt : insRow l0 (r.getD (insRow r x) 0) < l0.length := by have := insRow_le l0 (r.getD (insRow r x) 0); omega
      refine ⟨by rw [List.length_set, List.length_set]; exact b1, fun m hm => ?_⟩
      rw [List.length_set] at hm
      rw [gd_set hlt]
      by_cases q : m = insRow l0 (r.getD (insRow r x) 0)
      · rw [if_pos q]; exact low m (by omega)
      · rw [if_neg q]; exact bel m hm
theorem ins_T : ∀ {fs : List (List Int)} {x : Int}, IsT fs → IsT (ins fs x)
  | [], x, _ => ⟨by simp, List.pairwise_singleton .., fun l h => by simp at h, True.intro⟩
  | r :: rs, x, ⟨h1, h2, h3, h4⟩ => by
    unfold ins
    by_cases c : insRow r x = r.length
    · rw [if_pos c]
      refine ⟨by simp, srt_app h2 c, fun l hl => ?_, h4⟩
      obtain ⟨b1, b2⟩ := h3 l hl
      refine ⟨by rw [List.length_append]; omega, fun m hm => ?_⟩
      rw [gd_app, if_pos (by omega)]
      exact b2 m hm
    · rw [if_neg c]
      have hlt : insRow r x < r.length := by have := insRow_le r x; omega
      refine ⟨fun z => h1 (by have := congrArg List.length z; rw [List.length_set] at this; exact List.length_eq_zero_iff.mp this), srt_set h2 hlt, ins_below h2 hlt h4 h3, ins_T h4⟩
theorem tab_T (ws : List Int) : IsT (tab ws) := by
  have h : ∀ (ws : List Int) (fs : List (List Int)), IsT fs → IsT (ws.foldl ins fs) := fun ws => by
    induction ws with
    | nil => exact fun fs h => h
    | cons w ws ih => exact fun fs h => ih _ (ins_T h)
  exact h ws [] True.intro
/-- the row that grows -/
def insN : List (List Int) → Int → Nat
  | [], _ => 0
  | r :: rs, x => if insRow r x = r.length then 0 else insN rs (r.getD (insRow r x) 0) + 1
theorem insN_le : ∀ (fs : List (List Int)) (x : Int), insN fs x ≤ fs.length
  | [], _ => Nat.le_refl _
  | r :: rs, x => by
    unfold insN
    split
    · exact Nat.zero_le _
    · exact Nat.succ_le_succ (insN_le rs _)
/-- the lengths after an insertion -/
theorem ins_len : ∀ (fs : List (List Int)) (x : Int) (k : Nat), ((ins fs x).getD k []).length = (fs.getD k []).length + if k = insN fs x then 1 else 0
  | [], x, 0 => rfl
  | [], x, k + 1 => rfl
  | r :: rs, x, k => by
    unfold ins insN
    by_cases c : insRow r x = r.length
    · rw [if_pos c, if_pos c]
      cases k with
      | zero => simp
      | succ k => simp
    · rw [if_neg c, if_neg c]
      cases k with
      | zero => simp
      | succ k =>
        have := ins_len rs (r.getD (insRow r x) 0) k
        simp only [List.getD_cons_succ, Nat.add_right_cancel_iff] at this ⊢
        exact this
theorem ins_length : ∀ (fs : List (List Int)) (x : Int), (ins fs x).length = if insN fs x = fs.length then fs.length + 1 else fs.length
  | [], _ => rfl
  | r :: rs, x => by
    unfold ins insN
    by_cases c : insRow r x = r.length
    · rw [if_pos c, if_pos c]
      simp
    · rw [if_neg c, if_neg c]
      have := ins_length rs (r.getD (insRow r x) 0)
      simp only [List.length_cons, Nat.add_right_cancel_iff, this]
      split <;> rfl
/-- taking the end of a row out -/
def cless (r : List Int) (z : Int) : Nat := (r.filter fun y => decide (y < z)).length
theorem cless_le (r : List Int) (x : Int) : cless r x ≤ r.length := List.length_filter_le _ _
def unIns : List (List Int) → Nat → List (List Int) × Int
  | [], _ => ([], 0)
  | r :: rs, 0 => (if r.length ≤ 1 then rs else r.dropLast :: rs, r.getD (r.length - 1) 0)
  | r :: rs, n + 1 => (r.set (cless r (unIns rs n).2 - 1) (unIns rs n).2 :: (unIns rs n).1, r.getD (cless r (unIns rs n).2 - 1) 0)
theorem unIns_ins : ∀ {fs : List (List Int)} {x : Int}, IsT fs → unIns (ins fs x) (insN fs x) = (fs, x)
  | [], x, _ => rfl
  | r :: rs, x, ⟨h1, h2, h3, h4⟩ => by
    unfold ins insN
    by_cases c : insRow r x = r.length
    · rw [if_pos c, if_pos c]
      have hr : 0 < r.length := List.length_pos_iff.mpr h1
      unfold unIns
      rw [if_neg (by rw [List.length_append, List.length_singleton]; omega), List.dropLast_concat, gd_app, List.length_append, List.length_singleton, if_neg (by omega), if_pos (by omega)]
    · rw [if_neg c, if_neg c]
      have hlt : insRow r x < r.length := by have := insRow_le r x; omega
      have hy := pushed_gt h2 hlt
      have ih := unIns_ins (x := r.getD (insRow r x) 0) h4
      unfold unIns
      rw [ih]
      have hc : cless (r.set (insRow r x) x) (r.getD (insRow r x) 0) = insRow r x + 1 := by
        refine count_first (by rw [List.length_set]; omega) fun i hi => ?_
        rw [List.length_set] at hi
        rw [decide_eq_true_iff, gd_set hlt]
        by_cases q : i = insRow r x
        · rw [if_pos q]; exact ⟨fun _ => by omega, fun _ => hy⟩
        · rw [if_neg q]
          by_cases q2 : i < insRow r x
          · have := (insRow_at (x := x) h2 i hi).mpr q2
            exact ⟨fun _ => by omega, fun _ => by omega⟩
          · have := srt_le h2 (show insRow r x ≤ i by omega) hi
            exact ⟨fun z => by omega, fun z => by omega⟩
      show ((r.set (insRow r x) x).set (cless (r.set (insRow r x) x) (r.getD (insRow r x) 0) - 1) (r.getD (insRow r x) 0) :: rs, (r.set (insRow r x) x).getD (cless (r.set (insRow r x) x) (r.getD (insRow r x) 0) - 1) 0) = (r :: rs, x)
      rw [hc, Nat.add_sub_cancel, List.set_set, gd_set hlt, if_pos rfl]
      have e : r.set (insRow r x) (r.getD (insRow r x) 0) = r := by
        rw [gd_of hlt]
        exact List.set_getElem_self hlt
      rw [e]
theorem T_below : ∀ {fs : List (List Int)} {k : Nat}, IsT fs → k + 1 < fs.length → below (fs.getD (k + 1) []) (fs.getD k [])
  | [], k, _, h => by simp at h
  | [r], k, _, h => by simp at h
  | r :: l :: rs, 0, ⟨_, _, h3, _⟩, _ => h3 l rfl
  | r :: l :: rs, k + 1, ⟨_, _, _, h4⟩, h => T_below (fs := l :: rs) (k := k) h4 (by simpa using h)
theorem T_row : ∀ {fs : List (List Int)} {k : Nat}, IsT fs → k < fs.length → fs.getD k [] ≠ [] ∧ srt (fs.getD k [])
  | [], k, _, h => by simp at h
  | r :: rs, 0, ⟨h1, h2, _, _⟩, _ => ⟨h1, h2⟩
  | r :: rs, k + 1, ⟨_, _, _, h4⟩, h => T_row (fs := rs) (k := k) h4 (by simpa using h)
theorem T_len {fs : List (List Int)} (h : IsT fs) {k : Nat} : (fs.getD (k + 1) []).length ≤ (fs.getD k []).length := by
  by_cases c : k + 1 < fs.length
  · exact (T_below h c).1
  · rw [List.getD_eq_getElem?_getD, List.getElem?_eq_none (by omega)]
    exact Nat.zero_le _
/-! taking out, row by row -/
def unRaw : List (List Int) → Nat → List (List Int) × Int
  | [], _ => ([], 0)
  | r :: rs, 0 => (r.dropLast :: rs, r.getD (r.length - 1) 0)
  | r :: rs, n + 1 => (r.set (cless r (unRaw rs n).2 - 1) (unRaw rs n).2 :: (unRaw rs n).1, r.getD (cless r (unRaw rs n).2 - 1) 0)
theorem cless_at {r : List Int} {z : Int} (hs : srt r) : ∀ k, k < r.length → (r.getD k 0 < z ↔ k < cless r z) := by
  have e : cless r z = insRow r (z - 1) := by
    unfold cless insRow
    congr 1
    refine List.filter_congr fun y _ => ?_
    rw [Bool.eq_iff_iff, decide_eq_true_iff, decide_eq_true_iff]
    omega
  intro k hk
  rw [e, ← insRow_at hs k hk]
  omega
/-- the letter on its way up is one of the row that it leaves -/
theorem unRaw_mem : ∀ {fs : List (List Int)} {n : Nat}, IsT fs → n < fs.length → ∃ c, c < (fs.getD 0 []).length ∧ (unRaw fs n).2 = (fs.getD 0 []).getD c 0
  | [], n, _, h => by simp at h
  | r :: rs, 0, ⟨h1, _, _, _⟩, _ => ⟨r.length - 1, by have := List.length_pos_iff.mpr h1; show _ < r.length; omega, rfl⟩
  | r :: rs, n + 1, ⟨h1, _, _, _⟩, _ => ⟨cless r (unRaw rs n).2 - 1, by have := List.length_pos_iff.mpr h1; have := cless_le r (unRaw rs n).2; show _ < r.length; omega, rfl⟩
theorem unRaw_pos {r : List Int} {rs : List (List Int)} {n : Nat} (h : IsT (r :: rs)) (hn : n < rs.length) : 1 ≤ cless r (unRaw rs n).2 := by
  obtain ⟨h1, h2, h3, h4⟩ := h
  obtain ⟨c, hc, e⟩ := unRaw_mem h4 hn
  cases rs with
  | nil => simp at hn
  | cons l rs =>
    obtain ⟨b1, b2⟩ := h3 l rfl
    have hc : c < l.length := hc
    have e : (unRaw (l :: rs) n).2 = l.getD c 0 := e
    have := (cless_at (z := (unRaw (l :: rs) n).2) h2 c (by omega)).mp (by rw [e]; exact b2 c hc)
    omega
/-- a corner in the row n -/
def Corn (fs : List (List Int)) (n : Nat) : Prop := n < fs.length ∧ (fs.getD (n + 1) []).length < (fs.getD n []).length
theorem unRaw_len : ∀ (fs : List (List Int)) (n : Nat), (unRaw fs n).1.length = fs.length
  | [], _ => by cases ‹Nat› <;> rfl
  | r :: rs, 0 => rfl
  | r :: rs, n + 1 => by
    show (unRaw rs n).1.length + 1 = rs.length + 1
    rw [unRaw_len rs n]
theorem T_filter : ∀ {fs : List (List Int)}, IsT fs → fs.filter (fun r => decide (0 < r.length)) = fs
  | [], _ => rfl
  | r :: rs, ⟨h1, _, _, h4⟩ => by
    rw [List.filter_cons, if_pos (decide_eq_true (List.length_pos_iff.mpr h1)), T_filter h4]
theorem unRaw_filter : ∀ {fs : List (List Int)} {n : Nat}, IsT fs → Corn fs n → ((unRaw fs n).1.filter fun r => decide (0 < r.length)) = (unIns fs n).1 ∧ (unRaw fs n).2 = (unIns fs n).2
  | [], n, _, ⟨h, _⟩ => by simp at h
  | r :: rs, 0, ⟨h1, h2, h3, h4⟩, ⟨_, hc⟩ => by
    unfold unRaw unIns
    refine ⟨?_, rfl⟩
    have hr := List.length_pos_iff.mpr h1
    rw [List.filter_cons]
    by_cases c : r.length ≤ 1
    · rw [if_pos c, if_neg (by rw [decide_eq_true_iff, List.length_dropLast]; omega), T_filter h4]
    · rw [if_neg c, if_pos (by rw [decide_eq_true_iff, List.length_dropLast]; omega), T_filter h4]
  | r :: rs, n + 1, ⟨h1, h2, h3, h4⟩, ⟨hn, hc⟩ => by
    obtain ⟨e1, e2⟩ := unRaw_filter (fs := rs) (n := n) h4 ⟨by simpa using hn, hc⟩
    unfold unRaw unIns
    rw [List.filter_cons, if_pos (by rw [decide_eq_true_iff, List.length_set]; exact List.length_pos_iff.mpr h1), e1, e2]
    exact ⟨rfl, rfl⟩
/-! ### rows that a def changes -/
abbrev oR (fs : List (List Int)) : List OV := fs.map fun r => .da .nw (dR r)
theorem ds_rows (fs : List (List Int)) : OV.ds (oR fs) = some (fs.map dR) := by
  induction fs with
  | nil => exact OV_ds_nil
  | cons r fs ih => simp only [List.map_cons, OV.ds, OV.d, ih]; rfl
theorem rd_lsR {fs : List (List Int)} {k : Lv → PyData → Prop} : rd (.ls (fs.map fun r => OV.da .nw (dR r))) k = k .di (.list (fs.map dR)) := by
  show (match OV.ds (oR fs) with
    | some ds => k .di (.list ds)
    | none => False) = _
  rw [ds_rows]
theorem oR_snoc (fs : List (List Int)) (r : List Int) : (fs.map fun r => OV.da .nw (dR r)) ++ [.da .nw (dR r)] = (fs ++ [r]).map fun r => OV.da .nw (dR r) := by simp
theorem oR_set (fs : List (List Int)) (k : Nat) (r : List Int) : (fs.map fun r => OV.da .nw (dR r)).set k (.da .nw (dR r)) = (fs.set k r).map fun r => OV.da .nw (dR r) := by simp [List.map_set]
theorem oR_at {fs : List (List Int)} {i : Int} {R : OV → Prop} (h0 : 0 ≤ i) (h1 : i < fs.length) (h : R (.da .nw (dR (fs.getD i.toNat [])))) : ixF (.ls (fs.map fun r => OV.da .nw (dR r))) i R := by
  have e : atI (fs.map fun r => OV.da .nw (dR r)) i = some (.da .nw (dR (fs.getD i.toNat []))) := by
    have : i = ((i.toNat : Nat) : Int) := by omega
    rw [this]
    refine atI_nat ?_
    rw [Int.toNat_natCast, List.getElem?_map, List.getElem?_eq_getElem (by omega), List.getD_eq_getElem?_getD, List.getElem?_eq_getElem (by omega)]
    rfl
  show (match atI (fs.map fun r => OV.da .nw (dR r)) i with
    | some q => R q
    | none => False)
  rw [e]
  exact h
theorem dT_at {fs : List (List Int)} {j : Nat} (h : j < fs.length) : (fs.map dR)[j]? = some (dR (fs.getD j [])) := by
  rw [List.getElem?_map, List.getElem?_eq_getElem h, List.getD_eq_getElem?_getD, List.getElem?_eq_getElem h]
  rfl
theorem itm_row {fs : List (List Int)} {i : Int} {k : PyData → Prop} (h0 : 0 ≤ i) (h1 : i < fs.length) (h : k (dR (fs.getD i.toNat []))) : itm (fs.map dR) i k := itm_of (j := i.toNat) (by omega) (dT_at (by omega)) h
theorem cut_rows_from (fs : List (List Int)) (k : Nat) : cutI (fs.map dR) (some (k : Int)) none = (fs.drop k).map dR := by
  unfold cutI
  rw [HT.sIx_none, HT.sIx_nat, List.length_map, ← List.map_drop]
  have e : fs.drop (min k fs.length) = fs.drop k := by
    by_cases c : k ≤ fs.length
    · rw [Nat.min_eq_left c]
    · rw [Nat.min_eq_right (by omega), List.drop_length, List.drop_eq_nil_iff.mpr (by omega)]
  rw [e]
  exact List.take_of_length_le (by rw [List.length_map, List.length_drop]; omega)
theorem mapR_app (xs ys : List (List Int)) : xs.map dR ++ ys.map dR = (xs ++ ys).map dR := List.map_append.symm
def putL (r : List Int) (k : Nat) (x : Int) : List Int := if k = r.length then r ++ [x] else r.set k x
def putO (r : List Int) (k : Nat) : PyData := if k = r.length then .none else .int (r.getD k 0)
theorem imm_putO {r : List Int} {k : Nat} : imm (putO r k) = true := by
  unfold putO
  split <;> rfl
theorem flat_mem {fs : List (List Int)} {r : List Int} (h : r ∈ fs) : r.length ≤ fs.flatten.length := by
  induction fs with
  | nil => cases h
  | cons a fs ih =>
    rw [List.flatten_cons, List.length_append]
    rcases List.mem_cons.mp h with z | z
    · rw [z]; omega
    · have := ih z; omega
theorem gdr_mem {fs : List (List Int)} {k : Nat} (h : k < fs.length) : fs.getD k [] ∈ fs := by
  rw [List.getD_eq_getElem?_getD, List.getElem?_eq_getElem h]
  exact List.getElem_mem h
theorem nrm_putO {l : Lv} {r : List Int} {k : Nat} : nrm l (putO r k) = .nw := by unfold nrm; rw [imm_putO]; rfl
theorem cut_init (ws : List Int) : cutI (ws.map PyData.int) none (some (-1)) = ws.dropLast.map .int := by
  unfold cutI
  have e : HT.sIx (ws.map PyData.int).length (ws.map PyData.int).length (some (-1)) = (ws.map PyData.int).length - 1 := by
    generalize (ws.map PyData.int).length = n
    show (if (-1 : Int) < 0 then ((-1 : Int) + (n : Int)).toNat else min (-1 : Int).toNat n) = n - 1
    rw [if_pos (by decide)]
    omega
  rw [e, HT.sIx_none, List.drop_zero, Nat.sub_zero, List.length_map, List.dropLast_eq_take, List.map_take]
theorem itm_last {ws : List Int} {k : PyData → Prop} (hn : 0 < ws.length) (h : k (.int (ws.getD (ws.length - 1) 0))) : itm (ws.map PyData.int) (-1) k := by
  have e : atI (ws.map PyData.int) (-1) = some (.int (ws.getD (ws.length - 1) 0)) := by
    unfold atI ixN
    rw [if_neg (by decide), List.length_map, if_pos (by omega)]
    show (ws.map PyData.int)[((-1 : Int) + (ws.length : Int)).toNat]? = some (.int (ws.getD (ws.length - 1) 0))
    have : ((-1 : Int) + (ws.length : Int)).toNat = ws.length - 1 := by omega
    rw [this]
    exact dW_at (by omega)
  unfold itm
  rw [e]
  exact h
theorem own_rows' (fs : List (List Int)) : (fs.map dR).map (fun d => OV.da (nrm .loc d) d) = fs.map fun r => .da .nw (dR r) := by
  rw [List.map_map]
  refine List.map_congr_left fun r _ => ?_
  show OV.da (nrm .loc (dR r)) (dR r) = _
  rw [nrm_R]
theorem own_ints' (ws : List Int) : (ws.map PyData.int).map (fun d => OV.da (nrm .loc d) d) = ws.map fun w => .da .nw (.int w) := by
  rw [List.map_map]
  rfl
theorem drop_cons {fs : List (List Int)} {n : Nat} (h : n < fs.length) : fs.drop n = fs.getD n [] :: fs.drop (n + 1) := by
  rw [List.drop_eq_getElem_cons h, List.getD_eq_getElem?_getD, List.getElem?_eq_getElem h]
  rfl
theorem set_split {fs : List (List Int)} {n : Nat} {y : List Int} (h : n < fs.length) : fs.set n y = fs.take n ++ y :: fs.drop (n + 1) := by
  rw [List.set_eq_take_append_cons_drop, if_pos h]
theorem set_take {fs U : List (List Int)} {n : Nat} {y : List Int} (h : n < fs.length) : (fs.take (n + 1) ++ U).set n y = fs.take n ++ (y :: U) := by
  have e : fs.take (n + 1) = fs.take n ++ [fs[n]] := by rw [List.take_add_one, List.getElem?_eq_getElem h]; rfl
  have hl : (fs.take n).length = n := by rw [List.length_take]; omega
  rw [e, List.append_assoc, List.set_append_right _ _ (by omega), hl, Nat.sub_self]
  rfl
abbrev rl (fs : List (List Int)) (k : Nat) : Nat := (fs.getD k []).length
/-- the lengths of the rows and a 0 -/
def Lq (fs : List (List Int)) : List Int := (fs.map fun (r : List Int) => (r.length : Int)) ++ [0]
theorem Lq_map (fs : List (List Int)) : (fs.map fun (r : List Int) => PyData.int (r.length : Int)) ++ [.int 0] = (Lq fs).map .int := by
  unfold Lq
  rw [List.map_append, List.map_map]
  rfl
theorem Lq_len (fs : List (List Int)) : (Lq fs).length = fs.length + 1 := by unfold Lq; rw [List.length_append, List.length_map]; rfl
theorem Lq_at {fs : List (List Int)} {k : Nat} (hk : k ≤ fs.length) : (Lq fs).getD k 0 = (rl fs k : Int) := by
  unfold Lq
  rw [List.getD_eq_getElem?_getD]
  by_cases c : k < fs.length
  · rw [List.getElem?_append_left (by rw [List.length_map]; exact c), List.getElem?_map, List.getElem?_eq_getElem c]
    show (fs[k].length : Int) = ((fs.getD k []).length : Int)
    rw [List.getD_eq_getElem?_getD, List.getElem?_eq_getElem c]
    rfl
  · have : k = fs.length := by omega
    subst this
    rw [List.getElem?_append_right (by rw [List.length_map]; exact Nat.le_refl _), List.length_map, Nat.sub_self]
    show (0 : Int) = ((fs.getD fs.length []).length : Int)
    rw [List.getD_eq_getElem?_getD, List.getElem?_eq_none (Nat.le_refl _)]
    rfl
theorem range_one : ∀ {m n : Nat}, n < m → (List.range m).filter (fun k => decide (k = n)) = [n]
  | 0, _, h => by omega
  | m + 1, n, h => by
    rw [List.range_succ, List.filter_append, List.filter_cons]
    by_cases c : n < m
    · rw [range_one c, if_neg (by rw [decide_eq_true_iff]; omega)]
      rfl
    · have e : (List.range m).filter (fun k => decide (k = n)) = [] := by
        rw [List.filter_eq_nil_iff]
        intro k hk
        rw [List.mem_range] at hk
        rw [decide_eq_true_iff]
        omega
      rw [e, if_pos (by rw [decide_eq_true_iff]; omega)]
      have : m = n := by omega
      rw [this]
      rfl
theorem ins_grown (fs : List (List Int)) (x : Int) : (List.range (ins fs x).length).filter (fun k => decide (rl fs k < rl (ins fs x) k)) = [insN fs x] := by
  have hl : insN fs x < (ins fs x).length := by
    have := ins_length fs x
    have := insN_le fs x
    split at * <;> omega
  rw [← range_one hl]
  refine List.filter_congr fun k _ => ?_
  have := ins_len fs x k
  rw [Bool.eq_iff_iff, decide_eq_true_iff, decide_eq_true_iff]
  show (fs.getD k []).length < ((ins fs x).getD k []).length ↔ _
  rw [this]
  by_cases c : k = insN fs x
  · rw [if_pos c]; exact ⟨fun _ => c, fun _ => by omega⟩
  · rw [if_neg c]; exact ⟨fun h => by omega, fun h => absurd h c⟩
theorem ins_corn {fs : List (List Int)} {x : Int} (h : IsT fs) : Corn (ins fs x) (insN fs x) := by
  have hl : insN fs x < (ins fs x).length := by
    have := ins_length fs x
    have := insN_le fs x
    split at * <;> omega
  refine ⟨hl, ?_⟩
  rw [ins_len, ins_len, if_pos rfl, if_neg (by omega)]
  have := T_len (k := insN fs x) h
  omega
/-! ### x = [list(v) for v in rows]: rows of the def's own -/
section
variable {K : PySem.W.Frag} {H0 H1 H2 H : Hp} {S0 A S : List Addr} {σ : L2.St} {env : Env}
theorem fz_addDs (r : Rel K H0 S0 A S σ H2 env) {ps : List Addr} (hD : ∀ p ∈ ps, H2 p = none) {H4 : Hp} (s : Step S H2 H4) (l : Lv) : Ex (fz H0 A S H2 H2 l) (fz H0 (ps ++ A) S H4 H4 l) := ct_ex fun b o hb e => by
  have nD : b ∉ ps := fun z => by rw [hD b z] at e; cases e
  have nSb : b ∉ S := fun z => by
    cases l with
    | nw =>
      have : bad H0 A S H2 H2 .nw b = true := by
        show ((H2 b).isSome && isLo (H2 b)) = true
        rw [(r.str b z).lo, e]
        rfl
      rw [this] at hb; cases hb
    | _ => simp [bad, z] at hb
  have e2 := s.kp b o nSb e
  refine ⟨?_, e2⟩
  cases l <;> simp only [bad, e, e2, List.mem_append, nD, false_or] at hb ⊢ <;> exact hb
/-- rows that are new join the def's own -/
theorem Rel.addF {i : Nat} {D : Addr} {ps : List Addr} {fs : List (List Int)} (c : At K H0 S0 A S σ env H1 H2) (n1 : ∀ b ∈ D :: ps, H1 b = none) (e : H2 D = some (.lst (ps.map V.ref))) (hl : ps.length = fs.length)
    (hat : ∀ (q : Nat) (p : Addr) (l : List Int), ps[q]? = some p → fs[q]? = some l → H2 p = some (.lst (l.map V.int))) (nd : ps.Nodup) (np : D ∉ ps) :
    Rel K H0 S0 ((D :: ps) ++ A) S (σ.set i (some (.ref D))) H2 (env.set i (some (.ls (ovFs fs)))) ∧ Fm H0 A S H1 ((D :: ps) ++ A) S H2 := by
  have r2 := c.r.step c.s
  have nS : ∀ b ∈ D :: ps, b ∉ S := fun b hb z => by
    obtain ⟨xs, e⟩ := lo_some (c.r.lo b (.inr z))
    have := n1 b hb
    rw [e] at this; cases this
  have nA : ∀ b ∈ D :: ps, b ∉ A := fun b hb z => by
    obtain ⟨xs, e⟩ := lo_some (c.r.lo b (.inl z))
    have := n1 b hb
    rw [e] at this; cases this
  have n0 : ∀ b ∈ D :: ps, H0 b = none := fun b hb => by
    cases q : H0 b with
    | none => rfl
    | some u =>
      have := c.r.dom (b := b) (by rw [q]; rfl)
      rw [n1 b hb] at this; cases this
  have lo' : ∀ p ∈ D :: ps, isLo (H2 p) = true := fun p hp => by
    rcases List.mem_cons.mp hp with w | w
    · subst w; rw [e]; rfl
    · obtain ⟨q, hq⟩ := List.mem_iff_getElem?.mp w
      have hl2 : q < fs.length := by rw [← hl]; exact (List.getElem?_eq_some_iff.mp hq).1
      rw [hat q p _ hq (List.getElem?_eq_getElem hl2)]
      rfl
  have up := fun l => fz_addDs c.r n1 c.s l
  refine ⟨?_, fun l _ => up l⟩
  obtain ⟨B, h1, h2⟩ := c.r.own
  have h1' : OwnEnv K (fz H0 ((D :: ps) ++ A) S H2 H2) S H2 env σ B := h1.mono up (fun _ h => h) fun b hb u e => c.s.kp b u (c.r.dis b (h2 b hb)) e
  obtain ⟨B', h3, h4⟩ := h1'.set (i := i) (.ls e (fam_own hl hat nd) np) fun b hb z => nA b hb (h2 b z)
  refine ⟨⟨B', h3, fun b hb => (h4 b hb).elim (fun z => List.mem_append_right _ (h2 b z)) fun z => List.mem_append_left _ z⟩, fun a ha => ?_, fun a ha => ?_, r2.str, r2.ext, r2.sub, fun a ha => ?_, r2.nS⟩
  · exact (List.mem_append.mp ha).elim (lo' a) (r2.loA a)
  · exact (List.mem_append.mp ha).elim (nS a) (c.r.dis a)
  · exact (List.mem_append.mp ha).elim (n0 a) (c.r.nA a)
def isRow (o : OV) (r : List Int) : Prop := ∃ l, keep o = some (.da l (dR r)) ∨ keep o = some (.da l (.list (r.map .int)))
theorem da_ints_inv {G : Hp} : ∀ {r : List Int} {vs : List V}, DaAll G vs (r.map PyData.int) → vs = r.map V.int
  | [], _, h => by cases h; rfl
  | x :: r, _, h => by
    cases h with
    | cons a b =>
      cases a
      rw [da_ints_inv b]; rfl
theorem f2_at {α β : Type} {P : α → β → Prop} : ∀ {as : List α} {bs : List β} {k : Nat} {a : α}, F2 P as bs → as[k]? = some a → ∃ b, bs[k]? = some b ∧ P a b
  | _, _, _, _, .nil, h => by simp at h
  | _, _, 0, _, .cons p _, h => by
    simp only [List.getElem?_cons_zero, Option.some.injEq] at h
    subst h
    exact ⟨_, rfl, p⟩
  | _, _, k + 1, _, .cons _ q, h => by
    simp only [List.getElem?_cons_succ] at h
    obtain ⟨b, h1, h2⟩ := f2_at q h
    exact ⟨b, by simpa using h1, h2⟩
theorem tyes_intro {E : XK} {σ : L2.St} {H : Hp} {A B : Hp → Prop} (h : A H) : (tYes' (K := K)).tt E σ H fun b H3 => if b = true then A H3 else B H3 := by
  show (if true = true then A H else B H)
  exact iteT h
def sOwnL (i : Nat) (src : IX K) (j : Nat) : SX K where
  ts := fun E => tAsg ((xLc src (gN j) tYes' (xCB bList (xCons (xVar j) xNil)) [j] (hw1 j)).te E) (gName i)
  wp := fun env P => src.wp env (fun _ os => os.length ≤ 100000 ∧ j < env.length ∧ ∃ fs, F2 isRow os fs ∧ P.nx (env.set i (some (.ls (ovFs fs))))) P.xc
  ok := fun {E H0 S0 A S σ H env P Dx} r n h c => src.ok r h (c.ex r) _ fun J H2 b os hb s2 wk => fun D nD => by
    obtain ⟨hz, hj, fs, hfs, hk⟩ := hb
    have c2 : At K H0 S0 A S σ env H H2 := ⟨r, s2⟩
    have hlen : os.length = fs.length := hfs.len
    have nDS : D ∉ S := fun z => by
      obtain ⟨xs, e⟩ := lo_some (c2.rel.lo D (.inr z))
      rw [e] at nD; cases nD
    have hσ : j < σ.length := by
      obtain ⟨B, h1, _⟩ := r.own
      rw [← h1.len]; exact hj
    have st2 : ∀ {H'}, Step S H2 H' → ∀ {ys}, Step S H2 (upd H' D (.lst ys)) := fun s ys => ⟨fun b o nb e => by
      have : b ≠ D := fun z => by rw [z, nD] at e; cases e
      rw [upd_ne this]
      exact s.kp b o nb e, fun a ha h => by
      obtain ⟨x, y, z, e⟩ := s.st a ha h
      exact ⟨x, y, z, by rw [upd_ne (fun (w : a = D) => nDS (by rw [← w]; exact ha))]; exact e⟩⟩
    refine ⟨fun k m Hk => m = os.length - k ∧ k ≤ os.length ∧ Step S H2 Hk ∧ ∃ ps : List Addr, ps.length = k ∧ Hk D = some (.lst (ps.map V.ref)) ∧ D ∉ ps ∧ ps.Nodup ∧ (∀ p ∈ ps, H2 p = none) ∧ ∀ (q : Nat) (p : Addr) (r : List Int), ps[q]? = some p → fs[q]? = some r → Hk p = some (.lst (r.map V.int)),
      ⟨os.length, by simp, Nat.zero_le _, .ex (Ex.new nD), [], rfl, upd_same, List.not_mem_nil, List.nodup_nil, fun p hp => (List.not_mem_nil hp).elim, fun q p r h => by simp at h⟩, ?_⟩
    rintro k m Hk ⟨rfl, hi, sk, ps, hps, eD, nDp, nd, np, hat⟩
    by_cases hlt : k < os.length
    · refine .inr ⟨wk.go k Hk hlt sk, fun H' => k + 1 ≤ os.length ∧ Step S H2 H' ∧ ∃ ps : List Addr, ps.length = k + 1 ∧ H' D = some (.lst (ps.map V.ref)) ∧ D ∉ ps ∧ ps.Nodup ∧ (∀ p ∈ ps, H2 p = none) ∧ ∀ (q : Nat) (p : Addr) (r : List Int), ps[q]? = some p → fs[q]? = some r → H' p = some (.lst (r.map V.int)),
        fun H' h' => ⟨os.length - (k + 1), by omega, rfl, h'⟩, fun x H4 y => ?_⟩
      obtain ⟨ex4, o, eo, vo⟩ := wk.yld k Hk x H4 hlt sk y
      obtain ⟨r0, er, l0, hr⟩ := f2_at hfs eo
      have eD4 := ex4 _ _ eD
      have s4 : Step S H2 H4 := sk.trans (.ex ex4)
      have dx : ∃ p, x = .ref p ∧ (SqL K H4 p (r0.map V.int) ∨ SqT K H4 p (r0.map V.int)) := by
        rcases hr with hr | hr
        · cases vo D _ nD ⟨_, eD⟩ hr with
          | da d =>
            cases d with
            | tup e k => exact ⟨_, rfl, .inr (by rw [← da_ints_inv k]; exact SqT.of (ct_at e).2)⟩
        · cases vo D _ nD ⟨_, eD⟩ hr with
          | da d =>
            cases d with
            | lst e k => exact ⟨_, rfl, .inl (by rw [← da_ints_inv k]; exact SqL.of (ct_at e).2)⟩
      obtain ⟨p, rfl, hsq⟩ := dx
      have ex : ((L2.wipe σ [j]).set j (some (V.ref p)))[j]? = some (some (V.ref p)) := by
        show ((σ.set j none).set j (some (V.ref p)))[j]? = _
        rw [List.getElem?_set_self (by rw [List.length_set]; exact hσ)]
      refine ⟨wipe_set (List.mem_singleton.mpr rfl) |>.trans (wipe_idem σ [j] [j] fun _ h => h), ?_⟩
      refine tyes_intro (E := E) ?_
      refine ⟨_, ex, p, _, rfl, hsq, fun q nq => ?_⟩
      have qD : q ≠ D := fun z => by rw [z, eD4] at nq; cases nq
      have qp : q ∉ ps := fun z => by
        obtain ⟨t, ht⟩ := List.mem_iff_getElem?.mp z
        have hl2 : t < fs.length := by have := (List.getElem?_eq_some_iff.mp ht).1; omega
        have := ex4 _ _ (hat t q _ ht (List.getElem?_eq_getElem hl2))
        rw [nq] at this; cases this
      have q2 : H2 q = none := by
        cases w : H2 q with
        | none => rfl
        | some u =>
          have := step_dom c2.rel.str s4 (b := q) (by rw [w]; rfl)
          rw [nq] at this; cases this
      have s5 : Step S H2 (upd H4 q (.lst (r0.map V.int))) := s4.new nq
      refine ⟨ps.map V.ref, by rw [upd_ne (Ne.symm qD)]; exact eD4, szl (by rw [List.length_map]; omega), by omega, st2 s5, ps ++ [q], by rw [List.length_append, hps]; rfl, by rw [List.map_append]; exact upd_same, ?_, ?_, ?_, ?_⟩
      · intro z
        rcases List.mem_append.mp z with z | z
        · exact nDp z
        · exact qD (List.mem_singleton.mp z).symm
      · rw [List.nodup_append]
        exact ⟨nd, by simp, fun a ha b hb => by
          rw [List.mem_singleton] at hb
          subst hb
          exact fun z => qp (by rw [← z]; exact ha)⟩
      · intro a ha
        rcases List.mem_append.mp ha with z | z
        · exact np a z
        · rw [List.mem_singleton.mp z]; exact q2
      · intro t a rr ht hf
        by_cases w : t < ps.length
        · rw [List.getElem?_append_left w] at ht
          have aD : a ≠ D := fun z => nDp (by rw [← z]; exact List.mem_iff_getElem?.mpr ⟨t, ht⟩)
          have aq : a ≠ q := fun z => qp (by rw [← z]; exact List.mem_iff_getElem?.mpr ⟨t, ht⟩)
          rw [upd_ne aD, upd_ne aq]
          exact ex4 _ _ (hat t a rr ht hf)
        · have := (List.getElem?_eq_some_iff.mp ht).1
          rw [List.length_append, List.length_singleton] at this
          have et : t = ps.length := by omega
          subst et
          rw [List.getElem?_append_right (Nat.le_refl _), Nat.sub_self] at ht
          simp only [List.getElem?_cons_zero, Option.some.injEq] at ht
          subst ht
          rw [hps, er, Option.some.injEq] at hf
          subst hf
          rw [upd_ne qD]
          exact upd_same
    · have e : k = os.length := by omega
      subst e
      obtain ⟨r3, f3⟩ := Rel.addF (i := i) (c2.rel.at'.go sk) (fun b hb => (List.mem_cons.mp hb).elim (fun z => by rw [z]; exact nD) (np b)) eD (by omega) hat nd nDp
      refine .inl ⟨wk.stop Hk sk, c.nx _ S _ Hk _ r3 (n.setls ?_) ((Fm.step r s2).trans f3) hk⟩
      have : ∀ gs : List (List Int), OV.nds (ovFs gs) = true := fun gs => by
        induction gs with
        | nil => rfl
        | cons g gs ih =>
          have : ∀ ws : List Int, OV.nds (oI' ws) = true := fun ws => by
            induction ws with
            | nil => rfl
            | cons w ws ih => exact ih
          simp only [ovFs, List.map_cons, OV.nds, OV.nd, Bool.and_eq_true]
          exact ⟨this g, ih⟩
      exact this fs
end
theorem w_ownL {K : PySem.W.Frag} {env : Env} {P : Post} (i : Nat) (src : IX K) (j : Nat) : (sOwnL i src j).wp env P = src.wp env (fun _ os => os.length ≤ 100000 ∧ j < env.length ∧ ∃ fs, F2 isRow os fs ∧ P.nx (env.set i (some (.ls (ovFs fs))))) P.xc := (rfl)
theorem isRow_T (l : Lv) : ∀ fs : List (List Int), F2 isRow (fs.map fun r => OV.da l (dR r)) fs
  | [] => .nil
  | r :: fs => .cons (by
      cases l with
      | nw => exact ⟨_, .inl rfl⟩
      | _ => exact ⟨_, .inl rfl⟩) (isRow_T l fs)
/-! ### what is taken out goes in again -/
theorem insRow_all {r : List Int} {x : Int} (h : ∀ i, i < r.length → r.getD i 0 ≤ x) : insRow r x = r.length := insRow_eq (Nat.le_refl _) fun i hi => ⟨fun _ => hi, fun _ => h i hi⟩
theorem gd_dropLast {r : List Int} {i : Nat} (h : i < r.length - 1) : r.dropLast.getD i 0 = r.getD i 0 := by
  rw [gd_of (by rw [List.length_dropLast]; exact h), gd_of (by omega), List.getElem_dropLast]
theorem ins_unIns : ∀ {fs : List (List Int)} {n : Nat}, IsT fs → Corn fs n → ins (unIns fs n).1 (unIns fs n).2 = fs
  | [], n, _, ⟨h, _⟩ => by simp at h
  | r :: rs, 0, ⟨h1, h2, h3, h4⟩, ⟨_, hc⟩ => by
    have hr := List.length_pos_iff.mpr h1
    have hc : (rs.getD 0 []).length < r.length := hc
    show ins (if r.length ≤ 1 then rs else r.dropLast :: rs) (r.getD (r.length - 1) 0) = r :: rs
    by_cases c : r.length ≤ 1
    · rw [if_pos c]
      have hn : rs = [] := by
        cases rs with
        | nil => rfl
        | cons l rs =>
          have := List.length_pos_iff.mpr h4.1
          have hc : l.length < r.length := hc
          omega
      subst hn
      match r, hr, c with
      | [a], _, _ => rfl
    · rw [if_neg c]
      have e : insRow r.dropLast (r.getD (r.length - 1) 0) = r.dropLast.length := insRow_all fun i hi => by
        rw [List.length_dropLast] at hi
        rw [gd_dropLast hi]
        exact srt_le h2 (by omega) (by omega)
      unfold ins
      rw [if_pos e, gd_of (by omega), ← List.getLast_eq_getElem h1, List.dropLast_concat_getLast]
  | r :: rs, n + 1, ⟨h1, h2, h3, h4⟩, ⟨hn, hc⟩ => by
    have hn' : n < rs.length := by simpa using hn
    have cr : Corn rs n := ⟨hn', hc⟩
    have ih := ins_unIns (fs := rs) (n := n) h4 cr
    obtain ⟨_, e2⟩ := unRaw_filter h4 cr
    have hp := unRaw_pos (r := r) (rs := rs) ⟨h1, h2, h3, h4⟩ hn'
    rw [e2] at hp
    show ins (r.set (cless r (unIns rs n).2 - 1) (unIns rs n).2 :: (unIns rs n).1) (r.getD (cless r (unIns rs n).2 - 1) 0) = r :: rs
    generalize hz : (unIns rs n).2 = z at *
    generalize (unIns rs n).1 = gs at *
    obtain ⟨k, hk⟩ : ∃ k, cless r z = k + 1 := ⟨cless r z - 1, by omega⟩
    have hk2 : k < r.length := by have := cless_le r z; omega
    rw [hk, Nat.add_sub_cancel]
    have hkz : r.getD k 0 < z := (cless_at h2 k hk2).mpr (by omega)
    have e : insRow (r.set k z) (r.getD k 0) = k := by
      refine insRow_eq (by rw [List.length_set]; omega) fun i hi => ?_
      rw [List.length_set] at hi
      rw [gd_set hk2]
      by_cases q : i = k
      · rw [if_pos q]; exact ⟨fun _ => by omega, fun _ => by omega⟩
      · rw [if_neg q]
        by_cases q2 : i < k
        · have := srt_le h2 (show i ≤ k by omega) hk2
          exact ⟨fun _ => q2, fun _ => this⟩
        · have : ¬ r.getD i 0 < z := fun w => by
            have := (cless_at (z := z) h2 i hi).mp w
            omega
          exact ⟨fun _ => by omega, fun _ => by omega⟩
    unfold ins
    rw [e, if_neg (by rw [List.length_set]; omega), List.set_set, gd_set hk2, if_pos rfl, ih]
    have e : r.set k (r.getD k 0) = r := by
      rw [gd_of hk2]
      exact List.set_getElem_self hk2
    rw [e]
theorem unRaw_lens : ∀ (fs : List (List Int)) (n : Nat), n < fs.length → 0 < rl fs n → (unRaw fs n).1.map (fun (r : List Int) => (r.length : Int)) = (List.range fs.length).map fun k => (rl fs k : Int) - if k = n then 1 else 0
  | [], _, h, _ => by simp at h
  | r :: rs, 0, h, hp => by
    have hp : 0 < r.length := hp
    show ((r.dropLast.length : Nat) : Int) :: rs.map (fun (r : List Int) => (r.length : Int)) = _
    rw [List.length_cons, List.range_succ_eq_map, List.map_cons, List.map_map]
    refine List.cons_eq_cons.mpr ⟨?_, ?_⟩
    · rw [if_pos rfl, List.length_dropLast]
      show _ = (r.length : Int) - 1
      omega
    · refine List.ext_getElem (by simp) fun i h1 h2 => ?_
      rw [List.getElem_map, List.getElem_map, List.getElem_range]
      show _ = (rl (r :: rs) (i + 1) : Int) - if i + 1 = 0 then 1 else 0
      rw [if_neg (by omega)]
      have hi : i < rs.length := by simpa using h1
      have : rl (r :: rs) (i + 1) = (rs.getD i []).length := rfl
      rw [this, List.getD_eq_getElem?_getD, List.getElem?_eq_getElem hi]
      show _ = ((rs[i].length : Nat) : Int) - 0
      omega
  | r :: rs, n + 1, h, hp => by
    show (((r.set (cless r (unRaw rs n).2 - 1) (unRaw rs n).2).length : Nat) : Int) :: (unRaw rs n).1.map (fun (r : List Int) => (r.length : Int)) = _
    rw [unRaw_lens rs n (by simpa using h) hp, List.length_cons, List.range_succ_eq_map, List.map_cons, List.map_map, List.length_set]
    refine List.cons_eq_cons.mpr ⟨?_, List.map_congr_left fun k _ => ?_⟩
    · rw [if_neg (by omega)]
      show (r.length : Int) = (r.length : Int) - 0
      omega
    · show _ = (rl (r :: rs) (k + 1) : Int) - if k + 1 = n + 1 then 1 else 0
      have : rl (r :: rs) (k + 1) = rl rs k := rfl
      rw [this]
      by_cases c : k = n
      · rw [if_pos c, if_pos (by omega)]
      · rw [if_neg c, if_neg (by omega)]
theorem lens_filter (gs : List (List Int)) : (gs.filter fun r => decide (0 < r.length)).map (fun (r : List Int) => (r.length : Int)) = (gs.map fun (r : List Int) => (r.length : Int)).filter fun x => decide (0 < x) := by
  rw [List.filter_map]
  refine congrArg _ (List.filter_congr fun r _ => ?_)
  show decide (0 < r.length) = decide (0 < (r.length : Int))
  rw [Bool.eq_iff_iff, decide_eq_true_iff, decide_eq_true_iff]
  omega
theorem corn_pos {fs : List (List Int)} {n : Nat} (h : Corn fs n) : 0 < rl fs n := by
  have := h.2
  show 0 < (fs.getD n []).length
  omega
/-- the lengths of the rows without a corner -/
theorem unIns_lens {fs : List (List Int)} {n : Nat} (ht : IsT fs) (hc : Corn fs n) : (unIns fs n).1.map (fun (r : List Int) => (r.length : Int)) = ((List.range fs.length).map fun k => (rl fs k : Int) - if k = n then 1 else 0).filter fun x => decide (0 < x) := by
  rw [← (unRaw_filter ht hc).1, lens_filter, unRaw_lens fs n hc.1 (corn_pos hc)]
theorem unIns_flat {fs : List (List Int)} {n : Nat} (ht : IsT fs) (hc : Corn fs n) : (unIns fs n).1.flatten.length + 1 = fs.flatten.length ∧ (unIns fs n).1.length ≤ fs.length := by
  have h := ins_unIns ht hc
  have h1 := ins_flat 0 (unIns fs n).1 (unIns fs n).2
  have h2 := ins_length (unIns fs n).1 (unIns fs n).2
  rw [h] at h1 h2
  refine ⟨h1.symm, ?_⟩
  split at h2 <;> omega
section
variable {K : PySem.W.Frag}
theorem w_nTt (n : Nat) (gs : GNs K) (l : Lv) (ds : List PyData) (env : Env) (R : Env → Prop) : (nT n gs).toGX.wp (.da l (.tuple ds)) env R = (ds.length = n ∧ gs.toGsX.wp l ds env R) := (rfl)
theorem w_nCons (g : GN K) (gs : GNs K) (mg : Mon K g.toGX) (l : Lv) (d : PyData) (ds : List PyData) (env : Env) (R : Env → Prop) : (nCons g gs mg).toGsX.wp l (d :: ds) env R = g.toGX.wp (mk l d) env fun env' => gs.toGsX.wp l ds env' R := (rfl)
theorem w_nNil (l : Lv) (env : Env) (R : Env → Prop) : (nNil (K := K)).toGsX.wp l [] env R = R env := (rfl)
end
/-! ### lines: rows and columns alike -/
/-- a letter pushes another one out: of a row (true) a greater one, of a column (false) one that is not less -/
def psh (s : Bool) (x y : Int) : Prop := if s = true then x < y else x ≤ y
instance (s : Bool) (x y : Int) : Decidable (psh s x y) := by unfold psh; infer_instance
theorem psh_tr {s : Bool} {x y z : Int} (h : psh s x y) (g : psh s y z) : psh s x z := by
  unfold psh at *
  cases s <;> simp at * <;> omega
theorem psh_nt {s : Bool} {x y z : Int} (h : ¬ psh s x y) (g : ¬ psh s y z) : ¬ psh s x z := by
  unfold psh at *
  cases s <;> simp at * <;> omega
/-- x ≥ .. -/
theorem psh_r {s : Bool} {x y z : Int} (h : psh s x y) (g : ¬ psh s z y) : psh s x z := by
  unfold psh at *
  cases s <;> simp at * <;> omega
theorem psh_l {s : Bool} {x y z : Int} (h : ¬ psh s y x) (g : psh s y z) : psh s x z := by
  unfold psh at *
  cases s <;> simp at * <;> omega
/-- a line in its order -/
def ord (s : Bool) (r : List Int) : Prop := r.Pairwise fun a b => ¬ psh s b a
/-- a line after an insertion, and what is pushed out -/
def ri (s : Bool) : List Int → Int → List Int × Option Int
  | [], x => ([x], none)
  | a :: r, x => if psh s x a then (x :: r, some a) else (a :: (ri s r x).1, (ri s r x).2)
theorem ri_nil (s : Bool) (x : Int) : ri s [] x = ([x], none) := rfl
theorem ri_p {s : Bool} {a x : Int} {r : List Int} (h : psh s x a) : ri s (a :: r) x = (x :: r, some a) := by rw [ri, if_pos h]
theorem ri_n {s : Bool} {a x : Int} {r : List Int} (h : ¬ psh s x a) : ri s (a :: r) x = (a :: (ri s r x).1, (ri s r x).2) := by rw [ri, if_neg h]
theorem ri_mem {s : Bool} {x c : Int} : ∀ {r : List Int}, (ri s r x).2 = some c → c ∈ r ∧ psh s x c
  | [], h => by simp [ri] at h
  | a :: r, h => by
    by_cases q : psh s x a
    · rw [ri_p q] at h
      cases h
      exact ⟨List.mem_cons_self, q⟩
    · rw [ri_n q] at h
      obtain ⟨h1, h2⟩ := ri_mem (r := r) h
      exact ⟨List.mem_cons_of_mem _ h1, h2⟩
theorem ri_in {s : Bool} {x c : Int} : ∀ {r : List Int}, c ∈ (ri s r x).1 → c = x ∨ c ∈ r
  | [], h => by simp [ri] at h; exact .inl h
  | a :: r, h => by
    by_cases q : psh s x a
    · rw [ri_p q] at h
      rcases List.mem_cons.mp h with z | z
      · exact .inl z
      · exact .inr (List.mem_cons_of_mem _ z)
    · rw [ri_n q] at h
      rcases List.mem_cons.mp h with z | z
      · exact .inr (z ▸ List.mem_cons_self)
      · rcases ri_in (r := r) z with z | z
        · exact .inl z
        · exact .inr (List.mem_cons_of_mem _ z)
theorem ri_ord {s : Bool} {x : Int} : ∀ {r : List Int}, ord s r → ord s (ri s r x).1
  | [], _ => List.pairwise_singleton ..
  | a :: r, h => by
    have h := List.pairwise_cons.mp h
    by_cases q : psh s x a
    · rw [ri_p q]
      refine List.pairwise_cons.mpr ⟨fun b hb z => ?_, h.2⟩
      exact h.1 b hb (psh_tr z q)
    · rw [ri_n q]
      refine List.pairwise_cons.mpr ⟨fun b hb => ?_, ri_ord h.2⟩
      rcases ri_in hb with z | z
      · rw [z]; exact q
      · exact h.1 b z
/-- two letters, the second not less -/
theorem ri_up {s : Bool} {y z : Int} (hyz : ¬ psh s z y) : ∀ {r : List Int}, ord s r → ∀ c, (ri s (ri s r y).1 z).2 = some c → ∃ b, (ri s r y).2 = some b ∧ ¬ psh s c b
  | [], _, c, h => by
    rw [ri_nil, ri_n hyz] at h
    cases h
  | a :: r, ho, c, h => by
    have ho := List.pairwise_cons.mp ho
    by_cases q : psh s y a
    · rw [ri_p q] at h ⊢
      rw [ri_n hyz] at h
      exact ⟨a, rfl, ho.1 c (ri_mem h).1⟩
    · rw [ri_n q] at h ⊢
      rw [ri_n (psh_nt hyz q)] at h
      exact ri_up hyz ho.2 c h
/-- two letters, the second less -/
theorem ri_dn {s : Bool} {y z : Int} (hyz : psh s y z) : ∀ {r : List Int}, ord s r → ∃ c, (ri s (ri s r z).1 y).2 = some c ∧ ∀ d, (ri s r z).2 = some d → psh s c d
  | [], _ => by
    rw [ri_nil, ri_p hyz]
    exact ⟨z, rfl, fun d hd => by cases hd⟩
  | a :: r, ho => by
    have ho := List.pairwise_cons.mp ho
    by_cases q : psh s z a
    · rw [ri_p q, ri_p hyz]
      exact ⟨z, rfl, fun d hd => by cases hd; exact q⟩
    · rw [ri_n q]
      by_cases q2 : psh s y a
      · rw [ri_p q2]
        exact ⟨a, rfl, fun d hd => psh_l q (ri_mem hd).2⟩
      · rw [ri_n q2]
        exact ri_dn hyz ho.2
/-- a letter or none goes in -/
def riO (s : Bool) (r : List Int) : Option Int → List Int × Option Int
  | none => (r, none)
  | some x => ri s r x
/-- three letters: the line, and what is pushed out -/
structure R3 where
  row : List Int
  p1 : Option Int
  p2 : Option Int
  p3 : Option Int
def r3 (s : Bool) (r : List Int) (x y z : Option Int) : R3 :=
  ⟨(riO s (riO s (riO s r x).1 y).1 z).1, (riO s r x).2, (riO s (riO s r x).1 y).2, (riO s (riO s (riO s r x).1 y).1 z).2⟩
def R3.cons (a : Int) (t : R3) : R3 := ⟨a :: t.row, t.p1, t.p2, t.p3⟩
theorem r3_n {s : Bool} {a : Int} {r : List Int} {x y z : Int} (hx : ¬ psh s x a) (hy : ¬ psh s y a) (hz : ¬ psh s z a) : r3 s (a :: r) (some x) (some y) (some z) = (r3 s r (some x) (some y) (some z)).cons a := by
  unfold r3 R3.cons
  simp only [riO, ri_n hx, ri_n hy, ri_n hz]
/-- what comes of a move in a line: the same line, and a move below, or one letter of the two stays here -/
inductive Out (s : Bool) : R3 → R3 → Prop
  /-- the last two exchanged -/
  | a {r : List Int} {y x : Int} {zo : Option Int} : psh s x y → (∀ z, zo = some z → ¬ psh s z y) → Out s ⟨r, some y, zo, some x⟩ ⟨r, some y, some x, zo⟩
  | a0 {r : List Int} {x : Int} : Out s ⟨r, none, none, some x⟩ ⟨r, none, some x, none⟩
  /-- the first two exchanged -/
  | b {r : List Int} {y x : Int} {zo : Option Int} : ¬ psh s y x → (∀ z, zo = some z → psh s y z) → Out s ⟨r, some x, zo, some y⟩ ⟨r, zo, some x, some y⟩
theorem Out.cons {s : Bool} (a : Int) {t u : R3} (h : Out s t u) : Out s (t.cons a) (u.cons a) := by
  cases h with
  | a h1 h2 => exact .a h1 h2
  | a0 => exact .a0
  | b h1 h2 => exact .b h1 h2
theorem out1 {s : Bool} {x y z : Int} (hxy : psh s x y) (hyz : ¬ psh s z y) : ∀ {r : List Int}, ord s r → Out s (r3 s r (some y) (some z) (some x)) (r3 s r (some y) (some x) (some z))
  | [], _ => by
    have hzx : ¬ psh s z x ∨ s = false := by unfold psh at *; cases s <;> simp at * <;> omega
    have hzx : ¬ psh s z x := by unfold psh at *; cases s <;> simp at * <;> omega
    unfold r3
    simp only [riO, ri_nil, ri_n hyz, ri_p hxy, ri_n hzx]
    exact .a0
  | a :: r, ho => by
    have ho' := List.pairwise_cons.mp ho
    have hzx : ¬ psh s z x := by unfold psh at *; cases s <;> simp at * <;> omega
    by_cases q : psh s y a
    · unfold r3
      simp only [riO, ri_p q, ri_n hyz, ri_p hxy, ri_n hzx]
      exact .a q fun c hc => ho'.1 c (ri_mem hc).1
    · have qz := psh_nt hyz q
      by_cases qx : psh s x a
      · unfold r3
        simp only [riO, ri_n q, ri_n qz, ri_p qx, ri_n hzx]
        have up := ri_up hyz (r := r) ho'.2
        cases e : (ri s r y).2 with
        | none =>
          have e2 : (ri s (ri s r y).1 z).2 = none := by
            cases e2 : (ri s (ri s r y).1 z).2 with
            | none => rfl
            | some c => obtain ⟨b, hb, _⟩ := up c e2; rw [e] at hb; cases hb
          rw [e2]
          exact .a0
        | some b =>
          refine .a (psh_l q (ri_mem e).2) fun c hc => ?_
          obtain ⟨b', hb, h⟩ := up c hc
          rw [e] at hb
          cases hb
          exact h
      · rw [r3_n q qz qx, r3_n q qx qz]
        exact (out1 hxy hyz ho'.2).cons a
theorem out2 {s : Bool} {x y z : Int} (hxy : ¬ psh s y x) (hyz : psh s y z) : ∀ {r : List Int}, ord s r → Out s (r3 s r (some x) (some z) (some y)) (r3 s r (some z) (some x) (some y))
  | [], _ => by
    have hxz : psh s x z := psh_l hxy hyz
    have hzx : ¬ psh s z x := by unfold psh at *; cases s <;> simp at * <;> omega
    unfold r3
    simp only [riO, ri_nil, ri_n hzx, ri_n hxy, ri_p hxz, ri_p hyz]
    exact .a0
  | a :: r, ho => by
    have ho' := List.pairwise_cons.mp ho
    have hxz : psh s x z := psh_l hxy hyz
    have hzx : ¬ psh s z x := by unfold psh at *; cases s <;> simp at * <;> omega
    by_cases q : psh s z a
    · have qx : psh s x a := psh_tr hxz q
      unfold r3
      simp only [riO, ri_p q, ri_p qx, ri_n hzx, ri_n hxy, ri_p hxz]
      cases r with
      | nil =>
        simp only [ri_nil, ri_p hyz]
        exact .a q fun c hc => by cases hc
      | cons c r =>
        have hc := ho'.1 c List.mem_cons_self
        have qc : psh s z c := psh_r q hc
        have qy : psh s y c := psh_tr hyz qc
        simp only [ri_p qc, ri_p qy, ri_p hyz]
        exact .a q fun d hd => by cases hd; exact hc
    · by_cases qx : psh s x a
      · unfold r3
        simp only [riO, ri_n q, ri_p qx, ri_n hzx, ri_n hxy]
        obtain ⟨c, hc, hd⟩ := ri_dn hyz (r := r) ho'.2
        rw [hc]
        refine .b ?_ fun d h => hd d h
        rcases ri_in (ri_mem hc).1 with e | e
        · rw [e]; exact q
        · exact ho'.1 c e
      · have qy := psh_nt hxy qx
        rw [r3_n qx q qy, r3_n q qx qy]
        exact (out2 hxy hyz ho'.2).cons a
/-! ### lines below one another: inserting a letter -/
def giO (s : Bool) : List (List Int) → Option Int → List (List Int)
  | [], none => []
  | [], some x => [[x]]
  | r :: t, o => (riO s r o).1 :: giO s t (riO s r o).2
/-- the line that grows -/
def giN (s : Bool) : List (List Int) → Option Int → Nat
  | [], _ => 0
  | r :: t, o => match (riO s r o).2 with
    | none => 0
    | some y => giN s t (some y) + 1
theorem giO_none (s : Bool) : ∀ t : List (List Int), giO s t none = t
  | [] => rfl
  | r :: t => by show r :: giO s t none = _; rw [giO_none s t]
def Ords (s : Bool) (t : List (List Int)) : Prop := ∀ r ∈ t, ord s r
theorem gi_ords {s : Bool} : ∀ {t : List (List Int)} {o : Option Int}, Ords s t → Ords s (giO s t o)
  | [], none, _ => fun r h => by cases h
  | [], some x, _ => fun r h => by
    have h : r ∈ [[x]] := h
    rw [List.mem_singleton] at h
    rw [h]
    exact List.pairwise_singleton ..
  | l :: t, o, h => fun r hr => by
    rcases List.mem_cons.mp hr with z | z
    · rw [z]
      cases o with
      | none => exact h l List.mem_cons_self
      | some x => exact ri_ord (h l List.mem_cons_self)
    · exact gi_ords (fun q hq => h q (List.mem_cons_of_mem _ hq)) r z
/-- three letters into a table: the table, the lines that grow -/
def g3 (s : Bool) (t : List (List Int)) (x y z : Int) : List (List Int) := giO s (giO s (giO s t (some x)) (some y)) (some z)
def n3 (s : Bool) (t : List (List Int)) (x y z : Int) : Nat × Nat × Nat := (giN s t (some x), giN s (giO s t (some x)) (some y), giN s (giO s (giO s t (some x)) (some y)) (some z))
def Exch (m n : Nat × Nat × Nat) : Prop := (m.1 = n.1 ∧ m.2.1 = n.2.2 ∧ m.2.2 = n.2.1 ∧ m.2.1 ≠ m.2.2) ∨ (m.1 = n.2.1 ∧ m.2.1 = n.1 ∧ m.2.2 = n.2.2 ∧ m.1 ≠ m.2.1)
theorem Exch.symm {m n : Nat × Nat × Nat} (h : Exch m n) : Exch n m := by
  unfold Exch at *
  omega
theorem Exch.succ {a b c d e f : Nat} (h : Exch (a, b, c) (d, e, f)) : Exch (a + 1, b + 1, c + 1) (d + 1, e + 1, f + 1) := by
  unfold Exch at *
  simp only at *
  omega
/-- two words of three letters that a move joins -/
inductive Mv3 (s : Bool) : Int → Int → Int → Int → Int → Int → Prop
  | a {x y z : Int} : psh s x y → ¬ psh s z y → Mv3 s y z x y x z
  | b {x y z : Int} : ¬ psh s y x → psh s y z → Mv3 s x z y z x y
theorem g3_cons (s : Bool) (r : List Int) (t : List (List Int)) (x y z : Int) : g3 s (r :: t) x y z = (r3 s r (some x) (some y) (some z)).row :: giO s (giO s (giO s t (r3 s r (some x) (some y) (some z)).p1) (r3 s r (some x) (some y) (some z)).p2) (r3 s r (some x) (some y) (some z)).p3 := rfl
def nO (s : Bool) (t : List (List Int)) (o : Option Int) : Nat := match o with
  | none => 0
  | some y => giN s t (some y) + 1
theorem n3_cons (s : Bool) (r : List Int) (t : List (List Int)) (x y z : Int) : n3 s (r :: t) x y z = (nO s t (r3 s r (some x) (some y) (some z)).p1, nO s (giO s t (r3 s r (some x) (some y) (some z)).p1) (r3 s r (some x) (some y) (some z)).p2, nO s (giO s (giO s t (r3 s r (some x) (some y) (some z)).p1) (r3 s r (some x) (some y) (some z)).p2) (r3 s r (some x) (some y) (some z)).p3) := rfl
theorem mv3 {s : Bool} : ∀ {t : List (List Int)} {a b c d e f : Int}, Ords s t → Mv3 s a b c d e f → g3 s t a b c = g3 s t d e f ∧ Exch (n3 s t a b c) (n3 s t d e f)
  | [], a, b, c, d, e, f, _, h => by
    have o : Out s (r3 s [] (some a) (some b) (some c)) (r3 s [] (some d) (some e) (some f)) := by
      cases h with
      | a h1 h2 => exact out1 h1 h2 List.Pairwise.nil
      | b h1 h2 => exact out2 h1 h2 List.Pairwise.nil
    have e0 : ∀ u v w : Int, g3 s [] u v w = (r3 s [] (some u) (some v) (some w)).row :: giO s (giO s (giO s [] (r3 s [] (some u) (some v) (some w)).p1) (r3 s [] (some u) (some v) (some w)).p2) (r3 s [] (some u) (some v) (some w)).p3 := fun u v w => rfl
    have e1 : ∀ u v w : Int, n3 s [] u v w = (0, nO s [] (r3 s [] (some u) (some v) (some w)).p2, nO s (giO s [] (r3 s [] (some u) (some v) (some w)).p2) (r3 s [] (some u) (some v) (some w)).p3) := fun u v w => rfl
    rw [e0, e0, e1, e1]
    have p1 : ∀ u v w : Int, (r3 s [] (some u) (some v) (some w)).p1 = none := fun u v w => rfl
    generalize hA : r3 s [] (some a) (some b) (some c) = A at *
    generalize hB : r3 s [] (some d) (some e) (some f) = B at *
    have pA : A.p1 = none := hA ▸ rfl
    have pB : B.p1 = none := hB ▸ rfl
    cases o with
    | a h1 h2 => cases pA
    | a0 => exact ⟨rfl, .inl ⟨rfl, rfl, rfl, by show (0 : Nat) ≠ _ + 1; omega⟩⟩
    | b h1 h2 => cases pA
  | r :: t, a, b, c, d, e, f, ho, h => by
    have hr := ho r List.mem_cons_self
    have ht : Ords s t := fun q hq => ho q (List.mem_cons_of_mem _ hq)
    have o : Out s (r3 s r (some a) (some b) (some c)) (r3 s r (some d) (some e) (some f)) := by
      cases h with
      | a h1 h2 => exact out1 h1 h2 hr
      | b h1 h2 => exact out2 h1 h2 hr
    rw [g3_cons, g3_cons, n3_cons, n3_cons]
    generalize r3 s r (some a) (some b) (some c) = A at *
    generalize r3 s r (some d) (some e) (some f) = B at *
    cases o with
    | @a r' y x zo h1 h2 =>
      cases zo with
      | none =>
        simp only [giO_none, nO]
        exact ⟨trivial, .inl ⟨rfl, rfl, rfl, by show (0 : Nat) ≠ _ + 1; omega⟩⟩
      | some z =>
        have ih := mv3 ht (Mv3.a h1 (h2 z rfl))
        exact ⟨congrArg _ ih.1, ih.2.succ⟩
    | a0 => 
      simp only [giO_none, nO]
      exact ⟨trivial, .inl ⟨rfl, rfl, rfl, by show (0 : Nat) ≠ _ + 1; omega⟩⟩
    | @b r' y x zo h1 h2 =>
      cases zo with
      | none =>
        simp only [giO_none, nO]
        exact ⟨trivial, .inr ⟨rfl, rfl, rfl, by show _ + 1 ≠ (0 : Nat); omega⟩⟩
      | some z =>
        have ih := mv3 ht (Mv3.b h1 (h2 z rfl))
        exact ⟨congrArg _ ih.1, ih.2.succ⟩
/-- a word's lines -/
def gtb (s : Bool) (t : List (List Int)) (w : List Int) : List (List Int) := w.foldl (fun t x => giO s t (some x)) t
theorem gt_ords {s : Bool} : ∀ {w : List Int} {t : List (List Int)}, Ords s t → Ords s (gtb s t w)
  | [], _, h => h
  | _ :: w, _, h => gt_ords (w := w) (gi_ords h)
theorem gt_app (s : Bool) (t : List (List Int)) (u v : List Int) : gtb s t (u ++ v) = gtb s (gtb s t u) v := List.foldl_append ..
/-- words that moves join, in the order of inserting -/
inductive Kn (s : Bool) : List Int → List Int → Prop
  | refl (w : List Int) : Kn s w w
  | step {u v : List Int} {a b c d e f : Int} {w : List Int} : Mv3 s a b c d e f → Kn s (u ++ [d, e, f] ++ v) w → Kn s (u ++ [a, b, c] ++ v) w
  | back {u v : List Int} {a b c d e f : Int} {w : List Int} : Mv3 s a b c d e f → Kn s (u ++ [a, b, c] ++ v) w → Kn s (u ++ [d, e, f] ++ v) w
theorem kn_tab {s : Bool} {t : List (List Int)} (ht : Ords s t) {w w' : List Int} (h : Kn s w w') : gtb s t w = gtb s t w' := by
  induction h with
  | refl => rfl
  | @step u v a b c d e f w m _ ih =>
    rw [← ih, gt_app, gt_app, gt_app _ _ (u ++ _), gt_app _ _ u]
    exact congrArg (fun q => gtb s q v) (mv3 (gt_ords (w := u) ht) m).1
  | @back u v a b c d e f w m _ ih =>
    rw [← ih, gt_app, gt_app, gt_app _ _ (u ++ _), gt_app _ _ u]
    exact congrArg (fun q => gtb s q v) (mv3 (gt_ords (w := u) ht) m).1.symm
theorem Kn.trans {s : Bool} {u v w : List Int} (h : Kn s u v) (g : Kn s v w) : Kn s u w := by
  induction h with
  | refl => exact g
  | step m _ ih => exact .step m (ih g)
  | back m _ ih => exact .back m (ih g)
theorem Kn.symm {s : Bool} {u v : List Int} (h : Kn s u v) : Kn s v u := by
  induction h with
  | refl => exact .refl _
  | step m _ ih => exact ih.trans (.back m (.refl _))
  | back m _ ih => exact ih.trans (.step m (.refl _))
theorem Kn.wrap {s : Bool} (p q : List Int) {u v : List Int} (h : Kn s u v) : Kn s (p ++ u ++ q) (p ++ v ++ q) := by
  induction h with
  | refl => exact .refl _
  | @step u v a b c d e f w m _ ih =>
    have e1 : p ++ (u ++ [a, b, c] ++ v) ++ q = (p ++ u) ++ [a, b, c] ++ (v ++ q) := by simp
    have e2 : p ++ (u ++ [d, e, f] ++ v) ++ q = (p ++ u) ++ [d, e, f] ++ (v ++ q) := by simp
    rw [e1]
    rw [e2] at ih
    exact .step m ih
  | @back u v a b c d e f w m _ ih =>
    have e1 : p ++ (u ++ [a, b, c] ++ v) ++ q = (p ++ u) ++ [a, b, c] ++ (v ++ q) := by simp
    have e2 : p ++ (u ++ [d, e, f] ++ v) ++ q = (p ++ u) ++ [d, e, f] ++ (v ++ q) := by simp
    rw [e2]
    rw [e1] at ih
    exact .back m ih
/-- the other end: the moves of rows and those of columns -/
theorem Kn.rev {u v : List Int} (h : Kn false u v) : Kn true u.reverse v.reverse := by
  induction h with
  | refl => exact .refl _
  | @step u v a b c d e f w m _ ih =>
    have e1 : (u ++ [a, b, c] ++ v).reverse = v.reverse ++ [c, b, a] ++ u.reverse := by simp
    have e2 : (u ++ [d, e, f] ++ v).reverse = v.reverse ++ [f, e, d] ++ u.reverse := by simp
    rw [e1]
    rw [e2] at ih
    cases m with
    | a h1 h2 => exact .step (Mv3.b (by unfold psh at *; simp at *; omega) (by unfold psh at *; simp at *; omega)) ih
    | b h1 h2 => exact .step (Mv3.a (by unfold psh at *; simp at *; omega) (by unfold psh at *; simp at *; omega)) ih
  | @back u v a b c d e f w m _ ih =>
    have e1 : (u ++ [a, b, c] ++ v).reverse = v.reverse ++ [c, b, a] ++ u.reverse := by simp
    have e2 : (u ++ [d, e, f] ++ v).reverse = v.reverse ++ [f, e, d] ++ u.reverse := by simp
    rw [e2]
    rw [e1] at ih
    cases m with
    | a h1 h2 => exact .back (Mv3.b (by unfold psh at *; simp at *; omega) (by unfold psh at *; simp at *; omega)) ih
    | b h1 h2 => exact .back (Mv3.a (by unfold psh at *; simp at *; omega) (by unfold psh at *; simp at *; omega)) ih
/-! ### the word of a table -/
theorem Kn.tail {s : Bool} (a : Int) {u v : List Int} (h : Kn s u v) : Kn s (a :: u) (a :: v) := by
  have := h.wrap [a] []
  simpa using this
theorem kn_pass {s : Bool} {x : Int} : ∀ {r : List Int} {p : Int}, psh s x p → ord s (p :: r) → Kn s (p :: r ++ [x]) (p :: x :: r)
  | [], _, _, _ => .refl _
  | q :: r, p, h, ho => by
    have ho := List.pairwise_cons.mp ho
    have hq := ho.1 q List.mem_cons_self
    have ih := (kn_pass (psh_r h hq) ho.2).tail p
    refine Kn.trans ih ?_
    exact Kn.step (u := []) (v := r) (Mv3.a h hq) (.refl _)
theorem ri_head {s : Bool} {x y : Int} {r : List Int} (h : (ri s r x).2 = some y) : ∃ b t, (ri s r x).1 = b :: t ∧ psh s b y := by
  cases r with
  | nil => cases h
  | cons a r =>
    by_cases q : psh s x a
    · rw [ri_p q] at h ⊢
      cases h
      exact ⟨x, r, rfl, q⟩
    · rw [ri_n q] at h ⊢
      exact ⟨a, _, rfl, psh_l q (ri_mem h).2⟩
theorem kn_line {s : Bool} {x : Int} : ∀ {r : List Int}, ord s r → Kn s (r ++ [x]) ((ri s r x).2.toList ++ (ri s r x).1)
  | [], _ => .refl _
  | a :: r, ho => by
    have ho' := List.pairwise_cons.mp ho
    by_cases q : psh s x a
    · rw [ri_p q]
      exact kn_pass q ho
    · rw [ri_n q]
      have ih := (kn_line (x := x) ho'.2).tail a
      refine Kn.trans ih ?_
      cases e : (ri s r x).2 with
      | none => exact .refl _
      | some y =>
        obtain ⟨b, t, e1, hb⟩ := ri_head e
        rw [e1]
        refine Kn.step (u := []) (v := t) (Mv3.b ?_ hb) (.refl _)
        rcases ri_in (s := s) (x := x) (r := r) (c := b) (by rw [e1]; exact List.mem_cons_self) with z | z
        · rw [z]; exact q
        · exact ho'.1 b z
/-- the letters, the last line first -/
def rdw (t : List (List Int)) : List Int := t.reverse.flatten
theorem rdw_cons (r : List Int) (t : List (List Int)) : rdw (r :: t) = rdw t ++ r := by simp [rdw]
theorem rdw_snoc (r : List Int) (t : List (List Int)) : rdw (t ++ [r]) = r ++ rdw t := by simp [rdw]
theorem kn_ins {s : Bool} : ∀ {t : List (List Int)} {x : Int}, Ords s t → Kn s (rdw t ++ [x]) (rdw (giO s t (some x)))
  | [], x, _ => .refl _
  | r :: t, x, ho => by
    have h := kn_line (x := x) (ho r List.mem_cons_self)
    have h1 := h.wrap (rdw t) []
    rw [List.append_nil, List.append_nil] at h1
    rw [rdw_cons, List.append_assoc]
    refine Kn.trans h1 ?_
    show Kn s _ (rdw ((ri s r x).1 :: giO s t (ri s r x).2))
    rw [rdw_cons]
    cases e : (ri s r x).2 with
    | none => rw [giO_none]; exact .refl _
    | some y =>
      have ih := (kn_ins (x := y) (t := t) (fun q hq => ho q (List.mem_cons_of_mem _ hq))).wrap [] (ri s r x).1
      simpa using ih
theorem kn_word {s : Bool} : ∀ {w : List Int} {t : List (List Int)}, Ords s t → Kn s (rdw t ++ w) (rdw (gtb s t w))
  | [], t, _ => by rw [List.append_nil]; exact .refl _
  | x :: w, t, ho => by
    have h := (kn_ins (x := x) ho).wrap [] w
    have e : [] ++ (rdw t ++ [x]) ++ w = rdw t ++ x :: w := by simp
    rw [e] at h
    refine h.trans ?_
    exact kn_word (gi_ords ho)
theorem ords_nil {s : Bool} : Ords s [] := fun r h => by cases h
theorem kn_rd (s : Bool) (w : List Int) : Kn s w (rdw (gtb s [] w)) := kn_word (w := w) (t := []) ords_nil
/-! ### tables of lines -/
def bel (s : Bool) : List Int → List Int → Prop
  | _, [] => True
  | [], _ :: _ => False
  | a :: u, b :: l => psh s a b ∧ bel s u l
def IsS (s : Bool) : List (List Int) → Prop
  | [] => True
  | r :: t => r ≠ [] ∧ ord s r ∧ bel s r (t.headD []) ∧ IsS s t
theorem bel_nil {s : Bool} {r : List Int} : bel s r [] := by cases r <;> trivial
theorem bel_ri0 {s : Bool} {x : Int} : ∀ {r l : List Int}, bel s r l → bel s (ri s r x).1 l
  | _, [], _ => bel_nil
  | [], _ :: _, h => h.elim
  | a :: r, b :: l, ⟨h1, h2⟩ => by
    by_cases q : psh s x a
    · rw [ri_p q]; exact ⟨psh_tr q h1, h2⟩
    · rw [ri_n q]; exact ⟨h1, bel_ri0 h2⟩
theorem bel_ri {s : Bool} {x : Int} : ∀ {r l : List Int}, bel s r l → bel s (ri s r x).1 (riO s l (ri s r x).2).1
  | [], [], _ => bel_nil
  | [], _ :: _, h => h.elim
  | a :: r, [], _ => by
    by_cases q : psh s x a
    · rw [ri_p q]; exact ⟨q, bel_nil⟩
    · rw [ri_n q]
      show bel s (a :: _) (riO s [] (ri s r x).2).1
      cases e : (ri s r x).2 with
      | none => trivial
      | some y => exact ⟨psh_l q (ri_mem e).2, bel_nil⟩
  | a :: r, b :: l, ⟨h1, h2⟩ => by
    by_cases q : psh s x a
    · rw [ri_p q]
      show bel s _ (ri s (b :: l) a).1
      rw [ri_p h1]
      exact ⟨q, h2⟩
    · rw [ri_n q]
      show bel s (a :: _) (riO s (b :: l) (ri s r x).2).1
      have ih := bel_ri (x := x) h2
      cases e : (ri s r x).2 with
      | none =>
        rw [e] at ih
        exact ⟨h1, ih⟩
      | some y =>
        rw [e] at ih
        show bel s (a :: _) (ri s (b :: l) y).1
        by_cases q2 : psh s y b
        · rw [ri_p q2]; exact ⟨psh_l q (ri_mem e).2, bel_ri0 h2⟩
        · rw [ri_n q2]; exact ⟨h1, ih⟩
theorem gi_headD (s : Bool) (t : List (List Int)) (o : Option Int) : (giO s t o).headD [] = (riO s (t.headD []) o).1 := by
  cases t with
  | nil => cases o <;> rfl
  | cons r t => rfl
theorem ri_ne {s : Bool} {x : Int} {r : List Int} : (ri s r x).1 ≠ [] := by
  cases r with
  | nil => simp [ri]
  | cons a r =>
    by_cases q : psh s x a
    · rw [ri_p q]; simp
    · rw [ri_n q]; simp
theorem gi_S {s : Bool} : ∀ {t : List (List Int)} {o : Option Int}, IsS s t → IsS s (giO s t o)
  | t, none, h => by rw [giO_none]; exact h
  | [], some x, _ => ⟨by simp, List.pairwise_singleton .., bel_nil, True.intro⟩
  | r :: t, some x, ⟨h1, h2, h3, h4⟩ => by
    show _ ≠ _ ∧ _
    refine ⟨ri_ne, ri_ord h2, ?_, gi_S h4⟩
    rw [gi_headD]
    exact bel_ri h3
theorem gt_S {s : Bool} : ∀ {w : List Int} {t : List (List Int)}, IsS s t → IsS s (gtb s t w)
  | [], _, h => h
  | _ :: w, _, h => gt_S (w := w) (gi_S h)
theorem IsS.ords {s : Bool} : ∀ {t : List (List Int)}, IsS s t → Ords s t
  | [], _ => ords_nil
  | r :: t, ⟨_, h2, _, h4⟩ => fun q hq => by
    rcases List.mem_cons.mp hq with z | z
    · rw [z]; exact h2
    · exact h4.ords q z
/-! ### columns and rows -/
/-- a column put to the right of rows -/
def apC : List (List Int) → List Int → List (List Int)
  | t, [] => t
  | [], y :: c => [y] :: apC [] c
  | r :: t, y :: c => (r ++ [y]) :: apC t c
def rows (cs : List (List Int)) : List (List Int) := cs.foldl apC []
/-- no letter of a row is greater than that of the column -/
def leC : List (List Int) → List Int → Prop
  | [], _ => True
  | _, [] => True
  | r :: t, y :: c => (∀ a ∈ r, a ≤ y) ∧ leC t c
theorem ri_end {x y : Int} (hxy : x < y) : ∀ {r : List Int}, (∀ a ∈ r, a ≤ x) → ri true (r ++ [y]) x = (r ++ [x], some y)
  | [], _ => by
    show ri true [y] x = _
    rw [ri_p (by unfold psh; simpa using hxy)]
    rfl
  | a :: r, h => by
    show ri true (a :: (r ++ [y])) x = _
    rw [ri_n (by have := h a List.mem_cons_self; unfold psh; simp; omega), ri_end hxy (fun b hb => h b (List.mem_cons_of_mem _ hb))]
    rfl
theorem ri_end0 {x : Int} : ∀ {r : List Int}, (∀ a ∈ r, a ≤ x) → ri true r x = (r ++ [x], none)
  | [], _ => rfl
  | a :: r, h => by
    rw [ri_n (by have := h a List.mem_cons_self; unfold psh; simp; omega), ri_end0 (fun b hb => h b (List.mem_cons_of_mem _ hb))]
    rfl
theorem gi_apC : ∀ {t : List (List Int)} {d : List Int} {x : Int}, ord false (x :: d) → leC t (x :: d) → giO true (apC t d) (some x) = apC t (x :: d)
  | [], [], x, _, _ => rfl
  | r :: t, [], x, _, h => by
    show (ri true r x).1 :: giO true t (ri true r x).2 = (r ++ [x]) :: apC t []
    rw [ri_end0 h.1, giO_none]
    rfl
  | [], y :: d, x, ho, _ => by
    have ho' := List.pairwise_cons.mp ho
    have hxy : x < y := by have := ho'.1 y List.mem_cons_self; unfold psh at this; simp at this; exact this
    show (ri true ([] ++ [y]) x).1 :: giO true (apC [] d) (ri true ([] ++ [y]) x).2 = [x] :: apC [] (y :: d)
    rw [ri_end hxy (fun a h => by cases h)]
    exact congrArg _ (gi_apC (t := []) ho'.2 True.intro)
  | r :: t, y :: d, x, ho, h => by
    have ho' := List.pairwise_cons.mp ho
    have hxy : x < y := by have := ho'.1 y List.mem_cons_self; unfold psh at this; simp at this; exact this
    show (ri true (r ++ [y]) x).1 :: giO true (apC t d) (ri true (r ++ [y]) x).2 = (r ++ [x]) :: apC t (y :: d)
    rw [ri_end hxy h.1]
    exact congrArg _ (gi_apC (t := t) ho'.2 h.2)
theorem leC_tail : ∀ {t : List (List Int)} {c : List Int} {x : Int}, ord false (x :: c) → leC t (x :: c) → leC t c
  | [], _, _, _, _ => True.intro
  | r :: t, [], _, _, _ => True.intro
  | r :: t, y :: c, x, ho, h => by
    have ho' := List.pairwise_cons.mp ho
    have hxy : x < y := by have := ho'.1 y List.mem_cons_self; unfold psh at this; simp at this; exact this
    refine ⟨fun a ha => ?_, leC_tail ho'.2 h.2⟩
    have := h.1 a ha
    omega
theorem gt_col : ∀ {c : List Int} {t : List (List Int)}, ord false c → leC t c → gtb true t c.reverse = apC t c
  | [], t, _, _ => by cases t <;> rfl
  | x :: c, t, ho, h => by
    rw [List.reverse_cons, gt_app, gt_col (List.pairwise_cons.mp ho).2 (leC_tail ho h)]
    exact gi_apC ho h
theorem leC_ap : ∀ {t : List (List Int)} {b c : List Int}, leC t b → bel false b c → leC (apC t b) c
  | t, b, [], _, _ => by cases (apC t b) <;> trivial
  | t, [], _ :: _, _, h => h.elim
  | [], y :: b, x :: c, _, ⟨h1, h2⟩ => by
    refine ⟨fun a ha => ?_, leC_ap (t := []) True.intro h2⟩
    rw [List.mem_singleton] at ha
    unfold psh at h1
    simp at h1
    omega
  | r :: t, y :: b, x :: c, ⟨g1, g2⟩, ⟨h1, h2⟩ => by
    unfold psh at h1
    simp at h1
    refine ⟨fun a ha => ?_, leC_ap (t := t) g2 h2⟩
    rcases List.mem_append.mp ha with z | z
    · have := g1 a z; omega
    · rw [List.mem_singleton] at z; omega
/-- the letters of the columns, each from its end -/
def cdw (cs : List (List Int)) : List Int := (rdw cs).reverse
theorem cdw_cons (c : List Int) (cs : List (List Int)) : cdw (c :: cs) = c.reverse ++ cdw cs := by unfold cdw; rw [rdw_cons, List.reverse_append]
theorem gt_cols : ∀ {cs : List (List Int)} {t : List (List Int)}, IsS false cs → leC t (cs.headD []) → gtb true t (cdw cs) = cs.foldl apC t
  | [], t, _, _ => rfl
  | c :: cs, t, ⟨_, h2, h3, h4⟩, h => by
    rw [cdw_cons, gt_app, gt_col h2 h]
    exact gt_cols h4 (leC_ap h h3)
/-- inserting by columns from the end, inserting by rows from the beginning -/
theorem gt_both (w : List Int) : rows (gtb false [] w.reverse) = gtb true [] w := by
  have h1 := (kn_rd false w.reverse).rev
  rw [List.reverse_reverse] at h1
  have h2 := kn_tab (t := []) ords_nil h1
  rw [h2]
  exact (gt_cols (t := []) (gt_S (s := false) (t := []) True.intro) True.intro).symm
/-! ### walks from the end, pairs, numbered items -/
section
variable {K : PySem.W.Frag}
theorem rev_at {α : Type} {xs : List α} {i : Nat} (h : i < xs.length) : xs.reverse[i]? = xs[xs.length - 1 - i]? := List.getElem?_reverse h
theorem lt_rev {n i : Nat} (h : i < n) : n - 1 - i < n := by omega
theorem at_some {α : Type} {xs : List α} {i : Nat} (h : i < xs.length) : ∃ x, xs[i]? = some x := ⟨_, List.getElem?_eq_getElem h⟩
theorem wk_listV {H0 : Hp} {S0 A S : List Addr} {σ : L2.St} {H H2 : Hp} {env : Env} {a : Addr} {l : Lv} {ds : List PyData} (c : At K H0 S0 A S σ env H H2) (D : Da (fz H0 A S H H2 l) (.ref a) (.list ds)) : Wk K H0 A S H H2 (Itv K a ds.length) (decide (l ≠ .di)) (ds.reverse.map (mk l)) := by
  have W := wk_list c D
  have hlen : (ds.map (mk l)).length = ds.length := List.length_map ..
  have hlen2 : (ds.reverse.map (mk l)).length = ds.length := by rw [List.length_map, List.length_reverse]
  have osV : ∀ i, i < ds.length → (ds.reverse.map (mk l))[i]? = (ds.map (mk l))[ds.length - 1 - i]? := fun i h => by
    rw [List.getElem?_map, List.getElem?_map, rev_at h]
  have vlen : ∀ {F : Hp}, Da F (.ref a) (.list ds) → ∃ vs, F a = some (.lst vs) ∧ DaAll F vs ds := fun D => by
    cases D with | lst e k => exact ⟨_, e, k⟩
  refine ⟨fun i H3 h s => ?_, fun i H3 x H4 h s y => ?_, fun H3 s => ?_, fun hl A' S' H3 i f h => ?_, fun hl A' S' H3 i x H4 f nf h y => ?_, fun hl A' S' H3 f => ?_⟩
  · rw [hlen2] at h
    obtain ⟨xs, x, h1, h2⟩ := W.go (ds.length - 1 - i) H3 (by rw [hlen]; exact lt_rev h) s
    exact ⟨h, xs, x, h1, h2⟩
  · rw [hlen2] at h
    rw [osV i h]
    exact W.yld (ds.length - 1 - i) H3 x H4 (by rw [hlen]; exact lt_rev h) s y
  · rw [hlen2]; exact Nat.le_refl _
  · rw [hlen2] at h
    obtain ⟨xs, x, h1, h2⟩ := W.goF hl A' S' H3 (ds.length - 1 - i) f (by rw [hlen]; exact lt_rev h)
    exact ⟨h, xs, x, h1, h2⟩
  · rw [hlen2] at h
    rw [osV i h]
    exact W.yldF hl A' S' H3 (ds.length - 1 - i) x H4 f nf (by rw [hlen]; exact lt_rev h) y
  · rw [hlen2]; exact Nat.le_refl _
theorem wk_tupV {H0 : Hp} {S0 A S : List Addr} {σ : L2.St} {H H2 : Hp} {env : Env} {a : Addr} {l : Lv} {ds : List PyData} (c : At K H0 S0 A S σ env H H2) (D : Da (fz H0 A S H H2 l) (.ref a) (.tuple ds)) : Wk K H0 A S H H2 (RT.ItvT K a ds.length) (decide (l ≠ .di)) (ds.reverse.map (mk l)) := by
  have W := wk_tup c D
  have hlen : (ds.map (mk l)).length = ds.length := List.length_map ..
  have hlen2 : (ds.reverse.map (mk l)).length = ds.length := by rw [List.length_map, List.length_reverse]
  have osV : ∀ i, i < ds.length → (ds.reverse.map (mk l))[i]? = (ds.map (mk l))[ds.length - 1 - i]? := fun i h => by
    rw [List.getElem?_map, List.getElem?_map, rev_at h]
  refine ⟨fun i H3 h s => ?_, fun i H3 x H4 h s y => ?_, fun H3 s => ?_, fun hl A' S' H3 i f h => ?_, fun hl A' S' H3 i x H4 f nf h y => ?_, fun hl A' S' H3 f => ?_⟩
  · rw [hlen2] at h
    obtain ⟨xs, x, h1, h2⟩ := W.go (ds.length - 1 - i) H3 (by rw [hlen]; exact lt_rev h) s
    exact ⟨h, xs, x, h1, h2⟩
  · rw [hlen2] at h
    rw [osV i h]
    exact W.yld (ds.length - 1 - i) H3 x H4 (by rw [hlen]; exact lt_rev h) s y
  · rw [hlen2]; exact Nat.le_refl _
  · rw [hlen2] at h
    obtain ⟨xs, x, h1, h2⟩ := W.goF hl A' S' H3 (ds.length - 1 - i) f (by rw [hlen]; exact lt_rev h)
    exact ⟨h, xs, x, h1, h2⟩
  · rw [hlen2] at h
    rw [osV i h]
    exact W.yldF hl A' S' H3 (ds.length - 1 - i) x H4 f nf (by rw [hlen]; exact lt_rev h) y
  · rw [hlen2]; exact Nat.le_refl _
/-- the items of a sequence, from its end -/
def seqV (o : OV) (R : Bool → List OV → Prop) : Prop := match o with
  | .da l (.list ds) => R (decide (l ≠ .di)) (ds.reverse.map (mk l))
  | .da l (.tuple ds) => R (decide (l ≠ .di)) (ds.reverse.map (mk l))
  | _ => False
/-- reversed(..) -/
def iRvA (a : EX K) : IX K where
  ti := fun E => RT.iRevA K (a.te E)
  wp := fun env R X => a.wp env (fun o => seqV o R) X
  ok := fun {E H0 S0 A S σ H env R X} r h hX Q q => a.ok r h hX _ fun x H2 o hb s2 ho => by
    have c : At K H0 S0 A S σ env H H2 := ⟨r, s2⟩
    rcases ho with ⟨rfl, _⟩ | ⟨B, hB, ho⟩
    · exact hb.elim
    unfold seqV at hb
    split at hb
    · cases ho with
      | @da _ _ _ k =>
        rename_i l ds
        obtain ⟨p, xs, rfl, e, kl⟩ : ∃ p xs, x = .ref p ∧ H2 p = some (.lst xs) ∧ xs.length = ds.length := by
          cases k with
          | lst k1 k2 => exact ⟨_, _, rfl, fz_le _ _ k1, k2.len⟩
        exact ⟨_, xs, rfl, .inl ⟨SqL.of e, by rw [kl]; exact q _ H2 _ _ hb s2 (wk_listV c k)⟩⟩
    · cases ho with
      | @da _ _ _ k =>
        rename_i l ds
        obtain ⟨p, xs, rfl, e, kl⟩ : ∃ p xs, x = .ref p ∧ H2 p = some (.tup xs) ∧ xs.length = ds.length := by
          cases k with
          | tup k1 k2 => exact ⟨_, _, rfl, fz_le _ _ k1, k2.len⟩
        exact ⟨_, xs, rfl, .inr ⟨SqT.of e, by rw [kl]; exact q _ H2 _ _ hb s2 (wk_tupV c k)⟩⟩
    · exact hb.elim
theorem w_iRvA (a : EX K) (env : Env) (R : Bool → List OV → Prop) (X : Addr → Prop) : (iRvA a).wp env R X = a.wp env (fun o => seqV o R) X := (rfl)
theorem w_seqV_l (l : Lv) (ds : List PyData) (R : Bool → List OV → Prop) : seqV (.da l (.list ds)) R = R (decide (l ≠ .di)) (ds.reverse.map (mk l)) := (rfl)
theorem w_seqV_t (l : Lv) (ds : List PyData) (R : Bool → List OV → Prop) : seqV (.da l (.tuple ds)) R = R (decide (l ≠ .di)) (ds.reverse.map (mk l)) := (rfl)
theorem vr_tupR {H0 H1 H2 : Hp} {S0 A S : List Addr} {σ : L2.St} {env : Env} {l : Lv} (c : At K H0 S0 A S σ env H1 H2) {p : Addr} (n : H2 p = none) {vs : List V} {ds : List PyData} (h : DaAll (fz H0 A S H1 H2 l) vs ds) : VR K H0 A S H1 (upd H2 p (.tup vs.reverse)) (nt l ds.reverse) (.ref p) := vr_tup c n h.rev
/-- xs[::-1] of a list -/
def xRevL (a : EX K) : EX K where
  te := fun E => tRevL K (a.te E)
  wp := fun env R X => a.wp env (fun o => rd o fun l d => match d with | .list ds => R (nl l ds.reverse) | _ => False) X
  ok := fun {E H0 S0 A S σ H env R X} r h hX Q q => a.ok r h hX _ fun x H2 o hb s2 ho => by
    have c : At K H0 S0 A S σ env H H2 := ⟨r, s2⟩
    obtain ⟨l, d, h1, h2⟩ := ho.rd c hb
    cases h2 <;> first | exact h1.elim | skip
    rename_i a1 xs ds e1 k1
    exact ⟨_, _, rfl, SqL.of (fz_le _ _ e1), fun p np => q _ _ _ h1 (c.s.new np) (vr_lst c np k1.rev)⟩
/-- xs[::-1] of a tuple -/
def xRevT (a : EX K) : EX K where
  te := fun E => tRevT K (a.te E)
  wp := fun env R X => a.wp env (fun o => rd o fun l d => match d with | .tuple ds => R (nt l ds.reverse) | _ => False) X
  ok := fun {E H0 S0 A S σ H env R X} r h hX Q q => a.ok r h hX _ fun x H2 o hb s2 ho => by
    have c : At K H0 S0 A S σ env H H2 := ⟨r, s2⟩
    obtain ⟨l, d, h1, h2⟩ := ho.rd c hb
    cases h2 <;> first | exact h1.elim | skip
    rename_i a1 xs ds e1 k1
    exact ⟨_, _, rfl, SqT.of (fz_le _ _ e1), fun p np => q _ _ _ h1 (c.s.new np) (vr_tup c np k1.rev)⟩
theorem w_revL (a : EX K) (env : Env) (R : OV → Prop) (X : Addr → Prop) : (xRevL a).wp env R X = a.wp env (fun o => rd o fun l d => match d with | .list ds => R (nl l ds.reverse) | _ => False) X := (rfl)
theorem w_revT (a : EX K) (env : Env) (R : OV → Prop) (X : Addr → Prop) : (xRevT a).wp env R X = a.wp env (fun o => rd o fun l d => match d with | .tuple ds => R (nt l ds.reverse) | _ => False) X := (rfl)
end
/-! ### lines by index -/
/-- the place of a letter in a line -/
def gp (s : Bool) (r : List Int) (x : Int) : Nat := if s = true then insRow r x else cless r x
theorem gp_le (s : Bool) (r : List Int) (x : Int) : gp s r x ≤ r.length := by
  unfold gp
  split
  · exact insRow_le _ _
  · exact cless_le _ _
def gI (s : Bool) : List (List Int) → Int → List (List Int)
  | [], x => [[x]]
  | r :: rs, x => if gp s r x = r.length then (r ++ [x]) :: rs else r.set (gp s r x) x :: gI s rs (r.getD (gp s r x) 0)
def gNn (s : Bool) : List (List Int) → Int → Nat
  | [], _ => 0
  | r :: rs, x => if gp s r x = r.length then 0 else gNn s rs (r.getD (gp s r x) 0) + 1
theorem gI_true : ∀ (fs : List (List Int)) (x : Int), gI true fs x = ins fs x
  | [], _ => rfl
  | r :: rs, x => by
    show (if insRow r x = r.length then _ else _) = (if insRow r x = r.length then _ else _)
    by_cases c : insRow r x = r.length
    · rw [if_pos c, if_pos c]
    · rw [if_neg c, if_neg c]
      exact congrArg _ (gI_true rs _)
theorem gN_true : ∀ (fs : List (List Int)) (x : Int), gNn true fs x = insN fs x
  | [], _ => rfl
  | r :: rs, x => by
    show (if insRow r x = r.length then _ else _) = (if insRow r x = r.length then _ else _)
    by_cases c : insRow r x = r.length
    · rw [if_pos c, if_pos c]
    · rw [if_neg c, if_neg c]
      exact congrArg (· + 1) (gN_true rs _)
theorem gN_le (s : Bool) : ∀ (fs : List (List Int)) (x : Int), gNn s fs x ≤ fs.length
  | [], _ => Nat.le_refl _
  | r :: rs, x => by
    unfold gNn
    split
    · exact Nat.zero_le _
    · exact Nat.succ_le_succ (gN_le s rs _)
theorem gI_split (s : Bool) : ∀ (fs : List (List Int)) (x : Int), (gI s fs x).take (gNn s fs x + 1) ++ fs.drop (gNn s fs x + 1) = gI s fs x
  | [], x => rfl
  | r :: rs, x => by
    unfold gI gNn
    by_cases c : gp s r x = r.length
    · rw [if_pos c, if_pos c]; rfl
    · rw [if_neg c, if_neg c]
      have := gI_split s rs (r.getD (gp s r x) 0)
      show r.set (gp s r x) x :: ((gI s rs (r.getD (gp s r x) 0)).take (gNn s rs (r.getD (gp s r x) 0) + 1) ++ rs.drop (gNn s rs (r.getD (gp s r x) 0) + 1)) = _
      rw [this]
theorem gI_lt (s : Bool) : ∀ (fs : List (List Int)) (x : Int), gNn s fs x < (gI s fs x).length
  | [], x => by simp [gI, gNn]
  | r :: rs, x => by
    unfold gI gNn
    by_cases c : gp s r x = r.length
    · rw [if_pos c, if_pos c]; simp
    · rw [if_neg c, if_neg c]
      have := gI_lt s rs (r.getD (gp s r x) 0)
      simp only [List.length_cons]
      omega
theorem gI_len (s : Bool) : ∀ (fs : List (List Int)) (x : Int) (k : Nat), ((gI s fs x).getD k []).length = (fs.getD k []).length + if k = gNn s fs x then 1 else 0
  | [], x, 0 => rfl
  | [], x, k + 1 => rfl
  | r :: rs, x, k => by
    unfold gI gNn
    by_cases c : gp s r x = r.length
    · rw [if_pos c, if_pos c]
      cases k with
      | zero => simp
      | succ k => simp
    · rw [if_neg c, if_neg c]
      cases k with
      | zero => simp
      | succ k =>
        have := gI_len s rs (r.getD (gp s r x) 0) k
        simp only [List.getD_cons_succ, Nat.add_right_cancel_iff] at this ⊢
        exact this
theorem gI_length (s : Bool) : ∀ (fs : List (List Int)) (x : Int), (gI s fs x).length = if gNn s fs x = fs.length then fs.length + 1 else fs.length
  | [], _ => rfl
  | r :: rs, x => by
    unfold gI gNn
    by_cases c : gp s r x = r.length
    · rw [if_pos c, if_pos c]
      simp
    · rw [if_neg c, if_neg c]
      have := gI_length s rs (r.getD (gp s r x) 0)
      simp only [List.length_cons, Nat.add_right_cancel_iff, this]
      split <;> rfl
theorem gI_flat (s : Bool) : ∀ (fs : List (List Int)) (x : Int), (gI s fs x).flatten.length = fs.flatten.length + 1
  | [], x => rfl
  | r :: rs, x => by
    unfold gI
    split
    · simp
      omega
    · rename_i h
      rw [List.flatten_cons, List.flatten_cons, List.length_append, List.length_append, List.length_set, gI_flat s rs]
      omega
theorem gp_cons {s : Bool} {a x : Int} {r : List Int} (h : ord s (a :: r)) : gp s (a :: r) x = if psh s x a then 0 else gp s r x + 1 := by
  have h' := List.pairwise_cons.mp h
  by_cases q : psh s x a
  · rw [if_pos q]
    have all : ∀ b ∈ a :: r, psh s x b := fun b hb => by
      rcases List.mem_cons.mp hb with z | z
      · rw [z]; exact q
      · exact psh_r q (h'.1 b z)
    cases s with
    | true =>
      show insRow (a :: r) x = 0
      unfold insRow
      rw [List.length_eq_zero_iff, List.filter_eq_nil_iff]
      intro b hb
      have : x < b := by have := all b hb; unfold psh at this; simpa using this
      rw [decide_eq_true_iff]
      omega
    | false =>
      show cless (a :: r) x = 0
      unfold cless
      rw [List.length_eq_zero_iff, List.filter_eq_nil_iff]
      intro b hb
      have : x ≤ b := by have := all b hb; unfold psh at this; simpa using this
      rw [decide_eq_true_iff]
      omega
  · rw [if_neg q]
    cases s with
    | true =>
      show insRow (a :: r) x = insRow r x + 1
      have : ¬ x < a := by unfold psh at q; simpa using q
      unfold insRow
      rw [List.filter_cons, if_pos (decide_eq_true (by omega)), List.length_cons]
    | false =>
      show cless (a :: r) x = cless r x + 1
      have : ¬ x ≤ a := by unfold psh at q; simpa using q
      unfold cless
      rw [List.filter_cons, if_pos (decide_eq_true (by omega)), List.length_cons]
theorem ri_gp {s : Bool} {x : Int} : ∀ {r : List Int}, ord s r → ri s r x = if gp s r x = r.length then (r ++ [x], none) else (r.set (gp s r x) x, some (r.getD (gp s r x) 0))
  | [], _ => by cases s <;> rfl
  | a :: r, h => by
    have h' := List.pairwise_cons.mp h
    rw [gp_cons h]
    by_cases q : psh s x a
    · rw [if_pos q, ri_p q, if_neg (by simp)]
      rfl
    · rw [if_neg q, ri_n q, ri_gp h'.2]
      by_cases c : gp s r x = r.length
      · rw [if_pos c, if_pos (by simpa using c)]
        rfl
      · rw [if_neg c, if_neg (by simpa using c)]
        rfl
theorem gi_gI {s : Bool} : ∀ {t : List (List Int)} {x : Int}, Ords s t → giO s t (some x) = gI s t x ∧ giN s t (some x) = gNn s t x
  | [], x, _ => ⟨rfl, rfl⟩
  | r :: t, x, h => by
    have hr := h r List.mem_cons_self
    have ht : Ords s t := fun q hq => h q (List.mem_cons_of_mem _ hq)
    have e1 : giO s (r :: t) (some x) = (ri s r x).1 :: giO s t (ri s r x).2 := rfl
    have e2 : giN s (r :: t) (some x) = match (ri s r x).2 with
      | none => 0
      | some y => giN s t (some y) + 1 := rfl
    rw [e1, e2, ri_gp hr]
    unfold gI gNn
    by_cases c : gp s r x = r.length
    · rw [if_pos c, if_pos c, if_pos c, giO_none]
      exact ⟨rfl, rfl⟩
    · rw [if_neg c, if_neg c, if_neg c]
      obtain ⟨i1, i2⟩ := gi_gI (x := r.getD (gp s r x) 0) ht
      exact ⟨congrArg _ i1, congrArg (· + 1) i2⟩
theorem IsT.ords : ∀ {t : List (List Int)}, IsT t → Ords true t
  | [], _ => ords_nil
  | r :: t, ⟨_, h2, _, h4⟩ => fun q hq => by
    rcases List.mem_cons.mp hq with z | z
    · rw [z]
      refine h2.imp fun {a b} hab => ?_
      unfold psh
      simp
      exact hab
    · exact IsT.ords h4 q z
theorem gi_ins {t : List (List Int)} {x : Int} (h : IsT t) : giO true t (some x) = ins t x ∧ giN true t (some x) = insN t x := by
  obtain ⟨h1, h2⟩ := gi_gI (x := x) h.ords
  rw [h1, h2, gI_true, gN_true]
  exact ⟨rfl, rfl⟩
theorem gtb_tab : ∀ {w : List Int} {t : List (List Int)}, IsT t → gtb true t w = w.foldl ins t
  | [], _, _ => rfl
  | x :: w, t, h => by
    show gtb true (giO true t (some x)) w = w.foldl ins (ins t x)
    rw [(gi_ins h).1]
    exact gtb_tab (ins_T h)
theorem gtb_tab0 (w : List Int) : gtb true [] w = tab w := gtb_tab True.intro
/-! ### columns of rows -/
def colAt (fs : List (List Int)) (k : Nat) : List Int := (fs.filter fun r => decide (k < r.length)).map fun r => r.getD k 0
def trans (fs : List (List Int)) : List (List Int) := (List.range (fs.headD []).length).map (colAt fs)
def Dec (fs : List (List Int)) : Prop := fs.Pairwise fun a b => b.length ≤ a.length
theorem colAt_cons (c : List Int) (fs : List (List Int)) (k : Nat) : colAt (c :: fs) k = if k < c.length then c.getD k 0 :: colAt fs k else colAt fs k := by
  unfold colAt
  rw [List.filter_cons]
  by_cases h : k < c.length
  · rw [if_pos h, if_pos (decide_eq_true h)]; rfl
  · rw [if_neg h, if_neg (by simpa using h)]
theorem colAt_none {fs : List (List Int)} {k : Nat} (h : ∀ r ∈ fs, r.length ≤ k) : colAt fs k = [] := by
  unfold colAt
  rw [List.filter_eq_nil_iff.mpr fun r hr => by have := h r hr; simp; omega]
  rfl
theorem colAt_snoc (fs : List (List Int)) (c : List Int) (k : Nat) : colAt (fs ++ [c]) k = colAt fs k ++ if k < c.length then [c.getD k 0] else [] := by
  unfold colAt
  rw [List.filter_append, List.map_append, List.filter_cons]
  by_cases h : k < c.length
  · rw [if_pos h, if_pos (decide_eq_true h)]; rfl
  · rw [if_neg h, if_neg (by simpa using h)]; rfl
theorem colAt_at : ∀ {fs : List (List Int)} {j k : Nat}, Dec fs → ((k < (colAt fs j).length ↔ k < fs.length ∧ j < (fs.getD k []).length) ∧ (k < (colAt fs j).length → (colAt fs j).getD k 0 = (fs.getD k []).getD j 0))
  | [], j, k, _ => ⟨by simp [colAt], by simp [colAt]⟩
  | c :: fs, j, k, h => by
    have h' := List.pairwise_cons.mp h
    rw [colAt_cons]
    by_cases q : j < c.length
    · rw [if_pos q]
      cases k with
      | zero => exact ⟨by simpa using q, fun _ => rfl⟩
      | succ k =>
        obtain ⟨i1, i2⟩ := colAt_at (fs := fs) (j := j) (k := k) h'.2
        constructor
        · simpa using i1
        · intro hk
          exact i2 (by simpa using hk)
    · rw [if_neg q, colAt_none fun r hr => by have := h'.1 r hr; omega]
      refine ⟨⟨fun z => by simp at z, fun ⟨z1, z2⟩ => ?_⟩, fun z => by simp at z⟩
      exfalso
      cases k with
      | zero => exact q (by simpa using z2)
      | succ k =>
        have hk : k < fs.length := by simpa using z1
        have := h'.1 _ (List.getElem_mem hk)
        have z2 : j < (fs.getD k []).length := by simpa using z2
        rw [List.getD_eq_getElem?_getD, List.getElem?_eq_getElem hk] at z2
        have z2 : j < fs[k].length := z2
        omega
theorem ext_getD {α : Type} {d : α} {xs ys : List α} (h : xs.length = ys.length) (g : ∀ k, k < xs.length → xs.getD k d = ys.getD k d) : xs = ys := by
  refine List.ext_getElem h fun k h1 h2 => ?_
  have := g k h1
  rw [List.getD_eq_getElem?_getD, List.getD_eq_getElem?_getD, List.getElem?_eq_getElem h1, List.getElem?_eq_getElem h2] at this
  exact this
theorem trans_len (fs : List (List Int)) : (trans fs).length = (fs.headD []).length := by unfold trans; rw [List.length_map, List.length_range]
theorem trans_at {fs : List (List Int)} {k : Nat} (h : k < (fs.headD []).length) : (trans fs).getD k [] = colAt fs k := by
  unfold trans
  rw [List.getD_eq_getElem?_getD, List.getElem?_map, List.getElem?_range h]
  rfl
theorem apC_nil (t : List (List Int)) : apC t [] = t := by cases t <;> rfl
theorem apC_len : ∀ {t : List (List Int)} {c : List Int}, (apC t c).length = max t.length c.length
  | t, [] => by rw [apC_nil]; simp
  | [], y :: c => by
    show (apC [] c).length + 1 = _
    rw [apC_len (t := []) (c := c)]
    simp
  | r :: t, y :: c => by
    show (apC t c).length + 1 = _
    rw [apC_len (t := t) (c := c), List.length_cons, List.length_cons]
    omega
theorem apC_at : ∀ {t : List (List Int)} {c : List Int} {k : Nat}, (apC t c).getD k [] = t.getD k [] ++ if k < c.length then [c.getD k 0] else []
  | t, [], k => by rw [apC_nil]; simp
  | [], y :: c, 0 => by simp [apC]
  | [], y :: c, k + 1 => by
    show (apC [] c).getD k [] = _
    rw [apC_at (t := []) (c := c)]
    simp
  | r :: t, y :: c, 0 => by simp [apC]
  | r :: t, y :: c, k + 1 => by
    show (apC t c).getD k [] = _
    rw [apC_at (t := t) (c := c)]
    simp
theorem headD_snoc (fs : List (List Int)) (c : List Int) : (fs ++ [c]).headD [] = if fs = [] then c else fs.headD [] := by
  cases fs with
  | nil => rfl
  | cons a fs => rw [if_neg (by simp)]; rfl
theorem Dec.head {c : List Int} {fs : List (List Int)} (h : Dec (fs ++ [c])) (hn : fs ≠ []) : c.length ≤ (fs.headD []).length := by
  cases fs with
  | nil => exact absurd rfl hn
  | cons a fs => exact (List.pairwise_cons.mp h).1 c (by simp)
theorem trans_snoc {fs : List (List Int)} {c : List Int} (h : Dec (fs ++ [c])) : trans (fs ++ [c]) = apC (trans fs) c := by
  have hl : ((fs ++ [c]).headD []).length = max (fs.headD []).length c.length := by
    rw [headD_snoc]
    by_cases q : fs = []
    · subst q; simp
    · rw [if_neg q]
      have := h.head q
      omega
  refine ext_getD (d := []) (by rw [trans_len, apC_len, trans_len, hl]) fun k hk => ?_
  rw [trans_len] at hk
  rw [trans_at hk, apC_at, colAt_snoc]
  refine congrArg (· ++ _) ?_
  by_cases q : k < (fs.headD []).length
  · rw [trans_at q]
  · rw [List.getD_eq_getElem?_getD, List.getElem?_eq_none (by rw [trans_len]; omega)]
    refine colAt_none fun r hr => ?_
    have hd : Dec fs := (List.pairwise_append.mp h).1
    cases fs with
    | nil => cases hr
    | cons a fs =>
      have q : ¬ k < a.length := q
      rcases List.mem_cons.mp hr with z | z
      · rw [z]; omega
      · have := (List.pairwise_cons.mp hd).1 r z
        omega
theorem trans_fold : ∀ {cs pre : List (List Int)}, Dec (pre ++ cs) → cs.foldl apC (trans pre) = trans (pre ++ cs)
  | [], pre, _ => by rw [List.append_nil]; rfl
  | c :: cs, pre, h => by
    have e : pre ++ c :: cs = (pre ++ [c]) ++ cs := by simp
    rw [e] at h ⊢
    have h1 : Dec (pre ++ [c]) := (List.pairwise_append.mp h).1
    rw [← trans_fold h, trans_snoc h1]
    rfl
theorem trans_rows {cs : List (List Int)} (h : Dec cs) : rows cs = trans cs := trans_fold (pre := []) h
theorem trans_trans {fs : List (List Int)} (h : Dec fs) (hn : ∀ r ∈ fs, r ≠ []) : trans (trans fs) = fs := by
  have hw : ∀ k, (fs.getD k []).length ≤ (fs.headD []).length := fun k => by
    cases fs with
    | nil => simp
    | cons a fs =>
      cases k with
      | zero => exact Nat.le_refl _
      | succ k =>
        show (fs.getD k []).length ≤ a.length
        by_cases q : k < fs.length
        · rw [List.getD_eq_getElem?_getD, List.getElem?_eq_getElem q]
          exact (List.pairwise_cons.mp h).1 _ (List.getElem_mem q)
        · rw [List.getD_eq_getElem?_getD, List.getElem?_eq_none (by omega)]
          exact Nat.zero_le _
  have hh : ((trans fs).headD []).length = fs.length := by
    cases fs with
    | nil => rfl
    | cons a fs =>
      have ha : 0 < a.length := List.length_pos_iff.mpr (hn a List.mem_cons_self)
      have e : (trans (a :: fs)).headD [] = (trans (a :: fs)).getD 0 [] := by cases (trans (a :: fs)) <;> rfl
      rw [e, trans_at ha]
      unfold colAt
      rw [List.length_map, List.filter_eq_self.mpr fun r hr => decide_eq_true (List.length_pos_iff.mpr (hn r hr))]
  refine ext_getD (d := []) (by rw [trans_len, hh]) fun k hk => ?_
  rw [trans_len, hh] at hk
  rw [trans_at (by rw [hh]; exact hk)]
  have e : colAt (trans fs) k = ((List.range (fs.headD []).length).filter fun j => decide (j < (fs.getD k []).length)).map fun j => (fs.getD k []).getD j 0 := by
    conv => lhs; unfold colAt trans
    rw [List.filter_map, List.map_map]
    have e1 : ((fun (r : List Int) => decide (k < r.length)) ∘ colAt fs) = fun j => decide (j < (fs.getD k []).length) := by
      funext j
      show decide (k < (colAt fs j).length) = _
      rw [Bool.eq_iff_iff, decide_eq_true_iff, decide_eq_true_iff, (colAt_at h).1]
      exact ⟨fun z => z.2, fun z => ⟨hk, z⟩⟩
    rw [e1]
    refine List.map_congr_left fun j hj => ?_
    rw [List.mem_filter, decide_eq_true_iff] at hj
    exact (colAt_at h).2 ((colAt_at h).1.mpr ⟨hk, hj.2⟩)
  rw [e]
  generalize hr : fs.getD k [] = r
  have hwk := hw k
  rw [hr] at hwk
  have e2 : (List.range (fs.headD []).length).filter (fun j => decide (j < r.length)) = List.range r.length := by
    generalize (fs.headD []).length = w at hwk
    clear e hr
    induction w with
    | zero => have : r.length = 0 := by omega
              rw [this]; rfl
    | succ w ih =>
      rw [List.range_succ, List.filter_append]
      by_cases q : r.length ≤ w
      · rw [ih q, List.filter_cons, if_neg (by simpa using q)]
        simp
      · have : r.length = w + 1 := by omega
        rw [this, List.range_succ, List.filter_cons, if_pos (by simp)]
        rw [List.filter_eq_self.mpr fun j hj => by rw [List.mem_range] at hj; simp; omega]
        rfl
  rw [e2]
  refine List.ext_getElem (by simp) fun j h1 h2 => ?_
  rw [List.getElem_map, List.getElem_range, List.getD_eq_getElem?_getD, List.getElem?_eq_getElem h2]
  rfl
theorem bel_len {s : Bool} : ∀ {a b : List Int}, bel s a b → b.length ≤ a.length
  | _, [], _ => Nat.zero_le _
  | [], _ :: _, h => h.elim
  | a :: u, b :: l, h => Nat.succ_le_succ (bel_len h.2)
theorem IsS.dec {s : Bool} : ∀ {t : List (List Int)}, IsS s t → Dec t
  | [], _ => List.Pairwise.nil
  | [r], _ => List.pairwise_singleton ..
  | r :: l :: t, ⟨_, _, h3, h4⟩ => by
    have ih := IsS.dec h4
    have h5 := bel_len (show bel s r l from h3)
    refine List.pairwise_cons.mpr ⟨fun q hq => ?_, ih⟩
    rcases List.mem_cons.mp hq with z | z
    · rw [z]; exact h5
    · have := (List.pairwise_cons.mp ih).1 q z
      omega
theorem IsS.ne {s : Bool} : ∀ {t : List (List Int)}, IsS s t → ∀ r ∈ t, r ≠ []
  | [], _ => fun r h => by cases h
  | r :: t, ⟨h1, _, _, h4⟩ => fun q hq => by
    rcases List.mem_cons.mp hq with z | z
    · rw [z]; exact h1
    · exact h4.ne q z
/-- the columns of the table of a word -/
def ctb (w : List Int) : List (List Int) := gtb false [] w.reverse
theorem ctb_S (w : List Int) : IsS false (ctb w) := gt_S (s := false) (t := []) True.intro
theorem trans_ctb (w : List Int) : trans (ctb w) = tab w := by
  rw [← trans_rows (ctb_S w).dec, ← gtb_tab0]
  exact gt_both w
theorem trans_tab (w : List Int) : trans (tab w) = ctb w := by
  rw [← trans_ctb, trans_trans (ctb_S w).dec (ctb_S w).ne]
theorem ctb_cons (x : Int) (w : List Int) : ctb (x :: w) = gI false (ctb w) x := by
  unfold ctb
  rw [List.reverse_cons, gt_app]
  exact (gi_gI (gt_S (s := false) (t := []) True.intro).ords).1
/-! ### taking out of lines -/
def ru (s : Bool) : List Int → Int → List Int × Int
  | [], z => ([], z)
  | [a], z => ([z], a)
  | a :: b :: r, z => if psh s b z then (a :: (ru s (b :: r) z).1, (ru s (b :: r) z).2) else (z :: b :: r, a)
theorem ru_p {s : Bool} {a b z : Int} {r : List Int} (h : psh s b z) : ru s (a :: b :: r) z = (a :: (ru s (b :: r) z).1, (ru s (b :: r) z).2) := by rw [ru, if_pos h]
theorem ru_n {s : Bool} {a b z : Int} {r : List Int} (h : ¬ psh s b z) : ru s (a :: b :: r) z = (z :: b :: r, a) := by rw [ru, if_neg h]
theorem ru_mem {s : Bool} {z : Int} : ∀ {r : List Int}, r ≠ [] → (ru s r z).2 ∈ r
  | [], h => absurd rfl h
  | [a], _ => List.mem_singleton.mpr rfl
  | a :: b :: r, _ => by
    by_cases q : psh s b z
    · rw [ru_p q]; exact List.mem_cons_of_mem _ (ru_mem (r := b :: r) (by simp))
    · rw [ru_n q]; exact List.mem_cons_self
theorem ru_len {s : Bool} {z : Int} : ∀ {r : List Int}, (ru s r z).1.length = r.length
  | [] => rfl
  | [a] => rfl
  | a :: b :: r => by
    by_cases q : psh s b z
    · rw [ru_p q]; show (ru s (b :: r) z).1.length + 1 = _; rw [ru_len (r := b :: r)]; rfl
    · rw [ru_n q]; rfl
/-- what was pushed out goes back -/
theorem ru_ri {s : Bool} {x y : Int} : ∀ {r : List Int}, ord s r → (ri s r x).2 = some y → ru s (ri s r x).1 y = (r, x)
  | [], _, h => by cases h
  | a :: r, ho, h => by
    have ho' := List.pairwise_cons.mp ho
    by_cases q : psh s x a
    · rw [ri_p q] at h ⊢
      cases h
      cases r with
      | nil => rfl
      | cons b r => exact ru_n (ho'.1 b List.mem_cons_self)
    · rw [ri_n q] at h ⊢
      obtain ⟨b, t, e1, hb⟩ := ri_head h
      have ih := ru_ri ho'.2 h
      rw [e1] at ih ⊢
      rw [ru_p hb, ih]
theorem ru_out {s : Bool} {z : Int} : ∀ {r : List Int}, ord s r → (∀ a, r.head? = some a → psh s a z) → r ≠ [] → ri s (ru s r z).1 (ru s r z).2 = (r, some z) ∧ ord s (ru s r z).1 ∧ psh s (ru s r z).2 z ∧ ∀ c ∈ (ru s r z).1, c = z ∨ c ∈ r
  | [], _, _, h => absurd rfl h
  | [a], _, h, _ => ⟨ri_p (h a rfl), List.pairwise_singleton .., h a rfl, fun c hc => .inl (List.mem_singleton.mp hc)⟩
  | a :: b :: r, ho, h, _ => by
    have ho' := List.pairwise_cons.mp ho
    by_cases q : psh s b z
    · rw [ru_p q]
      obtain ⟨i1, i2, i3, i4⟩ := ru_out (r := b :: r) ho'.2 (fun c hc => by cases hc; exact q) (by simp)
      have hm := ru_mem (s := s) (z := z) (r := b :: r) (by simp)
      have e : ¬ psh s (ru s (b :: r) z).2 a := ho'.1 _ hm
      refine ⟨by rw [ri_n e, i1], List.pairwise_cons.mpr ⟨fun c hc => ?_, i2⟩, i3, fun c hc => ?_⟩
      · rcases i4 c hc with w | w
        · rw [w]
          have ha := h a rfl
          intro hza
          exact e (psh_tr i3 hza)
        · exact ho'.1 c w
      · rcases List.mem_cons.mp hc with w | w
        · exact .inr (w ▸ List.mem_cons_self)
        · rcases i4 c w with w | w
          · exact .inl w
          · exact .inr (List.mem_cons_of_mem _ w)
    · rw [ru_n q]
      have ho2 := List.pairwise_cons.mp ho'.2
      refine ⟨ri_p (h a rfl), List.pairwise_cons.mpr ⟨fun c hc w => ?_, ho'.2⟩, h a rfl, fun c hc => ?_⟩
      · rcases List.mem_cons.mp hc with e | e
        · rw [e] at w; exact q w
        · exact q (psh_l (ho2.1 c e) w)
      · rcases List.mem_cons.mp hc with w | w
        · exact .inl w
        · exact .inr (List.mem_cons_of_mem _ w)
theorem bel_ru0 {s : Bool} {z : Int} : ∀ {r l : List Int}, (∀ x ∈ l, psh s z x) → bel s r l → bel s (ru s r z).1 l
  | _, [], _, _ => bel_nil
  | [], _ :: _, _, h => h.elim
  | [a], b :: l, hz, ⟨h1, h2⟩ => ⟨hz b List.mem_cons_self, h2⟩
  | a :: c :: r, b :: l, hz, ⟨h1, h2⟩ => by
    by_cases q : psh s c z
    · rw [ru_p q]; exact ⟨h1, bel_ru0 (fun x hx => hz x (List.mem_cons_of_mem _ hx)) h2⟩
    · rw [ru_n q]; exact ⟨hz b List.mem_cons_self, h2⟩
theorem bel_ru {s : Bool} {z : Int} : ∀ {r l : List Int}, ord s l → bel s r (ri s l z).1 → bel s (ru s r z).1 l
  | _, [], _, _ => bel_nil
  | [], b :: l, _, h => by
    by_cases q : psh s z b
    · rw [ri_p q] at h; exact h.elim
    · rw [ri_n q] at h; exact h.elim
  | [a], b :: l, ho, h => by
    by_cases q : psh s z b
    · rw [ri_p q] at h
      exact ⟨q, h.2⟩
    · rw [ri_n q] at h
      exfalso
      have h2 : bel s [] (ri s l z).1 := h.2
      cases e : (ri s l z).1 with
      | nil => exact ri_ne e
      | cons c t => rw [e] at h2; exact h2
  | a :: c :: r, b :: l, ho, h => by
    have ho' := List.pairwise_cons.mp ho
    by_cases q : psh s z b
    · rw [ri_p q] at h
      obtain ⟨h1, h2⟩ := h
      by_cases q2 : psh s c z
      · rw [ru_p q2]
        exact ⟨psh_tr h1 q, bel_ru0 (fun x hx => psh_r q (ho'.1 x hx)) h2⟩
      · rw [ru_n q2]
        exact ⟨q, h2⟩
    · rw [ri_n q] at h
      obtain ⟨h1, h2⟩ := h
      have q2 : psh s c z := by
        have h2 : bel s (c :: r) (ri s l z).1 := h2
        cases l with
        | nil => exact h2.1
        | cons d l =>
          by_cases w : psh s z d
          · rw [ri_p w] at h2; exact h2.1
          · rw [ri_n w] at h2; exact psh_r h2.1 w
      rw [ru_p q2]
      exact ⟨h1, bel_ru ho'.2 h2⟩
/-- the end of the line n goes out -/
def gu (s : Bool) : List (List Int) → Nat → List (List Int) × Int
  | [], _ => ([], 0)
  | r :: t, 0 => (r.dropLast :: t, r.getD (r.length - 1) 0)
  | r :: t, n + 1 => ((ru s r (gu s t n).2).1 :: (gu s t n).1, (ru s r (gu s t n).2).2)
abbrev full (t : List (List Int)) : List (List Int) := t.filter fun r => decide (0 < r.length)
theorem full_ne {t : List (List Int)} (h : ∀ r ∈ t, r ≠ []) : full t = t := List.filter_eq_self.mpr fun r hr => decide_eq_true (List.length_pos_iff.mpr (h r hr))
theorem full_cons {r : List Int} {t : List (List Int)} (h : r ≠ []) : full (r :: t) = r :: full t := by
  unfold full
  rw [List.filter_cons, if_pos (decide_eq_true (List.length_pos_iff.mpr h))]
theorem gu_gi {s : Bool} : ∀ {t : List (List Int)} {x : Int}, IsS s t → (gu s (giO s t (some x)) (giN s t (some x))).2 = x ∧ full (gu s (giO s t (some x)) (giN s t (some x))).1 = t
  | [], x, _ => ⟨rfl, rfl⟩
  | r :: t, x, ⟨h1, h2, h3, h4⟩ => by
    have e1 : giO s (r :: t) (some x) = (ri s r x).1 :: giO s t (ri s r x).2 := rfl
    have e2 : giN s (r :: t) (some x) = match (ri s r x).2 with
      | none => 0
      | some y => giN s t (some y) + 1 := rfl
    rw [e1, e2]
    cases e : (ri s r x).2 with
    | none =>
      have e3 : (ri s r x).1 = r ++ [x] := by
        rw [ri_gp h2] at e ⊢
        split at e
        · rename_i c; rw [if_pos c]
        · cases e
      rw [giO_none, e3]
      show ((r ++ [x]).getD ((r ++ [x]).length - 1) 0 = x) ∧ full ((r ++ [x]).dropLast :: t) = r :: t
      rw [List.dropLast_concat, full_cons h1, full_ne h4.ne]
      refine ⟨?_, rfl⟩
      rw [gd_app, List.length_append, List.length_singleton, if_neg (by omega), if_pos (by omega)]
    | some y =>
      obtain ⟨i1, i2⟩ := gu_gi (x := y) h4
      have h := ru_ri h2 e
      show ((ru s (ri s r x).1 (gu s (giO s t (some y)) (giN s t (some y))).2).2 = x) ∧ full ((ru s (ri s r x).1 (gu s (giO s t (some y)) (giN s t (some y))).2).1 :: (gu s (giO s t (some y)) (giN s t (some y))).1) = r :: t
      rw [i1, h, full_cons h1, i2]
      exact ⟨rfl, rfl⟩
theorem gu_mem {s : Bool} : ∀ {t : List (List Int)} {n : Nat}, (∀ r ∈ t, r ≠ []) → n < t.length → (gu s t n).2 ∈ t.headD []
  | [], _, _, h => by simp at h
  | r :: t, 0, h, _ => by
    have hr := List.length_pos_iff.mpr (h r List.mem_cons_self)
    show r.getD (r.length - 1) 0 ∈ r
    rw [gd_of (by omega)]
    exact List.getElem_mem _
  | r :: t, n + 1, h, _ => ru_mem (h r List.mem_cons_self)
theorem bel_head {s : Bool} {r l : List Int} {z : Int} (hb : bel s r l) (ho : ord s l) (hz : z ∈ l) : ∀ a, r.head? = some a → psh s a z := by
  intro a ha
  cases r with
  | nil => cases ha
  | cons a' r =>
    cases ha
    cases l with
    | nil => cases hz
    | cons b l =>
      rcases List.mem_cons.mp hz with w | w
      · rw [w]; exact hb.1
      · exact psh_r hb.1 ((List.pairwise_cons.mp ho).1 z w)
theorem IsS.ord_head {s : Bool} {t : List (List Int)} (h : IsS s t) : ord s (t.headD []) := by
  cases t with
  | nil => exact List.Pairwise.nil
  | cons r t => exact h.2.1
theorem bel_drop {s : Bool} : ∀ {r l : List Int}, bel s r l → l.length < r.length → bel s r.dropLast l
  | _, [], _, _ => bel_nil
  | [], _ :: _, h, _ => h.elim
  | [a], b :: l, _, h => by simp at h
  | a :: c :: r, b :: l, ⟨h1, h2⟩, h => by
    rw [List.dropLast_cons_of_ne_nil (by simp)]
    exact ⟨h1, bel_drop h2 (by simpa using h)⟩
theorem gi_gu {s : Bool} : ∀ {t : List (List Int)} {n : Nat}, IsS s t → Corn t n → IsS s (full (gu s t n).1) ∧ giO s (full (gu s t n).1) (some (gu s t n).2) = t ∧ giN s (full (gu s t n).1) (some (gu s t n).2) = n
  | [], n, _, ⟨h, _⟩ => by simp at h
  | r :: t, 0, ⟨h1, h2, h3, h4⟩, ⟨_, hc⟩ => by
    have hr := List.length_pos_iff.mpr h1
    have hc : (t.getD 0 []).length < r.length := hc
    have e0 : t.getD 0 [] = t.headD [] := by cases t <;> rfl
    rw [e0] at hc
    show IsS s (full (r.dropLast :: t)) ∧ giO s (full (r.dropLast :: t)) (some (r.getD (r.length - 1) 0)) = r :: t ∧ giN s (full (r.dropLast :: t)) (some (r.getD (r.length - 1) 0)) = 0
    have er : r = r.dropLast ++ [r.getD (r.length - 1) 0] := by
      rw [gd_of (by omega), ← List.getLast_eq_getElem h1, List.dropLast_concat_getLast]
    by_cases c : r.dropLast = []
    · have ht : t = [] := by
        cases t with
        | nil => rfl
        | cons l t =>
          have := List.length_pos_iff.mpr h4.1
          have h5 : r.dropLast.length = 0 := by rw [c]; rfl
          rw [List.length_dropLast] at h5
          have hc : l.length < r.length := hc
          omega
      subst ht
      rw [c] at er
      have : full (r.dropLast :: []) = [] := by rw [c]; rfl
      rw [this]
      exact ⟨True.intro, congrArg (· :: []) er.symm, rfl⟩
    · rw [full_cons c, full_ne h4.ne]
      have e3 : ri s r.dropLast (r.getD (r.length - 1) 0) = (r, none) := by
        have ho : ord s (r.dropLast ++ [r.getD (r.length - 1) 0]) := er ▸ h2
        have ho := List.pairwise_append.mp ho
        conv => rhs; rw [er]
        have : ∀ {q : List Int} {z : Int}, (∀ a ∈ q, ¬ psh s z a) → ri s q z = (q ++ [z], none) := fun {q z} hq => by
          induction q with
          | nil => rfl
          | cons a q ih => rw [ri_n (hq a List.mem_cons_self), ih fun b hb => hq b (List.mem_cons_of_mem _ hb)]; rfl
        exact this fun a ha => ho.2.2 a ha _ (List.mem_singleton.mpr rfl)
      refine ⟨⟨c, (List.pairwise_append.mp (show ord s (r.dropLast ++ [r.getD (r.length - 1) 0]) from er ▸ h2)).1, bel_drop h3 hc, h4⟩, ?_, ?_⟩
      · show (ri s r.dropLast _).1 :: giO s t (ri s r.dropLast _).2 = _
        rw [e3, giO_none]
      · show (match (ri s r.dropLast (r.getD (r.length - 1) 0)).2 with
          | none => 0
          | some y => giN s t (some y) + 1) = 0
        rw [e3]
  | r :: t, n + 1, ⟨h1, h2, h3, h4⟩, ⟨hn, hc⟩ => by
    have hn' : n < t.length := by simpa using hn
    obtain ⟨i1, i2, i3⟩ := gi_gu (t := t) (n := n) h4 ⟨hn', hc⟩
    have hm := gu_mem (s := s) h4.ne hn'
    have hh := bel_head h3 h4.ord_head hm
    show IsS s (full ((ru s r (gu s t n).2).1 :: (gu s t n).1)) ∧ giO s (full ((ru s r (gu s t n).2).1 :: (gu s t n).1)) (some (ru s r (gu s t n).2).2) = r :: t ∧ giN s (full ((ru s r (gu s t n).2).1 :: (gu s t n).1)) (some (ru s r (gu s t n).2).2) = n + 1
    generalize (gu s t n).2 = z at *
    generalize (gu s t n).1 = q at *
    obtain ⟨o1, o2, _, _⟩ := ru_out h2 hh h1
    have hne : (ru s r z).1 ≠ [] := fun e => h1 (List.length_eq_zero_iff.mp (by rw [← ru_len (s := s) (z := z), e]; rfl))
    rw [full_cons hne]
    have hb : bel s r (ri s ((full q).headD []) z).1 := by
      have e : t.headD [] = (ri s ((full q).headD []) z).1 := by rw [← i2, gi_headD]; rfl
      rw [← e]; exact h3
    refine ⟨⟨hne, o2, bel_ru i1.ord_head hb, i1⟩, ?_, ?_⟩
    · show (ri s (ru s r z).1 (ru s r z).2).1 :: giO s (full q) (ri s (ru s r z).1 (ru s r z).2).2 = _
      rw [o1, i2]
    · show (match (ri s (ru s r z).1 (ru s r z).2).2 with
        | none => 0
        | some y => giN s (full q) (some y) + 1) = n + 1
      rw [o1]
      exact congrArg (· + 1) i3
/-! by index -/
def gq (s : Bool) (r : List Int) (z : Int) : Nat := if s = true then cless r z else insRow r z
theorem gq_le (s : Bool) (r : List Int) (x : Int) : gq s r x ≤ r.length := by
  unfold gq
  split
  · exact cless_le _ _
  · exact insRow_le _ _
theorem gq_cons {s : Bool} {a z : Int} {r : List Int} (h : ord s (a :: r)) : gq s (a :: r) z = if psh s a z then gq s r z + 1 else 0 := by
  have h' := List.pairwise_cons.mp h
  by_cases q : psh s a z
  · rw [if_pos q]
    cases s with
    | true =>
      have : a < z := by unfold psh at q; simpa using q
      show cless (a :: r) z = cless r z + 1
      unfold cless
      rw [List.filter_cons, if_pos (decide_eq_true this), List.length_cons]
    | false =>
      have : a ≤ z := by unfold psh at q; simpa using q
      show insRow (a :: r) z = insRow r z + 1
      unfold insRow
      rw [List.filter_cons, if_pos (decide_eq_true this), List.length_cons]
  · rw [if_neg q]
    have all : ∀ b ∈ a :: r, ¬ psh s b z := fun b hb => by
      rcases List.mem_cons.mp hb with w | w
      · rw [w]; exact q
      · exact fun v => q (psh_l (h'.1 b w) v)
    cases s with
    | true =>
      show cless (a :: r) z = 0
      unfold cless
      rw [List.length_eq_zero_iff, List.filter_eq_nil_iff]
      intro b hb
      have := all b hb
      unfold psh at this
      simpa using this
    | false =>
      show insRow (a :: r) z = 0
      unfold insRow
      rw [List.length_eq_zero_iff, List.filter_eq_nil_iff]
      intro b hb
      have := all b hb
      unfold psh at this
      simpa using this
theorem ru_gq {s : Bool} {z : Int} : ∀ {r : List Int}, ord s r → (∀ a, r.head? = some a → psh s a z) → r ≠ [] → 1 ≤ gq s r z ∧ ru s r z = (r.set (gq s r z - 1) z, r.getD (gq s r z - 1) 0)
  | [], _, _, h => absurd rfl h
  | [a], ho, h, _ => by
    have e0 : gq s [] z = 0 := by cases s <;> rfl
    rw [gq_cons ho, if_pos (h a rfl), e0]
    exact ⟨Nat.le_refl _, rfl⟩
  | a :: b :: r, ho, h, _ => by
    have ho' := List.pairwise_cons.mp ho
    rw [gq_cons ho, if_pos (h a rfl)]
    by_cases q : psh s b z
    · obtain ⟨i1, i2⟩ := ru_gq (r := b :: r) ho'.2 (fun c hc => by cases hc; exact q) (by simp)
      rw [ru_p q, i2]
      obtain ⟨k, hk⟩ : ∃ k, gq s (b :: r) z = k + 1 := ⟨gq s (b :: r) z - 1, by omega⟩
      rw [hk]
      exact ⟨by omega, rfl⟩
    · rw [ru_n q, gq_cons ho'.2, if_neg q]
      exact ⟨by omega, rfl⟩
def gRaw (s : Bool) : List (List Int) → Nat → List (List Int) × Int
  | [], _ => ([], 0)
  | r :: rs, 0 => (r.dropLast :: rs, r.getD (r.length - 1) 0)
  | r :: rs, n + 1 => (r.set (gq s r (gRaw s rs n).2 - 1) (gRaw s rs n).2 :: (gRaw s rs n).1, r.getD (gq s r (gRaw s rs n).2 - 1) 0)
theorem gRaw_len (s : Bool) : ∀ (fs : List (List Int)) (n : Nat), (gRaw s fs n).1.length = fs.length
  | [], _ => by cases ‹Nat› <;> rfl
  | r :: rs, 0 => rfl
  | r :: rs, n + 1 => by
    show (gRaw s rs n).1.length + 1 = rs.length + 1
    rw [gRaw_len s rs n]
theorem gRaw_gu {s : Bool} : ∀ {t : List (List Int)} {n : Nat}, IsS s t → n < t.length → gRaw s t n = gu s t n
  | [], _, _, h => by simp at h
  | r :: t, 0, _, _ => rfl
  | r :: t, n + 1, ⟨h1, h2, h3, h4⟩, hn => by
    have hn' : n < t.length := by simpa using hn
    have ih := gRaw_gu h4 hn'
    have hm := gu_mem (s := s) h4.ne hn'
    have hh := bel_head h3 h4.ord_head hm
    show (r.set (gq s r (gRaw s t n).2 - 1) (gRaw s t n).2 :: (gRaw s t n).1, r.getD (gq s r (gRaw s t n).2 - 1) 0) = ((ru s r (gu s t n).2).1 :: (gu s t n).1, (ru s r (gu s t n).2).2)
    rw [ih, (ru_gq h2 hh h1).2]
theorem gRaw_pos {s : Bool} {r : List Int} {rs : List (List Int)} {n : Nat} (h : IsS s (r :: rs)) (hn : n < rs.length) : 1 ≤ gq s r (gRaw s rs n).2 := by
  obtain ⟨h1, h2, h3, h4⟩ := h
  rw [gRaw_gu h4 hn]
  exact (ru_gq h2 (bel_head h3 h4.ord_head (gu_mem h4.ne hn)) h1).1
theorem S_drop {s : Bool} : ∀ {fs : List (List Int)} (i : Nat), IsS s fs → IsS s (fs.drop i)
  | _, 0, h => h
  | [], _ + 1, h => h
  | _ :: _, i + 1, ⟨_, _, _, h4⟩ => S_drop i h4
theorem S_ne {s : Bool} {fs : List (List Int)} {k : Nat} (h : IsS s fs) (hk : k < fs.length) : fs.getD k [] ≠ [] := h.ne _ (gdr_mem hk)
theorem bel_below {r l : List Int} : below l r → bel true r l := by
  induction l generalizing r with
  | nil => intro _; exact bel_nil
  | cons b l ih =>
    rintro ⟨h1, h2⟩
    cases r with
    | nil => simp at h1
    | cons a r =>
      refine ⟨?_, ih ⟨by simpa using h1, fun m hm => h2 (m + 1) (by simpa using hm)⟩⟩
      have := h2 0 (by simp)
      unfold psh
      simpa using this
theorem IsT.S : ∀ {fs : List (List Int)}, IsT fs → IsS true fs
  | [], _ => True.intro
  | r :: t, h => by
    have ho := h.ords r List.mem_cons_self
    obtain ⟨h1, _, h3, h4⟩ := h
    refine ⟨h1, ho, ?_, h4.S⟩
    cases t with
    | nil => exact bel_nil
    | cons l t => exact bel_below (h3 l rfl)
/-! corners of rows and of columns -/
theorem len_iff {a b : Nat} {p : Nat → Prop} (h : ∀ k, k < a ↔ p k) (g : ∀ k, k < b ↔ p k) : a = b := by
  have h1 := (h a).trans (g a).symm
  have h2 := (h b).trans (g b).symm
  omega
theorem rl_trans {fs : List (List Int)} {j : Nat} (h : Dec fs) : rl (trans fs) j = (colAt fs j).length := by
  by_cases q : j < (fs.headD []).length
  · show ((trans fs).getD j []).length = _
    rw [trans_at q]
  · show ((trans fs).getD j []).length = _
    rw [List.getD_eq_getElem?_getD, List.getElem?_eq_none (by rw [trans_len]; omega)]
    refine len_iff (p := fun _ => False) (fun k => by simp) fun k => ⟨fun z => ?_, fun z => z.elim⟩
    have := (colAt_at h).1.mp z
    have h2 : (fs.getD k []).length ≤ (fs.headD []).length := by
      cases fs with
      | nil => simp
      | cons a fs =>
        cases k with
        | zero => exact Nat.le_refl _
        | succ k =>
          have hk : k < fs.length := by simpa using this.1
          show (fs.getD k []).length ≤ a.length
          exact (List.pairwise_cons.mp h).1 _ (gdr_mem hk)
    exact q (by omega)
theorem lt_rl_trans {fs : List (List Int)} {j k : Nat} (h : Dec fs) : k < rl (trans fs) j ↔ k < fs.length ∧ j < rl fs k := by
  rw [rl_trans h]
  exact (colAt_at h).1
theorem rl_out {fs : List (List Int)} {k : Nat} (h : ¬ k < fs.length) : rl fs k = 0 := by
  show (fs.getD k []).length = 0
  rw [List.getD_eq_getElem?_getD, List.getElem?_eq_none (by omega)]
  rfl
theorem lt_rl_trans' {fs : List (List Int)} {j k : Nat} (h : Dec fs) : k < rl (trans fs) j ↔ j < rl fs k := by
  rw [lt_rl_trans h]
  exact ⟨fun z => z.2, fun z => ⟨by by_cases c : k < fs.length; exact c; rw [rl_out c] at z; omega, z⟩⟩
theorem corn_trans {fs : List (List Int)} {n : Nat} (h : Dec fs) (hc : Corn fs n) : Corn (trans fs) (rl fs n - 1) ∧ rl (trans fs) (rl fs n - 1) = n + 1 := by
  have hp := corn_pos hc
  have hlt : rl fs (n + 1) < rl fs n := hc.2
  have e1 := (lt_rl_trans' (j := rl fs n - 1) (k := n) h).mpr (by omega)
  have e2 : ¬ (n + 1 < rl (trans fs) (rl fs n - 1)) := fun z => by have := (lt_rl_trans' h).mp z; omega
  have e3 : ¬ (n < rl (trans fs) (rl fs n - 1 + 1)) := fun z => by have := (lt_rl_trans' h).mp z; omega
  have e4 : rl (trans fs) (rl fs n - 1 + 1) < rl (trans fs) (rl fs n - 1) := by omega
  refine ⟨⟨?_, e4⟩, by omega⟩
  by_cases c : rl fs n - 1 < (trans fs).length
  · exact c
  · rw [rl_out c] at e1; omega
theorem gtb_flat (s : Bool) : ∀ {w : List Int} {t : List (List Int)}, Ords s t → (gtb s t w).flatten.length = t.flatten.length + w.length
  | [], t, _ => rfl
  | x :: w, t, h => by
    show (gtb s (giO s t (some x)) w).flatten.length = _
    rw [gtb_flat s (gi_ords h), (gi_gI h).1, gI_flat, List.length_cons]
    omega
theorem ne_len : ∀ {t : List (List Int)}, (∀ r ∈ t, r ≠ []) → t.length ≤ t.flatten.length
  | [], _ => Nat.le_refl _
  | r :: t, h => by
    have := ne_len fun q hq => h q (List.mem_cons_of_mem _ hq)
    have := List.length_pos_iff.mpr (h r List.mem_cons_self)
    rw [List.flatten_cons, List.length_append, List.length_cons]
    omega
/-! ### comprehensions with two walks -/
section
variable {K : PySem.W.Frag}
def plain1 : Option OV → Bool
  | none => true
  | some (.da l _) => decide (l ≠ .di)
  | some (.fn _) => true
  | some (.sc _) => true
  | some .st => true
  | _ => false
/-- names that hold no list of the def's own -/
def plain : Env → Bool
  | [] => true
  | o :: e => plain1 o && plain e
theorem plain_own {F : Lv → Hp} {S : List Addr} {H : Hp} : ∀ {e : Env} {σ : L2.St} {B : List Addr}, plain e = true → OwnEnv K F S H e σ B → B = []
  | [], _, _, _, h => by cases h; rfl
  | o :: e, _, _, hp, h => by
    simp only [plain, Bool.and_eq_true] at hp
    cases h with
    | vac a => exact plain_own hp.2 a
    | has a b c =>
      rw [plain_own hp.2 b, List.append_nil]
      cases a <;> first | rfl | exact absurd hp.1 (by simp [plain1])
theorem plain_nd : ∀ {e : Env}, plain e = true → ND e
  | [], _ => fun o h => by cases h
  | o :: e, hp => fun q hq => by
    simp only [plain, Bool.and_eq_true] at hp
    rcases List.mem_cons.mp hq with z | z
    · subst z
      cases q with
      | da l d => have := hp.1; simpa [plain1, OV.nd] using this
      | ls xs => exact absurd hp.1 (by simp [plain1])
      | _ => rfl
    · exact plain_nd hp.2 q z
theorem fz_D {H0 H H' : Hp} {S0 A S : List Addr} {σ : L2.St} {env : Env} {D : Addr} (r : Rel K H0 S0 (D :: A) S σ H env) (s : StepD S D H H') {l : Lv} (hl : l ≠ .di) : Ex (fz H0 (D :: A) S H H l) (fz H0 (D :: A) S H' H' l) := ct_ex fun b o hb e => by
  have hlo : isLo (H D) = true := r.loA D List.mem_cons_self
  have nD : b ≠ D := fun z => by
    subst z
    cases l with
    | nw => simp [bad, e] at hb; rw [e] at hlo; rw [hlo] at hb; cases hb
    | di => exact hl rfl
    | _ => simp [bad] at hb
  have nS : b ∉ S := fun z => by
    cases l with
    | nw =>
      have := (r.str b z).lo
      simp [bad, e] at hb
      rw [e] at this
      rw [this] at hb; cases hb
    | _ => simp [bad, z] at hb
  have e2 := s.kp b o nS nD e
  refine ⟨?_, e2⟩
  cases l <;> simp only [bad, e, e2] at hb ⊢ <;> exact hb
theorem Rel.reD {H0 H H' : Hp} {S0 A S : List Addr} {σ : L2.St} {env : Env} {D : Addr} {ws : List V} (r : Rel K H0 S0 (D :: A) S σ H env) (hp : plain env = true) (s : StepD S D H H') (eD : H' D = some (.lst ws)) : Rel K H0 S0 (D :: A) S σ H' env := by
  refine ⟨?_, fun a ha => ?_, r.dis, fun a ha => s.st a ha (r.str a ha), fun b o nb e => ?_, r.sub, r.nA, r.nS⟩
  · obtain ⟨B, h1, h2⟩ := r.own
    have hB := plain_own hp h1
    subst hB
    exact ⟨[], h1.mono2 (fun l hl => fz_D r s hl) (fun _ h => h) (plain_nd hp) fun a ha => (List.not_mem_nil ha).elim, fun b hb => (List.not_mem_nil hb).elim⟩
  · by_cases q : a = D
    · rw [q, eD]; rfl
    · obtain ⟨xs, e⟩ := lo_some (r.loA a ha)
      rw [s.kp a _ (r.dis a ha) q e]
      rfl
  · have n0 := r.nA D List.mem_cons_self
    refine s.kp b o (fun z => ?_) (fun z => by rw [z, n0] at e; cases e) (r.ext b o nb e)
    rcases r.nS b z with w | w
    · exact nb w
    · rw [w] at e; cases e
theorem keep_relv {o : OV} {l : Lv} {d : PyData} (h : relv o = .da l d) : keep o = some (.da l d) := by
  cases o with
  | da l' d' =>
    cases l' <;> (simp only [relv, keep] at h ⊢; rw [h])
  | _ => cases h
/-- the items of two walks that are kept -/
def lcW2 (g : GX K) (t : TX K) (src1 : IX K) (g1 : GX K) (t1 : TX K) (e : EX K) (vs1 : List Nat) (env : Env) (X : Addr → Prop) : List OV → Lv → List PyData → (Lv → List PyData → Prop) → Prop
  | [], l, acc, k => k l acc
  | o :: os, l, acc, k => match keep o with
    | none => False
    | some o' => g.wp o' env fun env' => t.wp env' (fun b => if b = true then src1.wp env' (fun b1 os1 => b1 = true ∧ plain env' = true ∧ acc.length + os1.length ≤ 100000 ∧ lcW g1 t1 e (wipeE env' vs1) X os1 l acc fun l acc => lcW2 g t src1 g1 t1 e vs1 env X os l acc k) X else lcW2 g t src1 g1 t1 e vs1 env X os l acc k) X
theorem plain_set1 {env : Env} {i : Nat} (h : plain env = true) : plain (env.set i none) = true := by
  induction env generalizing i with
  | nil => rfl
  | cons o e ih =>
    simp only [plain, Bool.and_eq_true] at h
    cases i with
    | zero => simp only [List.set_cons_zero, plain, plain1, Bool.true_and]; exact h.2
    | succ i => simp only [List.set_cons_succ, plain, Bool.and_eq_true]; exact ⟨h.1, ih h.2⟩
theorem plain_wipe {env : Env} (h : plain env = true) : ∀ vs : List Nat, plain (wipeE env vs) = true
  | [] => h
  | v :: vs => plain_set1 (plain_wipe h vs)
def xLc2 (src : IX K) (g : GX K) (t : TX K) (src1 : IX K) (g1 : GX K) (t1 : TX K) (e : EX K) (ws vs1 : List Nat) (hw : ∀ i ∈ g.ix, i ∈ ws) (hw1 : ∀ i ∈ g1.ix, i ∈ vs1) : EX K where
  te := fun E => tLc2 (src.ti E) g.tg (t.tt E) (src1.ti E) g1.tg (t1.tt E) (e.te E) ws vs1
  wp := fun env R X => src.wp env (fun _ os => lcW2 g t src1 g1 t1 e vs1 (wipeE env ws) X os .nw [] fun l ds => R (nl l ds)) X
  ok := fun {E H0 S0 A S σ H env R X} r h hX Q q => src.ok r h hX _ fun J H2 b os hb s2 wk => fun D nD => by
    have c2 : At K H0 S0 A S σ env H H2 := ⟨r, s2⟩
    have nDS : D ∉ S := fun z => by
      obtain ⟨xs, e⟩ := lo_some (c2.rel.lo D (.inr z))
      rw [e] at nD; cases nD
    have st2 : ∀ {H'}, Step S H2 H' → ∀ {ys}, Step S H2 (upd H' D (.lst ys)) := fun s ys => ⟨fun b o nb e => by
      have : b ≠ D := fun z => by rw [z, nD] at e; cases e
      rw [upd_ne this]
      exact s.kp b o nb e, fun a ha h => by
      obtain ⟨x, y, z, e⟩ := s.st a ha h
      exact ⟨x, y, z, by rw [upd_ne (fun (w : a = D) => nDS (by rw [← w]; exact ha))]; exact e⟩⟩
    refine ⟨fun i m Hk => m = os.length - i ∧ i ≤ os.length ∧ Step S H2 Hk ∧ ∃ (vs : List V) (ds : List PyData) (l : Lv), Hk D = some (.lst vs) ∧ l ≠ .di ∧ DaAll (fzD D H0 A S H Hk l) vs ds ∧ lcW2 g t src1 g1 t1 e vs1 (wipeE env ws) X (os.drop i) l ds fun l ds => R (nl l ds),
      ⟨os.length, by simp, Nat.zero_le _, .ex (Ex.new nD), [], [], .nw, upd_same, by decide, .nil, hb⟩, ?_⟩
    rintro i m Hk ⟨rfl, hi, sk, vs, ds, l, eD, hl, hds, hw2⟩
    have ck : At K H0 S0 A S σ env H Hk := c2.go sk
    by_cases hlt : i < os.length
    · refine .inr ⟨wk.go i Hk hlt sk, fun H' => i + 1 ≤ os.length ∧ Step S H2 H' ∧ ∃ (vs : List V) (ds : List PyData) (l : Lv), H' D = some (.lst vs) ∧ l ≠ .di ∧ DaAll (fzD D H0 A S H H' l) vs ds ∧ lcW2 g t src1 g1 t1 e vs1 (wipeE env ws) X (os.drop (i + 1)) l ds fun l ds => R (nl l ds),
        fun H' h' => ⟨os.length - (i + 1), by omega, rfl, h'⟩, fun x H4 y => ?_⟩
      obtain ⟨ex4, o, eo, vo⟩ := wk.yld i Hk x H4 hlt sk y
      rw [List.drop_eq_getElem_cons hlt] at hw2
      have eo' : os[i] = o := by rw [List.getElem?_eq_getElem hlt] at eo; exact Option.some.inj eo
      rw [eo'] at hw2
      simp only [lcW2] at hw2
      cases ek : keep o with
      | none => rw [ek] at hw2; exact hw2.elim
      | some o' =>
        rw [ek] at hw2
        have eD4 := ex4 _ _ eD
        have s4 : Step S Hk H4 := .ex ex4
        have rD : Rel K H0 S0 (D :: A) S (L2.wipe σ ws) H4 (wipeE env ws) := (c2.rel.addD (sk.trans s4) nD eD4).wipe ws
        refine g.ok rD (vo D o' nD ⟨_, eD⟩ ek) hw2 _ fun σ2 env2 h2 r2 w2 => ⟨(w2 ws hw).trans (wipe_idem σ ws ws fun _ h => h), t.ok r2 h2 (fun C H5 hC s5 => hX C H5 hC (((s2.trans sk).trans s4).trans s5)) _ fun b5 H5 hb5 s5 => ?_⟩
        have eD5 : H5 D = some (.lst vs) := s5.kp _ _ nDS eD4
        cases b5 with
        | false =>
          refine iteF ⟨by omega, (sk.trans s4).trans s5, vs, ds, l, eD5, hl, hds.mono (fzD_step r.str ck.s ⟨fun b o nb _ e => (s4.trans s5).kp b o nb e, (s4.trans s5).st⟩ l), by simpa using hb5⟩
        | true =>
          have r5 := r2.step s5
          have s25 : Step S H2 H5 := (sk.trans s4).trans s5
          refine iteT (src1.ok r5 (by simpa using hb5) (fun C H6 hC s6 => hX C H6 hC ((s2.trans s25).trans s6)) _ fun J1 H6 b1 os1 hb6 s6 wk1 => ?_)
          obtain ⟨hb1, hpl, hsz, hin⟩ := hb6
          subst hb1
          have r6 := r5.step s6
          have eD6 : H6 D = some (.lst vs) := s6.kp _ _ nDS eD5
          have hds6 : DaAll (fzD D H0 A S H H6 l) vs ds := hds.mono (fzD_step r.str ck.s ⟨fun b o nb _ e => ((s4.trans s5).trans s6).kp b o nb e, ((s4.trans s5).trans s6).st⟩ l)
          refine ⟨fun j k Hj => k = os1.length - j ∧ j ≤ os1.length ∧ Step S H2 Hj ∧ StepD S D H6 Hj ∧ ∃ (us : List V) (es : List PyData) (l1 : Lv), Hj D = some (.lst us) ∧ es.length ≤ ds.length + j ∧ l1 ≠ .di ∧ DaAll (fzD D H0 A S H Hj l1) us es ∧ lcW g1 t1 e (wipeE env2 vs1) X (os1.drop j) l1 es fun l acc => lcW2 g t src1 g1 t1 e vs1 (wipeE env ws) X (os.drop (i + 1)) l acc fun l ds => R (nl l ds),
            ⟨os1.length, by simp, Nat.zero_le _, s25.trans s6, ⟨fun b o _ _ e => e, fun a _ h => h⟩, vs, ds, l, eD6, by omega, hl, hds6, hin⟩, ?_⟩
          rintro j k Hj ⟨rfl, hj, sj, sD, us, es, l1, eDj, hej, hl1, hes, hwj⟩
          have fm : Fm H0 (D :: A) S H6 (D :: A) S Hj := fun l' hl' => fz_D r6 sD (by rcases hl' with rfl | rfl <;> decide)
          have cj : At K H0 S0 A S σ env H Hj := c2.go sj
          have rj : Rel K H0 S0 (D :: A) S σ2 Hj env2 := r6.reD hpl sD eDj
          have hno : ∀ p, Hj p = none → p ∉ D :: A ∧ p ∉ S ∧ H0 p = none := fun p hp => by
            refine ⟨fun z => ?_, fun z => ?_, ?_⟩
            · obtain ⟨xs, e⟩ := lo_some (rj.loA p z)
              rw [hp] at e
              cases e
            · obtain ⟨xs, e⟩ := lo_some (rj.lo p (.inr z))
              rw [hp] at e
              cases e
            · cases q : H0 p with
              | none => rfl
              | some u =>
                have := rj.dom (b := p) (by rw [q]; rfl)
                rw [hp] at this
                cases this
          by_cases hltj : j < os1.length
          · refine .inr ⟨wk1.goF rfl _ _ Hj j fm hltj, fun H' => j + 1 ≤ os1.length ∧ Step S H2 H' ∧ StepD S D H6 H' ∧ ∃ (us : List V) (es : List PyData) (l1 : Lv), H' D = some (.lst us) ∧ es.length ≤ ds.length + (j + 1) ∧ l1 ≠ .di ∧ DaAll (fzD D H0 A S H H' l1) us es ∧ lcW g1 t1 e (wipeE env2 vs1) X (os1.drop (j + 1)) l1 es fun l acc => lcW2 g t src1 g1 t1 e vs1 (wipeE env ws) X (os.drop (i + 1)) l acc fun l ds => R (nl l ds),
              fun H' h' => ⟨os1.length - (j + 1), by omega, rfl, h'⟩, fun x1 H7 y1 => ?_⟩
            obtain ⟨ex7, l9, d9, eo9, _, dd9⟩ := wk1.yldF rfl _ _ Hj j x1 H7 fm hno hltj y1
            rw [List.drop_eq_getElem_cons hltj] at hwj
            rw [List.getElem?_eq_getElem hltj, Option.map_some] at eo9
            have ek9 := keep_relv (Option.some.inj eo9)
            simp only [lcW] at hwj
            rw [ek9] at hwj
            have eD7 := ex7 _ _ eDj
            have s7 : Step S Hj H7 := .ex ex7
            have sD7 : StepD S D H6 H7 := ⟨fun b o nb nD e => s7.kp b o nb (sD.kp b o nb nD e), fun a ha h => s7.st a ha (sD.st a ha h)⟩
            have r7 : Rel K H0 S0 (D :: A) S (L2.wipe σ2 vs1) H7 (wipeE env2 vs1) := (rj.step s7).wipe vs1
            refine g1.ok r7 (.da dd9) hwj _ fun σ3 env3 h3 r3 w3 => ⟨(w3 vs1 hw1).trans (wipe_idem σ2 vs1 vs1 fun _ h => h), t1.ok r3 h3 (fun C H8 hC s8 => hX C H8 hC (((s2.trans sj).trans s7).trans s8)) _ fun b8 H8 hb8 s8 => ?_⟩
            have eD8 : H8 D = some (.lst us) := s8.kp _ _ nDS eD7
            cases b8 with
            | false =>
              have s78 := s7.trans s8
              refine iteF ⟨by omega, sj.trans s78, ⟨fun b o nb nD e => s78.kp b o nb (sD.kp b o nb nD e), fun a ha h => s78.st a ha (sD.st a ha h)⟩, us, es, l1, eD8, by omega, hl1, hes.mono (fzD_step r.str cj.s ⟨fun b o nb _ e => s78.kp b o nb e, s78.st⟩ l1), by simpa using hb8⟩
            | true =>
              refine iteT (e.ok (r3.step s8) (by simpa using hb8) (fun C H9 hC s9 => hX C H9 hC ((((s2.trans sj).trans s7).trans s8).trans s9)) _ fun v9 H9 ro hR s9 vr => ?_)
              have s79 := (s7.trans s8).trans s9
              have eD9 : H9 D = some (.lst us) := s9.kp _ _ nDS eD8
              have c9 : At K H0 S0 A S σ env H H9 := cj.go s79
              obtain ⟨m9, d8, ⟨hm9, hw9⟩, Dy⟩ := vr.rd ⟨r3.step s8, s9⟩ hR
              have sz9 : Step S H2 H9 := sj.trans s79
              have c10 : At K H0 S0 A S σ env H (upd H9 D (.lst (us ++ [v9]))) := ⟨r, s2.trans (st2 sz9)⟩
              have sDD : StepD S D H9 (upd H9 D (.lst (us ++ [v9]))) := ⟨fun b o nb nD e => by rw [upd_ne nD]; exact e, fun a ha ⟨x, y, z, e⟩ => ⟨x, y, z, by rw [upd_ne (fun (w : a = D) => nDS (by rw [← w]; exact ha))]; exact e⟩⟩
              have dy : Da (fzD D H0 A S H (upd H9 D (.lst (us ++ [v9]))) (nrm m9 d8)) v9 d8 := (Dy.nrm.mono (fz_toD (H1 := H) (fun b hb => step_dom r3.str s8 (step_dom (cj.rel.str) s7 (cj.dom hb))) (by rw [eD8]; rfl) (by rw [eD9]; rfl) hm9)).mono (fzD_step r.str c9.s sDD _)
              have da : DaAll (fzD D H0 A S H (upd H9 D (.lst (us ++ [v9]))) l1) us es := (hes.mono (fzD_step r.str cj.s ⟨fun b o nb _ e => s79.kp b o nb e, s79.st⟩ l1)).mono (fzD_step r.str c9.s sDD l1)
              have hlen := hes.len
              refine ⟨us, eD9, szl (by omega), by omega, st2 sz9, ⟨fun b o nb nD e => ?_, fun a ha h => ?_⟩, us ++ [v9], es ++ [d8], l1.sup (nrm m9 d8), upd_same, by rw [List.length_append, List.length_singleton]; omega, sup_ne hl1 hm9, (da.mono (fzD_up c10 (sup_l _ _))).snoc (dy.mono (fzD_up c10 (sup_r _ _))), hw9⟩
              · rw [upd_ne nD]; exact s79.kp b o nb (sD.kp b o nb nD e)
              · exact sDD.st a ha (s79.st a ha (sD.st a ha h))
          · have ej : j = os1.length := by omega
            subst ej
            rw [List.drop_length] at hwj
            exact .inl ⟨wk1.stopF rfl _ _ Hj fm, by omega, sj, us, es, l1, eDj, hl1, hes, hwj⟩
    · have e : i = os.length := by omega
      subst e
      rw [List.drop_length] at hw2
      refine .inl ⟨wk.stop Hk sk, q _ _ (nl l ds) hw2 ck.s (.da (.lst (fz_newD c2 nD eD _) ?_))⟩
      have h2 : DaAll (fz H0 A S H Hk l) vs ds := hds.mono ct_le
      by_cases i : immAll ds = true
      · rw [if_pos i]
        refine DaAll.imm (fun b hb => ?_) i (h2.mono fz_le)
        simp only [bad, Bool.and_eq_true] at hb
        exact .inl hb.2
      · rw [if_neg i]
        exact h2
theorem w_lc2 (src : IX K) (g : GX K) (t : TX K) (src1 : IX K) (g1 : GX K) (t1 : TX K) (e : EX K) (ws vs1 : List Nat) (hw : ∀ i ∈ g.ix, i ∈ ws) (hw1 : ∀ i ∈ g1.ix, i ∈ vs1) (env : Env) (R : OV → Prop) (X : Addr → Prop) : (xLc2 src g t src1 g1 t1 e ws vs1 hw hw1).wp env R X = src.wp env (fun _ os => lcW2 g t src1 g1 t1 e vs1 (wipeE env ws) X os .nw [] fun l ds => R (nl l ds)) X := (rfl)
end
/-! ### more expressions, more that changes lists -/
section
variable {K : PySem.W.Frag}
/-- a < b < c -/
def xChain (o1 o2 : OPX K) (a b c : EX K) : EX K where
  te := fun E => tChain o1.r o2.r (a.te E) (b.te E) (c.te E)
  wp := fun env R X => a.wp env (fun o => b.wp env (fun p => o1.f o p fun z => asB z fun k => if k = true then c.wp env (fun w => o2.f p w R) X else R (.da .nw (.bool false))) X) X
  ok := fun {E H0 S0 A S σ H env R X} r h hX Q q => a.ok r h hX _ fun x H2 o hb s2 ho => b.ok (r.step s2) hb (fun C H3 hC s => hX C H3 hC (s2.trans s)) _ fun y H3 p hf s3 hp => by
    have c3 : At K H0 S0 A S σ env H H3 := ⟨r, s2.trans s3⟩
    refine o1.ok c3 (ho.step ⟨r, s2⟩ s3) (hp.back ⟨r, s2⟩ s3) hf _ fun v H4 z hz s4 hv => ?_
    have c4 : At K H0 S0 A S σ env H H4 := c3.go s4
    obtain ⟨l, d, h1, D1⟩ := hv.rd c4 hz
    cases D1 <;> first | exact h1.elim | skip
    rename_i k
    refine ⟨k, rfl, ?_⟩
    cases k with
    | false => exact iteF (q _ H4 _ (by simpa using h1) c4.s (.da (.bl _)))
    | true =>
      refine iteT (c.ok c4.rel (by simpa using h1) (fun C H5 hC s => hX C H5 hC (c4.s.trans s)) _ fun w H5 ow hw s5 how => ?_)
      exact o2.ok (c4.go s5) (((hp.back ⟨r, s2⟩ s3).step c3 s4).step c4 s5) (how.back c4 s5) hw Q fun v6 H6 z6 hz6 s6 hv6 => q v6 H6 z6 hz6 ((c4.go s5).s.trans s6) hv6
theorem w_chain (o1 o2 : OPX K) (a b c : EX K) (env : Env) (R : OV → Prop) (X : Addr → Prop) : (xChain o1 o2 a b c).wp env R X = a.wp env (fun o => b.wp env (fun p => o1.f o p fun z => asB z fun k => if k = true then c.wp env (fun w => o2.f p w R) X else R (.da .nw (.bool false))) X) X := (rfl)
theorem OwnAll.eraseI {F : Lv → Hp} {S : List Addr} {H : Hp} : ∀ {xs : List OV} {vs : List V} {B : List Addr} (k : Nat), OwnAll K F S H xs vs B → ∃ B', OwnAll K F S H (xs.eraseIdx k) (vs.eraseIdx k) B' ∧ ∀ b ∈ B', b ∈ B
  | _, _, _, _, .nil => ⟨[], .nil, fun b h => h⟩
  | _, _, _, 0, .cons a b c => ⟨_, b, fun b hb => List.mem_append_right _ hb⟩
  | _, _, _, k + 1, .cons a b c => by
    obtain ⟨B', h1, h2⟩ := OwnAll.eraseI k b
    refine ⟨_, .cons a h1 fun z hz w => c z hz (h2 z w), fun z hz => ?_⟩
    rcases List.mem_append.mp hz with w | w
    · exact List.mem_append_left _ w
    · exact List.mem_append_right _ (h2 z w)
theorem OwnAll.apps {F : Lv → Hp} {S : List Addr} {H : Hp} : ∀ {ys : List OV} {us : List V} {xs : List OV} {vs : List V} {B C : List Addr}, C = [] → OwnAll K F S H ys us C → OwnAll K F S H xs vs B → ∃ B', OwnAll K F S H (xs ++ ys) (vs ++ us) B' ∧ ∀ b ∈ B', b ∈ B
  | [], us, xs, vs, B, C, _, g, h => by
    cases g
    exact ⟨B, by rw [List.append_nil, List.append_nil]; exact h, fun b h => h⟩
  | y :: ys, us, xs, vs, B, C, e, g, h => by
    cases g with
    | @cons _ u A1 _ us A2 a b c =>
      obtain ⟨e1, e2⟩ := List.append_eq_nil_iff.mp e
      subst e1
      obtain ⟨B1, h1, h2⟩ := OwnAll.app h a fun z _ w => (List.not_mem_nil w).elim
      obtain ⟨B2, h3, h4⟩ := OwnAll.apps e2 b h1
      refine ⟨B2, ?_, fun z hz => (h2 z (h4 z hz)).elim id fun w => (List.not_mem_nil w).elim⟩
      have ex : xs ++ y :: ys = (xs ++ [y]) ++ ys := by simp
      have ev : vs ++ u :: us = (vs ++ [u]) ++ us := by simp
      rw [ex, ev]
      exact h3
theorem own_imms {F : Lv → Hp} {S : List Addr} {H H' : Hp} (hF : ∀ v d, imm d = true → Da H v d → Da (F .nw) v d) : ∀ {ds : List PyData} {vs : List V}, immAll ds = true → DaAll H vs ds → OwnAll K F S H' (ds.map fun d => .da .nw d) vs []
  | _, _, _, .nil => .nil
  | _, _, i, .cons a b => by
    simp only [immAll, Bool.and_eq_true] at i
    exact (OwnAll.cons (Own.da (hF _ _ i.1 a)) (own_imms hF i.2 b) fun z hz => (List.not_mem_nil hz).elim : OwnAll K F S H' _ _ ([] ++ []))
theorem nds_imms (ds : List PyData) : OV.nds (ds.map fun d => OV.da .nw d) = true := by
  induction ds with
  | nil => rfl
  | cons d ds ih =>
    simp only [List.map_cons, OV.nds, Bool.and_eq_true]
    exact ⟨rfl, ih⟩
theorem nds_apps : ∀ {xs ys : List OV}, OV.nds xs = true → OV.nds ys = true → OV.nds (xs ++ ys) = true
  | [], ys, _, h => h
  | x :: xs, ys, h, g => by
    simp only [OV.nds, Bool.and_eq_true, List.cons_append] at h ⊢
    exact ⟨h.1, nds_apps h.2 g⟩
theorem nds_erase : ∀ {xs : List OV} {k : Nat}, OV.nds xs = true → OV.nds (xs.eraseIdx k) = true
  | [], _, _ => rfl
  | x :: xs, 0, h => by
    simp only [OV.nds, Bool.and_eq_true] at h
    exact h.2
  | x :: xs, k + 1, h => by
    simp only [OV.nds, Bool.and_eq_true, List.eraseIdx_cons_succ] at h ⊢
    exact ⟨h.1, nds_erase h.2⟩
/-- x.extend(e), e a list of what never changes -/
def sExtend (i : Nat) (e : EX K) : SX K where
  ts := fun E => tDrop (tBM K "list" rExtend (tVar i) (tCons (e.te E) tNil))
  wp := fun env P => onLs env i fun xs => e.wp env (fun o => rd o fun _ d => match d with
    | .list ds => immAll ds = true ∧ xs.length + ds.length ≤ 100000 ∧ P.nx (env.set i (some (.ls (xs ++ ds.map fun d => .da .nw d))))
    | _ => False) P.xc
  ok := fun {E H0 S0 A S σ H env P D} r n h c => by
    obtain ⟨xs, he, h⟩ := onLs_of h
    obtain ⟨a, vs, Bx, h1, h2, _⟩ := Rel.mut1 r.at' n he
    refine ⟨.ref a, h1, .inl ⟨rfl, _, SqL.of h2⟩, e.ok r h (c.ex r) _ fun v H2 o ho s2 vr => ?_⟩
    have c2 : At K H0 S0 A S σ env H H2 := ⟨r, s2⟩
    obtain ⟨l, d, ho, D1⟩ := vr.rd c2 ho
    cases D1 <;> first | exact ho.elim | skip
    rename_i p zs ds e1 k1
    obtain ⟨hi, hz, hk⟩ := ho
    obtain ⟨a', vs', Bx', h1', h2', hl, _, hA, _, hm⟩ := Rel.mut1 c2 n he
    rw [h1] at h1'
    cases h1'
    obtain ⟨m1, m2, m3⟩ := hm (vs' ++ zs)
    have hlo : isLo (H2 a) = true := by rw [h2']; rfl
    have hS : ∀ s ∈ S, isLo (H2 s) = true := fun s hs => (c2.rel.str s hs).lo
    have k2 : DaAll H2 zs ds := k1.mono fz_le
    have oi := own_imms (K := K) (F := fz H0 A S (upd H2 a (.lst (vs' ++ zs))) (upd H2 a (.lst (vs' ++ zs)))) (S := S) (H' := upd H2 a (.lst (vs' ++ zs))) (fun v d i h => (Da.imm (p := bad H0 A S H2 H2 .nw) (fun b hb => by simp only [bad, Bool.and_eq_true] at hb; exact .inl hb.2) i h).mono (fz_mut hS hA hlo (by decide))) hi k2
    obtain ⟨B2, b1, b2⟩ := OwnAll.apps rfl oi m1
    obtain ⟨r3, f3⟩ := m3 _ B2 b1 b2
    have hlen := k2.len
    exact ⟨a, p, vs', zs, rfl, rfl, h2', fz_le _ _ e1, sz (by omega), c.nx A S σ _ _ r3 (n.setls (nds_apps (by have := n.at' he; simpa [OV.nd] using this) (nds_imms ds))) f3 hk⟩
theorem w_extend (i : Nat) (e : EX K) (env : Env) (P : Post) : (sExtend i e).wp env P = onLs env i fun xs => e.wp env (fun o => rd o fun _ d => match d with
    | .list ds => immAll ds = true ∧ xs.length + ds.length ≤ 100000 ∧ P.nx (env.set i (some (.ls (xs ++ ds.map fun d => .da .nw d))))
    | _ => False) P.xc := (rfl)
theorem eraseLast {α : Type} (xs : List α) : xs.eraseIdx (xs.length - 1) = xs.dropLast := by
  induction xs with
  | nil => rfl
  | cons a xs ih =>
    cases xs with
    | nil => rfl
    | cons b xs =>
      show (a :: b :: xs).eraseIdx (xs.length + 1) = _
      rw [List.eraseIdx_cons_succ]
      exact congrArg _ ih
theorem eraseLast' {α β : Type} {xs : List α} {ys : List β} (h : xs.length = ys.length) : xs.eraseIdx (ys.length - 1) = xs.dropLast := by rw [← h]; exact eraseLast xs
/-- x.pop() -/
def sPopE (i : Nat) : SX K where
  ts := fun _ => tDrop (tBM0 K "list" rPop (tVar i))
  wp := fun env P => onLs env i fun xs => 0 < xs.length ∧ P.nx (env.set i (some (.ls xs.dropLast)))
  ok := fun {E H0 S0 A S σ H env P D} r n h c => by
    obtain ⟨xs, he, h0, h⟩ := onLs_of h
    obtain ⟨a, vs, Bx, h1, h2, hl, _, hA, _, hm⟩ := Rel.mut1 r.at' n he
    obtain ⟨m1, m2, m3⟩ := hm vs.dropLast
    obtain ⟨B2, b1, b2⟩ := OwnAll.eraseI (xs.length - 1) m1
    rw [eraseLast, eraseLast' hl] at b1
    obtain ⟨r3, f3⟩ := m3 _ B2 b1 b2
    obtain ⟨y, hy⟩ := at_some (xs := vs) (i := vs.length - 1) (by omega)
    refine ⟨.ref a, h1, .inl ⟨rfl, _, SqL.of h2⟩, a, vs, y, rfl, rfl, h2, hy, c.nx A S σ _ _ r3 (n.setls ?_) f3 h⟩
    have := nds_erase (k := xs.length - 1) (by have := n.at' he; simpa [OV.nd] using this : OV.nds xs = true)
    rwa [eraseLast] at this
theorem w_popE (i : Nat) (env : Env) (P : Post) : (sPopE (K := K) i).wp env P = onLs env i fun xs => 0 < xs.length ∧ P.nx (env.set i (some (.ls xs.dropLast))) := (rfl)
end
section
variable {K : PySem.W.Frag}
theorem lcW_fmA {α : Type} {g : GX K} {t : TX K} {e : EX K} {env : Env} {X : Addr → Prop} {k : Lv → List PyData → Prop} (it : α → OV) (p : α → Bool) (f : α → PyData) : ∀ (xs : List α) (acc : List PyData),
    (∀ x ∈ xs, ∀ (N1 : Lv → PyData → Prop) (N2 : Prop), (p x = true → N1 .nw (f x)) → (p x = false → N2) → turnW g t e env X (it x) N1 N2) → k .nw (acc ++ (xs.filter p).map f) → lcW g t e env X (xs.map it) .nw acc k
  | [], acc, _, hk => by
    rw [List.filter_nil, List.map_nil, List.append_nil] at hk
    exact hk
  | x :: xs, acc, hs, hk => by
    have ih := fun acc' => lcW_fmA (g := g) (t := t) (e := e) (env := env) (X := X) (k := k) it p f xs acc' fun y hy => hs y (List.mem_cons_of_mem _ hy)
    show turnW g t e env X (it x) (fun m d => lcW g t e env X (xs.map it) (Lv.nw.sup m) (acc ++ [d]) k) (lcW g t e env X (xs.map it) .nw acc k)
    refine hs x List.mem_cons_self _ _ (fun hp => ?_) fun hp => ?_
    · refine ih _ ?_
      rw [List.filter_cons, if_pos hp] at hk
      rw [List.append_assoc]
      exact hk
    · refine ih _ ?_
      rw [List.filter_cons, if_neg (by rw [hp]; exact Bool.false_ne_true)] at hk
      exact hk
/-- one turn of the outer walk -/
def turnW2 (g : GX K) (t : TX K) (src1 : IX K) (g1 : GX K) (t1 : TX K) (e : EX K) (vs1 : List Nat) (env : Env) (X : Addr → Prop) (o : OV) (acc : List PyData) (Kc : Lv → List PyData → Prop) : Prop := match keep o with
    | none => False
    | some o' => g.wp o' env fun env' => t.wp env' (fun b => if b = true then src1.wp env' (fun b1 os1 => b1 = true ∧ plain env' = true ∧ acc.length + os1.length ≤ 100000 ∧ lcW g1 t1 e (wipeE env' vs1) X os1 .nw acc Kc) X else Kc .nw acc) X
theorem turn2_eq {g : GX K} {t : TX K} {src1 : IX K} {g1 : GX K} {t1 : TX K} {e : EX K} {vs1 : List Nat} {env : Env} {X : Addr → Prop} {o : OV} {acc : List PyData} {Kc : Lv → List PyData → Prop} : turnW2 g t src1 g1 t1 e vs1 env X o acc Kc = match keep o with
    | none => False
    | some o' => g.wp o' env fun env' => t.wp env' (fun b => if b = true then src1.wp env' (fun b1 os1 => b1 = true ∧ plain env' = true ∧ acc.length + os1.length ≤ 100000 ∧ lcW g1 t1 e (wipeE env' vs1) X os1 .nw acc Kc) X else Kc .nw acc) X := (rfl)
theorem lcW2_fmA {α : Type} {g : GX K} {t : TX K} {src1 : IX K} {g1 : GX K} {t1 : TX K} {e : EX K} {vs1 : List Nat} {env : Env} {X : Addr → Prop} {k : Lv → List PyData → Prop} (it : α → OV) (G : α → List PyData) (M : Nat) : ∀ (xs : List α) (acc : List PyData),
    (∀ x ∈ xs, ∀ (acc : List PyData) (Kc : Lv → List PyData → Prop), acc.length ≤ M → Kc .nw (acc ++ G x) → turnW2 g t src1 g1 t1 e vs1 env X (it x) acc Kc) → acc.length + (xs.flatMap G).length ≤ M → k .nw (acc ++ xs.flatMap G) → lcW2 g t src1 g1 t1 e vs1 env X (xs.map it) .nw acc k
  | [], acc, _, _, hk => by
    rw [List.flatMap_nil, List.append_nil] at hk
    exact hk
  | x :: xs, acc, hs, hM, hk => by
    rw [List.flatMap_cons, List.length_append] at hM
    show turnW2 g t src1 g1 t1 e vs1 env X (it x) acc fun l acc => lcW2 g t src1 g1 t1 e vs1 env X (xs.map it) l acc k
    refine hs x List.mem_cons_self acc _ (by omega) ?_
    refine lcW2_fmA it G M xs _ (fun y hy => hs y (List.mem_cons_of_mem _ hy)) (by rw [List.length_append]; omega) ?_
    rw [List.append_assoc, ← List.flatMap_cons]
    exact hk
theorem lcW2_fm {α : Type} {g : GX K} {t : TX K} {src1 : IX K} {g1 : GX K} {t1 : TX K} {e : EX K} {vs1 : List Nat} {env : Env} {X : Addr → Prop} {k : Lv → List PyData → Prop} (xs : List α) (it : α → OV) (G : α → List PyData) (M : Nat)
    (hs : ∀ x ∈ xs, ∀ (acc : List PyData) (Kc : Lv → List PyData → Prop), acc.length ≤ M → Kc .nw (acc ++ G x) → turnW2 g t src1 g1 t1 e vs1 env X (it x) acc Kc) (hM : (xs.flatMap G).length ≤ M) (hk : k .nw (xs.flatMap G)) : lcW2 g t src1 g1 t1 e vs1 env X (xs.map it) .nw [] k :=
  lcW2_fmA it G M xs [] hs (by simpa using hM) (by simpa using hk)
theorem hwIn (j : Nat) (ws : List Nat) (h : j ∈ ws) : ∀ i ∈ (gN (K := K) j).ix, i ∈ ws := fun i hi => by
  have := hw1 (K := K) j i hi
  rw [List.mem_singleton] at this
  rw [this]
  exact h
end
theorem asE {X : Cx} {s : Stmt} {t u : TS} (h : PS X s u) (e : t = u) : PS X s t := e ▸ h
/-! ### moves -/
abbrev Mv := Int × Str
def gi (w : List Int) (i : Int) : Int := w.getD i.toNat 0
def alw (w : List Int) (m : Mv) : Bool :=
  decide (0 ≤ m.1) && decide (m.1 + 3 ≤ (w.length : Int)) && (if m.2 = ("left" : Str) then decide (min (gi w m.1) (gi w (m.1 + 1)) ≤ gi w (m.1 + 2)) && decide (gi w (m.1 + 2) < max (gi w m.1) (gi w (m.1 + 1)))
    else if m.2 = ("right" : Str) then decide (min (gi w (m.1 + 1)) (gi w (m.1 + 2)) < gi w m.1) && decide (gi w m.1 ≤ max (gi w (m.1 + 1)) (gi w (m.1 + 2))) else false)
def plc (m : Mv) : Nat := if m.2 = ("left" : Str) then m.1.toNat else m.1.toNat + 1
def mvd (w : List Int) (m : Mv) : List Int := (w.set (plc m) (w.getD (plc m + 1) 0)).set (plc m + 1) (w.getD (plc m) 0)
def wlk : List Int → List Mv → Option (List Int)
  | w, [] => some w
  | w, m :: ms => if alw w m = true then wlk (mvd w m) ms else none
theorem wlk_cons (w : List Int) (m : Mv) (ms : List Mv) : wlk w (m :: ms) = if alw w m = true then wlk (mvd w m) ms else none := rfl
theorem wlk_app : ∀ {a : List Mv} {w w' : List Int} {b : List Mv}, wlk w a = some w' → wlk w (a ++ b) = wlk w' b
  | [], w, w', b, h => by cases h; rfl
  | m :: a, w, w', b, h => by
    rw [wlk_cons] at h
    show wlk w (m :: (a ++ b)) = _
    rw [wlk_cons]
    by_cases c : alw w m = true
    · rw [if_pos c] at h ⊢
      exact wlk_app h
    · rw [if_neg c] at h; cases h
theorem wlk_none : ∀ {a : List Mv} {w : List Int} {b : List Mv}, wlk w a = none → wlk w (a ++ b) = none
  | [], w, b, h => by cases h
  | m :: a, w, b, h => by
    rw [wlk_cons] at h
    show wlk w (m :: (a ++ b)) = _
    rw [wlk_cons]
    by_cases c : alw w m = true
    · rw [if_pos c] at h ⊢
      exact wlk_none h
    · rw [if_neg c]
theorem wlk_pre {a b : List Mv} {w w' : List Int} (h : wlk w (a ++ b) = some w') : ∃ u, wlk w a = some u ∧ wlk u b = some w' := by
  cases e : wlk w a with
  | none => rw [wlk_none e] at h; cases h
  | some u => exact ⟨u, rfl, by rw [← wlk_app e]; exact h⟩
theorem mvd_len (w : List Int) (m : Mv) : (mvd w m).length = w.length := by unfold mvd; rw [List.length_set, List.length_set]
theorem wlk_len : ∀ {a : List Mv} {w w' : List Int}, wlk w a = some w' → w'.length = w.length
  | [], w, w', h => by cases h; rfl
  | m :: a, w, w', h => by
    unfold wlk at h
    by_cases c : alw w m = true
    · rw [if_pos c] at h
      rw [wlk_len h, mvd_len]
    · rw [if_neg c] at h; cases h
theorem gi3 (p s : List Int) (a b c : Int) : gi (p ++ [a, b, c] ++ s) p.length = a ∧ gi (p ++ [a, b, c] ++ s) ((p.length : Int) + 1) = b ∧ gi (p ++ [a, b, c] ++ s) ((p.length : Int) + 2) = c := by
  unfold gi
  have e1 : ((p.length : Int) + 1).toNat = p.length + 1 := by omega
  have e2 : ((p.length : Int) + 2).toNat = p.length + 2 := by omega
  rw [e1, e2, Int.toNat_natCast]
  refine ⟨?_, ?_, ?_⟩ <;> rw [List.getD_eq_getElem?_getD, List.append_assoc, List.getElem?_append_right (by omega)]
  · rw [Nat.sub_self]; rfl
  · rw [Nat.add_sub_cancel_left]; rfl
  · rw [Nat.add_sub_cancel_left]; rfl
theorem set_mid (p s : List Int) (a x : Int) : (p ++ a :: s).set p.length x = p ++ x :: s := by
  rw [List.set_append_right _ _ (Nat.le_refl _), Nat.sub_self]
  rfl
theorem getD_mid (p s : List Int) (a : Int) : (p ++ a :: s).getD p.length 0 = a := by
  rw [List.getD_eq_getElem?_getD, List.getElem?_append_right (Nat.le_refl _), Nat.sub_self]
  rfl
theorem swap_mid (p s : List Int) (a b : Int) : ((p ++ a :: b :: s).set p.length ((p ++ a :: b :: s).getD (p.length + 1) 0)).set (p.length + 1) ((p ++ a :: b :: s).getD p.length 0) = p ++ b :: a :: s := by
  have e : p ++ a :: b :: s = (p ++ [a]) ++ b :: s := by simp
  have l : (p ++ [a]).length = p.length + 1 := by simp
  have g : (p ++ a :: b :: s).getD (p.length + 1) 0 = b := by rw [e, ← l]; exact getD_mid _ _ _
  rw [g, getD_mid, set_mid]
  have e2 : p ++ b :: b :: s = (p ++ [b]) ++ b :: s := by simp
  have l2 : (p ++ [b]).length = p.length + 1 := by simp
  rw [e2, ← l2, set_mid]
  simp
theorem str_lr : (("right" : Str) = ("left" : Str)) = False := by
  rw [eq_iff_iff, iff_false]
  decide +kernel
/-- a left move of three neighbors -/
theorem left_ok {p s : List Int} {a b c : Int} (h1 : min a b ≤ c) (h2 : c < max a b) : alw (p ++ [a, b, c] ++ s) ((p.length : Int), "left") = true ∧ mvd (p ++ [a, b, c] ++ s) ((p.length : Int), "left") = p ++ [b, a, c] ++ s := by
  obtain ⟨g1, g2, g3⟩ := gi3 p s a b c
  constructor
  · unfold alw
    simp only [if_true, g1, g2, g3, Bool.and_eq_true, decide_eq_true_eq]
    refine ⟨⟨by omega, ?_⟩, h1, h2⟩
    rw [List.length_append, List.length_append]
    simp only [List.length_cons, List.length_nil]
    omega
  · unfold mvd plc
    rw [if_pos rfl]
    show ((p ++ [a, b, c] ++ s).set (p.length : Int).toNat _).set _ _ = _
    rw [Int.toNat_natCast]
    have := swap_mid p (c :: s) a b
    simpa using this
theorem right_ok {p s : List Int} {a b c : Int} (h1 : min b c < a) (h2 : a ≤ max b c) : alw (p ++ [a, b, c] ++ s) ((p.length : Int), "right") = true ∧ mvd (p ++ [a, b, c] ++ s) ((p.length : Int), "right") = p ++ [a, c, b] ++ s := by
  obtain ⟨g1, g2, g3⟩ := gi3 p s a b c
  constructor
  · unfold alw
    simp only [str_lr, if_false, if_true, g1, g2, g3, Bool.and_eq_true, decide_eq_true_eq]
    refine ⟨⟨by omega, ?_⟩, h1, h2⟩
    rw [List.length_append, List.length_append]
    simp only [List.length_cons, List.length_nil]
    omega
  · unfold mvd plc
    simp only [str_lr, if_false]
    show ((p ++ [a, b, c] ++ s).set ((p.length : Int).toNat + 1) _).set _ _ = _
    rw [Int.toNat_natCast]
    have := swap_mid (p ++ [a]) s b c
    have l : (p ++ [a]).length = p.length + 1 := by simp
    rw [l] at this
    simpa using this
def rgt (b n : Nat) : List Mv := (List.range n).reverse.map fun k => (((b + k : Nat) : Int), "right")
def lft (b n : Nat) : List Mv := (List.range n).reverse.map fun k => (((b + k : Nat) : Int), "left")
theorem rgt_succ (b n : Nat) : rgt b (n + 1) = ((((b + n : Nat) : Int), ("right" : Str)) : Mv) :: rgt b n := by
  unfold rgt
  rw [List.range_succ, List.reverse_append]
  rfl
theorem lft_succ (b n : Nat) : lft b (n + 1) = ((((b + n : Nat) : Int), ("left" : Str)) : Mv) :: lft b n := by
  unfold lft
  rw [List.range_succ, List.reverse_append]
  rfl
/-- a letter passes greater ones, from the right -/
theorem wlk_rgt {x : Int} : ∀ (n : Nat) (p s v : List Int) (v0 : Int), v.length = n → srt (v0 :: v) → x < v0 → wlk (p ++ v0 :: (v ++ x :: s)) (rgt p.length n) = some (p ++ v0 :: x :: (v ++ s))
  | 0, p, s, v, v0, hv, _, _ => by
    have : v = [] := List.length_eq_zero_iff.mp hv
    subst this
    rfl
  | n + 1, p, s, v, v0, hv, hs, hx => by
    obtain ⟨v', c, rfl⟩ : ∃ v' c, v = v' ++ [c] := by
      have hne : v ≠ [] := fun z => by rw [z] at hv; cases hv
      exact ⟨v.dropLast, v.getLast hne, (List.dropLast_concat_getLast hne).symm⟩
    have hv' : v'.length = n := by simpa using hv
    rw [rgt_succ, wlk_cons]
    -- the letter before c
    have hs' : srt (v0 :: v') := by
      have : (v0 :: v').Sublist (v0 :: (v' ++ [c])) := List.Sublist.cons_cons _ (List.sublist_append_left _ _)
      exact hs.sublist this
    have key : ∀ (q : List Int) (a : Int), p ++ v0 :: v' = q ++ [a] → q.length = p.length + n → x < a → a ≤ c → alw (p ++ v0 :: (v' ++ [c] ++ x :: s)) (((p.length + n : Nat) : Int), "right") = true ∧ mvd (p ++ v0 :: (v' ++ [c] ++ x :: s)) (((p.length + n : Nat) : Int), "right") = p ++ v0 :: (v' ++ x :: (c :: s)) := fun q a hq hl h1 h2 => by
      have e : p ++ v0 :: (v' ++ [c] ++ x :: s) = q ++ [a, c, x] ++ s := by
        have : p ++ v0 :: (v' ++ [c] ++ x :: s) = (p ++ v0 :: v') ++ [c, x] ++ s := by simp
        rw [this, hq]
        simp
      have e2 : p ++ v0 :: (v' ++ x :: (c :: s)) = q ++ [a, x, c] ++ s := by
        have : p ++ v0 :: (v' ++ x :: (c :: s)) = (p ++ v0 :: v') ++ [x, c] ++ s := by simp
        rw [this, hq]
        simp
      rw [e, e2, ← hl]
      exact right_ok (by omega) (by omega)
    have hcs : ∀ a ∈ v0 :: v', a ≤ c := by
      have := List.pairwise_append.mp (show ((v0 :: v') ++ [c]).Pairwise (· ≤ ·) from hs)
      exact fun a ha => this.2.2 a ha c (List.mem_singleton.mpr rfl)
    have hxs : ∀ a ∈ v0 :: v', x < a := fun a ha => by
      rcases List.mem_cons.mp ha with z | z
      · rw [z]; exact hx
      · have := (List.pairwise_cons.mp hs').1 a z; omega
    have hne : v0 :: v' ≠ [] := by simp
    have hk := key (p ++ (v0 :: v').dropLast) ((v0 :: v').getLast hne) (by rw [List.append_assoc, List.dropLast_concat_getLast hne]) (by rw [List.length_append, List.length_dropLast, List.length_cons, hv']; rfl) (hxs _ (List.getLast_mem hne)) (hcs _ (List.getLast_mem hne))
    rw [if_pos hk.1, hk.2, wlk_rgt n p (c :: s) v' v0 hv' hs' hx]
    simp
/-- a letter passes lesser ones, from the left -/
theorem wlk_lft {y : Int} : ∀ (n : Nat) (p s u : List Int) (h : Int), u.length = n → srt (u ++ [h]) → h < y → wlk (p ++ (u ++ y :: h :: s)) (lft p.length n) = some (p ++ y :: (u ++ h :: s))
  | 0, p, s, u, h, hu, _, _ => by
    have : u = [] := List.length_eq_zero_iff.mp hu
    subst this
    rfl
  | n + 1, p, s, u, h, hu, hs, hy => by
    obtain ⟨u', a, rfl⟩ : ∃ u' a, u = u' ++ [a] := by
      have hne : u ≠ [] := fun z => by rw [z] at hu; cases hu
      exact ⟨u.dropLast, u.getLast hne, (List.dropLast_concat_getLast hne).symm⟩
    have hu' : u'.length = n := by simpa using hu
    rw [lft_succ, wlk_cons]
    have hs2 : srt (u' ++ [a]) := (List.pairwise_append.mp hs).1
    have hah : a ≤ h := (List.pairwise_append.mp hs).2.2 a (by simp) h (by simp)
    have e : p ++ (u' ++ [a] ++ y :: h :: s) = (p ++ u') ++ [a, y, h] ++ s := by simp
    have e2 : (p ++ u') ++ [y, a, h] ++ s = p ++ (u' ++ y :: a :: (h :: s)) := by simp
    have hl : (p ++ u').length = p.length + n := by rw [List.length_append, hu']
    have hk := left_ok (p := p ++ u') (s := s) (a := a) (b := y) (c := h) (by omega) (by omega)
    rw [e, ← hl, if_pos hk.1, hk.2, e2, wlk_lft n p (h :: s) u' a hu' hs2 (by omega)]
    simp
/-- the moves through a row -/
def thru (b : Nat) (r : List Int) (k : Nat) : List Mv := rgt (b + k) (r.length - 1 - k) ++ lft b k
theorem wlk_thru {p s r : List Int} {x : Int} (hr : srt r) (hk : insRow r x < r.length) : wlk (p ++ (r ++ x :: s)) (thru p.length r (insRow r x)) = some (p ++ (r.getD (insRow r x) 0 :: (r.set (insRow r x) x ++ s))) := by
  have hat := insRow_at (x := x) hr
  generalize insRow r x = k at *
  have er : r = r.take k ++ r.getD k 0 :: r.drop (k + 1) := by
    rw [gd_of hk, ← List.drop_eq_getElem_cons hk, List.take_append_drop]
  have es : r.set k x = r.take k ++ x :: r.drop (k + 1) := by rw [List.set_eq_take_append_cons_drop, if_pos hk]
  have hy : x < r.getD k 0 := by
    have := hat k hk
    have h2 : ¬ r.getD k 0 ≤ x := fun z => by have := this.mp z; omega
    omega
  have hlow : ∀ a ∈ r.take k, a ≤ x := fun a ha => by
    obtain ⟨i, hi, rfl⟩ := List.getElem_of_mem ha
    rw [List.length_take] at hi
    rw [List.getElem_take]
    have := (hat i (by omega)).mpr (by omega)
    rwa [gd_of (by omega)] at this
  have hsr : srt (r.getD k 0 :: r.drop (k + 1)) := by
    have : (r.getD k 0 :: r.drop (k + 1)).Sublist r := by
      conv => rhs; rw [er]
      exact List.sublist_append_right _ _
    exact hr.sublist this
  have hsl : srt (r.take k ++ [x]) := by
    refine List.pairwise_append.mpr ⟨hr.sublist (List.take_sublist _ _), List.pairwise_singleton .., fun a ha b hb => ?_⟩
    rw [List.mem_singleton] at hb
    rw [hb]
    exact hlow a ha
  have hlt : (r.take k).length = k := by rw [List.length_take]; omega
  unfold thru
  generalize hy' : r.getD k 0 = y at *
  have h1 := wlk_rgt (x := x) (r.length - 1 - k) (p ++ r.take k) s (r.drop (k + 1)) y (by rw [List.length_drop]; omega) hsr hy
  have h2 := wlk_lft (y := y) k p (r.drop (k + 1) ++ s) (r.take k) x hlt hsl hy
  rw [List.length_append, hlt] at h1
  have e1 : p ++ (r ++ x :: s) = p ++ r.take k ++ y :: (r.drop (k + 1) ++ x :: s) := by
    conv => lhs; rw [er]
    simp
  rw [e1, wlk_app h1]
  have e2 : p ++ r.take k ++ y :: x :: (r.drop (k + 1) ++ s) = p ++ (r.take k ++ y :: x :: (r.drop (k + 1) ++ s)) := by simp
  rw [e2, h2, es]
  simp
/-- the moves of an insertion, the letters before: n -/
def mvI : List (List Int) → Nat → Int → List Mv
  | [], _, _ => []
  | r :: t, n, x => if insRow r x = r.length then [] else thru (n - r.length) r (insRow r x) ++ mvI t (n - r.length) (r.getD (insRow r x) 0)
theorem rdw_len (t : List (List Int)) : (rdw t).length = t.flatten.length := by
  unfold rdw
  rw [List.length_flatten, List.map_reverse, List.sum_reverse, ← List.length_flatten]
theorem wlk_mvI : ∀ {t : List (List Int)} {s : List Int} {x : Int}, IsT t → wlk (rdw t ++ x :: s) (mvI t t.flatten.length x) = some (rdw (ins t x) ++ s)
  | [], s, x, _ => rfl
  | r :: t, s, x, ⟨h1, h2, h3, h4⟩ => by
    unfold mvI ins
    by_cases c : insRow r x = r.length
    · rw [if_pos c, if_pos c, rdw_cons, rdw_cons]
      show some _ = _
      simp
    · rw [if_neg c, if_neg c, rdw_cons, rdw_cons]
      have hk : insRow r x < r.length := by have := insRow_le r x; omega
      have en : (r :: t).flatten.length - r.length = t.flatten.length := by rw [List.flatten_cons, List.length_append]; omega
      rw [en]
      have h := wlk_thru (p := rdw t) (s := s) h2 hk
      rw [rdw_len] at h
      rw [List.append_assoc, wlk_app h, wlk_mvI (t := t) h4]
      simp
theorem thru_len (b : Nat) (r : List Int) (k : Nat) (h : k < r.length) : (thru b r k).length = r.length - 1 := by
  unfold thru rgt lft
  rw [List.length_append, List.length_map, List.length_map, List.length_reverse, List.length_reverse, List.length_range, List.length_range]
  omega
theorem mvI_len : ∀ {t : List (List Int)} {n : Nat} {x : Int}, (mvI t n x).length ≤ t.flatten.length
  | [], _, _ => Nat.le_refl _
  | r :: t, n, x => by
    unfold mvI
    by_cases c : insRow r x = r.length
    · rw [if_pos c]; simp
    · rw [if_neg c, List.length_append, thru_len _ _ _ (by have := insRow_le r x; omega), List.flatten_cons, List.length_append]
      have := mvI_len (t := t) (n := n - r.length) (x := r.getD (insRow r x) 0)
      omega
/-- the moves for the first i letters -/
def pth (w : List Int) : Nat → List Mv
  | 0 => []
  | i + 1 => pth w i ++ mvI (tab (w.take i)) i (w.getD i 0)
theorem wlk_pth {w : List Int} : ∀ {i : Nat}, i ≤ w.length → wlk w (pth w i) = some (rdw (tab (w.take i)) ++ w.drop i) ∧ (pth w i).length ≤ i * i
  | 0, _ => ⟨rfl, Nat.le_refl _⟩
  | i + 1, h => by
    obtain ⟨h1, h2⟩ := wlk_pth (w := w) (i := i) (by omega)
    have hi : i < w.length := h
    have ef := tab_flat (w.take i)
    rw [List.length_take, Nat.min_eq_left (by omega)] at ef
    have h3 := wlk_mvI (t := tab (w.take i)) (s := w.drop (i + 1)) (x := w.getD i 0) (tab_T _)
    rw [ef] at h3
    constructor
    · show wlk w (pth w i ++ mvI (tab (w.take i)) i (w.getD i 0)) = _
      rw [wlk_app h1]
      have e : w.drop i = w.getD i 0 :: w.drop (i + 1) := by rw [gd_of hi]; exact List.drop_eq_getElem_cons hi
      rw [e, h3, tab_take (x := w.getD i 0) (by rw [gd_of hi]; exact List.getElem?_eq_getElem hi)]
    · show (pth w i ++ mvI (tab (w.take i)) i (w.getD i 0)).length ≤ _
      rw [List.length_append]
      have := mvI_len (t := tab (w.take i)) (n := i) (x := w.getD i 0)
      have e : (i + 1) * (i + 1) = i * i + (2 * i + 1) := by rw [Nat.succ_mul, Nat.mul_succ]; omega
      omega
theorem wlk_path (w : List Int) : wlk w (pth w w.length) = some (rdw (tab w)) ∧ (pth w w.length).length ≤ w.length * w.length := by
  have := wlk_pth (w := w) (i := w.length) (Nat.le_refl _)
  rw [List.take_length, List.drop_length, List.append_nil] at this
  exact this
/-! ### names that hold data only -/
section
variable {K : PySem.W.Frag}
theorem fz_noA {H0 H1 H2 : Hp} {A S : List Addr} {l : Lv} : Ex (fz H0 A S H1 H2 l) (fz H0 [] S H1 H2 l) := ct_ex fun b o hb e => by
  refine ⟨?_, e⟩
  cases l <;> simp only [bad, Bool.or_eq_false_iff, List.not_mem_nil, decide_false, Bool.false_or] at hb ⊢ <;> first | exact hb | exact hb.2 | exact ⟨hb.1.2, hb.2⟩
theorem Rel.noA {H0 H : Hp} {S0 A S : List Addr} {σ : L2.St} {env : Env} (r : Rel K H0 S0 A S σ H env) (hp : plain env = true) : Rel K H0 S0 [] S σ H env ∧ Fm H0 A S H [] S H := by
  refine ⟨⟨?_, fun a h => (List.not_mem_nil h).elim, fun a h => (List.not_mem_nil h).elim, r.str, r.ext, r.sub, fun a h => (List.not_mem_nil h).elim, r.nS⟩, fun l _ => fz_noA⟩
  obtain ⟨B, h1, h2⟩ := r.own
  have hB := plain_own hp h1
  subst hB
  exact ⟨[], h1.mono (fun l => fz_noA) (fun _ h => h) fun a h => (List.not_mem_nil h).elim, fun b h => h⟩
theorem set_self {α : Type} : ∀ (σ : List α) (i : Nat) (x : α), σ[i]? = some x → σ.set i x = σ
  | [], _, _, h => by simp at h
  | a :: σ, 0, x, h => by
    simp only [List.getElem?_cons_zero, Option.some.injEq] at h
    rw [h]; rfl
  | a :: σ, i + 1, x, h => by
    rw [List.set_cons_succ, set_self σ i x (by simpa using h)]
/-- a list of the def's own that is not changed any more -/
def sFrz (i : Nat) (s : SX K) : SX K where
  ts := s.ts
  wp := fun env P => plain (env.set i none) = true ∧ onLs env i fun xs => match OV.ds xs with
    | some ds => immAll ds = true ∧ s.wp (env.set i (some (.da .loc (.list ds)))) P
    | none => False
  ok := fun {E H0 S0 A S σ H env P D} r n h c => by
    obtain ⟨hp, h⟩ := h
    obtain ⟨xs, he, h⟩ := onLs_of h
    cases ed : OV.ds xs with
    | none => rw [ed] at h; exact h.elim
    | some ds =>
      rw [ed] at h
      obtain ⟨hi, h⟩ := h
      obtain ⟨B, g1, g2⟩ := r.own
      obtain ⟨v, Bv, e1, e2, e3⟩ := g1.at' he
      obtain ⟨B', w1, w2⟩ := g1.wipe (i := i) (x := some v)
      rw [set_self σ i (some v) e1] at w1
      have r1 : Rel K H0 S0 A S σ H (env.set i none) := ⟨⟨B', w1, fun b hb => g2 b (w2 b hb)⟩, r.loA, r.dis, r.str, r.ext, r.sub, r.nA, r.nS⟩
      obtain ⟨r2, f2⟩ := r1.noA hp
      cases e2 with
      | @ls a _ vs Bx k1 k2 k3 =>
        have aA : a ∈ A := g2 a (e3 a List.mem_cons_self)
        have Dd : Da (fz H0 A S H H .di) (.ref a) (.list ds) := own_d (fun l => fz_up r.at' (by cases l <;> decide)) r.dis (fun b hb => g2 b (e3 b hb)) (.ls k1 k2 k3) (by simp only [OV.d, ed]; rfl)
        have Dl : Da (fz H0 [] S H H .loc) (.ref a) (.list ds) := by
          cases Dd with
          | lst ea ka =>
            obtain ⟨_, ea⟩ := ct_at ea
            refine .lst (ct_of ?_ ea) (DaAll.imm (fun b hb => ?_) hi (ka.mono fz_le))
            · simp only [bad, List.not_mem_nil, decide_false, Bool.false_or, r.nA a aA, Option.isSome_none, Bool.false_and, Bool.or_false, decide_eq_false_iff_not]
              exact r.dis a aA
            · simp only [bad, List.not_mem_nil, decide_false, Bool.false_or, Bool.or_eq_true, decide_eq_true_eq, Bool.and_eq_true] at hb
              rcases hb with hb | hb
              · exact .inl (r.str b hb).lo
              · exact .inl hb.2
        have r3 := r2.put (i := i) (.da Dl)
        rw [set_self σ i (some (.ref a)) e1, List.set_set] at r3
        exact s.ok r3 (n.set rfl) h (c.at' f2)
/-- x = e, e perhaps a value that was handed -/
def sAsgD (i : Nat) (e : EX K) : SX K where
  ts := fun E => tAsg (e.te E) (gName i)
  wp := fun env P => e.wp env (fun o => match o with
    | .da .di d => plain env = true ∧ P.nx (env.set i (some (.da .fr d)))
    | o => asgF o fun o' => P.nx (env.set i (some o'))) P.xc
  ok := fun {E H0 S0 A S σ H env P D} r n h c => e.ok r h (c.ex r) _ fun v H2 o ho s2 vr => by
    have at2 : At K H0 S0 A S σ env H H2 := ⟨r, s2⟩
    show D.nx (σ.set i (some v)) H2
    by_cases qd : ∃ d, o = .da .di d
    · obtain ⟨d, rfl⟩ := qd
      obtain ⟨hp, hk⟩ := ho
      obtain ⟨r2, f2⟩ := at2.rel.noA hp
      rcases vr with ⟨z, _⟩ | ⟨B, hB, vr⟩
      · cases z
      · cases vr with
        | da h =>
          have h2 : Da (fz H0 [] S H2 H2 .fr) v d := h.mono (ct_ex fun b o hb e => ⟨by simp only [bad, List.not_mem_nil, decide_false, Bool.false_or] at hb ⊢; exact hb, e⟩)
          exact c.nx [] S _ H2 _ (r2.put (.da h2)) (n.set rfl) ((Fm.step r s2).trans f2) hk
    have ho : asgF o fun o' => P.nx (env.set i (some o')) := by
      cases o with
      | da l d => cases l <;> first | exact absurd ⟨_, rfl⟩ qd | exact ho
      | _ => exact ho
    by_cases q : o = .ns
    · subst q
      rcases vr with ⟨_, a, rfl, na, hs⟩ | ⟨B, hB, vr⟩
      · obtain ⟨r2, f2⟩ := Rel.addS at2 na hs
        exact c.nx A (a :: S) _ H2 _ (r2.put (.st List.mem_cons_self)) (n.set rfl) f2 ho
      · cases vr
    · have ho : match keepS o with
        | some o' => P.nx (env.set i (some o'))
        | none => False := by
        cases o <;> first | exact absurd rfl q | exact ho
      cases e : keepS o with
      | none => rw [e] at ho; exact ho.elim
      | some o' =>
        rw [e] at ho
        obtain ⟨h1, h2⟩ := keepS_own at2 vr e
        exact c.nx A S _ H2 _ (at2.rel.put h1) (n.set h2) (Fm.step r s2) ho
theorem w_frz (i : Nat) (s : SX K) (env : Env) (P : Post) : (sFrz i s).wp env P = (plain (env.set i none) = true ∧ onLs env i fun xs => match OV.ds xs with
    | some ds => immAll ds = true ∧ s.wp (env.set i (some (.da .loc (.list ds)))) P
    | none => False) := (rfl)
theorem w_asgD (i : Nat) (e : EX K) (env : Env) (P : Post) : (sAsgD i e).wp env P = e.wp env (fun o => match o with
    | .da .di d => plain env = true ∧ P.nx (env.set i (some (.da .fr d)))
    | o => asgF o fun o' => P.nx (env.set i (some o'))) P.xc := (rfl)
end
/-! ### sum of a tuple -/
theorem sum_tup {prog : Program} {w : World} {A : Around} {E : Value → Shared → Prop} {s : Shared} {t : Addr} {xs : Array (Int × Tok)} {Q : Value → Shared → Prop} (hh : A.handled = none) (hl : s.heap.IsTuple t (intItems xs))
    (h : ∀ (h' : Heap) (tk : Nat) (t' : Tok), (∀ (b : Addr) (o : Obj), s.heap.get? b = some o → h'.get? b = some o) → Q (Value.int (preSum (numAt xs) xs.size) t') { heap := h', gens := s.gens, drawn := s.drawn, toks := tk, os := s.os }) :
    wpAny (model prog w) A (call (Value.builtin "sum") [Value.ref t]) Q E s := by
  have hlt : t < s.heap.objs.size := by
    obtain ⟨o, e, _⟩ := hl
    exact Heap.lt_size e
  refine call_sum_walkG (wpAny_pyIter_tuple hl ⟨s.heap.objs.size, [s.heap.objs.size, t], [s.heap.objs.size], (intItems xs).size, fun i v => (intItems xs)[i]? = some v, fun i h => h.IsTupleIter s.heap.objs.size t i ∧ h.IsTuple t (intItems xs), numAt xs, rfl, Walks.tuple (A := A.in1) hh _ t (Nat.ne_of_lt hlt) (intItems xs), ⟨⟨_, Heap.get?_push_size _ rfl, rfl, rfl⟩, hl.push _⟩, fun b hb => ?_, fun _ _ => intItems_at, fun h' tk t' hk => ?_⟩)
  · rw [Heap.size_push]
    rcases List.mem_cons.mp hb with z | z
    · rw [z]; exact Nat.lt_succ_self _
    · rw [List.mem_singleton] at z
      rw [z]; exact Nat.lt_succ_of_lt hlt
  · have e : (intItems xs).size = xs.size := Array.size_map
    rw [e]
    refine h h' tk t' fun b o q => hk b o (fun z => ?_) (Heap.get?_push_of_some _ q)
    rw [List.mem_singleton] at z
    have hb := Heap.lt_size q
    rw [z] at hb
    exact Nat.lt_irrefl _ hb
def rSumTu (K : PySem.W.Frag) : List V → Hp → VK → Prop := fun vs H Q => ∃ (a : Addr) (ns : List Int), vs = [V.ref a] ∧ SqT K H a (ns.map V.int) ∧ Q (.int ns.sum) H
theorem cr_sumTu {X : Cx} (hc : X.calm = true) : CallR X (.builtin "sum") (rSumTu X.K) := by
  intro pins s σ H vs us Q I r h
  obtain ⟨a, ns, rfl, hs, q⟩ := h
  obtain ⟨its, rv, pl, hz⟩ := I.tuple hs
  rw [Vals.ref1 r]
  have hi := rv.ints
  obtain ⟨xs, e⟩ := AllInts.items hi.allInts
  have hn := hi.numsOf
  have pl : s.heap.IsTuple a its.toArray := pl
  rw [e] at pl
  have hits : its = (intItems xs).toList := by rw [← e]
  rw [hits, nums_intItems] at hn
  refine sum_tup (I.ok.hd hc) pl fun h' tk t' hk => ?_
  have es : preSum (numAt xs) xs.size = ns.sum := by
    rw [preSum_eq, List.take_of_length_le (by rw [List.length_map, Array.length_toList]; exact Nat.le_refl _), hn]
  rw [es]
  exact ⟨.int ns.sum, H, I.kept hk, ⟨t', rfl⟩, q⟩
section
variable {K : PySem.W.Frag}
def bSum2 : CBX K := bData (fun vs H Q => rSum K vs H Q ∨ rSumTu K vs H Q) (fun _ d R => withInts2 d fun ws => R (.da .nw (.int ws.sum)))
  fun {H0 S0 A S σ H1 H2 env R l d v} c D h Q q => by
    obtain ⟨a, ws, rfl, e | e, h⟩ := withInts2_of D h
    · exact .inl ⟨a, ws, rfl, SqL.of (fz_le _ _ e), q _ H2 _ h (.refl S H2) (.int _)⟩
    · exact .inr ⟨a, ws, rfl, SqT.of (fz_le _ _ e), q _ H2 _ h (.refl S H2) (.int _)⟩
theorem f_sum2 {R : OV → Prop} {o : OV} : (bSum2 : CBX K).f [o] R = rd o fun _ d => withInts2 d fun ws => R (.da .nw (.int ws.sum)) := (rfl)
theorem wi2_l (ws : List Int) (k : List Int → Prop) : withInts2 (.list (ws.map .int)) k = k ws := by
  show (match asInts (ws.map .int) with
    | some ws => k ws
    | none => False) = _
  rw [asInts_map]
theorem wi2_t (ws : List Int) (k : List Int → Prop) : withInts2 (.tuple (ws.map .int)) k = k ws := by
  show (match asInts (ws.map .int) with
    | some ws => k ws
    | none => False) = _
  rw [asInts_map]
end
/-! ### max of a tuple, count -/
theorem max_tup {prog : Program} {w : World} {A : Around} {E : Value → Shared → Prop} {s : Shared} {t : Addr} {xs : Array (Int × Tok)} {Q : Value → Shared → Prop} (hh : A.handled = none) (hl : s.heap.IsTuple t (intItems xs)) (hne : 0 < xs.size)
    (h : ∀ (h' : Heap) (tk : Nat) (i : Nat) (t' : Tok), (∀ (b : Addr) (o : Obj), s.heap.get? b = some o → h'.get? b = some o) → i < xs.size → (∀ j, j < xs.size → numAt xs j ≤ numAt xs i) → Q (Value.int (numAt xs i) t') { heap := h', gens := s.gens, drawn := s.drawn, toks := tk, os := s.os }) :
    wpAny (model prog w) A (call (Value.builtin "max") [Value.ref t]) Q E s := by
  have hlt : t < s.heap.objs.size := by
    obtain ⟨o, e, _⟩ := hl
    exact Heap.lt_size e
  have esz : (intItems xs).size = xs.size := Array.size_map
  refine call_max_walk (wpAny_pyIter_tuple hl ⟨s.heap.objs.size, [s.heap.objs.size, t], [s.heap.objs.size], (intItems xs).size, fun i v => (intItems xs)[i]? = some v, fun i h => h.IsTupleIter s.heap.objs.size t i ∧ h.IsTuple t (intItems xs), fun i j => decide (numAt xs i > numAt xs j), rfl, Walks.tuple (A := A.in1) hh _ t (Nat.ne_of_lt hlt) (intItems xs), ⟨⟨_, Heap.get?_push_size _ rfl, rfl, rfl⟩, hl.push _⟩, fun b hb => ?_, by rw [esz]; exact hne, CmpOf.ints_gt (numAt xs) fun _ _ => intItems_at, fun v h' tk hP hk => ?_⟩)
  · rw [Heap.size_push]
    rcases List.mem_cons.mp hb with z | z
    · rw [z]; exact Nat.lt_succ_self _
    · rw [List.mem_singleton] at z
      rw [z]; exact Nat.lt_succ_of_lt hlt
  · obtain ⟨t', rfl⟩ := intItems_at hP
    obtain ⟨g1, g2⟩ := argBest_gt (numAt xs) ((intItems xs).size - 1)
    rw [esz] at g1 g2 ⊢
    refine h h' tk _ t' (fun b o q => hk b o (fun z => ?_) (Heap.get?_push_of_some _ q)) (by omega) fun j hj => g2 j (by omega)
    rw [List.mem_singleton] at z
    have hb := Heap.lt_size q
    rw [z] at hb
    exact Nat.lt_irrefl _ hb
def rMaxTu (K : PySem.W.Frag) : List V → Hp → VK → Prop := fun vs H Q => ∃ (a : Addr) (ns : List Int), vs = [V.ref a] ∧ SqT K H a (ns.map V.int) ∧ 0 < ns.length ∧ ∀ m, m ∈ ns → (∀ y, y ∈ ns → y ≤ m) → Q (.int m) H
theorem cr_maxTu {X : Cx} (hc : X.calm = true) : CallR X (.builtin "max") (rMaxTu X.K) := by
  intro pins s σ H vs us Q I r h
  obtain ⟨a, ns, rfl, hs, hne, q⟩ := h
  obtain ⟨its, rv, pl, hz⟩ := I.tuple hs
  rw [Vals.ref1 r]
  have hi := rv.ints
  obtain ⟨xs, e⟩ := AllInts.items hi.allInts
  have hn := hi.numsOf
  have pl : s.heap.IsTuple a its.toArray := pl
  rw [e] at pl
  have hits : its = (intItems xs).toList := by rw [← e]
  rw [hits, nums_intItems] at hn
  have hsz : xs.size = ns.length := by rw [← hn, List.length_map, Array.length_toList]
  refine max_tup (I.ok.hd hc) pl (by omega) fun h' tk i t' hk hi2 hall => ?_
  have at' : ∀ j, j < ns.length → numAt xs j = ns.getD j 0 := fun j _ => by rw [numAt_eq, hn]
  refine ⟨.int (numAt xs i), H, I.kept hk, ⟨t', rfl⟩, q _ ?_ fun y hy => ?_⟩
  · rw [at' i (by omega), gd_of (by omega)]
    exact List.getElem_mem _
  · obtain ⟨j, hj, rfl⟩ := List.getElem_of_mem hy
    have := hall j (by omega)
    rw [at' j hj, gd_of hj] at this
    exact this
section
variable {K : PySem.W.Frag}
def bMaxA : CBX K := bData (fun vs H Q => rMax K vs H Q ∨ rMaxTu K vs H Q) (fun _ d R => withInts2 d fun ws => 0 < ws.length ∧ ∀ m, m ∈ ws → (∀ y, y ∈ ws → y ≤ m) → R (.da .nw (.int m)))
  fun {H0 S0 A S σ H1 H2 env R l d v} c D h Q q => by
    obtain ⟨a, ws, rfl, e | e, h0, h⟩ := withInts2_of D h
    · exact .inl ⟨a, ws, rfl, SqL.of (fz_le _ _ e), h0, fun m hm hy => q _ H2 _ (h m hm hy) (.refl S H2) (.int _)⟩
    · exact .inr ⟨a, ws, rfl, SqT.of (fz_le _ _ e), h0, fun m hm hy => q _ H2 _ (h m hm hy) (.refl S H2) (.int _)⟩
theorem f_maxA {R : OV → Prop} {o : OV} : (bMaxA : CBX K).f [o] R = rd o fun _ d => withInts2 d fun ws => 0 < ws.length ∧ ∀ m, m ∈ ws → (∀ y, y ∈ ws → y ≤ m) → R (.da .nw (.int m)) := (rfl)
def isL : PyData → Bool
  | .list _ => true
  | _ => false
def intD (e : PyData) (f : Int → Prop) : Prop := match e with
  | .int k => f k
  | _ => False
/-- x.count(e), whole numbers -/
def xCount (a b : EX K) : EX K where
  te := fun E => tBM K "list" (rCntI K) (a.te E) (tCons (b.te E) tNil)
  wp := fun env R X => a.wp env (fun o => rd o fun _ d => isL d = true ∧ b.wp env (fun p => rd p fun _ e => intD e fun k => withInts d fun ws => R (.da .nw (.int (ws.count k : Nat)))) X) X
  ok := fun {E H0 S0 A S σ H env R X} r h hX Q q => a.ok r h hX _ fun x H2 o hb s2 ho => by
    have c2 : At K H0 S0 A S σ env H H2 := ⟨r, s2⟩
    obtain ⟨l, d, ⟨hl, hb⟩, D⟩ := ho.rd c2 hb
    cases D <;> first | exact absurd hl Bool.false_ne_true | skip
    rename_i p xs ds e1 k1
    refine ⟨.inl ⟨rfl, _, SqL.of (fz_le _ _ e1)⟩, b.ok (r.step s2) hb (fun C H3 hC s => hX C H3 hC (s2.trans s)) _ fun y H3 o3 hc s3 ho3 => ?_⟩
    have c3 : At K H0 S0 A S σ env H H3 := c2.go s3
    obtain ⟨l3, d3, hd, D3⟩ := (ho3.back c2 s3).rd c3 hc
    cases D3 <;> first | exact hd.elim | skip
    rename_i k
    have D4 : Da (fz H0 A S H H3 l) (.ref p) (.list ds) := (Da.lst e1 k1).mono (fz_stay c2 s3 l)
    obtain ⟨a4, ws, ex, e4, hw⟩ := withInts_of D4 hd
    cases ex
    exact ⟨p, ws, k, rfl, rfl, SqL.of (fz_le _ _ e4), q _ H3 _ hw c3.s (.da (.int _))⟩
theorem w_count (a b : EX K) (env : Env) (R : OV → Prop) (X : Addr → Prop) : (xCount a b).wp env R X = a.wp env (fun o => rd o fun _ d => isL d = true ∧ b.wp env (fun p => rd p fun _ e => intD e fun k => withInts d fun ws => R (.da .nw (.int (ws.count k : Nat)))) X) X := (rfl)
theorem isL_l (ds : List PyData) : isL (.list ds) = true := rfl
theorem intD_i (k : Int) (f : Int → Prop) : intD (.int k) f = f k := (rfl)
theorem wi_l (ws : List Int) (k : List Int → Prop) : withInts (.list (ws.map .int)) k = k ws := by
  show (match asInts (ws.map .int) with
    | some ws => k ws
    | none => False) = _
  rw [asInts_map]
end
/-! ### conjugates; words of different letters -/
def cntG (sh : List Nat) (j : Nat) : Nat := (sh.filter fun r => decide (j < r)).length
def conj (sh : List Nat) : List Nat := (List.range (sh.headD 0)).map (cntG sh)
abbrev lensN (fs : List (List Int)) : List Nat := fs.map List.length
abbrev iN (sh : List Nat) : List Int := sh.map fun (n : Nat) => (n : Int)
def NonI (sh : List Nat) : Prop := sh.Pairwise fun a b => b ≤ a
theorem lens_iN (fs : List (List Int)) : (fs.map fun (r : List Int) => (r.length : Int)) = iN (lensN fs) := by
  unfold iN lensN
  rw [List.map_map]
  rfl
theorem nonI_dec {fs : List (List Int)} (h : Dec fs) : NonI (lensN fs) := List.pairwise_map.mpr h
theorem lens_trans {fs : List (List Int)} (h : Dec fs) : lensN (trans fs) = conj (lensN fs) := by
  unfold lensN conj trans
  rw [List.map_map]
  have e : (fs.map List.length).headD 0 = (fs.headD []).length := by cases fs <;> rfl
  rw [e]
  refine List.map_congr_left fun j _ => ?_
  show (colAt fs j).length = cntG (fs.map List.length) j
  unfold colAt cntG
  rw [List.length_map, List.filter_map, List.length_map]
  rfl
/-- among the first h of a list that does not increase -/
theorem cntG_at {sh : List Nat} (hn : NonI sh) {h j : Nat} (hh : h < sh.length) (h1 : j < sh.getD h 0) (h2 : sh.getD (h + 1) 0 ≤ j) : cntG sh j = h + 1 := by
  unfold cntG
  induction sh generalizing h with
  | nil => simp at hh
  | cons a sh ih =>
    have hn' := List.pairwise_cons.mp hn
    rw [List.filter_cons]
    cases h with
    | zero =>
      have h1 : j < a := h1
      have h2 : sh.getD 0 0 ≤ j := h2
      rw [if_pos (decide_eq_true h1), List.length_cons]
      have : sh.filter (fun r => decide (j < r)) = [] := by
        rw [List.filter_eq_nil_iff]
        intro r hr
        rw [decide_eq_true_iff]
        have : r ≤ sh.getD 0 0 := by
          cases sh with
          | nil => cases hr
          | cons b sh =>
            show r ≤ b
            rcases List.mem_cons.mp hr with z | z
            · rw [z]; exact Nat.le_refl _
            · exact (List.pairwise_cons.mp hn'.2).1 r z
        omega
      rw [this]
      rfl
    | succ h =>
      have hh' : h < sh.length := by simpa using hh
      have h1 : j < sh.getD h 0 := h1
      have h2 : sh.getD (h + 1) 0 ≤ j := h2
      have ha : sh.getD h 0 ≤ a := by
        rw [List.getD_eq_getElem?_getD, List.getElem?_eq_getElem hh']
        exact hn'.1 _ (List.getElem_mem hh')
      rw [if_pos (decide_eq_true (by omega)), List.length_cons, ih hn'.2 hh' h1 h2]
theorem nonI_step {sh : List Nat} (hn : NonI sh) (h : Nat) : sh.getD (h + 1) 0 ≤ sh.getD h 0 := by
  by_cases c : h + 1 < sh.length
  · rw [List.getD_eq_getElem?_getD, List.getD_eq_getElem?_getD, List.getElem?_eq_getElem c, List.getElem?_eq_getElem (show h < sh.length by omega)]
    exact List.pairwise_iff_getElem.mp hn h (h + 1) (by omega) c (by omega)
  · rw [List.getD_eq_getElem?_getD, List.getElem?_eq_none (by omega)]
    exact Nat.zero_le _
/-- the columns that a row adds -/
theorem conj_step {sh : List Nat} (hn : NonI sh) {h : Nat} (hh : h < sh.length) : (List.range (sh.getD h 0)).map (cntG sh) = (List.range (sh.getD (h + 1) 0)).map (cntG sh) ++ List.replicate (sh.getD h 0 - sh.getD (h + 1) 0) (h + 1) := by
  have hs := nonI_step hn h
  obtain ⟨d, hd⟩ : ∃ d, sh.getD h 0 = sh.getD (h + 1) 0 + d := ⟨_, (Nat.add_sub_cancel' hs).symm⟩
  rw [hd, List.range_add, List.map_append, Nat.add_sub_cancel_left]
  refine congrArg _ ?_
  rw [List.map_map]
  refine List.ext_getElem (by simp) fun i h1 h2 => ?_
  rw [List.getElem_map, List.getElem_range, List.getElem_replicate]
  rw [List.length_map, List.length_range] at h1
  show cntG sh (sh.getD (h + 1) 0 + i) = h + 1
  exact cntG_at hn hh (by omega) (by omega)
/-! different letters -/
theorem ri_same {x : Int} : ∀ {r : List Int}, x ∉ r → ri true r x = ri false r x
  | [], _ => rfl
  | a :: r, h => by
    have ha : x ≠ a := fun z => h (z ▸ List.mem_cons_self)
    have ih := ri_same (x := x) (r := r) fun z => h (List.mem_cons_of_mem _ z)
    by_cases c : x < a
    · rw [ri_p (s := true) (by unfold psh; simpa using c), ri_p (s := false) (by unfold psh; simp; omega)]
    · rw [ri_n (s := true) (by unfold psh; simpa using c), ri_n (s := false) (by unfold psh; simp; omega), ih]
theorem ri_perm {s : Bool} {x : Int} : ∀ {r : List Int}, ((ri s r x).1 ++ (ri s r x).2.toList).Perm (x :: r)
  | [] => List.Perm.refl _
  | a :: r => by
    by_cases c : psh s x a
    · rw [ri_p c]
      show (x :: (r ++ [a])).Perm (x :: a :: r)
      exact List.Perm.cons _ (List.perm_append_singleton _ _)
    · rw [ri_n c]
      show (a :: ((ri s r x).1 ++ (ri s r x).2.toList)).Perm (x :: a :: r)
      exact (List.Perm.cons a ri_perm).trans (List.Perm.swap x a r)
theorem giO_perm {s : Bool} : ∀ {t : List (List Int)} {x : Int}, (giO s t (some x)).flatten.Perm (x :: t.flatten)
  | [], x => List.Perm.refl _
  | r :: t, x => by
    show ((ri s r x).1 ++ (giO s t (ri s r x).2).flatten).Perm (x :: (r ++ t.flatten))
    have hp := ri_perm (s := s) (x := x) (r := r)
    cases e : (ri s r x).2 with
    | none =>
      rw [e, Option.toList_none, List.append_nil] at hp
      rw [giO_none]
      exact hp.append_right _
    | some y =>
      rw [e] at hp
      have ih := giO_perm (s := s) (t := t) (x := y)
      refine (List.Perm.append_left _ ih).trans ?_
      have h2 := hp.append_right t.flatten
      simpa using h2
theorem giO_same : ∀ {t : List (List Int)} {x : Int}, t.flatten.Nodup → x ∉ t.flatten → giO true t (some x) = giO false t (some x)
  | [], x, _, _ => rfl
  | r :: t, x, hn, hx => by
    rw [List.flatten_cons] at hn hx
    have hr : x ∉ r := fun z => hx (List.mem_append_left _ z)
    show (ri true r x).1 :: giO true t (ri true r x).2 = (ri false r x).1 :: giO false t (ri false r x).2
    rw [ri_same hr]
    cases e : (ri false r x).2 with
    | none => rw [giO_none, giO_none]
    | some y =>
      have hy := (ri_mem e).1
      have hd := List.nodup_append.mp hn
      rw [giO_same hd.2.1 fun z => hd.2.2 y hy y z rfl]
theorem gtb_same : ∀ {w : List Int} {t : List (List Int)}, (t.flatten ++ w).Nodup → gtb true t w = gtb false t w
  | [], _, _ => rfl
  | x :: w, t, h => by
    have hd := List.nodup_append.mp h
    have hx : x ∉ t.flatten := fun z => hd.2.2 x z x List.mem_cons_self rfl
    show gtb true (giO true t (some x)) w = gtb false (giO false t (some x)) w
    rw [giO_same hd.1 hx]
    refine gtb_same ?_
    have hp : ((giO false t (some x)).flatten ++ w).Perm (t.flatten ++ x :: w) := by
      refine (giO_perm.append_right w).trans ?_
      show (x :: (t.flatten ++ w)).Perm _
      exact (List.perm_middle).symm
    exact (hp.nodup_iff).mpr h
/-- a word of different letters, from its end -/
theorem tab_rev {w : List Int} (h : w.Nodup) : tab w.reverse = trans (tab w) := by
  rw [← gtb_tab0, trans_tab]
  exact gtb_same (t := []) (by simpa using (List.reverse_perm w).nodup_iff.mpr h)
/-! ### numbered items, pairs -/
section
variable {K : PySem.W.Frag}
theorem imm_pair (i : Int) (d : PyData) : imm (.tuple [.int i, d]) = imm d := by simp [imm, immAll]
theorem nrm_pair (l : Lv) (i : Int) (d : PyData) : nrm l (.tuple [.int i, d]) = nrm l d := by unfold nrm; rw [imm_pair]
theorem fz_newT {H0 H : Hp} {A S : List Addr} {T : Addr} {u : HO} {l : Lv} (n : H T = none) : Ex (fz H0 A S H H l) (fz H0 A S (upd H T u) (upd H T u) l) := ct_ex fun b o hb e => by
  have nb : b ≠ T := fun z => by rw [z, n] at e; cases e
  refine ⟨?_, by rw [upd_ne nb]; exact e⟩
  cases l <;> simp only [bad, upd_ne nb] at hb ⊢ <;> exact hb
theorem bad_newT {H0 H : Hp} {A S : List Addr} {T : Addr} {ys : List V} {l : Lv} (h1 : T ∉ A) (h2 : T ∉ S) (h3 : H0 T = none) (e : H T = some (.tup ys)) : bad H0 A S H H l T = false := by
  cases l <;> simp [bad, h1, h2, h3, e, isLo]
/-- the level at which an item is kept -/
def kl (l : Lv) (d : PyData) : Lv := if imm d = true then .nw else if l = .nw then .loc else l
theorem keep_mk (l : Lv) (d : PyData) : keep (mk l d) = some (.da (kl l d) d) := by
  unfold mk nrm kl
  by_cases c : imm d = true
  · rw [if_pos c, if_pos c]
    show some (OV.da (nrm .loc d) d) = _
    unfold nrm
    rw [if_pos c]
  · rw [if_neg c, if_neg c]
    cases l
    · show some (OV.da (nrm .loc d) d) = _
      unfold nrm
      rw [if_neg c]
      rfl
    · rfl
    · rfl
    · rfl
theorem kl_pair (l : Lv) (i : Int) (d : PyData) : kl l (.tuple [.int i, d]) = kl l d := by unfold kl; rw [imm_pair]
def enD (ds : List PyData) : List PyData := ds.mapIdx fun i d => .tuple [.int (i : Int), d]
theorem enD_len (ds : List PyData) : (enD ds).length = ds.length := List.length_mapIdx
theorem enD_at {ds : List PyData} {i : Nat} {d : PyData} (h : ds[i]? = some d) : (enD ds)[i]? = some (.tuple [.int (i : Int), d]) := by
  unfold enD
  rw [List.getElem?_mapIdx, h]
  rfl
theorem wk_enum {H0 : Hp} {S0 A S : List Addr} {σ : L2.St} {H H2 : Hp} {env : Env} {a : Addr} {l : Lv} {ds : List PyData} (c : At K H0 S0 A S σ env H H2) (D : Da (fz H0 A S H H2 l) (.ref a) (.list ds)) : Wk K H0 A S H H2 (Ite K a) (decide (l ≠ .di)) ((enD ds).map (mk l)) := by
  have W := wk_list c D
  have hlen : (ds.map (mk l)).length = ds.length := List.length_map ..
  have hlen2 : ((enD ds).map (mk l)).length = ds.length := by rw [List.length_map, enD_len]
  refine ⟨fun i H3 h s => ?_, fun i H3 x H4 h s y => ?_, fun H3 s => ?_, fun hl A' S' H3 i f h => ?_, fun hl A' S' H3 i x H4 f nf h y => ?_, fun hl A' S' H3 f => ?_⟩
  · rw [hlen2] at h
    exact W.go i H3 (by rw [hlen]; exact h) s
  · rw [hlen2] at h
    obtain ⟨T, x', rfl, nT, rfl, hx⟩ := y
    obtain ⟨_, o, eo, vo⟩ := W.yld i H3 x' H3 (by rw [hlen]; exact h) s ⟨rfl, hx⟩
    obtain ⟨d, hd⟩ := at_some (xs := ds) h
    rw [List.getElem?_map, hd] at eo
    cases eo
    refine ⟨Ex.new nT, _, by rw [List.getElem?_map, enD_at hd]; rfl, fun E o' hE hl ek => ?_⟩
    rw [keep_mk, kl_pair] at ek
    cases ek
    have c3 := c.go s
    obtain ⟨ys, eE⟩ := hl
    have nTE : E ≠ T := fun z => by rw [z, nT] at eE; cases eE
    have he := vo E _ hE ⟨ys, eE⟩ (keep_mk l d)
    cases he with
    | da he =>
      have nA : T ∉ E :: A := fun z => by
        rcases List.mem_cons.mp z with w | w
        · exact nTE w.symm
        · obtain ⟨_, e⟩ := lo_some (c3.rel.loA T w)
          rw [nT] at e; cases e
      have nS : T ∉ S := fun z => by
        obtain ⟨_, e⟩ := lo_some (c3.rel.lo T (.inr z))
        rw [nT] at e; cases e
      have n0 : H0 T = none := by
        cases q : H0 T with
        | none => rfl
        | some u =>
          have := c3.rel.dom (b := T) (by rw [q]; rfl)
          rw [nT] at this; cases this
      exact .da (.tup (ct_of (bad_newT nA nS n0 upd_same) upd_same) (.cons (.int _) (.cons (he.mono (fz_newT nT)) .nil)))
  · rw [hlen2, ← hlen]
    exact W.stop H3 s
  · rw [hlen2] at h
    exact W.goF hl A' S' H3 i f (by rw [hlen]; exact h)
  · rw [hlen2] at h
    obtain ⟨T, x', rfl, nT, rfl, hx⟩ := y
    obtain ⟨_, l9, d9, e9, hl9, D9⟩ := W.yldF hl A' S' H3 i x' H3 f nf (by rw [hlen]; exact h) ⟨rfl, hx⟩
    obtain ⟨d, hd⟩ := at_some (xs := ds) h
    rw [List.getElem?_map, hd] at e9
    obtain ⟨l', e1, e2⟩ := relv_mk l d
    have e9 : relv (mk l d) = .da l9 d9 := Option.some.inj e9
    rw [e1] at e9
    injection e9 with e3 e4
    obtain ⟨l2, f1, f2⟩ := relv_mk l (.tuple [.int (i : Int), d])
    rw [nrm_pair, ← e2, e3] at f2
    rw [← e4] at D9
    subst f2
    obtain ⟨nA, nS, n0⟩ := nf T nT
    refine ⟨Ex.new nT, l2, .tuple [.int (i : Int), d], by rw [List.getElem?_map, enD_at hd]; exact congrArg some f1, hl9, .tup (ct_of (bad_newT nA nS n0 upd_same) upd_same) (.cons (.int _) (.cons (D9.mono (fz_newT nT)) .nil))⟩
  · rw [hlen2, ← hlen]
    exact W.stopF hl A' S' H3 f
/-- the items of a list, numbered -/
def enF (o : OV) (R : Bool → List OV → Prop) : Prop := match o with
  | .da l (.list ds) => R (decide (l ≠ .di)) ((enD ds).map (mk l))
  | _ => False
/-- enumerate(..) of a list -/
def iEn (a : EX K) : IX K where
  ti := fun E => iEnum K (tCons (a.te E) tNil)
  wp := fun env R X => a.wp env (fun o => enF o R) X
  ok := fun {E H0 S0 A S σ H env R X} r h hX Q q => a.ok r h hX _ fun x H2 o hb s2 ho => by
    have c : At K H0 S0 A S σ env H H2 := ⟨r, s2⟩
    rcases ho with ⟨rfl, _⟩ | ⟨B, hB, ho⟩
    · exact hb.elim
    unfold enF at hb
    split at hb
    · cases ho with
      | @da _ _ _ k =>
        obtain ⟨p, xs, rfl, e⟩ : ∃ p xs, x = .ref p ∧ H2 p = some (.lst xs) := by
          cases k with
          | lst k1 k2 => exact ⟨_, _, rfl, fz_le _ _ k1⟩
        exact ⟨p, xs, rfl, SqL.of e, q _ H2 _ _ hb s2 (wk_enum c k)⟩
    · exact hb.elim
theorem w_iEn (a : EX K) (env : Env) (R : Bool → List OV → Prop) (X : Addr → Prop) : (iEn a).wp env R X = a.wp env (fun o => enF o R) X := (rfl)
theorem enF_l (l : Lv) (ds : List PyData) (R : Bool → List OV → Prop) : enF (.da l (.list ds)) R = R (decide (l ≠ .di)) ((enD ds).map (mk l)) := (rfl)
end
/-! ### pairs of what never changes -/
section
variable {K : PySem.W.Frag}
def zipO (ds es : List PyData) : List OV := (ds.zip es).map fun p => .da .nw (.tuple [p.1, p.2])
theorem zipO_len (ds es : List PyData) : (zipO ds es).length = min ds.length es.length := by unfold zipO; rw [List.length_map, List.length_zip]
theorem zipO_at {ds es : List PyData} {i : Nat} {d e : PyData} (h : ds[i]? = some d) (g : es[i]? = some e) : (zipO ds es)[i]? = some (.da .nw (.tuple [d, e])) := by
  unfold zipO
  have hz : (ds.zip es)[i]? = some (d, e) := List.getElem?_zip_eq_some.mpr ⟨h, g⟩
  rw [List.getElem?_map, hz]
  rfl
theorem immAll_at : ∀ {ds : List PyData} {i : Nat} {d : PyData}, immAll ds = true → ds[i]? = some d → imm d = true
  | [], _, _, _, h => by simp at h
  | a :: ds, 0, d, h, g => by
    simp only [immAll, Bool.and_eq_true] at h
    simp only [List.getElem?_cons_zero, Option.some.injEq] at g
    rw [← g]; exact h.1
  | a :: ds, i + 1, d, h, g => by
    simp only [immAll, Bool.and_eq_true] at h
    exact immAll_at h.2 (by simpa using g)
theorem relv_imm {l : Lv} {d : PyData} (h : imm d = true) : relv (mk l d) = .da .nw d := by
  unfold mk nrm
  rw [if_pos h]
  show OV.da (nrm .loc d) d = _
  unfold nrm
  rw [if_pos h]
theorem wk_zipL {H0 : Hp} {S0 A S : List Addr} {σ : L2.St} {H H2 : Hp} {env : Env} {a b : Addr} {l : Lv} {ds es : List PyData} (c : At K H0 S0 A S σ env H H2) (D1 : Da (fz H0 A S H H2 l) (.ref a) (.list ds)) (D2 : Da (fz H0 A S H H2 l) (.ref b) (.list es)) (i1 : immAll ds = true) (i2 : immAll es = true) : Wk K H0 A S H H2 (Itz K a b) (decide (l ≠ .di)) (zipO ds es) := by
  have W1 := wk_list c D1
  have W2 := wk_list c D2
  have hl1 : (ds.map (mk l)).length = ds.length := List.length_map ..
  have hl2 : (es.map (mk l)).length = es.length := List.length_map ..
  refine ⟨fun i H3 h s => ?_, fun i H3 x H4 h s y => ?_, fun H3 s => ?_, fun hl A' S' H3 i f h => ?_, fun hl A' S' H3 i x H4 f nf h y => ?_, fun hl A' S' H3 f => ?_⟩
  · rw [zipO_len] at h
    obtain ⟨xs, x, g1, g2⟩ := W1.go i H3 (by rw [hl1]; omega) s
    obtain ⟨ys, y, g3, g4⟩ := W2.go i H3 (by rw [hl2]; omega) s
    exact ⟨xs, ys, x, y, g1, g3, g2, g4⟩
  · rw [zipO_len] at h
    obtain ⟨T, x', y', rfl, nT, rfl, hx, hy⟩ := y
    obtain ⟨_, o1, eo1, vo1⟩ := W1.yld i H3 x' H3 (by rw [hl1]; omega) s ⟨rfl, hx⟩
    obtain ⟨_, o2, eo2, vo2⟩ := W2.yld i H3 y' H3 (by rw [hl2]; omega) s ⟨rfl, hy⟩
    obtain ⟨d, hd⟩ := at_some (xs := ds) (i := i) (by omega)
    obtain ⟨e, he⟩ := at_some (xs := es) (i := i) (by omega)
    have id := immAll_at i1 hd
    have ie := immAll_at i2 he
    rw [List.getElem?_map, hd] at eo1
    rw [List.getElem?_map, he] at eo2
    cases eo1
    cases eo2
    refine ⟨Ex.new nT, _, zipO_at hd he, fun E o' hE hL ek => ?_⟩
    have it : imm (.tuple [d, e]) = true := by simp [imm, immAll, id, ie]
    have ek : some (OV.da (nrm .loc (.tuple [d, e])) (.tuple [d, e])) = some o' := ek
    have en : nrm .loc (.tuple [d, e]) = .nw := by unfold nrm; rw [if_pos it]
    rw [en] at ek
    cases ek
    have c3 := c.go s
    obtain ⟨ys, eE⟩ := hL
    have nTE : E ≠ T := fun z => by rw [z, nT] at eE; cases eE
    have v1 := vo1 E _ hE ⟨ys, eE⟩ (keep_mk l d)
    have v2 := vo2 E _ hE ⟨ys, eE⟩ (keep_mk l e)
    have k1 : kl l d = .nw := by unfold kl; rw [if_pos id]
    have k2 : kl l e = .nw := by unfold kl; rw [if_pos ie]
    rw [k1] at v1
    rw [k2] at v2
    cases v1 with
    | da v1 =>
      cases v2 with
      | da v2 =>
        have nA : T ∉ E :: A := fun z => by
          rcases List.mem_cons.mp z with w | w
          · exact nTE w.symm
          · obtain ⟨_, e⟩ := lo_some (c3.rel.loA T w)
            rw [nT] at e; cases e
        have nS : T ∉ S := fun z => by
          obtain ⟨_, e⟩ := lo_some (c3.rel.lo T (.inr z))
          rw [nT] at e; cases e
        have n0 : H0 T = none := by
          cases q : H0 T with
          | none => rfl
          | some u =>
            have := c3.rel.dom (b := T) (by rw [q]; rfl)
            rw [nT] at this; cases this
        exact .da (.tup (ct_of (bad_newT nA nS n0 upd_same) upd_same) (.cons (v1.mono (fz_newT nT)) (.cons (v2.mono (fz_newT nT)) .nil)))
  · rw [zipO_len]
    obtain ⟨xs, g1, g2⟩ := W1.stop H3 s
    obtain ⟨ys, g3, g4⟩ := W2.stop H3 s
    rw [hl1] at g2
    rw [hl2] at g4
    refine ⟨xs, ys, g1, g3, ?_⟩
    omega
  · rw [zipO_len] at h
    obtain ⟨xs, x, g1, g2⟩ := W1.goF hl A' S' H3 i f (by rw [hl1]; omega)
    obtain ⟨ys, y, g3, g4⟩ := W2.goF hl A' S' H3 i f (by rw [hl2]; omega)
    exact ⟨xs, ys, x, y, g1, g3, g2, g4⟩
  · rw [zipO_len] at h
    obtain ⟨T, x', y', rfl, nT, rfl, hx, hy⟩ := y
    obtain ⟨_, l8, d8, e8, _, D8⟩ := W1.yldF hl A' S' H3 i x' H3 f nf (by rw [hl1]; omega) ⟨rfl, hx⟩
    obtain ⟨_, l9, d9, e9, _, D9⟩ := W2.yldF hl A' S' H3 i y' H3 f nf (by rw [hl2]; omega) ⟨rfl, hy⟩
    obtain ⟨d, hd⟩ := at_some (xs := ds) (i := i) (by omega)
    obtain ⟨e, he⟩ := at_some (xs := es) (i := i) (by omega)
    have id := immAll_at i1 hd
    have ie := immAll_at i2 he
    rw [List.getElem?_map, hd] at e8
    rw [List.getElem?_map, he] at e9
    have e8 : relv (mk l d) = .da l8 d8 := Option.some.inj e8
    have e9 : relv (mk l e) = .da l9 d9 := Option.some.inj e9
    rw [relv_imm id] at e8
    rw [relv_imm ie] at e9
    injection e8 with e1 e2
    injection e9 with e3 e4
    rw [← e1, ← e2] at D8
    rw [← e3, ← e4] at D9
    have it : imm (.tuple [d, e]) = true := by simp [imm, immAll, id, ie]
    obtain ⟨nA, nS, n0⟩ := nf T nT
    refine ⟨Ex.new nT, .nw, .tuple [d, e], ?_, .inl rfl, .tup (ct_of (bad_newT nA nS n0 upd_same) upd_same) (.cons (D8.mono (fz_newT nT)) (.cons (D9.mono (fz_newT nT)) .nil))⟩
    rw [zipO_at hd he]
    show some (OV.da (nrm .loc (.tuple [d, e])) (.tuple [d, e])) = _
    unfold nrm
    rw [if_pos it]
  · rw [zipO_len]
    obtain ⟨xs, g1, g2⟩ := W1.stopF hl A' S' H3 f
    obtain ⟨ys, g3, g4⟩ := W2.stopF hl A' S' H3 f
    rw [hl1] at g2
    rw [hl2] at g4
    refine ⟨xs, ys, g1, g3, ?_⟩
    omega
theorem wk_zipT {H0 : Hp} {S0 A S : List Addr} {σ : L2.St} {H H2 : Hp} {env : Env} {a b : Addr} {l : Lv} {ds es : List PyData} (c : At K H0 S0 A S σ env H H2) (D1 : Da (fz H0 A S H H2 l) (.ref a) (.tuple ds)) (D2 : Da (fz H0 A S H H2 l) (.ref b) (.tuple es)) (i1 : immAll ds = true) (i2 : immAll es = true) : Wk K H0 A S H H2 (RZ.ItzT K a b) (decide (l ≠ .di)) (zipO ds es) := by
  have W1 := wk_tup c D1
  have W2 := wk_tup c D2
  have hl1 : (ds.map (mk l)).length = ds.length := List.length_map ..
  have hl2 : (es.map (mk l)).length = es.length := List.length_map ..
  refine ⟨fun i H3 h s => ?_, fun i H3 x H4 h s y => ?_, fun H3 s => ?_, fun hl A' S' H3 i f h => ?_, fun hl A' S' H3 i x H4 f nf h y => ?_, fun hl A' S' H3 f => ?_⟩
  · rw [zipO_len] at h
    obtain ⟨xs, x, g1, g2⟩ := W1.go i H3 (by rw [hl1]; omega) s
    obtain ⟨ys, y, g3, g4⟩ := W2.go i H3 (by rw [hl2]; omega) s
    exact ⟨xs, ys, x, y, g1, g3, g2, g4⟩
  · rw [zipO_len] at h
    obtain ⟨T, x', y', rfl, nT, rfl, hx, hy⟩ := y
    obtain ⟨_, o1, eo1, vo1⟩ := W1.yld i H3 x' H3 (by rw [hl1]; omega) s ⟨rfl, hx⟩
    obtain ⟨_, o2, eo2, vo2⟩ := W2.yld i H3 y' H3 (by rw [hl2]; omega) s ⟨rfl, hy⟩
    obtain ⟨d, hd⟩ := at_some (xs := ds) (i := i) (by omega)
    obtain ⟨e, he⟩ := at_some (xs := es) (i := i) (by omega)
    have id := immAll_at i1 hd
    have ie := immAll_at i2 he
    rw [List.getElem?_map, hd] at eo1
    rw [List.getElem?_map, he] at eo2
    cases eo1
    cases eo2
    refine ⟨Ex.new nT, _, zipO_at hd he, fun E o' hE hL ek => ?_⟩
    have it : imm (.tuple [d, e]) = true := by simp [imm, immAll, id, ie]
    have ek : some (OV.da (nrm .loc (.tuple [d, e])) (.tuple [d, e])) = some o' := ek
    have en : nrm .loc (.tuple [d, e]) = .nw := by unfold nrm; rw [if_pos it]
    rw [en] at ek
    cases ek
    have c3 := c.go s
    obtain ⟨ys, eE⟩ := hL
    have nTE : E ≠ T := fun z => by rw [z, nT] at eE; cases eE
    have v1 := vo1 E _ hE ⟨ys, eE⟩ (keep_mk l d)
    have v2 := vo2 E _ hE ⟨ys, eE⟩ (keep_mk l e)
    have k1 : kl l d = .nw := by unfold kl; rw [if_pos id]
    have k2 : kl l e = .nw := by unfold kl; rw [if_pos ie]
    rw [k1] at v1
    rw [k2] at v2
    cases v1 with
    | da v1 =>
      cases v2 with
      | da v2 =>
        have nA : T ∉ E :: A := fun z => by
          rcases List.mem_cons.mp z with w | w
          · exact nTE w.symm
          · obtain ⟨_, e⟩ := lo_some (c3.rel.loA T w)
            rw [nT] at e; cases e
        have nS : T ∉ S := fun z => by
          obtain ⟨_, e⟩ := lo_some (c3.rel.lo T (.inr z))
          rw [nT] at e; cases e
        have n0 : H0 T = none := by
          cases q : H0 T with
          | none => rfl
          | some u =>
            have := c3.rel.dom (b := T) (by rw [q]; rfl)
            rw [nT] at this; cases this
        exact .da (.tup (ct_of (bad_newT nA nS n0 upd_same) upd_same) (.cons (v1.mono (fz_newT nT)) (.cons (v2.mono (fz_newT nT)) .nil)))
  · rw [zipO_len]
    obtain ⟨xs, g1, g2⟩ := W1.stop H3 s
    obtain ⟨ys, g3, g4⟩ := W2.stop H3 s
    rw [hl1] at g2
    rw [hl2] at g4
    refine ⟨xs, ys, g1, g3, ?_⟩
    omega
  · rw [zipO_len] at h
    obtain ⟨xs, x, g1, g2⟩ := W1.goF hl A' S' H3 i f (by rw [hl1]; omega)
    obtain ⟨ys, y, g3, g4⟩ := W2.goF hl A' S' H3 i f (by rw [hl2]; omega)
    exact ⟨xs, ys, x, y, g1, g3, g2, g4⟩
  · rw [zipO_len] at h
    obtain ⟨T, x', y', rfl, nT, rfl, hx, hy⟩ := y
    obtain ⟨_, l8, d8, e8, _, D8⟩ := W1.yldF hl A' S' H3 i x' H3 f nf (by rw [hl1]; omega) ⟨rfl, hx⟩
    obtain ⟨_, l9, d9, e9, _, D9⟩ := W2.yldF hl A' S' H3 i y' H3 f nf (by rw [hl2]; omega) ⟨rfl, hy⟩
    obtain ⟨d, hd⟩ := at_some (xs := ds) (i := i) (by omega)
    obtain ⟨e, he⟩ := at_some (xs := es) (i := i) (by omega)
    have id := immAll_at i1 hd
    have ie := immAll_at i2 he
    rw [List.getElem?_map, hd] at e8
    rw [List.getElem?_map, he] at e9
    have e8 : relv (mk l d) = .da l8 d8 := Option.some.inj e8
    have e9 : relv (mk l e) = .da l9 d9 := Option.some.inj e9
    rw [relv_imm id] at e8
    rw [relv_imm ie] at e9
    injection e8 with e1 e2
    injection e9 with e3 e4
    rw [← e1, ← e2] at D8
    rw [← e3, ← e4] at D9
    have it : imm (.tuple [d, e]) = true := by simp [imm, immAll, id, ie]
    obtain ⟨nA, nS, n0⟩ := nf T nT
    refine ⟨Ex.new nT, .nw, .tuple [d, e], ?_, .inl rfl, .tup (ct_of (bad_newT nA nS n0 upd_same) upd_same) (.cons (D8.mono (fz_newT nT)) (.cons (D9.mono (fz_newT nT)) .nil))⟩
    rw [zipO_at hd he]
    show some (OV.da (nrm .loc (.tuple [d, e])) (.tuple [d, e])) = _
    unfold nrm
    rw [if_pos it]
  · rw [zipO_len]
    obtain ⟨xs, g1, g2⟩ := W1.stopF hl A' S' H3 f
    obtain ⟨ys, g3, g4⟩ := W2.stopF hl A' S' H3 f
    rw [hl1] at g2
    rw [hl2] at g4
    refine ⟨xs, ys, g1, g3, ?_⟩
    omega
/-- two lists, or two tuples -/
def zpF (l : Lv) (d e : PyData) (R : Bool → List OV → Prop) : Prop := match d, e with
  | .list ds, .list es => immAll ds = true ∧ immAll es = true ∧ R (decide (l ≠ .di)) (zipO ds es)
  | .tuple ds, .tuple es => immAll ds = true ∧ immAll es = true ∧ R (decide (l ≠ .di)) (zipO ds es)
  | _, _ => False
def iZp (a b : EX K) : IX K where
  ti := fun E => RZ.iZipA K (tCons (a.te E) (tCons (b.te E) tNil))
  wp := fun env R X => a.wp env (fun o => b.wp env (fun p => rd2 o p fun l d e => zpF l d e R) X) X
  ok := fun {E H0 S0 A S σ H env R X} r h hX Q q => a.ok r h hX _ fun x H2 o hb s2 ho => b.ok (r.step s2) hb (fun C H3 hC s => hX C H3 hC (s2.trans s)) _ fun y H3 p hb3 s3 hp => by
    have c : At K H0 S0 A S σ env H H3 := ⟨r, s2.trans s3⟩
    obtain ⟨l, d, e, h1, D1, D2⟩ := rd2_of c (ho.step ⟨r, s2⟩ s3) (hp.back ⟨r, s2⟩ s3) hb3
    unfold zpF at h1
    split at h1
    · obtain ⟨j1, j2, h1⟩ := h1
      obtain ⟨u, xs, rfl, e1⟩ : ∃ u xs, x = .ref u ∧ H3 u = some (.lst xs) := by
        cases D1 with
        | lst k1 k2 => exact ⟨_, _, rfl, fz_le _ _ k1⟩
      obtain ⟨v, ys, rfl, e2⟩ : ∃ v ys, y = .ref v ∧ H3 v = some (.lst ys) := by
        cases D2 with
        | lst k1 k2 => exact ⟨_, _, rfl, fz_le _ _ k1⟩
      exact ⟨u, v, xs, ys, rfl, .inl ⟨SqL.of e1, SqL.of e2, q _ H3 _ _ h1 c.s (wk_zipL c D1 D2 j1 j2)⟩⟩
    · obtain ⟨j1, j2, h1⟩ := h1
      obtain ⟨u, xs, rfl, e1⟩ : ∃ u xs, x = .ref u ∧ H3 u = some (.tup xs) := by
        cases D1 with
        | tup k1 k2 => exact ⟨_, _, rfl, fz_le _ _ k1⟩
      obtain ⟨v, ys, rfl, e2⟩ : ∃ v ys, y = .ref v ∧ H3 v = some (.tup ys) := by
        cases D2 with
        | tup k1 k2 => exact ⟨_, _, rfl, fz_le _ _ k1⟩
      exact ⟨u, v, xs, ys, rfl, .inr ⟨SqT.of e1, SqT.of e2, q _ H3 _ _ h1 c.s (wk_zipT c D1 D2 j1 j2)⟩⟩
    · exact h1.elim
theorem w_iZp (a b : EX K) (env : Env) (R : Bool → List OV → Prop) (X : Addr → Prop) : (iZp a b).wp env R X = a.wp env (fun o => b.wp env (fun p => rd2 o p fun l d e => zpF l d e R) X) X := (rfl)
theorem zpF_l (l : Lv) (ds es : List PyData) (R : Bool → List OV → Prop) : zpF l (.list ds) (.list es) R = (immAll ds = true ∧ immAll es = true ∧ R (decide (l ≠ .di)) (zipO ds es)) := (rfl)
theorem zpF_t (l : Lv) (ds es : List PyData) (R : Bool → List OV → Prop) : zpF l (.tuple ds) (.tuple es) R = (immAll ds = true ∧ immAll es = true ∧ R (decide (l ≠ .di)) (zipO ds es)) := (rfl)
end
/-! ### a call inside a comprehension -/
theorem pe_xCall {K : PySem.W.Frag} {X : Cx} {CX : CXT} {k : Nat} {f : Addr} {fd : FuncData} {ps : List Str} {n : Nat} {F : FnW} {a : AX K} {E : XK} {ds : List Value} {x : Str} {p pos : Pos} {e : Expr} {es : List Expr}
    (Fo : FnOk X.prog X.w X.K X.mg X.base CX k f fd ps (spF K n F)) (hr : Room k X.A) (hg : Gl X x) (hm : X.mg x = some (.ref f)) (hk : PySem.W.keepIn X.K (.ref f) = true) (hb : L2.Binds X.K fd ps ds) (hd : Vals [] ds) (hx : Passes CX X E0) (ha : PA X (e :: es) (a.ta E))
    (hdb : (x == Str.ofString "__debug__") = false := by rfl) (he : starEach (e :: es) X.env = (false, eval e X.env) :: starEach es X.env := by rfl) (hpl : ((backTo pos (starEach es X.env)).any fun x => x.fst) = false := by rfl) :
    PE X ((Expr.Name x p).Call (e :: es) [] pos) ((xCall n F a).te E) := pe_call Fo hr hg hm hk hb hd hx ha hdb he hpl
/-! ### a pair is returned, of lists of the def's own too -/
section
variable {K : PySem.W.Frag}
theorem vr_new {H0 H1 H2 : Hp} {S0 A S : List Addr} {σ : L2.St} {env : Env} {o : OV} {v : V} {d : PyData} (c : At K H0 S0 A S σ env H1 H2) (h : VR K H0 A S H1 H2 o v) (hl : o.loc = true) (e : o.d = some d) : Da (fz H0 [] S0 H0 H2 .nw) v d := by
  rcases h with ⟨rfl, _⟩ | ⟨B, hB, h⟩
  · cases e
  · exact own_new c.r.nA (fun b hb => c.r.dom hb) hB hl h e
def ret2F (o p : OV) (k : OV → Prop) : Prop := match o.d, p.d with
  | some d, some e => o.loc = true ∧ p.loc = true ∧ k (.da .nw (.tuple [d, e]))
  | _, _ => False
/-- return (a, b) -/
def sRet2 (a b : EX K) : SX K where
  ts := fun E => tRet ((xTup (xCons a (xCons b xNil))).te E)
  wp := fun env P => a.wp env (fun o => b.wp env (fun p => ret2F o p P.rt) P.xc) P.xc
  ok := fun {E H0 S0 A S σ H env P D} r n h c => a.ok r h (c.ex r) _ fun x H2 o hb s2 ho => b.ok (r.step s2) hb (fun C H3 hC s => c.ex r C H3 hC (s2.trans s)) _ fun y H3 p hb3 s3 hp => by
    have c3 : At K H0 S0 A S σ env H H3 := ⟨r, s2.trans s3⟩
    unfold ret2F at hb3
    split at hb3
    · rename_i d e ed ee
      obtain ⟨l1, l2, hk⟩ := hb3
      have v1 := vr_new c3 (ho.step ⟨r, s2⟩ s3) l1 ed
      have v2 := vr_new c3 (hp.back ⟨r, s2⟩ s3) l2 ee
      refine ⟨by show 2 ≤ sizeLine; decide, fun t nt => ?_⟩
      have st : Step S H3 (upd H3 t (.tup [x, y])) := .ex (Ex.new nt)
      have n0 : H0 t = none := by
        cases q : H0 t with
        | none => rfl
        | some u =>
          have := c3.rel.dom (b := t) (by rw [q]; rfl)
          rw [nt] at this; cases this
      have up : Ex (fz H0 [] S0 H0 H3 .nw) (fz H0 [] S0 H0 (upd H3 t (.tup [x, y])) .nw) := ct_ex fun b u hb e => by
        have nb : b ≠ t := fun z => by rw [z, nt] at e; cases e
        refine ⟨?_, by rw [upd_ne nb]; exact e⟩
        simp only [bad, upd_ne nb] at hb ⊢
        exact hb
      refine c.rt (.ref t) _ (.da .nw (.tuple [d, e])) hk ((c3.go st).rel.step0) ?_
      show Da (fz H0 [] S0 H0 _ .nw) (.ref t) (.tuple [d, e])
      refine .tup (ct_of ?_ upd_same) (.cons (v1.mono up) (.cons (v2.mono up) .nil))
      simp [bad, n0]
    · exact hb3.elim
theorem w_ret2 (a b : EX K) (env : Env) (P : Post) : (sRet2 a b).wp env P = a.wp env (fun o => b.wp env (fun p => ret2F o p P.rt) P.xc) P.xc := (rfl)
theorem ret2_lsI (u v : List Int) (k : OV → Prop) : ret2F (.ls (u.map fun w => .da .nw (.int w))) (.ls (v.map fun w => .da .nw (.int w))) k = k (.da .nw (.tuple [dW u, dW v])) := by
  have d1 : ∀ u : List Int, OV.d (.ls (u.map fun w => .da .nw (.int w))) = some (dW u) := fun u => by simp only [OV.d, ds_ints]; rfl
  have l1 : ∀ u : List Int, OV.loc (.ls (u.map fun w => .da .nw (.int w))) = true := fun u => by simp only [OV.loc]; exact locs_ints u
  unfold ret2F
  rw [d1, d1]
  simp only [l1, true_and]
end
/-! ### slices of ints -/
section
theorem cutI_to {α : Type} (xs : List α) (k : Nat) (hk : k ≤ xs.length) : cutI xs none (some (k : Int)) = xs.take k := by
  unfold cutI
  rw [HT.sIx_none, HT.sIx_nat, Nat.min_eq_left hk]
  rfl
theorem cutI_from {α : Type} (xs : List α) (k : Nat) (hk : k ≤ xs.length) : cutI xs (some (k : Int)) none = xs.drop k := by
  unfold cutI
  rw [HT.sIx_none, HT.sIx_nat, Nat.min_eq_left hk]
  exact List.take_of_length_le (by rw [List.length_drop]; exact Nat.le_refl _)
theorem cut_ints_to (ws : List Int) (k : Nat) (hk : k ≤ ws.length) : cutI (ws.map PyData.int) none (some (k : Int)) = (ws.take k).map .int := by
  rw [cutI_to _ _ (by rw [List.length_map]; exact hk), List.map_take]
theorem cut_ints_from (ws : List Int) (k : Nat) (hk : k ≤ ws.length) : cutI (ws.map PyData.int) (some (k : Int)) none = (ws.drop k).map .int := by
  rw [cutI_from _ _ (by rw [List.length_map]; exact hk), List.map_drop]
theorem cut_ints_from1 (ws : List Int) (k : Nat) (hk : k < ws.length) : cutI (ws.map PyData.int) (some ((k : Int) + 1)) none = (ws.drop (k + 1)).map .int := cut_ints_from ws (k + 1) hk
theorem map_app (xs ys : List Int) : xs.map PyData.int ++ ys.map PyData.int = (xs ++ ys).map .int := List.map_append.symm
theorem map_app1 (xs : List Int) (y : Int) : xs.map PyData.int ++ [.int y] = (xs ++ [y]).map .int := by rw [List.map_append]; rfl
theorem set_eq (r : List Int) (k : Nat) (x : Int) (hk : k < r.length) : r.take k ++ [x] ++ r.drop (k + 1) = r.set k x := by
  rw [List.set_eq_take_append_cons_drop, if_pos hk]
  simp
theorem rd2_lsI {l m : Lv} {ws : List Int} {e : PyData} {k : Lv → PyData → PyData → Prop} : rd2 (.ls (ws.map fun w => .da l (.int w))) (.da m e) k = k (Lv.di.sup m) (dW ws) e := by
  unfold rd2
  rw [rd_lsI]
  rfl
theorem rd2_lsIr {l m : Lv} {ws : List Int} {e : PyData} {k : Lv → PyData → PyData → Prop} : rd2 (.da m e) (.ls (ws.map fun w => .da l (.int w))) k = k (m.sup .di) e (dW ws) := by
  show (rd (.ls (ws.map fun w => .da l (.int w))) fun m' e' => k (m.sup m') e e') = _
  rw [rd_lsI]
end
/-! ### numbered items, from any number -/
section
variable {K : PySem.W.Frag}
/-- the items of the list at a in new pairs, numbered from z -/
def Itk (K : PySem.W.Frag) (a : Addr) (z : Int) : It where
  go := (Ite K a).go
  yld := fun i H v G => ∃ T x, v = .ref T ∧ H T = none ∧ G = upd H T (.tup [.int (z + (i : Int)), x]) ∧ ∀ xs, SqL K H a xs → xs[i]? = some x
  stop := (Ite K a).stop
theorem enum_far {h : Heap} {a e t : Addr} {i c : Int} {u : Value} {its : Array Value} {n : Nat} (h1 : IsEnum h e t c u) (h2 : h.IsListIter t a n) (p : h.IsList a its) : a ≠ e ∧ a ≠ t := by
  obtain ⟨o, g1, _, m, g2⟩ := p
  obtain ⟨o2, g3, _, g4⟩ := h2
  refine ⟨fun q => ?_, fun q => ?_⟩
  · rw [q] at g1
    have := g1.symm.trans h1
    cases this
    cases g2
  · rw [q] at g1
    have := g1.symm.trans g3
    cases this
    rw [g2] at g4
    cases g4
theorem turn_from {P : Program} {w : World} {els : List Expr} {kn : Nat} {tp : Pos} (a e t : Addr) (z : Int) :
    Turn P w K (.Tuple els kn tp) (Itk K a z) [e, t] e (fun i h => (∃ u, IsEnum h e t (z + (i : Int)) u) ∧ h.IsListIter t a i ∧ e ≠ t) where
  mem := List.mem_cons_self
  obj := fun i h st b hb => by
    obtain ⟨⟨u, h1⟩, ⟨o, h2, _, h3⟩, _⟩ := st
    rcases List.mem_cons.mp hb with c | c
    · rw [c]
      refine ⟨_, h1, fun v q => ?_⟩
      cases q
    · exact ⟨o, by rw [List.mem_singleton.mp c]; exact h2, fun v q => by rw [h3] at q; cases q⟩
  keep := fun i h g st k => by
    obtain ⟨⟨u, h1⟩, h2, h3⟩ := st
    exact ⟨⟨u, k e List.mem_cons_self _ h1⟩, h2.at fun o q => k t (List.mem_cons_of_mem _ List.mem_cons_self) o q, h3⟩
  item := by
    rintro X rfl rfl rfl hc i pins s σ H E I hf ⟨⟨u, h1⟩, h2, h3⟩ ⟨xs, x, hq, hx⟩
    obtain ⟨its, rv, p, hz⟩ := I.list hq
    obtain ⟨y, hu, ru⟩ := rv.get hx
    have le : e < s.heap.objs.size := Heap.lt_size h1
    have lt : t < s.heap.objs.size := (let ⟨_, q, _⟩ := h2; Heap.lt_size q)
    obtain ⟨nea, nta⟩ := enum_far (i := 0) h1 h2 p.isList
    have hlt : i < its.toArray.size := by
      rw [List.size_toArray]
      exact (List.getElem?_eq_some_iff.mp hu).1
    refine wpAny_pyNext_enum_itemC (Draws.list (A := X.A.in1) (show X.A.in1.handled = none from I.ok.hd hc) t a nta its.toArray) h1 ⟨h2, p.isList⟩ hlt h3 (fun q => ?_) fun v G tk hv out st hT hsz hk => ?_
    · rcases List.mem_cons.mp q with c | c
      · exact h3 c
      · exact nea (List.mem_singleton.mp c).symm
    have hv : v = y := by
      have : its.toArray[i]? = some y := by simpa using hu
      rw [this] at hv
      exact (Option.some.inj hv).symm
    subst hv
    refine ⟨_, rfl, wpAny_letOwnedTupleGo_enum (s := { s with heap := G, toks := tk + 1 }) out fun G2 he2 sb => ?_⟩
    have hT2 : G2.get? s.heap.objs.size = _ := (sb.2 _ (Nat.ne_of_gt le)).trans hT
    have new : ObjOk X.prog X.w (upd H s.heap.objs.size (.tup [.int (z + (i : Int)), x])) G2 s.heap.objs.size (.tup [.int (z + (i : Int)), x]) :=
      ⟨(by decide : 2 ≤ sizeLine), [.int (z + (i : Int)) tk, v], .cons ⟨_, rfl⟩ (.cons ru .nil), ⟨_, hT2, rfl, _, rfl⟩⟩
    have I2 := I.turnedNew (h' := G2) (t' := tk + 1) (ch := [e, t]) (fun b o hb q => (sb.2 b (fun c => hb (by rw [c]; exact List.mem_cons_self))).trans (hk b o (fun c => hb (by rw [c]; exact List.mem_cons_self)) (fun c => hb (by rw [c]; exact List.mem_cons_of_mem _ List.mem_cons_self)) q)) hf (Nat.le_refl _) new
    refine ⟨.ref s.heap.objs.size, _, I2, rfl, ⟨_, x, rfl, I.hok.fresh (Nat.le_refl _), rfl, fun ys hy => ?_⟩, ⟨⟨v, ?_⟩, st.1.at fun o q => (sb.2 t (fun c => h3 c.symm)).trans q, h3⟩, fun b hb => ?_⟩
    · rw [I.list_inj hy hq]; exact hx
    · have c : z + ((i + 1 : Nat) : Int) = z + (i : Int) + 1 := by omega
      rw [c]
      exact he2
    · have lb : b < s.heap.objs.size := by
        rcases List.mem_cons.mp hb with c | c
        · rw [c]; exact le
        · rw [List.mem_singleton.mp c]; exact lt
      rw [upd_ne (Nat.ne_of_lt lb)]
      exact (hf b hb).1
  done := by
    rintro X rfl rfl rfl hc i pins s σ H E I hf ⟨⟨u, h1⟩, h2, h3⟩ ⟨xs, hq, hx⟩
    obtain ⟨its, rv, p, hz⟩ := I.list hq
    obtain ⟨nea, nta⟩ := enum_far (i := 0) h1 h2 p.isList
    obtain ⟨k0, k1, k2, k3, k4, k5⟩ := hf t (List.mem_cons_of_mem _ List.mem_cons_self)
    have hn : its.toArray[i]? = none := by
      have := rv.length
      rw [List.getElem?_toArray, List.getElem?_eq_none (by omega)]
    have D : Draws X.prog X.w X.A.in1 t [t, a] i (fun _ _ => True) (fun j h => j = i ∧ h.IsListIter t a i ∧ h.IsList a its.toArray) :=
      ⟨fun _ _ c => (let ⟨o, ho, _⟩ := c.2.1; ⟨o, ho⟩), fun _ _ _ c k => ⟨c.1, c.2.1.at fun o q => k t List.mem_cons_self o q, c.2.2.at fun o q => k a (List.mem_cons_of_mem _ List.mem_cons_self) o q⟩, fun j _ _ _ hj c _ => absurd c.1 (Nat.ne_of_lt hj), fun _ _ _ c hE => wpAny_nextOf_list_end (show X.A.in1.handled = none from I.ok.hd hc) c.2.1 c.2.2 hn hE⟩
    exact wpAny_pyNext_enum_endD D h1 ⟨rfl, h2, p.isList⟩ fun G eb => ⟨rfl, I.turned (t' := s.toks) (fun b o hb q => eb b o hb q) k0 k1 k3 k4 k5⟩
  self := fun A i s Q E st h => by
    obtain ⟨⟨_, h1⟩, _⟩ := st
    exact wpAny_pyIter_enum h1 h
def iEnumK (K : PySem.W.Frag) (ta tk : TA) : TI := fun σ H R => ta σ H fun vs H1 => tk σ H1 fun zs H2 => ∃ a xs z, vs = [.ref a] ∧ zs = [.int z] ∧ SqL K H2 a xs ∧ -(2 ^ 63) ≤ z ∧ z < 2 ^ 63 ∧ R (Itk K a z) H2
theorem pi_enumK {X : Cx} {e c : Expr} {ta tk : TA} {p pos tp cp : Pos} {els : List Expr} {kn : Nat} (hg : Gl X "enumerate") (hm : X.mg "enumerate" = none) (ha : PA X [e] ta) (hc : PK X [⟨some "start", c, cp⟩] tk)
    (he : starEach [e] X.env = [(false, eval e X.env)] := by rfl) :
    PI X (.Tuple els kn tp) (.Call (.Name "enumerate" p) [e] [⟨some "start", c, cp⟩] pos) (iEnumK X.K ta tk) := by
  refine ⟨fun pins s σ H R I h => wpAny_Call_Name_kw (ld_blt I hg hm boot_enumerate ?_)⟩
  refine PySem.W.callWith_of (P := fun _ => True) (by rw [he]; rfl) (fun h _ => ⟨.machine, .inr (.inl rfl), PySem.W.Looks.of_pure rfl⟩) (evalArgs_kw2 (by rfl) (thn (ha.run pos pins s σ H _ I h) fun us s1 q1 => ?_) he)
  obtain ⟨vs, H1, I1, r1, q1⟩ := q1
  refine thn (hc.run pos pins s1 σ H1 _ I1 q1) fun ws s2 q2 => ⟨trivial, ?_⟩
  obtain ⟨zs, H2, I2, r2, a, xs, z, rfl, rfl, hq, z0, z1, q2⟩ := q2
  cases r1 with
  | cons r rr =>
    cases rr
    cases r
    cases r2 with
    | cons k kk =>
      cases kk
      obtain ⟨t, rfl⟩ := k
      obtain ⟨its, rv, pl, hz⟩ := I2.list hq
      refine enum_begins_start (begins_list a its.toArray) pl.isList z0 z1 fun G h1 h2 h3 h4 => wpAny_pyIter_enum h1 ?_
      have I3 := I2.kept (t' := s2.toks) h4
      refine ⟨s2.heap.objs.size + 1, [s2.heap.objs.size + 1, s2.heap.objs.size], _, _, H2, rfl, I3, turn_from a (s2.heap.objs.size + 1) s2.heap.objs.size z, ⟨⟨.none, ?_⟩, ⟨_, h2, rfl, rfl⟩, Nat.succ_ne_self _⟩, fun b hb => ?_, q2⟩
      · have e0 : z + ((0 : Nat) : Int) = z := by omega
        rw [e0]; exact h1
      · have lb : s2.heap.objs.size ≤ b := by
          rcases List.mem_cons.mp hb with c | c
          · rw [c]; exact Nat.le_succ _
          · rw [List.mem_singleton.mp c]; exact Nat.le_refl _
        exact I2.fpOk lb (I2.hok.fresh lb)
end
/-! ### numbered from any number, in the calculus -/
section
variable {K : PySem.W.Frag}
def enZ (z : Int) (ds : List PyData) : List PyData := ds.mapIdx fun i d => .tuple [.int (z + (i : Int)), d]
theorem enZ_len (z : Int) (ds : List PyData) : (enZ z ds).length = ds.length := List.length_mapIdx
theorem enZ_at {z : Int} {ds : List PyData} {i : Nat} {d : PyData} (h : ds[i]? = some d) : (enZ z ds)[i]? = some (.tuple [.int (z + (i : Int)), d]) := by
  unfold enZ
  rw [List.getElem?_mapIdx, h]
  rfl
theorem wk_enumZ (z : Int) {H0 : Hp} {S0 A S : List Addr} {σ : L2.St} {H H2 : Hp} {env : Env} {a : Addr} {l : Lv} {ds : List PyData} (c : At K H0 S0 A S σ env H H2) (D : Da (fz H0 A S H H2 l) (.ref a) (.list ds)) : Wk K H0 A S H H2 (Itk K a z) (decide (l ≠ .di)) ((enZ z ds).map (mk l)) := by
  have W := wk_list c D
  have hlen : (ds.map (mk l)).length = ds.length := List.length_map ..
  have hlen2 : ((enZ z ds).map (mk l)).length = ds.length := by rw [List.length_map, enZ_len]
  refine ⟨fun i H3 h s => ?_, fun i H3 x H4 h s y => ?_, fun H3 s => ?_, fun hl A' S' H3 i f h => ?_, fun hl A' S' H3 i x H4 f nf h y => ?_, fun hl A' S' H3 f => ?_⟩
  · rw [hlen2] at h
    exact W.go i H3 (by rw [hlen]; exact h) s
  · rw [hlen2] at h
    obtain ⟨T, x', rfl, nT, rfl, hx⟩ := y
    obtain ⟨_, o, eo, vo⟩ := W.yld i H3 x' H3 (by rw [hlen]; exact h) s ⟨rfl, hx⟩
    obtain ⟨d, hd⟩ := at_some (xs := ds) h
    rw [List.getElem?_map, hd] at eo
    cases eo
    refine ⟨Ex.new nT, _, by rw [List.getElem?_map, enZ_at hd]; rfl, fun E o' hE hl ek => ?_⟩
    rw [keep_mk, kl_pair] at ek
    cases ek
    have c3 := c.go s
    obtain ⟨ys, eE⟩ := hl
    have nTE : E ≠ T := fun z => by rw [z, nT] at eE; cases eE
    have he := vo E _ hE ⟨ys, eE⟩ (keep_mk l d)
    cases he with
    | da he =>
      have nA : T ∉ E :: A := fun z => by
        rcases List.mem_cons.mp z with w | w
        · exact nTE w.symm
        · obtain ⟨_, e⟩ := lo_some (c3.rel.loA T w)
          rw [nT] at e; cases e
      have nS : T ∉ S := fun z => by
        obtain ⟨_, e⟩ := lo_some (c3.rel.lo T (.inr z))
        rw [nT] at e; cases e
      have n0 : H0 T = none := by
        cases q : H0 T with
        | none => rfl
        | some u =>
          have := c3.rel.dom (b := T) (by rw [q]; rfl)
          rw [nT] at this; cases this
      exact .da (.tup (ct_of (bad_newT nA nS n0 upd_same) upd_same) (.cons (.int _) (.cons (he.mono (fz_newT nT)) .nil)))
  · rw [hlen2, ← hlen]
    exact W.stop H3 s
  · rw [hlen2] at h
    exact W.goF hl A' S' H3 i f (by rw [hlen]; exact h)
  · rw [hlen2] at h
    obtain ⟨T, x', rfl, nT, rfl, hx⟩ := y
    obtain ⟨_, l9, d9, e9, hl9, D9⟩ := W.yldF hl A' S' H3 i x' H3 f nf (by rw [hlen]; exact h) ⟨rfl, hx⟩
    obtain ⟨d, hd⟩ := at_some (xs := ds) h
    rw [List.getElem?_map, hd] at e9
    obtain ⟨l', e1, e2⟩ := relv_mk l d
    have e9 : relv (mk l d) = .da l9 d9 := Option.some.inj e9
    rw [e1] at e9
    injection e9 with e3 e4
    obtain ⟨l2, f1, f2⟩ := relv_mk l (.tuple [.int (z + (i : Int)), d])
    rw [nrm_pair, ← e2, e3] at f2
    rw [← e4] at D9
    subst f2
    obtain ⟨nA, nS, n0⟩ := nf T nT
    refine ⟨Ex.new nT, l2, .tuple [.int (z + (i : Int)), d], by rw [List.getElem?_map, enZ_at hd]; exact congrArg some f1, hl9, .tup (ct_of (bad_newT nA nS n0 upd_same) upd_same) (.cons (.int _) (.cons (D9.mono (fz_newT nT)) .nil))⟩
  · rw [hlen2, ← hlen]
    exact W.stopF hl A' S' H3 f
def enFz (z : Int) (o : OV) (R : Bool → List OV → Prop) : Prop := match o with
  | .da l (.list ds) => R (decide (l ≠ .di)) ((enZ z ds).map (mk l))
  | _ => False
/-- enumerate(.., start=z) of a list -/
def iEnS (a : EX K) (z : Int) : IX K where
  ti := fun E => iEnumK K (tCons (a.te E) tNil) (tCons ((xInt z : EX K).te E) tNil)
  wp := fun env R X => a.wp env (fun o => (-1000000 ≤ z ∧ z ≤ 1000000) ∧ enFz z o R) X
  ok := fun {E H0 S0 A S σ H env R X} r h hX Q q => a.ok r h hX _ fun x H2 o hb s2 ho => by
    obtain ⟨⟨hz0, hz1⟩, hb⟩ := hb
    have c : At K H0 S0 A S σ env H H2 := ⟨r, s2⟩
    rcases ho with ⟨rfl, _⟩ | ⟨B, hB, ho⟩
    · exact hb.elim
    unfold enFz at hb
    split at hb
    · cases ho with
      | @da _ _ _ k =>
        obtain ⟨p, xs, rfl, e⟩ : ∃ p xs, x = .ref p ∧ H2 p = some (.lst xs) := by
          cases k with
          | lst k1 k2 => exact ⟨_, _, rfl, fz_le _ _ k1⟩
        exact ⟨p, xs, z, rfl, rfl, SqL.of e, by omega, by omega, q _ H2 _ _ hb s2 (wk_enumZ z c k)⟩
    · exact hb.elim
theorem w_iEnS (a : EX K) (z : Int) (env : Env) (R : Bool → List OV → Prop) (X : Addr → Prop) : (iEnS a z).wp env R X = a.wp env (fun o => (-1000000 ≤ z ∧ z ≤ 1000000) ∧ enFz z o R) X := (rfl)
theorem enFz_l (z : Int) (l : Lv) (ds : List PyData) (R : Bool → List OV → Prop) : enFz z (.da l (.list ds)) R = R (decide (l ≠ .di)) ((enZ z ds).map (mk l)) := (rfl)
end
/-! ### a new list put at the end of a list of the def's own -/
section
variable {K : PySem.W.Frag}
mutual
theorem Own.uniq {F F' : Lv → Hp} {S S' : List Addr} {H H' : Hp} : ∀ {o : OV} {v : V} {A B : List Addr}, Own K F S H o v A → Own K F' S' H' o v B → (∀ b ∈ A, ∀ u, H b = some u → H' b = some u) → A = B
  | .da _ _, _, _, _, h, g, _ => by cases h; cases g; rfl
  | .fn _, _, _, _, h, g, _ => by cases h; cases g; rfl
  | .ns, _, _, _, h, _, _ => by cases h
  | .sc _, _, _, _, h, g, _ => by cases h; cases g; rfl
  | .st, _, _, _, h, g, _ => by cases h; cases g; rfl
  | .ls xs, _, _, _, h, g, k => by
    cases h with
    | ls h1 h2 h3 =>
      cases g with
      | ls g1 g2 g3 =>
        have e := k _ List.mem_cons_self _ h1
        rw [g1] at e
        cases e
        rw [OwnAll.uniq h2 g2 fun b hb => k b (List.mem_cons_of_mem _ hb)]
theorem OwnAll.uniq {F F' : Lv → Hp} {S S' : List Addr} {H H' : Hp} : ∀ {os : List OV} {vs : List V} {A B : List Addr}, OwnAll K F S H os vs A → OwnAll K F' S' H' os vs B → (∀ b ∈ A, ∀ u, H b = some u → H' b = some u) → A = B
  | [], _, _, _, h, g, _ => by cases h; cases g; rfl
  | o :: os, _, _, _, h, g, k => by
    cases h with
    | cons a b c =>
      cases g with
      | cons a' b' c' =>
        rw [Own.uniq a a' fun x hx => k x (List.mem_append_left _ hx), OwnAll.uniq b b' fun x hx => k x (List.mem_append_right _ hx)]
end
/-- x.append(e), e a new list that the def changes -/
def sAppendO (i : Nat) (e : EX K) : SX K where
  ts := fun E => tDrop (tBM K "list" rAppend (tVar i) (tCons (e.te E) tNil))
  wp := fun env P => onLs env i fun xs => e.wp env (fun o => xs.length < 100000 ∧ ownF o fun ys => P.nx (env.set i (some (.ls (xs ++ [.ls ys]))))) P.xc
  ok := fun {E H0 S0 A S σ H env P D} r n h c => by
    obtain ⟨xs, he, h⟩ := onLs_of h
    obtain ⟨a, vs, Bx, h1, h2, h3, aA, aB, hBA, _⟩ := Rel.mut r.at' n he
    refine ⟨.ref a, h1, .inl ⟨rfl, _, SqL.of h2⟩, e.ok r h (c.ex r) _ fun v H2 o ho s2 vr => ?_⟩
    obtain ⟨hz, ho⟩ := ho
    have c2 : At K H0 S0 A S σ env H H2 := ⟨r, s2⟩
    unfold ownF at ho
    split at ho
    · rename_i ds
      rcases vr with ⟨z, _⟩ | ⟨B, hB, vr⟩
      · cases z
      · cases vr with
        | da vr =>
          obtain ⟨p, rfl⟩ : ∃ p, v = .ref p := by cases vr; exact ⟨_, rfl⟩
          obtain ⟨us, n1, e2, k⟩ := own_items c2 vr
          have pA : p ∉ A := fun z => by
            obtain ⟨_, q⟩ := lo_some (r.lo p (.inl z))
            rw [n1] at q; cases q
          have pa : p ≠ a := fun z => pA (z ▸ aA)
          have rD := r.addD s2 n1 e2
          obtain ⟨a', vs', B', g1, g2, g3, gA, gB, gBA, hm⟩ := Rel.mut c2 n he
          rw [h1] at g1
          cases g1
          have ea := s2.kp a _ (r.dis a aA) h2
          rw [g2] at ea
          cases ea
          have eB : Bx = B' := OwnAll.uniq h3 g3 fun b hb u eu => s2.kp b u (r.dis b (hBA b hb)) eu
          subst eB
          have hx : OV.nds xs = true := by
            have := n.at' he
            simpa [OV.nd] using this
          have hlo : isLo (H2 a) = true := by rw [g2]; rfl
          have hS : ∀ s ∈ S, isLo (H2 s) = true := fun s hs => (rD.str s hs).lo
          have aS : a ∉ S := r.dis a aA
          have lift : ∀ l, l ≠ .di → Ex (fz H0 (p :: A) S H2 H2 l) (fz H0 (p :: A) S (upd H2 a (.lst (vs ++ [V.ref p]))) (upd H2 a (.lst (vs ++ [V.ref p]))) l) := fun l hl => fz_mut hS (List.mem_cons_of_mem _ aA) hlo hl
          have m0 := h3.mono2 (F' := fz H0 (p :: A) S H2 H2) (H' := H2) (fun l _ => fz_addD r n1 s2 l) (fun _ h => h) hx fun b hb u eu => s2.kp b u (r.dis b (hBA b hb)) eu
          have m1 := m0.mono2 (H' := upd H2 a (.lst (vs ++ [V.ref p]))) lift (fun _ h => h) hx fun b hb u eu => by
            rw [upd_ne (ne_mem hb gB)]; exact eu
          have m2 := (own_all_da (fun v d h => h.nrm) k : OwnAll K (fz H0 (p :: A) S H2 H2) S H2 _ us []).mono2 (H' := upd H2 a (.lst (vs ++ [V.ref p]))) lift (fun _ h => h) (map_nd ds) fun b hb => (List.not_mem_nil hb).elim
          have ep : (upd H2 a (.lst (vs ++ [V.ref p]))) p = some (.lst us) := by rw [upd_ne pa]; exact e2
          have pB : ∀ b ∈ Bx, b ∉ [p] := fun b hb z => pA (List.mem_singleton.mp z ▸ hBA b hb)
          obtain ⟨B2, b1, b2⟩ := OwnAll.app m1 (.ls ep m2 List.not_mem_nil) pB
          have b1 : OwnAll K (fz H0 ([p] ++ A) S (upd H2 a (.lst (vs ++ [V.ref p]))) (upd H2 a (.lst (vs ++ [V.ref p])))) S (upd H2 a (.lst (vs ++ [V.ref p]))) (xs ++ [.ls (ds.map fun d => .da (nrm .loc d) d)]) (vs ++ [V.ref p]) B2 := b1
          obtain ⟨r3, f3⟩ := hm (upd H2 a (.lst (vs ++ [V.ref p]))) (xs ++ [.ls (ds.map fun d => .da (nrm .loc d) d)]) (vs ++ [V.ref p]) B2 [p] (fun b o _ nb _ e => by rw [upd_ne nb]; exact e) (fun s hs => by
            obtain ⟨x, y, z, e⟩ := rD.str s hs
            exact ⟨x, y, z, by rw [upd_ne (ne_mem hs aS)]; exact e⟩) upd_same (fun b hb => by
            rw [upd_ne (ne_mem hb gB)]
            exact rD.lo b (.inl (List.mem_cons_of_mem _ (gBA b hb)))) (fun q hq => by
            rw [List.mem_singleton.mp hq]
            exact ⟨n1, by rw [ep]; rfl⟩) b1 (fun z => (b2 a z).elim gB fun w => pa (List.mem_singleton.mp w).symm) b2
          exact ⟨a, vs, .ref p, rfl, rfl, g2, szl (by rw [own_len h3]; exact hz), c.nx _ S σ _ _ r3 (n.setls (nds_append hx (by simp only [OV.nds, OV.nd, Bool.and_true]; exact map_nd ds))) f3 ho⟩
    · exact ho.elim
theorem w_appO (i : Nat) (e : EX K) (env : Env) (P : Post) : (sAppendO i e).wp env P = onLs env i fun xs => e.wp env (fun o => xs.length < 100000 ∧ ownF o fun ys => P.nx (env.set i (some (.ls (xs ++ [.ls ys]))))) P.xc := (rfl)
theorem w_appAt (i : Nat) (j e : EX K) (env : Env) (P : Post) : (sAppendAt i j e).wp env P = onLs env i fun xs => j.wp env (fun q => rd q fun _ d => match d with
    | .int z => match ixN xs.length z with
      | some k => match xs[k]? with
        | some (.ls ys) => e.wp env (fun o => ys.length < 100000 ∧ itemF o fun o' => P.nx (env.set i (some (.ls (xs.set k (.ls (ys ++ [o']))))))) P.xc
        | _ => False
      | none => False
    | _ => False) P.xc := (rfl)
theorem pt_xval {X : Cx} {e : Expr} {a : EX K} {E : XK} (h : PE X e (a.te E)) (he : ∀ whole, isTrue e X.env whole = (do let v ← whole; standAt e.pos; holding [v] (truthy v)) := by intro _; rfl) : PT X e ((tB' a).tt E) := pt_val h he
end
/-! ### records: the numbers of a word's letters, each where its letter makes the table grow -/
def grw : List (List Int) → List Int → List Nat
  | _, [] => []
  | t, x :: w => insN t x :: grw (ins t x) w
def rAdd (rc : List (List Int)) (n : Nat) (k : Int) : List (List Int) := if n = rc.length then rc ++ [[k]] else rc.set n (rc.getD n [] ++ [k])
def rcF : List (List Int) → Int → List Nat → List (List Int)
  | rc, _, [] => rc
  | rc, k, n :: ns => rcF (rAdd rc n k) (k + 1) ns
def rcd (w : List Int) : List (List Int) := rcF [] 1 (grw [] w)
theorem grw_len : ∀ (w : List Int) (t : List (List Int)), (grw t w).length = w.length
  | [], _ => rfl
  | x :: w, t => by show (grw (ins t x) w).length + 1 = w.length + 1; rw [grw_len w]
theorem grw_app : ∀ (u v : List Int) (t : List (List Int)), grw t (u ++ v) = grw t u ++ grw (u.foldl ins t) v
  | [], _, _ => rfl
  | x :: u, v, t => by show insN t x :: grw (ins t x) (u ++ v) = _; rw [grw_app u v]; rfl
theorem rcF_app : ∀ (a b : List Nat) (rc : List (List Int)) (k : Int), rcF rc k (a ++ b) = rcF (rcF rc k a) (k + (a.length : Int)) b
  | [], b, rc, k => by
    have : k + (([] : List Nat).length : Int) = k := by simp
    rw [this]; rfl
  | n :: a, b, rc, k => by
    have : k + ((n :: a).length : Int) = k + 1 + (a.length : Int) := by rw [List.length_cons]; omega
    rw [this]
    exact rcF_app a b (rAdd rc n k) (k + 1)
theorem rcd_app (u v : List Int) : rcd (u ++ v) = rcF (rcd u) (1 + (u.length : Int)) (grw (tab u) v) := by
  unfold rcd
  rw [grw_app, rcF_app, grw_len]
  rfl
theorem rcd_snoc (u : List Int) (x : Int) : rcd (u ++ [x]) = rAdd (rcd u) (insN (tab u) x) (1 + (u.length : Int)) := by
  rw [rcd_app]
  rfl
theorem rcd_take {w : List Int} {i : Nat} {x : Int} (h : w[i]? = some x) : rcd (w.take (i + 1)) = rAdd (rcd (w.take i)) (insN (tab (w.take i)) x) (1 + (i : Int)) := by
  have hl : i < w.length := (List.getElem?_eq_some_iff.mp h).1
  rw [List.take_add_one, h]
  show rcd (w.take i ++ [x]) = _
  rw [rcd_snoc, List.length_take, Nat.min_eq_left (Nat.le_of_lt hl)]
theorem rAdd_len (rc : List (List Int)) (n : Nat) (k : Int) : (rAdd rc n k).length = if n = rc.length then rc.length + 1 else rc.length := by
  unfold rAdd
  split
  · rw [List.length_append]; rfl
  · rw [List.length_set]
theorem rAdd_at {rc : List (List Int)} {n : Nat} {k : Int} (h : n ≤ rc.length) (j : Nat) : (rAdd rc n k).getD j [] = if j = n then rc.getD n [] ++ [k] else rc.getD j [] := by
  unfold rAdd
  rw [List.getD_eq_getElem?_getD, List.getD_eq_getElem?_getD, List.getD_eq_getElem?_getD]
  by_cases c : n = rc.length
  · rw [if_pos c, List.getElem?_append]
    by_cases d : j = n
    · rw [if_pos d, if_neg (by omega), d, c]
      rw [List.getElem?_eq_none (Nat.le_refl _)]
      simp
    · rw [if_neg d]
      by_cases e : j < rc.length
      · rw [if_pos e]
      · rw [if_neg e, List.getElem?_eq_none (by simp; omega), List.getElem?_eq_none (by omega)]
  · rw [if_neg c, List.getElem?_set]
    by_cases d : j = n
    · rw [if_pos d, if_pos d.symm, if_pos (by omega)]
      rfl
    · rw [if_neg d, if_neg fun z => d z.symm]
theorem lens_ext {fs gs : List (List Int)} (h : fs.length = gs.length) (g : ∀ k, rl fs k = rl gs k) : lensN fs = lensN gs := by
  refine List.ext_getElem (by rw [List.length_map, List.length_map, h]) fun k h1 h2 => ?_
  rw [List.length_map] at h1 h2
  rw [List.getElem_map, List.getElem_map]
  have := g k
  unfold rl at this
  rw [List.getD_eq_getElem?_getD, List.getD_eq_getElem?_getD, List.getElem?_eq_getElem h1, List.getElem?_eq_getElem h2] at this
  exact this
theorem lens_at {fs gs : List (List Int)} (h : lensN fs = lensN gs) : fs.length = gs.length ∧ ∀ k, rl fs k = rl gs k := by
  have h1 : fs.length = gs.length := by
    have := congrArg List.length h
    rw [List.length_map, List.length_map] at this
    exact this
  refine ⟨h1, fun k => ?_⟩
  have e : ∀ us : List (List Int), rl us k = (lensN us).getD k 0 := fun us => by
    unfold rl
    rw [List.getD_eq_getElem?_getD, List.getD_eq_getElem?_getD, List.getElem?_map]
    cases us[k]? <;> rfl
  rw [e, e, h]
/-- the record has the shape of the table -/
theorem rcd_lens (w : List Int) : lensN (rcd w) = lensN (tab w) := by
  have h : ∀ i, i ≤ w.length → lensN (rcd (w.take i)) = lensN (tab (w.take i)) := fun i => by
    induction i with
    | zero => intro _; rfl
    | succ i ih =>
      intro hi
      have c : w[i]? = some w[i] := List.getElem?_eq_getElem (by omega)
      obtain ⟨i1, i2⟩ := lens_at (ih (by omega))
      have hle : insN (tab (w.take i)) w[i] ≤ (rcd (w.take i)).length := by rw [i1]; exact insN_le _ _
      rw [rcd_take c, tab_take c]
      refine lens_ext ?_ fun k => ?_
      · rw [rAdd_len, ins_length, i1]
      · show ((rAdd _ _ _).getD k []).length = _
        rw [rAdd_at hle]
        show _ = ((ins _ _).getD k []).length
        rw [ins_len]
        have := i2 k
        unfold rl at this
        by_cases d : k = insN (tab (w.take i)) w[i]
        · rw [if_pos d, if_pos d, List.length_append, ← d, this]; rfl
        · rw [if_neg d, if_neg d, this]; rfl
  have := h w.length (Nat.le_refl _)
  rw [List.take_length] at this
  exact this
/-- two numbers exchanged -/
def swp (p k : Int) : Int := if k = p then p + 1 else if k = p + 1 then p else k
def exR (p : Int) (rc : List (List Int)) : List (List Int) := rc.map (List.map (swp p))
theorem exR_at (p : Int) (rc : List (List Int)) (n : Nat) : (exR p rc).getD n [] = (rc.getD n []).map (swp p) := by
  unfold exR
  rw [List.getD_eq_getElem?_getD, List.getD_eq_getElem?_getD, List.getElem?_map]
  cases rc[n]? <;> rfl
theorem exR_len (p : Int) (rc : List (List Int)) : (exR p rc).length = rc.length := List.length_map ..
theorem exR_add (p : Int) (rc : List (List Int)) (n : Nat) (k : Int) : exR p (rAdd rc n k) = rAdd (exR p rc) n (swp p k) := by
  have hl := exR_len p rc
  have ha := exR_at p rc n
  unfold rAdd
  by_cases c : n = rc.length
  · rw [if_pos c, if_pos (by rw [hl]; exact c)]
    unfold exR
    rw [List.map_append]
    rfl
  · rw [if_neg c, if_neg (by rw [hl]; exact c), ha]
    unfold exR
    rw [List.map_set, List.map_append]
    rfl
theorem exR_rcF {p : Int} : ∀ (ns : List Nat) (rc : List (List Int)) (k : Int), p + 1 < k → exR p (rcF rc k ns) = rcF (exR p rc) k ns
  | [], _, _, _ => rfl
  | n :: ns, rc, k, h => by
    show exR p (rcF (rAdd rc n k) (k + 1) ns) = rcF (rAdd (exR p rc) n k) (k + 1) ns
    rw [exR_rcF ns _ _ (by omega), exR_add]
    have : swp p k = k := by unfold swp; rw [if_neg (by omega), if_neg (by omega)]
    rw [this]
theorem exR_low {p : Int} {rc : List (List Int)} (h : ∀ r ∈ rc, ∀ z ∈ r, z < p) : exR p rc = rc := by
  unfold exR
  refine (List.map_congr_left fun r hr => ?_).trans (List.map_id _)
  refine (List.map_congr_left fun z hz => ?_).trans (List.map_id _)
  have := h r hr z hz
  show swp p z = z
  unfold swp
  rw [if_neg (by omega), if_neg (by omega)]
theorem rAdd_low {rc : List (List Int)} {n : Nat} {k m : Int} (hk : k < m) (h : ∀ r ∈ rc, ∀ z ∈ r, z < m) : ∀ r ∈ rAdd rc n k, ∀ z ∈ r, z < m := fun r hr z hz => by
  unfold rAdd at hr
  split at hr
  · rcases List.mem_append.mp hr with c | c
    · exact h r c z hz
    · rw [List.mem_singleton.mp c] at hz
      rw [List.mem_singleton.mp hz]; exact hk
  · rcases List.mem_or_eq_of_mem_set hr with c | c
    · exact h r c z hz
    · rw [c] at hz
      rcases List.mem_append.mp hz with d | d
      · by_cases e : n < rc.length
        · exact h _ (gdr_mem e) z d
        · rw [List.getD_eq_getElem?_getD, List.getElem?_eq_none (by omega)] at d
          cases d
      · rw [List.mem_singleton.mp d]; exact hk
theorem rcF_low : ∀ (ns : List Nat) (rc : List (List Int)) (k : Int), (∀ r ∈ rc, ∀ z ∈ r, z < k) → ∀ r ∈ rcF rc k ns, ∀ z ∈ r, z < k + (ns.length : Int)
  | [], rc, k, h => fun r hr z hz => by have := h r hr z hz; simp; exact this
  | n :: ns, rc, k, h => fun r hr z hz => by
    have := rcF_low ns (rAdd rc n k) (k + 1) (rAdd_low (by omega) fun r hr z hz => by have := h r hr z hz; omega) r hr z hz
    rw [List.length_cons]
    omega
theorem rcd_low (w : List Int) : ∀ r ∈ rcd w, ∀ z ∈ r, z < 1 + (w.length : Int) := fun r hr z hz => by
  have := rcF_low (grw [] w) [] 1 (fun r hr => (by cases hr)) r hr z hz
  rw [grw_len] at this
  exact this
/-- rows that a table may grow by -/
def Val : Nat → List Nat → Prop
  | _, [] => True
  | l, n :: ns => n ≤ l ∧ Val (if n = l then l + 1 else l) ns
theorem grw_val : ∀ (w : List Int) (t : List (List Int)), Val t.length (grw t w)
  | [], _ => trivial
  | x :: w, t => ⟨insN_le t x, by have := grw_val w (ins t x); rw [ins_length] at this; exact this⟩
theorem rAdd_comm {rc : List (List Int)} {a b : Nat} (k m : Int) (hab : a ≠ b) (ha : a ≤ rc.length) (hb : b ≤ rc.length) : rAdd (rAdd rc a k) b m = rAdd (rAdd rc b m) a k := by
  have la := rAdd_len rc a k
  have lb := rAdd_len rc b m
  have ha' : a ≤ (rAdd rc b m).length := by rw [lb]; split <;> omega
  have hb' : b ≤ (rAdd rc a k).length := by rw [la]; split <;> omega
  refine ext_getD (d := []) ?_ fun j _ => ?_
  · rw [rAdd_len (rAdd rc a k), rAdd_len (rAdd rc b m), la, lb]
    by_cases c : a = rc.length
    · have d : b ≠ rc.length := fun z => hab (c.trans z.symm)
      simp only [if_pos c, if_neg d]
      rw [if_neg (by omega)]
    · simp only [if_neg c]
      by_cases d : b = rc.length
      · simp only [if_pos d]
        rw [if_neg (by omega)]
      · simp only [if_neg d]
        rw [if_neg c]
  · rw [rAdd_at hb', rAdd_at ha', rAdd_at ha, rAdd_at hb, rAdd_at ha, rAdd_at hb, if_neg hab.symm, if_neg hab]
    by_cases c : j = a
    · rw [if_pos c, if_neg (by omega), if_pos c]
    · by_cases d : j = b
      · rw [if_pos d, if_neg c, if_pos d]
      · simp only [if_neg c, if_neg d]
theorem rcF_exch {rc : List (List Int)} {k : Int} {a b : Nat} {ns : List Nat} (hk : ∀ r ∈ rc, ∀ z ∈ r, z < k) (hab : a ≠ b) (ha : a ≤ rc.length) (hb : b ≤ rc.length) : exR k (rcF rc k (a :: b :: ns)) = rcF rc k (b :: a :: ns) := by
  show exR k (rcF (rAdd (rAdd rc a k) b (k + 1)) (k + 1 + 1) ns) = rcF (rAdd (rAdd rc b k) a (k + 1)) (k + 1 + 1) ns
  rw [exR_rcF _ _ _ (by omega), exR_add, exR_add, exR_low hk]
  have e1 : swp k k = k + 1 := if_pos rfl
  have e2 : swp k (k + 1) = k := by unfold swp; rw [if_neg (by omega), if_pos rfl]
  rw [e1, e2, rAdd_comm _ _ hab ha hb]
theorem g3_tab {t : List (List Int)} (h : IsT t) (x y z : Int) : g3 true t x y z = ins (ins (ins t x) y) z ∧ n3 true t x y z = (insN t x, insN (ins t x) y, insN (ins (ins t x) y) z) := by
  have h1 := ins_T (x := x) h
  have h2 := ins_T (x := y) h1
  have e1 := gi_ins (x := x) h
  have e2 := gi_ins (x := y) h1
  have e3 := gi_ins (x := z) h2
  unfold g3 n3
  rw [e1.1, e1.2, e2.1, e2.2, e3.1, e3.2]
  exact ⟨rfl, rfl⟩
/-- what a move does to the table and the record -/
theorem mv_rec {p s : List Int} {a b c d e f : Int} (h : Mv3 true a b c d e f) : tab (p ++ [a, b, c] ++ s) = tab (p ++ [d, e, f] ++ s) ∧
    ∃ i : Int, (i = (p.length : Int) + 1 ∨ i = (p.length : Int) + 2) ∧ exR i (rcd (p ++ [a, b, c] ++ s)) = rcd (p ++ [d, e, f] ++ s) ∧ exR i (rcd (p ++ [d, e, f] ++ s)) = rcd (p ++ [a, b, c] ++ s) := by
  have hT := tab_T p
  obtain ⟨g1, g2⟩ := mv3 hT.ords h
  have e1 := g3_tab hT a b c
  have e2 := g3_tab hT d e f
  rw [e1.1, e2.1] at g1
  rw [e1.2, e2.2] at g2
  have tb : ∀ x y z : Int, tab (p ++ [x, y, z] ++ s) = s.foldl ins (ins (ins (ins (tab p) x) y) z) := fun x y z => by
    unfold tab
    rw [List.foldl_append, List.foldl_append]
    rfl
  have rb : ∀ x y z : Int, rcd (p ++ [x, y, z] ++ s) = rcF (rcd p) (1 + (p.length : Int)) (insN (tab p) x :: insN (ins (tab p) x) y :: insN (ins (ins (tab p) x) y) z :: grw (ins (ins (ins (tab p) x) y) z) s) := fun x y z => by
    rw [List.append_assoc, rcd_app]
    rfl
  have hl := (lens_at (rcd_lens p)).1
  have v1 := grw_val [a, b, c] (tab p)
  have v2 := grw_val [d, e, f] (tab p)
  refine ⟨by rw [tb, tb, g1], ?_⟩
  rw [rb, rb, g1]
  rw [← hl] at v1 v2
  simp only [grw, Val] at v1 v2
  generalize insN (ins (ins (tab p) a) b) c = n3 at *
  generalize insN (ins (ins (tab p) d) e) f = m3 at *
  generalize insN (ins (tab p) a) b = n2 at *
  generalize insN (ins (tab p) d) e = m2 at *
  generalize insN (tab p) a = n1 at *
  generalize insN (tab p) d = m1 at *
  rcases g2 with ⟨q1, q2, q3, q4⟩ | ⟨q1, q2, q3, q4⟩
  · dsimp only at q1 q2 q3 q4
    subst q1 q2 q3
    refine ⟨(p.length : Int) + 2, .inr rfl, ?_⟩
    have hk : ∀ r ∈ rAdd (rcd p) n1 (1 + (p.length : Int)), ∀ z ∈ r, z < (p.length : Int) + 2 := rAdd_low (by omega) fun r hr z hz => by have := rcd_low p r hr z hz; omega
    have ek : (1 + (p.length : Int)) + 1 = (p.length : Int) + 2 := by omega
    have l1 := rAdd_len (rcd p) n1 (1 + (p.length : Int))
    show exR _ (rcF (rAdd (rcd p) n1 _) (1 + (p.length : Int) + 1) _) = rcF (rAdd (rcd p) n1 _) (1 + (p.length : Int) + 1) _ ∧ exR _ (rcF (rAdd (rcd p) n1 _) (1 + (p.length : Int) + 1) _) = rcF (rAdd (rcd p) n1 _) (1 + (p.length : Int) + 1) _
    rw [ek]
    exact ⟨rcF_exch hk q4 (by rw [l1]; exact v1.2.1) (by rw [l1]; exact v2.2.1), rcF_exch hk q4.symm (by rw [l1]; exact v2.2.1) (by rw [l1]; exact v1.2.1)⟩
  · dsimp only at q1 q2 q3 q4
    subst q1 q2 q3
    refine ⟨(p.length : Int) + 1, .inl rfl, ?_⟩
    have ek : 1 + (p.length : Int) = (p.length : Int) + 1 := by omega
    rw [ek]
    have hk : ∀ r ∈ rcd p, ∀ z ∈ r, z < (p.length : Int) + 1 := fun r hr z hz => by have := rcd_low p r hr z hz; omega
    exact ⟨rcF_exch hk q4 v1.1 v2.1, rcF_exch hk q4.symm v2.1 v1.1⟩
/-! ### families by holders: which list has each letter -/
/-- may y come behind x in a list that rises (s = true) or falls -/
def rsf (s : Bool) (x y : Int) : Prop := if s = true then x ≤ y else y < x
abbrev Hs := List (Option Nat)
abbrev Cl := Int × Option Nat
def RR (s : Bool) (u v : Cl) : Prop := u.2 = v.2 → u.2 ≠ none → rsf s u.1 v.1
def OkP (s : Bool) (l : List Cl) : Prop := l.Pairwise (RR s)
/-- two lists exchanged -/
def xch1 (a b : Nat) (q : Option Nat) : Option Nat := if q = some a then some b else if q = some b then some a else q
def xch (a b : Nat) (l : List Cl) : List Cl := l.map fun u => (u.1, xch1 a b u.2)
theorem xch1_inj {a b : Nat} {p q : Option Nat} (h : xch1 a b p = xch1 a b q) : p = q := by
  unfold xch1 at h
  repeat' split at h
  all_goals simp_all
theorem xch1_none {a b : Nat} {p : Option Nat} : xch1 a b p = none ↔ p = none := by
  unfold xch1
  repeat' split
  all_goals simp_all
theorem xch_ok {s : Bool} {a b : Nat} {l : List Cl} (h : OkP s l) : OkP s (xch a b l) := by
  unfold OkP xch
  rw [List.pairwise_map]
  exact h.imp fun {u v} g e n => g (xch1_inj e) fun z => n (xch1_none.mpr z)
theorem ok_app {s : Bool} {p q : List Cl} : OkP s (p ++ q) ↔ OkP s p ∧ OkP s q ∧ ∀ u ∈ p, ∀ v ∈ q, RR s u v := List.pairwise_append
theorem ok3 {s : Bool} {u v w : Cl} : OkP s [u, v, w] ↔ RR s u v ∧ RR s u w ∧ RR s v w := by
  unfold OkP
  simp only [List.pairwise_cons, List.mem_cons, List.not_mem_nil, or_false, forall_eq_or_imp, forall_eq, List.Pairwise.nil, and_true, false_imp_iff, implies_true]
  constructor
  · rintro ⟨⟨a, b⟩, c⟩; exact ⟨a, b, c⟩
  · rintro ⟨a, b, c⟩; exact ⟨⟨a, b⟩, c⟩
/-- the exchange of neighbors that are not in one list -/
theorem lead_sw {s : Bool} {p q : List Cl} {u v : Cl} (h : OkP s (p ++ u :: v :: q)) (hn : u.2 = none ∨ u.2 ≠ v.2) : OkP s (p ++ v :: u :: q) := by
  rw [ok_app] at h ⊢
  obtain ⟨h1, h2, h3⟩ := h
  have h2' : (∀ w ∈ v :: q, RR s u w) ∧ (∀ w ∈ q, RR s v w) ∧ OkP s q := by
    have := List.pairwise_cons.mp h2
    have g := List.pairwise_cons.mp this.2
    exact ⟨this.1, g.1, g.2⟩
  obtain ⟨a, b, c⟩ := h2'
  refine ⟨h1, List.pairwise_cons.mpr ⟨?_, List.pairwise_cons.mpr ⟨fun w hw => a w (List.mem_cons_of_mem _ hw), c⟩⟩, ?_⟩
  · intro w hw
    rcases List.mem_cons.mp hw with z | z
    · subst z
      intro e n
      rcases hn with k | k
      · exact absurd (e.trans k) n
      · exact absurd e.symm k
    · exact b w z
  · intro x hx w hw
    refine h3 x hx w ?_
    rcases List.mem_cons.mp hw with z | z
    · rw [z]; simp
    · rcases List.mem_cons.mp z with y | y
      · rw [y]; simp
      · simp [y]
theorem ok_mid {s : Bool} {p q : List Cl} {u v w : Cl} : OkP s (p ++ [u, v, w] ++ q) ↔ OkP s p ∧ OkP s q ∧ (RR s u v ∧ RR s u w ∧ RR s v w) ∧ (∀ x ∈ p, RR s x u ∧ RR s x v ∧ RR s x w) ∧ (∀ y ∈ q, RR s u y ∧ RR s v y ∧ RR s w y) ∧ ∀ x ∈ p, ∀ y ∈ q, RR s x y := by
  rw [ok_app, ok_app, ok3]
  constructor
  · rintro ⟨⟨a, b, c⟩, d, e⟩
    refine ⟨a, d, b, fun x hx => ⟨c x hx u (by simp), c x hx v (by simp), c x hx w (by simp)⟩, fun y hy => ⟨e u (by simp) y hy, e v (by simp) y hy, e w (by simp) y hy⟩, fun x hx y hy => e x (by simp [hx]) y hy⟩
  · rintro ⟨a, d, b, c, e, f⟩
    refine ⟨⟨a, b, fun x hx y hy => ?_⟩, d, fun x hx y hy => ?_⟩
    · simp only [List.mem_cons, List.not_mem_nil, or_false] at hy
      rcases hy with rfl | rfl | rfl
      · exact (c x hx).1
      · exact (c x hx).2.1
      · exact (c x hx).2.2
    · simp only [List.mem_append, List.mem_cons, List.not_mem_nil, or_false] at hx
      rcases hx with hx | rfl | rfl | rfl
      · exact f x hx y hy
      · exact (e y hy).1
      · exact (e y hy).2.1
      · exact (e y hy).2.2
theorem xch1_a {a b : Nat} {q : Option Nat} : xch1 a b q = some a ↔ q = some b := by
  have e : xch1 a b (some b) = some a := by unfold xch1; by_cases c : b = a <;> simp [c]
  exact ⟨fun h => xch1_inj (h.trans e.symm), fun h => by rw [h, e]⟩
theorem xch1_b {a b : Nat} {q : Option Nat} : xch1 a b q = some b ↔ q = some a := by
  have e : xch1 a b (some a) = some b := by unfold xch1; simp
  exact ⟨fun h => xch1_inj (h.trans e.symm), fun h => by rw [h, e]⟩
def xchO (L : Nat) (t : Option Nat) (l : List Cl) : List Cl := match t with
  | none => l
  | some T => xch L T l
theorem xch1_o {a b : Nat} {q : Option Nat} (h : q ≠ some a) (g : q ≠ some b) : xch1 a b q = q := by
  unfold xch1
  rw [if_neg h, if_neg g]
/-- a left move of two letters of one list -/
theorem lead_l {s : Bool} {p q : List Cl} {a b c : Int} {L : Nat} {t : Option Nat} (h : OkP s (p ++ [(a, some L), (b, some L), (c, t)] ++ q)) (h1 : min a b ≤ c) (h2 : c < max a b) :
    OkP s (p ++ [(b, t), (a, some L), (c, some L)] ++ xchO L t q) := by
  rw [ok_mid] at h
  obtain ⟨hp, hq, ⟨m1, m2, m3⟩, hx, hy, hz⟩ := h
  have ab : rsf s a b := m1 rfl (by simp)
  have ne : t ≠ some L := fun z => by
    have := m3 z.symm (by simp)
    cases s <;> simp [rsf] at this ab <;> omega
  have ac : rsf s a c := by cases s <;> simp [rsf] at ab ⊢ <;> omega
  cases t with
  | none =>
    rw [ok_mid]
    refine ⟨hp, hq, ⟨fun e => by simp at e, fun e => by simp at e, fun _ _ => ac⟩, fun x hx' => ?_, fun y hy' => ?_, hz⟩
    · obtain ⟨x1, x2, x3⟩ := hx x hx'
      refine ⟨fun e n => absurd e n, x1, fun e n => ?_⟩
      have := x1 e n
      cases s <;> simp [rsf] at this ac ⊢ <;> omega
    · obtain ⟨y1, y2, y3⟩ := hy y hy'
      refine ⟨fun e n => by simp at n, y1, fun e n => ?_⟩
      have g := y2 e n
      cases s <;> simp [rsf] at g ac ab ⊢ <;> omega
  | some T =>
    have nT : T ≠ L := fun z => ne (by rw [z])
    rw [ok_mid]
    have bc : ∀ x : Int, rsf s x c → rsf s x b := fun x hx => by cases s <;> simp [rsf] at hx ab ⊢ <;> omega
    have cv : ∀ v : Int, rsf s b v → rsf s c v := fun x hx => by cases s <;> simp [rsf] at hx ab ⊢ <;> omega
    have tr : ∀ {x y z : Int}, rsf s x y → rsf s y z → rsf s x z := fun {x y z} g k => by cases s <;> simp [rsf] at g k ⊢ <;> omega
    refine ⟨hp, xch_ok hq, ⟨fun e => absurd (Option.some.inj e) nT, fun e => absurd (Option.some.inj e) nT, fun _ _ => ac⟩, fun x hx' => ?_, fun y0 hy0 => ?_, fun x hx' y0 hy0 => ?_⟩
    · obtain ⟨x1, x2, x3⟩ := hx x hx'
      exact ⟨fun e n => bc _ (x3 e n), x1, fun e n => tr (x1 e n) ac⟩
    · obtain ⟨y, hy', rfl⟩ := List.mem_map.mp hy0
      obtain ⟨y1, y2, y3⟩ := hy y hy'
      refine ⟨fun e n => ?_, fun e n => ?_, fun e n => ?_⟩
      · exact y2 (xch1_b.mp e.symm).symm (by simp)
      · exact tr ac (y3 (xch1_a.mp e.symm).symm (by simp))
      · exact y3 (xch1_a.mp e.symm).symm (by simp)
    · obtain ⟨y, hy', rfl⟩ := List.mem_map.mp hy0
      obtain ⟨y1, y2, y3⟩ := hy y hy'
      obtain ⟨x1, x2, x3⟩ := hx x hx'
      intro e n
      have e : x.2 = xch1 L T y.2 := e
      by_cases c1 : x.2 = some L
      · have := xch1_a.mp (e.symm.trans c1)
        exact tr (x1 c1 (by rw [c1]; simp)) (tr ac (y3 this.symm (by simp)))
      · by_cases c2 : x.2 = some T
        · have := xch1_b.mp (e.symm.trans c2)
          exact tr (bc _ (x3 c2 (by rw [c2]; simp))) (y2 this.symm (by simp))
        · have d1 : y.2 ≠ some L := fun z => c2 (e.trans (xch1_b.mpr z))
          have d2 : y.2 ≠ some T := fun z => c1 (e.trans (xch1_a.mpr z))
          rw [xch1_o d1 d2] at e
          exact hz x hx' y hy' e n
/-- a right move of two letters of one list -/
theorem lead_r {s : Bool} {p q : List Cl} {a b c : Int} {L : Nat} {t : Option Nat} (h : OkP s (p ++ [(a, t), (b, some L), (c, some L)] ++ q)) (h1 : min b c < a) (h2 : a ≤ max b c) :
    OkP s (xchO L t p ++ [(a, some L), (c, some L), (b, t)] ++ q) := by
  rw [ok_mid] at h
  obtain ⟨hp, hq, ⟨m1, m2, m3⟩, hx, hy, hz⟩ := h
  have bc : rsf s b c := m3 rfl (by simp)
  have ne : t ≠ some L := fun z => by
    have := m1 z (by rw [z]; simp)
    cases s <;> simp [rsf] at this bc <;> omega
  have ac : rsf s a c := by cases s <;> simp [rsf] at bc ⊢ <;> omega
  have tr : ∀ {x y z : Int}, rsf s x y → rsf s y z → rsf s x z := fun {x y z} g k => by cases s <;> simp [rsf] at g k ⊢ <;> omega
  have ba : ∀ x : Int, rsf s x b → rsf s x a := fun x hx => by cases s <;> simp [rsf] at hx bc ⊢ <;> omega
  have av : ∀ v : Int, rsf s a v → rsf s b v := fun x hx => by cases s <;> simp [rsf] at hx bc ⊢ <;> omega
  cases t with
  | none =>
    rw [ok_mid]
    refine ⟨hp, hq, ⟨fun _ _ => ac, fun e => by simp at e, fun e => by simp at e⟩, fun x hx' => ?_, fun y hy' => ?_, hz⟩
    · obtain ⟨x1, x2, x3⟩ := hx x hx'
      exact ⟨fun e n => ba _ (x2 e n), x3, fun e n => absurd e n⟩
    · obtain ⟨y1, y2, y3⟩ := hy y hy'
      exact ⟨fun e n => tr ac (y3 e n), y3, fun e n => by simp at n⟩
  | some T =>
    have nT : T ≠ L := fun z => ne (by rw [z])
    rw [ok_mid]
    refine ⟨xch_ok hp, hq, ⟨fun _ _ => ac, fun e => absurd (Option.some.inj e).symm nT, fun e => absurd (Option.some.inj e).symm nT⟩, fun x0 hx0 => ?_, fun y hy' => ?_, fun x0 hx0 y hy' => ?_⟩
    · obtain ⟨x, hx', rfl⟩ := List.mem_map.mp hx0
      obtain ⟨x1, x2, x3⟩ := hx x hx'
      refine ⟨fun e n => ?_, fun e n => ?_, fun e n => ?_⟩
      · exact x1 (xch1_a.mp e) (by rw [xch1_a.mp e]; simp)
      · exact tr (x1 (xch1_a.mp e) (by rw [xch1_a.mp e]; simp)) ac
      · exact x2 (xch1_b.mp e) (by rw [xch1_b.mp e]; simp)
    · obtain ⟨y1, y2, y3⟩ := hy y hy'
      exact ⟨fun e n => tr ac (y3 e n), y3, fun e n => av _ (y1 e n)⟩
    · obtain ⟨x, hx', rfl⟩ := List.mem_map.mp hx0
      obtain ⟨y1, y2, y3⟩ := hy y hy'
      obtain ⟨x1, x2, x3⟩ := hx x hx'
      intro e n
      have e : xch1 L T x.2 = y.2 := e
      by_cases c1 : y.2 = some L
      · have := xch1_a.mp (e.trans c1)
        exact tr (x1 this (by rw [this]; simp)) (tr ac (y3 c1.symm (by simp)))
      · by_cases c2 : y.2 = some T
        · have := xch1_b.mp (e.trans c2)
          exact tr (x2 this (by rw [this]; simp)) (av _ (y1 c2.symm (by simp)))
        · have d1 : x.2 ≠ some L := fun z => c2 (e.symm.trans (xch1_b.mpr z))
          have d2 : x.2 ≠ some T := fun z => c1 (e.symm.trans (xch1_a.mpr z))
          rw [xch1_o d1 d2] at e
          exact hz x hx' y hy' e (by rw [e]; intro z; rw [z] at e; exact n (xch1_none.mpr e))
/-! ### what a move does to holders -/
def gH (hs : Hs) (i : Nat) : Option Nat := hs.getD i none
def swH (hs : Hs) (i j : Nat) : Hs := (hs.set i (gH hs j)).set j (gH hs i)
/-- two lists exchanged from st up to en -/
def exH (hs : Hs) (st en a b : Nat) : Hs := hs.mapIdx fun i q => if st ≤ i ∧ i < en then xch1 a b q else q
def leadB (left : Bool) (i : Nat) (hs : Hs) : Hs :=
  if gH hs (if left then i else i + 1) = none ∨ gH hs (if left then i else i + 1) ≠ gH hs ((if left then i else i + 1) + 1) then swH hs (if left then i else i + 1) ((if left then i else i + 1) + 1)
  else swH (match gH hs (if left then i else i + 1), gH hs (if left then i + 2 else i) with
    | some L, some T => exH hs (if left then i + 3 else 0) (if left then hs.length else i) L T
    | _, _ => hs) i (i + 2)
theorem exH_len (hs : Hs) (st en a b : Nat) : (exH hs st en a b).length = hs.length := List.length_mapIdx
theorem swH_len (hs : Hs) (i j : Nat) : (swH hs i j).length = hs.length := by unfold swH; rw [List.length_set, List.length_set]
theorem leadB_len (left : Bool) (i : Nat) (hs : Hs) : (leadB left i hs).length = hs.length := by
  unfold leadB
  generalize (if left = true then i else i + 1) = a
  generalize (if left = true then i + 2 else i) = b
  by_cases c : gH hs a = none ∨ gH hs a ≠ gH hs (a + 1)
  · rw [if_pos c]; exact swH_len ..
  · rw [if_neg c, swH_len]
    split
    · exact exH_len ..
    · rfl
theorem gH_mid (p q : Hs) (x : Option Nat) : gH (p ++ x :: q) p.length = x := by
  unfold gH
  rw [List.getD_eq_getElem?_getD, List.getElem?_append_right (Nat.le_refl _)]
  simp
theorem gH3 (p q : Hs) (x y z : Option Nat) : gH (p ++ [x, y, z] ++ q) p.length = x ∧ gH (p ++ [x, y, z] ++ q) (p.length + 1) = y ∧ gH (p ++ [x, y, z] ++ q) (p.length + 2) = z := by
  have e1 := gH_mid p (y :: z :: q) x
  have e2 := gH_mid (p ++ [x]) (z :: q) y
  have e3 := gH_mid (p ++ [x, y]) q z
  refine ⟨?_, ?_, ?_⟩
  · simpa using e1
  · simpa using e2
  · simpa using e3
theorem setH (p q : Hs) (x y : Option Nat) : (p ++ x :: q).set p.length y = p ++ y :: q := by
  rw [List.set_append_right _ _ (Nat.le_refl _)]
  simp
theorem sw01 (p q : Hs) (x y z : Option Nat) : swH (p ++ [x, y, z] ++ q) p.length (p.length + 1) = p ++ [y, x, z] ++ q := by
  have g := gH3 p q x y z
  unfold swH
  rw [g.1, g.2.1]
  have e1 := setH p (y :: z :: q) x y
  have e2 := setH (p ++ [y]) (z :: q) y x
  simp only [List.append_assoc, List.cons_append, List.nil_append, List.length_append, List.length_singleton] at e1 e2 ⊢
  rw [e1, e2]
theorem sw12 (p q : Hs) (x y z : Option Nat) : swH (p ++ [x, y, z] ++ q) (p.length + 1) (p.length + 2) = p ++ [x, z, y] ++ q := by
  have e := sw01 (p ++ [x]) q y z none
  have g := gH3 p q x y z
  unfold swH
  rw [g.2.1, g.2.2]
  have e1 := setH (p ++ [x]) (z :: q) y z
  have e2 := setH (p ++ [x, z]) q z y
  simp only [List.append_assoc, List.cons_append, List.nil_append, List.length_append, List.length_cons, List.length_nil, Nat.zero_add, Nat.reduceAdd] at e1 e2 ⊢
  rw [e1, e2]
theorem sw02 (p q : Hs) (x y z : Option Nat) : swH (p ++ [x, y, z] ++ q) p.length (p.length + 2) = p ++ [z, y, x] ++ q := by
  have g := gH3 p q x y z
  unfold swH
  rw [g.1, g.2.2]
  have e1 := setH p (y :: z :: q) x z
  have e2 := setH (p ++ [z, y]) q z x
  simp only [List.append_assoc, List.cons_append, List.nil_append, List.length_append, List.length_cons, List.length_nil, Nat.zero_add, Nat.reduceAdd] at e1 e2 ⊢
  rw [e1, e2]
theorem exH_at (hs : Hs) (st en a b i : Nat) : (exH hs st en a b)[i]? = hs[i]?.map fun q => if st ≤ i ∧ i < en then xch1 a b q else q := List.getElem?_mapIdx
theorem exH_hi (p q : Hs) (a b : Nat) : exH (p ++ q) p.length (p ++ q).length a b = p ++ q.map (xch1 a b) := by
  refine List.ext_getElem? fun i => ?_
  rw [exH_at, List.length_append]
  by_cases c : i < p.length
  · rw [List.getElem?_append_left c, List.getElem?_append_left c]
    cases h : p[i]? with
    | none => rfl
    | some u => simp only [Option.map_some]; rw [if_neg (by omega)]
  · rw [List.getElem?_append_right (by omega), List.getElem?_append_right (by omega), List.getElem?_map]
    cases h : q[i - p.length]? with
    | none => rfl
    | some u =>
      have := (List.getElem?_eq_some_iff.mp h).1
      simp only [Option.map_some]; rw [if_pos (by omega)]
theorem exH_lo (p q : Hs) (a b : Nat) : exH (p ++ q) 0 p.length a b = p.map (xch1 a b) ++ q := by
  refine List.ext_getElem? fun i => ?_
  rw [exH_at]
  by_cases c : i < p.length
  · rw [List.getElem?_append_left c, List.getElem?_append_left (by rw [List.length_map]; exact c), List.getElem?_map]
    cases h : p[i]? with
    | none => rfl
    | some u => simp only [Option.map_some]; rw [if_pos (by omega)]
  · rw [List.getElem?_append_right (by omega), List.getElem?_append_right (by rw [List.length_map]; omega), List.length_map]
    cases h : q[i - p.length]? with
    | none => rfl
    | some u => simp only [Option.map_some]; rw [if_neg (by omega)]
theorem xch_zip (a b : Nat) (w : List Int) (hs : Hs) : xch a b (w.zip hs) = w.zip (hs.map (xch1 a b)) := by
  unfold xch
  rw [List.zip_map_right]
  rfl
def xchH (L : Nat) (t : Option Nat) (l : Hs) : Hs := match t with
  | none => l
  | some T => l.map (xch1 L T)
theorem xchO_zip (a : Nat) (t : Option Nat) (w : List Int) (hs : Hs) : xchO a t (w.zip hs) = w.zip (xchH a t hs) := by
  cases t with
  | none => rfl
  | some T => exact xch_zip ..
theorem xchH_len (L : Nat) (t : Option Nat) (l : Hs) : (xchH L t l).length = l.length := by
  cases t <;> simp [xchH]
theorem lead_left (p q : Hs) (x y z : Option Nat) : leadB true p.length (p ++ [x, y, z] ++ q) = if x = none ∨ x ≠ y then p ++ [y, x, z] ++ q else match x with
    | some L => p ++ [z, y, x] ++ xchH L z q
    | none => [] := by
  have g := gH3 p q x y z
  unfold leadB
  simp only [if_true]
  rw [g.1, g.2.1, g.2.2]
  by_cases c : x = none ∨ x ≠ y
  · rw [if_pos c, if_pos c, sw01]
  · rw [if_neg c, if_neg c]
    cases x with
    | none => exact absurd (.inl rfl) c
    | some L =>
      cases z with
      | none => exact sw02 ..
      | some T =>
        have e : exH (p ++ [some L, y, some T] ++ q) (p.length + 3) (p ++ [some L, y, some T] ++ q).length L T = p ++ [some L, y, some T] ++ q.map (xch1 L T) := by
          have := exH_hi (p ++ [some L, y, some T]) q L T
          simpa using this
        show swH (exH _ _ _ _ _) _ _ = _
        rw [e, sw02]
        rfl
theorem lead_right (p q : Hs) (x y z : Option Nat) : leadB false p.length (p ++ [x, y, z] ++ q) = if y = none ∨ y ≠ z then p ++ [x, z, y] ++ q else match y with
    | some L => xchH L x p ++ [z, y, x] ++ q
    | none => [] := by
  have g := gH3 p q x y z
  unfold leadB
  simp only [Bool.false_eq_true, if_false]
  rw [g.1, g.2.1, g.2.2]
  by_cases c : y = none ∨ y ≠ z
  · rw [if_pos c, if_pos c, sw12]
  · rw [if_neg c, if_neg c]
    cases y with
    | none => exact absurd (.inl rfl) c
    | some L =>
      cases x with
      | none => exact sw02 ..
      | some T =>
        have e : exH (p ++ [some T, some L, z] ++ q) 0 p.length L T = p.map (xch1 L T) ++ [some T, some L, z] ++ q := by
          have := exH_lo p ([some T, some L, z] ++ q) L T
          simpa using this
        show swH (exH _ _ _ _ _) _ _ = _
        rw [e]
        have := sw02 (p.map (xch1 L T)) q (some T) (some L) z
        rw [List.length_map] at this
        exact this
theorem split3 {α : Type} {l : List α} {i : Nat} (h : i + 3 ≤ l.length) : ∃ p x y z q, l = p ++ [x, y, z] ++ q ∧ p.length = i := by
  have h0 : i < l.length := by omega
  have h1 : i + 1 < l.length := by omega
  have h2 : i + 2 < l.length := by omega
  refine ⟨l.take i, l[i], l[i + 1], l[i + 2], l.drop (i + 3), ?_, by rw [List.length_take]; omega⟩
  conv => lhs; rw [← List.take_append_drop i l, List.drop_eq_getElem_cons h0, List.drop_eq_getElem_cons h1, List.drop_eq_getElem_cons h2]
  simp
theorem zip3 (p q : List Int) (hp hq : Hs) (a b c : Int) (x y z : Option Nat) (h : p.length = hp.length) : (p ++ [a, b, c] ++ q).zip (hp ++ [x, y, z] ++ hq) = p.zip hp ++ [(a, x), (b, y), (c, z)] ++ q.zip hq := by
  rw [List.zip_append (by simp [h]), List.zip_append h]
  rfl
/-- a left move leads holders over -/
theorem leadB_left {s : Bool} {p q : List Int} {a b c : Int} {hs : Hs} (hl : hs.length = (p ++ [a, b, c] ++ q).length) (h : OkP s ((p ++ [a, b, c] ++ q).zip hs)) (h1 : min a b ≤ c) (h2 : c < max a b) : OkP s ((p ++ [b, a, c] ++ q).zip (leadB true p.length hs)) := by
  simp only [List.length_append, List.length_cons, List.length_nil] at hl
  obtain ⟨hp, x, y, z, hq, rfl, e⟩ := split3 (l := hs) (i := p.length) (by omega)
  rw [← e, lead_left]
  rw [zip3 _ _ _ _ _ _ _ _ _ _ e.symm] at h
  by_cases k : x = none ∨ x ≠ y
  · rw [if_pos k, zip3 _ _ _ _ _ _ _ _ _ _ e.symm]
    have := lead_sw (p := p.zip hp) (q := (c, z) :: q.zip hq) (u := (a, x)) (v := (b, y)) (s := s) (by simpa using h) k
    simpa using this
  · rw [if_neg k]
    cases x with
    | none => exact absurd (.inl rfl) k
    | some L =>
      have ey : y = some L := Decidable.byContradiction fun n => k (.inr fun z => n z.symm)
      subst ey
      show OkP s ((p ++ [b, a, c] ++ q).zip (hp ++ [z, some L, some L] ++ xchH L z hq))
      rw [zip3 _ _ _ _ _ _ _ _ _ _ e.symm, ← xchO_zip]
      exact lead_l h h1 h2
theorem leadB_right {s : Bool} {p q : List Int} {a b c : Int} {hs : Hs} (hl : hs.length = (p ++ [a, b, c] ++ q).length) (h : OkP s ((p ++ [a, b, c] ++ q).zip hs)) (h1 : min b c < a) (h2 : a ≤ max b c) : OkP s ((p ++ [a, c, b] ++ q).zip (leadB false p.length hs)) := by
  simp only [List.length_append, List.length_cons, List.length_nil] at hl
  obtain ⟨hp, x, y, z, hq, rfl, e⟩ := split3 (l := hs) (i := p.length) (by omega)
  rw [← e, lead_right]
  rw [zip3 _ _ _ _ _ _ _ _ _ _ e.symm] at h
  by_cases k : y = none ∨ y ≠ z
  · rw [if_pos k, zip3 _ _ _ _ _ _ _ _ _ _ e.symm]
    have := lead_sw (p := p.zip hp ++ [(a, x)]) (q := q.zip hq) (u := (b, y)) (v := (c, z)) (s := s) (by simpa using h) k
    simpa using this
  · rw [if_neg k]
    cases y with
    | none => exact absurd (.inl rfl) k
    | some L =>
      have ez : z = some L := Decidable.byContradiction fun n => k (.inr fun z => n z.symm)
      subst ez
      show OkP s ((p ++ [a, c, b] ++ q).zip (xchH L x hp ++ [some L, some L, x] ++ hq))
      rw [zip3 _ _ _ _ _ _ _ _ _ _ (by rw [xchH_len]; exact e.symm), ← xchO_zip]
      exact lead_r h h1 h2
/-- how many letters each kind of holder has -/
def cvH (hs : Hs) : Nat := hs.countP Option.isSome
theorem xch1_some (a b : Nat) (q : Option Nat) : (xch1 a b q).isSome = q.isSome := by
  unfold xch1
  repeat' split
  all_goals simp_all
theorem cv_map (a b : Nat) (l : Hs) : cvH (l.map (xch1 a b)) = cvH l := by
  unfold cvH
  rw [List.countP_map]
  refine List.countP_congr fun q _ => ?_
  show (xch1 a b q).isSome = true ↔ q.isSome = true
  rw [xch1_some]
theorem cv_xchH (L : Nat) (t : Option Nat) (l : Hs) : cvH (xchH L t l) = cvH l := by
  cases t with
  | none => rfl
  | some T => exact cv_map ..
theorem cv_app (p q : Hs) : cvH (p ++ q) = cvH p + cvH q := List.countP_append
theorem cv_lead {left : Bool} {i : Nat} {hs : Hs} (h : i + 3 ≤ hs.length) : cvH (leadB left i hs) = cvH hs := by
  obtain ⟨p, x, y, z, q, rfl, rfl⟩ := split3 h
  have c3 : ∀ x y z : Option Nat, cvH [x, y, z] = cvH [x] + cvH [y] + cvH [z] := fun x y z => by
    rw [show [x, y, z] = [x] ++ [y] ++ [z] from rfl, cv_app, cv_app]
  cases left with
  | true =>
    rw [lead_left]
    by_cases k : x = none ∨ x ≠ y
    · rw [if_pos k]
      simp only [cv_app, c3]; omega
    · rw [if_neg k]
      cases x with
      | none => exact absurd (.inl rfl) k
      | some L => simp only [cv_app, c3, cv_xchH]; omega
  | false =>
    rw [lead_right]
    by_cases k : y = none ∨ y ≠ z
    · rw [if_pos k]
      simp only [cv_app, c3]; omega
    · rw [if_neg k]
      cases y with
      | none => exact absurd (.inl rfl) k
      | some L => simp only [cv_app, c3, cv_xchH]; omega
/-- all lists are among the first k -/
def loH (k : Nat) (hs : Hs) : Prop := ∀ q, some q ∈ hs → q < k
theorem lo_app {k : Nat} {p q : Hs} : loH k (p ++ q) ↔ loH k p ∧ loH k q := by
  unfold loH
  simp only [List.mem_append]
  exact ⟨fun h => ⟨fun u hu => h u (.inl hu), fun u hu => h u (.inr hu)⟩, fun h u hu => hu.elim (h.1 u) (h.2 u)⟩
theorem lo_map {k a b : Nat} (ha : a < k) (hb : b < k) {l : Hs} (h : loH k l) : loH k (l.map (xch1 a b)) := fun u hu => by
  obtain ⟨q, hq, e⟩ := List.mem_map.mp hu
  unfold xch1 at e
  split at e
  · cases e; exact hb
  · split at e
    · cases e; exact ha
    · rw [e] at hq; exact h u hq
theorem lo_lead {k : Nat} {left : Bool} {i : Nat} {hs : Hs} (h : i + 3 ≤ hs.length) (g : loH k hs) : loH k (leadB left i hs) := by
  obtain ⟨p, x, y, z, q, rfl, rfl⟩ := split3 h
  rw [lo_app, lo_app] at g
  obtain ⟨⟨gp, gm⟩, gq⟩ := g
  have hx : ∀ {L : Nat}, x = some L → L < k := fun {L} e => gm L (by simp [e])
  have hy : ∀ {L : Nat}, y = some L → L < k := fun {L} e => gm L (by simp [e])
  have hz : ∀ {L : Nat}, z = some L → L < k := fun {L} e => gm L (by simp [e])
  have m3 : ∀ a b c : Option Nat, (∀ u ∈ [a, b, c], u ∈ [x, y, z]) → loH k [a, b, c] := fun a b c e u hu => gm u (e _ hu)
  cases left with
  | true =>
    rw [lead_left]
    by_cases c : x = none ∨ x ≠ y
    · rw [if_pos c, lo_app, lo_app]
      exact ⟨⟨gp, m3 _ _ _ fun u hu => by simp only [List.mem_cons, List.not_mem_nil, or_false] at hu ⊢; rcases hu with h | h | h <;> simp [h]⟩, gq⟩
    · rw [if_neg c]
      cases x with
      | none => exact absurd (.inl rfl) c
      | some L =>
        show loH k (p ++ [z, y, some L] ++ xchH L z q)
        rw [lo_app, lo_app]
        refine ⟨⟨gp, m3 _ _ _ fun u hu => by simp only [List.mem_cons, List.not_mem_nil, or_false] at hu ⊢; rcases hu with h | h | h <;> simp [h]⟩, ?_⟩
        cases z with
        | none => exact gq
        | some T => exact lo_map (hx rfl) (hz rfl) gq
  | false =>
    rw [lead_right]
    by_cases c : y = none ∨ y ≠ z
    · rw [if_pos c, lo_app, lo_app]
      exact ⟨⟨gp, m3 _ _ _ fun u hu => by simp only [List.mem_cons, List.not_mem_nil, or_false] at hu ⊢; rcases hu with h | h | h <;> simp [h]⟩, gq⟩
    · rw [if_neg c]
      cases y with
      | none => exact absurd (.inl rfl) c
      | some L =>
        show loH k (xchH L x p ++ [z, some L, x] ++ q)
        rw [lo_app, lo_app]
        refine ⟨⟨?_, m3 _ _ _ fun u hu => by simp only [List.mem_cons, List.not_mem_nil, or_false] at hu ⊢; rcases hu with h | h | h <;> simp [h]⟩, gq⟩
        cases x with
        | none => exact gp
        | some T => exact lo_map (hy rfl) (hx rfl) gp
/-! ### no more letters than the bound -/
theorem nd_len : ∀ (n : Nat) (l : List Nat), l.Nodup → (∀ x ∈ l, x < n) → l.length ≤ n
  | 0, [], _, _ => Nat.le_refl _
  | 0, x :: l, _, h => absurd (h x List.mem_cons_self) (Nat.not_lt_zero _)
  | n + 1, l, hd, h => by
    have ih := nd_len n (l.erase n) (hd.erase n) fun x hx => by
      have h1 := h x (List.mem_of_mem_erase hx)
      have h2 : x ≠ n := fun z => by subst z; exact (hd.not_mem_erase) hx
      omega
    have := List.length_erase (a := n) (l := l)
    split at this <;> omega
def bothH : Hs → Hs → List (Nat × Nat)
  | some a :: hr, some b :: hf => (a, b) :: bothH hr hf
  | _ :: hr, _ :: hf => bothH hr hf
  | _, _ => []
theorem both_len : ∀ {hr hf : Hs}, hr.length = hf.length → cvH hr + cvH hf ≤ hr.length + (bothH hr hf).length
  | [], [], _ => Nat.le_refl _
  | [], _ :: _, h => by cases h
  | _ :: _, [], h => by cases h
  | x :: hr, y :: hf, h => by
    have ih := both_len (hr := hr) (hf := hf) (by simpa using h)
    have cc : ∀ (x : Option Nat) (l : Hs), cvH (x :: l) = cvH l + if x.isSome then 1 else 0 := fun x l => List.countP_cons
    rw [cc, cc, List.length_cons]
    cases x <;> cases y <;> simp [bothH] at ih ⊢ <;> omega
theorem both_mem : ∀ {hr hf : Hs} {a b : Nat}, (a, b) ∈ bothH hr hf → some a ∈ hr ∧ some b ∈ hf
  | [], _, _, _, h => by simp [bothH] at h
  | _ :: _, [], _, _, h => by simp [bothH] at h
  | x :: hr, y :: hf, a, b, h => by
    have ih := fun g => both_mem (hr := hr) (hf := hf) (a := a) (b := b) g
    cases x <;> cases y <;> simp only [bothH, List.mem_cons, Prod.mk.injEq] at h ⊢
    · exact ⟨.inr (ih h).1, .inr (ih h).2⟩
    · exact ⟨.inr (ih h).1, .inr (ih h).2⟩
    · exact ⟨.inr (ih h).1, .inr (ih h).2⟩
    · rcases h with ⟨rfl, rfl⟩ | h
      · exact ⟨.inl rfl, .inl rfl⟩
      · exact ⟨.inr (ih h).1, .inr (ih h).2⟩
theorem both_nd : ∀ {w : List Int} {hr hf : Hs}, hr.length = w.length → hf.length = w.length → OkP true (w.zip hr) → OkP false (w.zip hf) → (bothH hr hf).Nodup
  | _, [], _, _, _, _, _ => by simp [bothH]
  | _, _ :: _, [], _, _, _, _ => by simp [bothH]
  | [], _ :: _, _ :: _, h, _, _, _ => by cases h
  | c :: w, x :: hr, y :: hf, h, g, p, q => by
    simp only [List.zip_cons_cons] at p q
    have p' := List.pairwise_cons.mp p
    have q' := List.pairwise_cons.mp q
    have ih := both_nd (w := w) (hr := hr) (hf := hf) (by simpa using h) (by simpa using g) p'.2 q'.2
    cases x <;> cases y <;> simp only [bothH] <;> try exact ih
    rename_i a b
    refine List.nodup_cons.mpr ⟨fun hm => ?_, ih⟩
    have key : ∀ {w : List Int} {hr hf : Hs}, hr.length = w.length → hf.length = w.length → (a, b) ∈ bothH hr hf → ∃ d, (d, some a) ∈ w.zip hr ∧ (d, some b) ∈ w.zip hf := fun {w} => by
      induction w with
      | nil => intro hr hf h1 h2 hm; cases hr with
        | nil => simp [bothH] at hm
        | cons _ _ => cases h1
      | cons d w ih =>
        intro hr hf h1 h2 hm
        cases hr with
        | nil => simp [bothH] at hm
        | cons x hr =>
          cases hf with
          | nil => simp [bothH] at hm
          | cons y hf =>
            have ih := fun g => ih (hr := hr) (hf := hf) (by simpa using h1) (by simpa using h2) g
            have st : (a, b) ∈ bothH hr hf → ∃ d', (d', some a) ∈ (d :: w).zip (x :: hr) ∧ (d', some b) ∈ (d :: w).zip (y :: hf) := fun g => by
              obtain ⟨d', k1, k2⟩ := ih g
              exact ⟨d', List.mem_cons_of_mem _ k1, List.mem_cons_of_mem _ k2⟩
            cases x with
            | none => cases y <;> exact st hm
            | some a' =>
              cases y with
              | none => exact st hm
              | some b' =>
                simp only [bothH, List.mem_cons, Prod.mk.injEq] at hm
                rcases hm with ⟨rfl, rfl⟩ | hm
                · exact ⟨d, List.mem_cons_self, List.mem_cons_self⟩
                · exact st hm
    obtain ⟨d, k1, k2⟩ := key (w := w) (by simpa using h) (by simpa using g) hm
    have r1 := p'.1 _ k1 rfl (by simp)
    have r2 := q'.1 _ k2 rfl (by simp)
    simp [rsf] at r1 r2
    omega
/-- the bound of two families -/
theorem bound_H {w : List Int} {hr hf : Hs} {k m : Nat} (h1 : hr.length = w.length) (h2 : hf.length = w.length) (p : OkP true (w.zip hr)) (q : OkP false (w.zip hf)) (a : loH k hr) (b : loH m hf) : cvH hr + cvH hf ≤ w.length + k * m := by
  have hl := both_len (hr := hr) (hf := hf) (h1.trans h2.symm)
  have nd := both_nd h1 h2 p q
  have lt : ∀ x ∈ bothH hr hf, x.1 < k ∧ x.2 < m := fun x hx => by
    obtain ⟨u, v⟩ := both_mem (a := x.1) (b := x.2) hx
    exact ⟨a _ u, b _ v⟩
  have := nd_len (k * m) ((bothH hr hf).map fun x => x.1 * m + x.2) (by
    unfold List.Nodup
    rw [List.pairwise_map]
    refine (List.Pairwise.and_mem.mp nd).imp fun {x y} ⟨hx, hy, n⟩ e => n ?_
    have lx := lt x hx
    have ly := lt y hy
    have e1 : (x.1 * m + x.2) % m = x.2 := by rw [Nat.add_comm, Nat.add_mul_mod_self_right]; exact Nat.mod_eq_of_lt lx.2
    have e2 : (y.1 * m + y.2) % m = y.2 := by rw [Nat.add_comm, Nat.add_mul_mod_self_right]; exact Nat.mod_eq_of_lt ly.2
    have e3 : x.2 = y.2 := by rw [← e1, ← e2, e]
    have e4 : x.1 * m = y.1 * m := by omega
    exact Prod.ext (Nat.eq_of_mul_eq_mul_right (by omega) e4) e3) (fun z hz => by
    obtain ⟨x, hx, rfl⟩ := List.mem_map.mp hz
    have lx := lt x hx
    have : (x.1 + 1) * m ≤ k * m := Nat.mul_le_mul_right _ lx.1
    rw [Nat.add_mul] at this
    omega)
  rw [List.length_map] at this
  omega
/-! ### a call that is handed a new stream -/
section
variable {K : PySem.W.Frag}
theorem Step.unS {S : List Addr} {a : Addr} {H1 H2 H3 : Hp} (s1 : Step S H1 H2) (n : H1 a = none) (s2 : Step (a :: S) H2 H3) : Step S H1 H3 := ⟨fun b o nb e => s2.kp b o (fun z => by
    rcases List.mem_cons.mp z with w | w
    · rw [w, n] at e; cases e
    · exact nb w) (s1.kp b o nb e), fun b hb h => s2.st b (List.mem_cons_of_mem _ hb) (s1.st b hb h)⟩
theorem RetOk.unS {S : List Addr} {a : Addr} {H H' : Hp} {o : OV} {v : V} (h : RetOk K H (a :: S) H' o v) : RetOk K H S H' o v := by
  cases o with
  | da l d =>
    cases l with
    | nw => exact h
    | di =>
      have h : Da (fz H [] (a :: S) H H' .di) v d := h
      have g : Da (fz H [] S H H' .di) v d := h.mono (ct_ex fun b o hb e => ⟨by
        simp only [bad, List.mem_cons, decide_eq_false_iff_not, not_or] at hb ⊢
        exact hb.2, e⟩)
      exact g
    | loc => exact h.elim
    | fr => exact h.elim
  | ns => exact h
  | _ => exact h.elim
def nsF (o : OV) (P : Prop) : Prop := match o with
  | .ns => P
  | _ => False
theorem nsF_ns (P : Prop) : nsF .ns P = P := (rfl)
theorem nsF_of {o : OV} {P : Prop} (h : nsF o P) : o = .ns ∧ P := by
  cases o <;> first | exact ⟨rfl, h⟩ | exact h.elim
/-- f(s, ..), s a new stream, f raises nothing -/
def xCallN (n : Nat) (F : FnW) (a : EX K) (b : AX K) : EX K where
  te := fun E => tCall (spF K n F) [] E0 (tCons (a.te E) (b.ta E))
  wp := fun env R X => a.wp env (fun o => nsF o (b.wp env (fun os => os.length + 1 = n ∧ argsF os fun os' => F (.st :: os') (fun o => R (rc o)) fun _ => False) X)) X
  ok := fun {E H0 S0 A S σ H env R X} r h hX Q q => a.ok r h hX _ fun x H2 o hb s2 ho => by
    obtain ⟨rfl, hb⟩ := nsF_of hb
    rcases ho with ⟨_, p, rfl, np, hs⟩ | ⟨B, hB, vr⟩
    · have c : At K H0 S0 A S σ env H H2 := ⟨r, s2⟩
      obtain ⟨r2, _⟩ := Rel.addS c np hs
      refine b.ok r2 hb (fun C H3 hC s => hX C H3 hC (s2.unS np s)) _ fun vs H3 os ⟨hn, hR⟩ s3 hvs => ?_
      have c3 : At K H0 S0 A (p :: S) σ env H2 H3 := ⟨r2, s3⟩
      obtain ⟨os', h1, h2, h3⟩ := args_ok c3 hvs hR
      have sa : Step S H H3 := s2.unS np s3
      show spF K n F ((.ref p :: vs) ++ []) H3 Q E0
      rw [List.append_nil]
      refine ⟨.st :: os', p :: S, _, _, by rw [List.length_cons, h3]; exact hn, h1, .cons ⟨.st List.mem_cons_self, rfl⟩ h2, c3.rel.str, fun v H4 o hR s4 hv => ?_, fun C H3 hf _ => hf.elim⟩
      exact q v H4 _ hR (s2.unS np (s3.trans s4)) (rc_ok ⟨r, sa⟩ hv.unS)
    · cases vr
theorem w_callN (n : Nat) (F : FnW) (a : EX K) (b : AX K) (env : Env) (R : OV → Prop) (X : Addr → Prop) : (xCallN n F a b).wp env R X = a.wp env (fun o => nsF o (b.wp env (fun os => os.length + 1 = n ∧ argsF os fun os' => F (.st :: os') (fun o => R (rc o)) fun _ => False) X)) X := (rfl)
end
def topS (i : Nat) : Stmt := PySem.Challenge.pw_coverpapers_k27_exchanges_of_words.main.body.getD i (.Pass ⟨0, 0, 0, 0⟩)
abbrev s_lowered : Stmt := topS 1
abbrev N_lowered : List Str := ["word", "number", "lower", "_"]
theorem sc_lowered : FnScope N_lowered ["word", "number"] (defScope s_lowered) := ⟨rfl, rfl, rfl, by decide +kernel, rfl, by decide +kernel, by decide +kernel⟩
abbrev s_raised : Stmt := topS 2
abbrev N_raised : List Str := ["word", "number", "_", "upper"]
theorem sc_raised : FnScope N_raised ["word", "number"] (defScope s_raised) := ⟨rfl, rfl, rfl, by decide +kernel, rfl, by decide +kernel, by decide +kernel⟩
abbrev s_exchanged : Stmt := topS 3
abbrev N_exchanged : List Str := ["word", "number", "lower", "upper"]
theorem sc_exchanged : FnScope N_exchanged ["word", "number"] (defScope s_exchanged) := ⟨rfl, rfl, rfl, by decide +kernel, rfl, by decide +kernel, by decide +kernel⟩
abbrev s_unmatched : Stmt := topS 4
abbrev N_unmatched : List Str := ["word", "number", "lower", "upper", "index", "letter"]
theorem sc_unmatched : FnScope N_unmatched ["word", "number"] (defScope s_unmatched) := ⟨rfl, rfl, rfl, by decide +kernel, rfl, by decide +kernel, by decide +kernel⟩
abbrev s_with_letters : Stmt := topS 5
abbrev N_with_letters : List Str := ["word", "indexes", "letters", "changed", "index", "letter"]
theorem sc_with_letters : FnScope N_with_letters ["word", "indexes", "letters"] (defScope s_with_letters) := ⟨rfl, rfl, rfl, by decide +kernel, rfl, by decide +kernel, by decide +kernel⟩
abbrev s_law_cell : Stmt := topS 7
abbrev N_law_cell : List Str := ["script", "k"]
theorem sc_law_cell : FnScope N_law_cell ["script", "k"] (defScope s_law_cell) := ⟨rfl, rfl, rfl, by decide +kernel, rfl, by decide +kernel, by decide +kernel⟩
abbrev s_law_stream : Stmt := topS 8
abbrev N_law_stream : List Str := ["cell"]
theorem sc_law_stream : FnScope N_law_stream ["cell"] (defScope s_law_stream) := ⟨rfl, rfl, rfl, by decide +kernel, rfl, by decide +kernel, by decide +kernel⟩
abbrev s_law_next : Stmt := topS 9
abbrev N_law_next : List Str := ["stream", "size", "drawn", "mixed"]
theorem sc_law_next : FnScope N_law_next ["stream", "size"] (defScope s_law_next) := ⟨rfl, rfl, rfl, by decide +kernel, rfl, by decide +kernel, by decide +kernel⟩
abbrev s_law_is_integer : Stmt := topS 10
abbrev N_law_is_integer : List Str := ["actual"]
theorem sc_law_is_integer : FnScope N_law_is_integer ["actual"] (defScope s_law_is_integer) := ⟨rfl, rfl, rfl, by decide +kernel, rfl, by decide +kernel, by decide +kernel⟩
abbrev s_law_is_word : Stmt := topS 11
abbrev N_law_is_word : List Str := ["actual", "letter"]
theorem sc_law_is_word : FnScope N_law_is_word ["actual"] (defScope s_law_is_word) := ⟨rfl, rfl, rfl, by decide +kernel, rfl, by decide +kernel, by decide +kernel⟩
abbrev s_law_there_and_back : Stmt := topS 12
abbrev N_law_there_and_back : List Str := ["word", "number", "told", "count", "k", "after"]
theorem sc_law_there_and_back : FnScope N_law_there_and_back ["word", "number"] (defScope s_law_there_and_back) := ⟨rfl, rfl, rfl, by decide +kernel, rfl, by decide +kernel, by decide +kernel⟩
abbrev s_law : Stmt := topS 13
abbrev N_law : List Str := ["script", "stream", "low", "size", "word", "number", "told", "k"]
theorem sc_law : FnScope N_law ["script"] (defScope s_law) := ⟨rfl, rfl, rfl, by decide +kernel, rfl, by decide +kernel, by decide +kernel⟩
structure Txt (K : PySem.W.Frag) (mg : Str → Option Value) where
  lowered : D1 K mg "lowered" s_lowered ["word", "number"]
  raised : D1 K mg "raised" s_raised ["word", "number"]
  exchanged : D1 K mg "exchanged" s_exchanged ["word", "number"]
  unmatched : D1 K mg "_unmatched" s_unmatched ["word", "number"]
  with_letters : D1 K mg "_with_letters" s_with_letters ["word", "indexes", "letters"]
  law_cell : D1 K mg "_law_cell" s_law_cell ["script", "k"]
  law_stream : D1 K mg "_law_stream" s_law_stream ["cell"]
  law_next : D1 K mg "_law_next" s_law_next ["stream", "size"]
  law_is_integer : D1 K mg "_law_is_integer" s_law_is_integer ["actual"]
  law_is_word : D1 K mg "_law_is_word" s_law_is_word ["actual"]
  law_there_and_back : D1 K mg "_law_there_and_back" s_law_there_and_back ["word", "number"]
  bool : mg "bool" = none
  enumerate : mg "enumerate" = none
  int : mg "int" = none
  isinstance : mg "isinstance" = none
  len : mg "len" = none
  list : mg "list" = none
  range : mg "range" = none
  zip : mg "zip" = none
/-- a def that is handed to another one -/
structure Hd where
  f : Addr
  F : FnW

section
variable {P : Program} {w : World} {K : PySem.W.Frag} {mg : Str → Option Value} {base : Heap}
theorem hr_u {k : Nat} {A : Around} (hr : Room k A) : A.units + 64 < cLine := hr.units
theorem ret_int {H H2 : Hp} {S : List Addr} {i : Int} : RetOk K H S H2 (.da .nw (.int i)) (.int i) := Da.int _
theorem ok_law_cell (T : Txt K mg) : FnOk P w K mg base CX0 1 T.law_cell.f T.law_cell.fd ["script", "k"] (spF K 2 FCell) := by
  refine T.law_cell.F.ok sc_law_cell (fun vs H Q E h => spF_len rfl h) (fun cdv A outer s H vs Q E hr h => ?_)
  obtain ⟨os, S, R, X, hn, hF, ha, hS, hR, hX⟩ := h
  obtain ⟨ns, k, l, rfl, k0, hF'⟩ : ∃ ns k l, os = [.sc ns, .da l (.int k)] ∧ 0 ≤ k ∧ ∀ c : Int, R (.da .nw (.int c)) := by
    unfold FCell at hF
    split at hF
    · exact ⟨_, _, _, rfl, hF⟩
    · exact hF.elim
  cases ha with
  | cons a1 ha =>
    cases ha with
    | cons a2 ha =>
      cases ha
      obtain ⟨a1, _⟩ := a1
      obtain ⟨a2, _⟩ := a2
      cases a1 with
      | @sc a ws hs =>
        cases a2 with
        | da a2 =>
          cases a2
          have hS' : SqL K H a (ns.map V.int) := Evl.ex_l fz_le hs
          obtain ⟨kn, rfl⟩ : ∃ n : Nat, k = (n : Int) := ⟨k.toNat, by omega⟩
          refine ⟨_, (pss_cons (ps_if (pt_cmpR op_lt (pv 1) (pe_callB call_len_seq (by rfl) T.len PySem.boot_len (pa_cons (pv 0) pa_nil)) (nomark _))
      (pss_one (ps_ret (pe_ix ix_seq (pv 0) (pv 1) (fun _ _ => rfl))))
      pss_nil)
      (pss_one (ps_ret pe_int))), ?_⟩
          refine ⟨_, rfl, _, rfl, a, _, rfl, .inl hS', _, _, rfl, rfl, _, rfl, ite2 (fun c => ?_) (fun c => ?_)⟩
          · have c1 := of_decide_eq_true c
            have c2 : kn < ns.length := by rw [List.length_map] at c1; omega
            exact ⟨_, rfl, _, rfl, .inl ⟨a, _, _, _, rfl, rfl, hS', atI_nat (by rw [List.getElem?_map, List.getElem?_eq_getElem c2]; rfl), hR _ _ _ (hF' _) (.refl S H) ret_int⟩⟩
          · exact hR _ _ _ (hF' 0) (.refl S H) ret_int
theorem ok_law_stream (T : Txt K mg) : FnOk P w K mg base CX0 1 T.law_stream.f T.law_stream.fd ["cell"] (spF K 1 FStream) := by
  refine T.law_stream.F.ok sc_law_stream (fun vs H Q E h => spF_len rfl h) (fun cdv A outer s H vs Q E hr h => ?_)
  obtain ⟨os, S, R, X, hn, hF, ha, hS, hR, hX⟩ := h
  obtain ⟨k, l, rfl, hF'⟩ : ∃ k l, os = [.da l (.int k)] ∧ R .ns := by
    unfold FStream at hF
    split at hF
    · exact ⟨_, _, rfl, hF⟩
    · exact hF.elim
  cases ha with
  | cons a1 ha =>
    cases ha
    obtain ⟨a1, _⟩ := a1
    cases a1 with
    | da a1 =>
      cases a1
      refine ⟨_, (pss_cons (ps_if (pt_cmpR op_ge (pv 0) (pe_op op_pow pe_int pe_int) (nomark _))
      (pss_one (ps_ret (pe_lst (pa_cons (pv 0) (pa_cons pe_int (pa_cons (pe_op op_mod (pe_callTy call_int1 (by rfl) T.int (by decide +kernel) (pa_cons (pv 0) pa_nil)) pe_int) pa_nil))))))
      pss_nil)
      (pss_one (ps_ret (pe_lst (pa_cons pe_int (pa_cons pe_int (pa_cons (pe_op op_mod (pe_callTy call_int1 (by rfl) T.int (by decide +kernel) (pa_cons (pv 0) pa_nil)) pe_int) pa_nil))))))), ?_⟩
      have q : ∀ (p : Addr) (s0 s1 s2 : Int), H p = none → Q (.ref p) (upd H p (.lst [.int s0, .int s1, .int s2])) := fun p s0 s1 s2 np => hR _ _ .ns hF' (.ex (Ex.new np)) ⟨p, rfl, np, s0, s1, s2, upd_same⟩
      refine ⟨_, rfl, _, _, rfl, rfl, ⟨by decide, by decide, by decide⟩, _, _, rfl, rfl, _, rfl, ite2 (fun _ => ?_) (fun _ => ?_)⟩
      · exact ⟨_, rfl, _, rfl, .inl ⟨_, rfl, _, _, rfl, rfl, (by show (0 : Int) < _; decide), (by show 3 ≤ sizeLine; decide), fun p np => q p _ _ _ np⟩⟩
      · exact ⟨_, rfl, .inl ⟨_, rfl, _, _, rfl, rfl, (by show (0 : Int) < _; decide), (by show 3 ≤ sizeLine; decide), fun p np => q p _ _ _ np⟩⟩
theorem step_upd {S : List Addr} {H : Hp} {a : Addr} {x y z : Int} (ha : a ∈ S) : Step S H (upd H a (.lst [.int x, .int y, .int z])) :=
  ⟨fun b o nb e => by rw [upd_ne (fun w => nb (by rw [w]; exact ha))]; exact e, fun b hb ⟨p, q, r, e⟩ => by
    by_cases c : b = a
    · subst c; exact ⟨_, _, _, upd_same⟩
    · exact ⟨p, q, r, by rw [upd_ne c]; exact e⟩⟩
theorem ok_law_next (T : Txt K mg) : FnOk P w K mg base CX0 1 T.law_next.f T.law_next.fd ["stream", "size"] (spF K 2 FNext) := by
  refine T.law_next.F.ok sc_law_next (fun vs H Q E h => spF_len rfl h) (fun cdv A outer s H vs Q E hr h => ?_)
  obtain ⟨os, S, R, X, hn, hF, ha, hS, hR, hX⟩ := h
  obtain ⟨n, l, rfl, n0, n1, hF'⟩ : ∃ n l, os = [.st, .da l (.int n)] ∧ 0 < n ∧ n < 2 ^ 200 ∧ ∀ d : Int, 0 ≤ d → d < n → R (.da .nw (.int d)) := by
    unfold FNext at hF
    split at hF
    · exact ⟨_, _, rfl, hF⟩
    · exact hF.elim
  cases ha with
  | cons a1 ha =>
    cases ha with
    | cons a2 ha =>
      cases ha
      obtain ⟨a1, _⟩ := a1
      obtain ⟨a2, _⟩ := a2
      cases a1 with
      | @st a haS =>
        cases a2 with
        | da a2 =>
          cases a2
          obtain ⟨s0, s1, s2, hH⟩ := hS a haS
          have nb : n.natAbs < 2 ^ 200 := by
            have : (n.natAbs : Int) < 2 ^ 200 := by omega
            exact_mod_cast this
          have q : ∀ (d x y z : Int), 0 ≤ d → d < n → Q (.int d) (upd H a (.lst [.int x, .int y, .int z])) := fun d x y z d0 d1 => hR _ _ _ (hF' d d0 d1) (step_upd haS) ret_int
          refine ⟨_, (pss_cons (ps_if (pt_cmpR op_gt (pe_ix ix_seq (pv 0) pe_int (fun _ _ => rfl)) pe_int (nomark _))
      (pss_cons (ps_set (i := 2) sc_law_next.nd rfl (.inl rfl) (pe_op op_mod (pe_callTy call_int1 (by rfl) T.int (by decide +kernel) (pa_cons (pe_ix ix_seq (pv 0) pe_int (fun _ _ => rfl)) pa_nil)) (pv 1)))
        (pss_cons (ps_asg (pe_op op_fdivW (pe_ix ix_seq (pv 0) pe_int (fun _ _ => rfl)) (pv 1)) (pg_sub (pv 0) pe_int set_list))
        (pss_one (ps_ret (pv 2)))))
      pss_nil)
      (pss_cons (ps_asg (pe_op op_plus (pe_ix ix_seq (pv 0) pe_int (fun _ _ => rfl)) pe_int) (pg_sub (pv 0) pe_int set_list))
      (pss_cons (ps_set (i := 3) sc_law_next.nd rfl (.inl rfl) (pe_op op_mod (pe_callTy call_int1 (by rfl) T.int (by decide +kernel) (pa_cons (pe_op op_plus (pe_op op_times (pe_ix ix_seq (pv 0) pe_int (fun _ _ => rfl)) pe_int) (pe_op op_times (pe_ix ix_seq (pv 0) pe_int (fun _ _ => rfl)) pe_int)) pa_nil)) pe_int))
      (pss_cons (ps_set (i := 3) sc_law_next.nd rfl (.inl rfl) (pe_op op_mod (pe_callTy call_int1 (by rfl) T.int (by decide +kernel) (pa_cons (pe_op op_plus (pe_op op_times (pv 3) (pv 3)) (pe_op op_times (pe_ix ix_seq (pv 0) pe_int (fun _ _ => rfl)) pe_int)) pa_nil)) pe_int))
      (pss_cons (ps_set (i := 3) sc_law_next.nd rfl (.inl rfl) (pe_op op_mod (pe_callTy call_int1 (by rfl) T.int (by decide +kernel) (pa_cons (pe_op op_plus (pe_op op_times (pv 3) pe_int) (pe_ix ix_seq (pv 0) pe_int (fun _ _ => rfl))) pa_nil)) pe_int))
      (pss_one (ps_ret (pe_op op_mod (pe_callTy call_int1 (by rfl) T.int (by decide +kernel) (pa_cons (pv 3) pa_nil)) (pv 1))))))))), ?_⟩
          refine ⟨_, rfl, .inl ⟨a, _, _, _, rfl, rfl, SqL.of hH, atI_nat (j := 0) rfl, _, _, rfl, rfl, _, rfl, ite2 (fun _ => ?_) (fun _ => ?_)⟩⟩
          · refine ⟨_, rfl, .inl ⟨a, _, _, _, rfl, rfl, SqL.of hH, atI_nat (j := 0) rfl, .inl ⟨_, rfl, _, rfl, _, _, rfl, rfl, n0, ?_⟩⟩⟩
            refine ⟨_, rfl, .inl ⟨a, _, _, _, rfl, rfl, SqL.of hH, atI_nat (j := 0) rfl, _, rfl, _, _, rfl, rfl, wide_div n0 nb (by decide) (by decide), ?_⟩⟩
            refine ⟨_, rfl, a, _, _, 0, rfl, rfl, hH, rfl, ?_⟩
            refine ⟨_, rfl, ?_⟩
            exact q _ _ _ _ (Int.emod_nonneg _ (by omega)) (Int.emod_lt_of_pos _ n0)
          · refine ⟨_, rfl, .inl ⟨a, _, _, _, rfl, rfl, SqL.of hH, atI_nat (j := 1) rfl, .inl ⟨_, _, rfl, rfl, _, rfl, a, _, _, 1, rfl, rfl, hH, rfl, ?_⟩⟩⟩
            have h1 : (upd H a (.lst [.int s0, .int (s1 + 1), .int s2])) a = some (.lst [.int s0, .int (s1 + 1), .int s2]) := upd_same
            refine ⟨_, rfl, .inl ⟨a, _, _, _, rfl, rfl, SqL.of h1, atI_nat (j := 2) rfl, .inl ⟨_, _, rfl, rfl, .inr ⟨by decide, by decide⟩, _, rfl, .inl ⟨a, _, _, _, rfl, rfl, SqL.of h1, atI_nat (j := 1) rfl, .inl ⟨_, _, rfl, rfl, .inr ⟨by decide, by decide⟩, .inl ⟨_, _, rfl, rfl, .inl ⟨_, rfl, _, _, rfl, rfl, (by show (0 : Int) < _; decide), ?_⟩⟩⟩⟩⟩⟩⟩
            have b1 := Int.emod_nonneg (s2 * 48271 + (s1 + 1) * 69621) (show (2147483647 : Int) ≠ 0 by decide)
            have b2 := Int.emod_lt_of_pos (s2 * 48271 + (s1 + 1) * 69621) (show (0 : Int) < 2147483647 by decide)
            refine ⟨_, rfl, _, rfl, .inl ⟨_, _, rfl, rfl, .inl ⟨by omega, by omega⟩, _, rfl, .inl ⟨a, _, _, _, rfl, rfl, SqL.of h1, atI_nat (j := 1) rfl, .inl ⟨_, _, rfl, rfl, .inr ⟨by decide, by decide⟩, .inl ⟨_, _, rfl, rfl, .inl ⟨_, rfl, _, _, rfl, rfl, (by show (0 : Int) < _; decide), ?_⟩⟩⟩⟩⟩⟩
            refine ⟨_, rfl, .inl ⟨_, _, rfl, rfl, .inr ⟨by decide, by decide⟩, _, rfl, .inl ⟨a, _, _, _, rfl, rfl, SqL.of h1, atI_nat (j := 2) rfl, .inl ⟨_, _, rfl, rfl, .inl ⟨_, rfl, _, _, rfl, rfl, (by show (0 : Int) < _; decide), ?_⟩⟩⟩⟩⟩
            refine ⟨_, rfl, .inl ⟨_, rfl, _, rfl, _, _, rfl, rfl, n0, ?_⟩⟩
            exact q _ _ _ _ (Int.emod_nonneg _ (by omega)) (Int.emod_lt_of_pos _ n0)
@[irreducible] def c_unmatched_10 (T : Txt K mg) : SX K :=
  (sRet2 (xVar 2) (xVar 3))
@[irreducible] def c_unmatched_5 (T : Txt K mg) : SX K :=
  (sAppend 3 (xVar 4))
@[irreducible] def c_unmatched_7 (T : Txt K mg) : SX K :=
  (sPopE 3)
@[irreducible] def c_unmatched_9 (T : Txt K mg) : SX K :=
  (sAppend 2 (xVar 4))
@[irreducible] def c_unmatched_8 (T : Txt K mg) : SX K :=
  (sIf (tT' (xOp oEq (xVar 5) (xVar 1)))
          (c_unmatched_9 T)
          sNext)
@[irreducible] def c_unmatched_6 (T : Txt K mg) : SX K :=
  (sIf (tAnd' (tT' (xOp oEq (xVar 5) (xVar 1))) (tT' (xOp oGt (xCB bLen (xCons (xVar 3) xNil)) (xInt 0))))
        (c_unmatched_7 T)
        (c_unmatched_8 T))
@[irreducible] def c_unmatched_4 (T : Txt K mg) : SX K :=
  (sIf (tT' (xOp oEq (xVar 5) (xOp oPlus (xVar 1) (xInt 1))))
      (c_unmatched_5 T)
      (c_unmatched_6 T))
@[irreducible] def c_unmatched_3 (T : Txt K mg) : SX K :=
  (sFor (iEn (xVar 0)) (nT 2 (nCons (nN 4) (nCons (nN 5) nNil (mon_nN 5)) (mon_nN 4)))
    (c_unmatched_4 T))
@[irreducible] def c_unmatched_2 (T : Txt K mg) : SX K :=
  (sOwn 3 (xLst xNil))
@[irreducible] def c_unmatched_1 (T : Txt K mg) : SX K :=
  (sOwn 2 (xLst xNil))
def b_unmatched (T : Txt K mg) : SX K :=
  (sSeq (c_unmatched_1 T)
  (sSeq (c_unmatched_2 T)
  (sSeq (c_unmatched_3 T)
  (c_unmatched_10 T))))
def F_unmatched (T : Txt K mg) : FnW := bodyF N_unmatched.length (b_unmatched T)
theorem u_unmatched (T : Txt K mg) {a0 a1 : OV} {R : OV → Prop} {X : Addr → Prop} : F_unmatched T [a0, a1] R X = (b_unmatched T).wp [some a0, some a1, none, none, none, none] ⟨fun _ => R (.da .nw .none), R, X, fun _ => False, fun _ => False⟩ := rfl
theorem ok_unmatched (T : Txt K mg) : FnOk P w K mg base CX0 1 T.unmatched.f T.unmatched.fd ["word", "number"] (spF K 2 (F_unmatched T)) :=
  T.unmatched.F.ok sc_unmatched (fun vs H Q E h => spF_len rfl h) fun cdv A outer s H vs Q E hr h => ⟨_, (pss_cons (asE (t := (c_unmatched_1 T).ts E) (ps_set (i := 2) sc_unmatched.nd rfl (.inl rfl) (pe_lst pa_nil)) (by with_unfolding_all rfl))
      (pss_cons (asE (t := (c_unmatched_2 T).ts E) (ps_set (i := 3) sc_unmatched.nd rfl (.inl rfl) (pe_lst pa_nil)) (by with_unfolding_all rfl))
      (pss_cons (asE (t := (c_unmatched_3 T).ts E) (ps_for PassesOwn.never rfl (pi_enum (by rfl) T.enumerate (pa_cons (pv 0) pa_nil)) (pg_tup (by rfl) (pgs_cons (pg_name (i := 4) sc_unmatched.nd rfl (.inl rfl)) (pgs_cons (pg_name (i := 5) sc_unmatched.nd rfl (.inl rfl)) pgs_nil)))
      (pss_one (asE (t := (c_unmatched_4 T).ts E) (ps_if (pt_cmpR (op_eqD hr.units) (pv 5) (pe_op op_plus (pv 1) pe_int) (nomark _))
        (pss_one (asE (t := (c_unmatched_5 T).ts E) (ps_expr (pe_bm PySem.F.plainAttrs_list PySem.F.slot_list_append PySem.F.type_list_append mt_append (pv 3) (pa_cons (pv 4) pa_nil))) (by with_unfolding_all rfl)))
        (pss_one (asE (t := (c_unmatched_6 T).ts E) (ps_if (PW.pt (pw_and (pt_cmpR (op_eqD hr.units) (pv 5) (pv 1) (nomark _)) (pw_and1 (pt_cmpR op_gt (pe_callB call_len_seq (by rfl) T.len PySem.boot_len (pa_cons (pv 3) pa_nil)) pe_int (nomark _)))))
          (pss_one (asE (t := (c_unmatched_7 T).ts E) (ps_expr (pe_bm0 PySem.F.plainAttrs_list PySem.F.slot_list_pop PySem.F.type_list_pop mt_pop (pv 3))) (by with_unfolding_all rfl)))
          (pss_one (asE (t := (c_unmatched_8 T).ts E) (ps_if (pt_cmpR (op_eqD hr.units) (pv 5) (pv 1) (nomark _))
            (pss_one (asE (t := (c_unmatched_9 T).ts E) (ps_expr (pe_bm PySem.F.plainAttrs_list PySem.F.slot_list_append PySem.F.type_list_append mt_append (pv 2) (pa_cons (pv 4) pa_nil))) (by with_unfolding_all rfl)))
            pss_nil) (by with_unfolding_all rfl)))) (by with_unfolding_all rfl)))) (by with_unfolding_all rfl)))) (by with_unfolding_all rfl))
      (pss_one (asE (t := (c_unmatched_10 T).ts E) (ps_ret (pe_tup (pa_cons (pv 2) (pa_cons (pv 3) pa_nil)))) (by with_unfolding_all rfl)))))), by have q := body_ok (N := N_unmatched) (ps := ["word", "number"]) (b_unmatched T) h; exact q⟩
@[irreducible] def c_with_letters_4 (T : Txt K mg) : SX K :=
  (sRet (xVar 3))
@[irreducible] def c_with_letters_3 (T : Txt K mg) : SX K :=
  (sTgt (mSub 3 (xVar 4)) (xVar 5))
@[irreducible] def c_with_letters_2 (T : Txt K mg) : SX K :=
  (sFor (iZp (xVar 1) (xVar 2)) (nT 2 (nCons (nN 4) (nCons (nN 5) nNil (mon_nN 5)) (mon_nN 4)))
    (c_with_letters_3 T))
@[irreducible] def c_with_letters_1 (T : Txt K mg) : SX K :=
  (sOwn 3 (xCB bList (xCons (xVar 0) xNil)))
def b_with_letters (T : Txt K mg) : SX K :=
  (sSeq (c_with_letters_1 T)
  (sSeq (c_with_letters_2 T)
  (c_with_letters_4 T)))
def F_with_letters (T : Txt K mg) : FnW := bodyF N_with_letters.length (b_with_letters T)
theorem u_with_letters (T : Txt K mg) {a0 a1 a2 : OV} {R : OV → Prop} {X : Addr → Prop} : F_with_letters T [a0, a1, a2] R X = (b_with_letters T).wp [some a0, some a1, some a2, none, none, none] ⟨fun _ => R (.da .nw .none), R, X, fun _ => False, fun _ => False⟩ := rfl
theorem ok_with_letters (T : Txt K mg) : FnOk P w K mg base CX0 1 T.with_letters.f T.with_letters.fd ["word", "indexes", "letters"] (spF K 3 (F_with_letters T)) :=
  T.with_letters.F.ok sc_with_letters (fun vs H Q E h => spF_len rfl h) fun cdv A outer s H vs Q E hr h => ⟨_, (pss_cons (asE (t := (c_with_letters_1 T).ts E) (ps_set (i := 3) sc_with_letters.nd rfl (.inl rfl) (pe_callTy call_list_of (by rfl) T.list (by decide +kernel) (pa_cons (pv 0) pa_nil))) (by with_unfolding_all rfl))
      (pss_cons (asE (t := (c_with_letters_2 T).ts E) (ps_for PassesOwn.never rfl (RZ.pi_zipA (by rfl) T.zip (pa_cons (pv 1) (pa_cons (pv 2) pa_nil))) (pg_tup (by rfl) (pgs_cons (pg_name (i := 4) sc_with_letters.nd rfl (.inl rfl)) (pgs_cons (pg_name (i := 5) sc_with_letters.nd rfl (.inl rfl)) pgs_nil)))
      (pss_one (asE (t := (c_with_letters_3 T).ts E) (ps_asg (pv 5) (pg_sub (pv 3) (pv 4) set_list)) (by with_unfolding_all rfl)))) (by with_unfolding_all rfl))
      (pss_one (asE (t := (c_with_letters_4 T).ts E) (ps_ret (pv 3)) (by with_unfolding_all rfl))))), by have q := body_ok (N := N_with_letters) (ps := ["word", "indexes", "letters"]) (b_with_letters T) h; exact q⟩
def b_law_is_integer (T : Txt K mg) : SX K :=
  (sRet (xAnd (xIsi "int" (by decide +kernel) (xVar 0)) (xNot (xIsi "bool" (by decide +kernel) (xVar 0)))))
def F_law_is_integer (T : Txt K mg) : FnW := bodyF N_law_is_integer.length (b_law_is_integer T)
theorem u_law_is_integer (T : Txt K mg) {a0 : OV} {R : OV → Prop} {X : Addr → Prop} : F_law_is_integer T [a0] R X = (b_law_is_integer T).wp [some a0] ⟨fun _ => R (.da .nw .none), R, X, fun _ => False, fun _ => False⟩ := rfl
theorem ok_law_is_integer (T : Txt K mg) : FnOk P w K mg base CX0 1 T.law_is_integer.f T.law_is_integer.fd ["actual"] (spF K 1 (F_law_is_integer T)) :=
  T.law_is_integer.F.ok sc_law_is_integer (fun vs H Q E h => spF_len rfl h) fun cdv A outer s H vs Q E hr h => ⟨_, (pss_one (ps_ret (pe_and (pe_callB call_isi (by rfl) T.isinstance (by decide +kernel) (pa_cons (pv 0) (pa_cons (pe_bltn (v := .ty "int") (u := .type "int") (by rfl) T.int (by decide +kernel) rfl) pa_nil))) (pe_one (pe_not (pe_callB call_isi (by rfl) T.isinstance (by decide +kernel) (pa_cons (pv 0) (pa_cons (pe_bltn (v := .ty "bool") (u := .type "bool") (by rfl) T.bool (by decide +kernel) rfl) pa_nil)))))))), by with_unfolding_all exact body_ok (N := N_law_is_integer) (ps := ["actual"]) (b_law_is_integer T) h⟩
@[irreducible] def c_lowered_4 (T : Txt K mg) : SX K :=
  (sRet (xCall 3 (F_with_letters T) (xCons (xVar 0) (xCons (xSl (xVar 2) (pAt (xNeg (xInt 1))) pNo) (xCons (xLst (xCons (xOp oPlus (xVar 1) (xInt 1)) xNil)) xNil)))))
@[irreducible] def c_lowered_3 (T : Txt K mg) : SX K :=
  (sRet xNone)
@[irreducible] def c_lowered_2 (T : Txt K mg) : SX K :=
  (sIf (tT' (xOp oEq (xCB bLen (xCons (xVar 2) xNil)) (xInt 0)))
    (c_lowered_3 T)
    sNext)
@[irreducible] def c_lowered_1 (T : Txt K mg) : SX K :=
  (sTgt (mT 2 (mCons (mN 2) (mCons (mN 3) mNil))) (xCall 2 (F_unmatched T) (xCons (xVar 0) (xCons (xVar 1) xNil))))
def b_lowered (T : Txt K mg) : SX K :=
  (sSeq (c_lowered_1 T)
  (sSeq (c_lowered_2 T)
  (c_lowered_4 T)))
def F_lowered (T : Txt K mg) : FnW := bodyF N_lowered.length (b_lowered T)
theorem u_lowered (T : Txt K mg) {a0 a1 : OV} {R : OV → Prop} {X : Addr → Prop} : F_lowered T [a0, a1] R X = (b_lowered T).wp [some a0, some a1, none, none] ⟨fun _ => R (.da .nw .none), R, X, fun _ => False, fun _ => False⟩ := rfl
theorem ok_lowered (T : Txt K mg) : FnOk P w K mg base CX0 2 T.lowered.f T.lowered.fd ["word", "number"] (spF K 2 (F_lowered T)) :=
  T.lowered.F.ok sc_lowered (fun vs H Q E h => spF_len rfl h) fun cdv A outer s H vs Q E hr h => ⟨_, (pss_cons (asE (t := (c_lowered_1 T).ts E) (ps_asg (pe_call (ok_unmatched T) (hr.mono (by decide)) rfl T.unmatched.g T.unmatched.F.kp T.unmatched.b .nil pass0 (pa_cons (pv 0) (pa_cons (pv 1) pa_nil))) (pg_tup (by rfl) (pgs_cons (pg_name (i := 2) sc_lowered.nd rfl (.inl rfl)) (pgs_cons (pg_name (i := 3) sc_lowered.nd rfl (.inl rfl)) pgs_nil)))) (by with_unfolding_all rfl))
      (pss_cons (asE (t := (c_lowered_2 T).ts E) (ps_if (pt_cmpR (op_eqD hr.units) (pe_callB call_len_seq (by rfl) T.len PySem.boot_len (pa_cons (pv 2) pa_nil)) pe_int (nomark _))
      (pss_one (asE (t := (c_lowered_3 T).ts E) (ps_ret pe_non) (by with_unfolding_all rfl)))
      pss_nil) (by with_unfolding_all rfl))
      (pss_one (asE (t := (c_lowered_4 T).ts E) (ps_ret (pe_call (ok_with_letters T) (hr.mono (by decide)) rfl T.with_letters.g T.with_letters.F.kp T.with_letters.b .nil pass0 (pa_cons (pv 0) (pa_cons (pe_slice sl_seq (pv 2) (po_some (pe_un un_neg pe_int)) po_none) (pa_cons (pe_lst (pa_cons (pe_op op_plus (pv 1) pe_int) pa_nil)) pa_nil))))) (by with_unfolding_all rfl))))), by have q := body_ok (N := N_lowered) (ps := ["word", "number"]) (b_lowered T) h; exact q⟩
@[irreducible] def c_raised_4 (T : Txt K mg) : SX K :=
  (sRet (xCall 3 (F_with_letters T) (xCons (xVar 0) (xCons (xSl (xVar 3) pNo (pAt (xInt 1))) (xCons (xLst (xCons (xVar 1) xNil)) xNil)))))
@[irreducible] def c_raised_3 (T : Txt K mg) : SX K :=
  (sRet xNone)
@[irreducible] def c_raised_2 (T : Txt K mg) : SX K :=
  (sIf (tT' (xOp oEq (xCB bLen (xCons (xVar 3) xNil)) (xInt 0)))
    (c_raised_3 T)
    sNext)
@[irreducible] def c_raised_1 (T : Txt K mg) : SX K :=
  (sTgt (mT 2 (mCons (mN 2) (mCons (mN 3) mNil))) (xCall 2 (F_unmatched T) (xCons (xVar 0) (xCons (xVar 1) xNil))))
def b_raised (T : Txt K mg) : SX K :=
  (sSeq (c_raised_1 T)
  (sSeq (c_raised_2 T)
  (c_raised_4 T)))
def F_raised (T : Txt K mg) : FnW := bodyF N_raised.length (b_raised T)
theorem u_raised (T : Txt K mg) {a0 a1 : OV} {R : OV → Prop} {X : Addr → Prop} : F_raised T [a0, a1] R X = (b_raised T).wp [some a0, some a1, none, none] ⟨fun _ => R (.da .nw .none), R, X, fun _ => False, fun _ => False⟩ := rfl
theorem ok_raised (T : Txt K mg) : FnOk P w K mg base CX0 2 T.raised.f T.raised.fd ["word", "number"] (spF K 2 (F_raised T)) :=
  T.raised.F.ok sc_raised (fun vs H Q E h => spF_len rfl h) fun cdv A outer s H vs Q E hr h => ⟨_, (pss_cons (asE (t := (c_raised_1 T).ts E) (ps_asg (pe_call (ok_unmatched T) (hr.mono (by decide)) rfl T.unmatched.g T.unmatched.F.kp T.unmatched.b .nil pass0 (pa_cons (pv 0) (pa_cons (pv 1) pa_nil))) (pg_tup (by rfl) (pgs_cons (pg_name (i := 2) sc_raised.nd rfl (.inl rfl)) (pgs_cons (pg_name (i := 3) sc_raised.nd rfl (.inl rfl)) pgs_nil)))) (by with_unfolding_all rfl))
      (pss_cons (asE (t := (c_raised_2 T).ts E) (ps_if (pt_cmpR (op_eqD hr.units) (pe_callB call_len_seq (by rfl) T.len PySem.boot_len (pa_cons (pv 3) pa_nil)) pe_int (nomark _))
      (pss_one (asE (t := (c_raised_3 T).ts E) (ps_ret pe_non) (by with_unfolding_all rfl)))
      pss_nil) (by with_unfolding_all rfl))
      (pss_one (asE (t := (c_raised_4 T).ts E) (ps_ret (pe_call (ok_with_letters T) (hr.mono (by decide)) rfl T.with_letters.g T.with_letters.F.kp T.with_letters.b .nil pass0 (pa_cons (pv 0) (pa_cons (pe_slice sl_seq (pv 3) po_none (po_some pe_int)) (pa_cons (pe_lst (pa_cons (pv 1) pa_nil)) pa_nil))))) (by with_unfolding_all rfl))))), by have q := body_ok (N := N_raised) (ps := ["word", "number"]) (b_raised T) h; exact q⟩
def b_exchanged (T : Txt K mg) : SX K :=
  (sSeq (sTgt (mT 2 (mCons (mN 2) (mCons (mN 3) mNil))) (xCall 2 (F_unmatched T) (xCons (xVar 0) (xCons (xVar 1) xNil))))
  (sRet (xCall 3 (F_with_letters T) (xCons (xVar 0) (xCons (xOp oPlus (xVar 2) (xVar 3)) (xCons (xOp oPlus (xOp oTimes (xLst (xCons (xVar 1) xNil)) (xCB bLen (xCons (xVar 3) xNil))) (xOp oTimes (xLst (xCons (xOp oPlus (xVar 1) (xInt 1)) xNil)) (xCB bLen (xCons (xVar 2) xNil)))) xNil))))))
def F_exchanged (T : Txt K mg) : FnW := bodyF N_exchanged.length (b_exchanged T)
theorem u_exchanged (T : Txt K mg) {a0 a1 : OV} {R : OV → Prop} {X : Addr → Prop} : F_exchanged T [a0, a1] R X = (b_exchanged T).wp [some a0, some a1, none, none] ⟨fun _ => R (.da .nw .none), R, X, fun _ => False, fun _ => False⟩ := rfl
theorem ok_exchanged (T : Txt K mg) : FnOk P w K mg base CX0 2 T.exchanged.f T.exchanged.fd ["word", "number"] (spF K 2 (F_exchanged T)) :=
  T.exchanged.F.ok sc_exchanged (fun vs H Q E h => spF_len rfl h) fun cdv A outer s H vs Q E hr h => ⟨_, (pss_cons (ps_asg (pe_call (ok_unmatched T) (hr.mono (by decide)) rfl T.unmatched.g T.unmatched.F.kp T.unmatched.b .nil pass0 (pa_cons (pv 0) (pa_cons (pv 1) pa_nil))) (pg_tup (by rfl) (pgs_cons (pg_name (i := 2) sc_exchanged.nd rfl (.inl rfl)) (pgs_cons (pg_name (i := 3) sc_exchanged.nd rfl (.inl rfl)) pgs_nil))))
      (pss_one (ps_ret (pe_call (ok_with_letters T) (hr.mono (by decide)) rfl T.with_letters.g T.with_letters.F.kp T.with_letters.b .nil pass0 (pa_cons (pv 0) (pa_cons (pe_op op_plus (pv 2) (pv 3)) (pa_cons (pe_op op_plus (pe_op op_times (pe_lst (pa_cons (pv 1) pa_nil)) (pe_callB call_len_seq (by rfl) T.len PySem.boot_len (pa_cons (pv 3) pa_nil))) (pe_op op_times (pe_lst (pa_cons (pe_op op_plus (pv 1) pe_int) pa_nil)) (pe_callB call_len_seq (by rfl) T.len PySem.boot_len (pa_cons (pv 2) pa_nil)))) pa_nil))))))), by with_unfolding_all exact body_ok (N := N_exchanged) (ps := ["word", "number"]) (b_exchanged T) h⟩
@[irreducible] def c_law_is_word_6 (T : Txt K mg) : SX K :=
  (sRet (xBl true))
@[irreducible] def c_law_is_word_5 (T : Txt K mg) : SX K :=
  (sRet (xBl false))
@[irreducible] def c_law_is_word_4 (T : Txt K mg) : SX K :=
  (sIf (tNot' (tB' (xCall 1 (F_law_is_integer T) (xCons (xVar 1) xNil))))
      (c_law_is_word_5 T)
      sNext)
@[irreducible] def c_law_is_word_3 (T : Txt K mg) : SX K :=
  (sFor (iSq (xVar 0)) (nN 1)
    (c_law_is_word_4 T))
@[irreducible] def c_law_is_word_2 (T : Txt K mg) : SX K :=
  (sRet (xBl false))
@[irreducible] def c_law_is_word_1 (T : Txt K mg) : SX K :=
  (sIf (tNot' (tB' (xIsi "list" (by decide +kernel) (xVar 0))))
    (c_law_is_word_2 T)
    sNext)
def b_law_is_word (T : Txt K mg) : SX K :=
  (sSeq (c_law_is_word_1 T)
  (sSeq (c_law_is_word_3 T)
  (c_law_is_word_6 T)))
def F_law_is_word (T : Txt K mg) : FnW := bodyF N_law_is_word.length (b_law_is_word T)
theorem u_law_is_word (T : Txt K mg) {a0 : OV} {R : OV → Prop} {X : Addr → Prop} : F_law_is_word T [a0] R X = (b_law_is_word T).wp [some a0, none] ⟨fun _ => R (.da .nw .none), R, X, fun _ => False, fun _ => False⟩ := rfl
theorem ok_law_is_word (T : Txt K mg) : FnOk P w K mg base CX0 2 T.law_is_word.f T.law_is_word.fd ["actual"] (spF K 1 (F_law_is_word T)) :=
  T.law_is_word.F.ok sc_law_is_word (fun vs H Q E h => spF_len rfl h) fun cdv A outer s H vs Q E hr h => ⟨_, (pss_cons (asE (t := (c_law_is_word_1 T).ts E) (ps_if (pt_not (pt_val (pe_callB call_isi (by rfl) T.isinstance (by decide +kernel) (pa_cons (pv 0) (pa_cons (pe_bltn (v := .ty "list") (u := .type "list") (by rfl) T.list (by decide +kernel) rfl) pa_nil)))))
      (pss_one (asE (t := (c_law_is_word_2 T).ts E) (ps_ret pe_bl) (by with_unfolding_all rfl)))
      pss_nil) (by with_unfolding_all rfl))
      (pss_cons (asE (t := (c_law_is_word_3 T).ts E) (ps_for PassesOwn.never rfl (pi_seq (pv 0)) (pg_name (i := 1) sc_law_is_word.nd rfl (.inl rfl))
      (pss_one (asE (t := (c_law_is_word_4 T).ts E) (ps_if (pt_not (pt_val (pe_call (ok_law_is_integer T) (hr.mono (by decide)) rfl T.law_is_integer.g T.law_is_integer.F.kp T.law_is_integer.b .nil pass0 (pa_cons (pv 1) pa_nil))))
        (pss_one (asE (t := (c_law_is_word_5 T).ts E) (ps_ret pe_bl) (by with_unfolding_all rfl)))
        pss_nil) (by with_unfolding_all rfl)))) (by with_unfolding_all rfl))
      (pss_one (asE (t := (c_law_is_word_6 T).ts E) (ps_ret pe_bl) (by with_unfolding_all rfl))))), by have q := body_ok (N := N_law_is_word) (ps := ["actual"]) (b_law_is_word T) h; exact q⟩
@[irreducible] def c_law_there_and_back_15 (T : Txt K mg) : SX K :=
  (sRet (xOp oEq (xVar 2) (xVar 0)))
@[irreducible] def c_law_there_and_back_14 (T : Txt K mg) : SX K :=
  (sRet (xBl false))
@[irreducible] def c_law_there_and_back_13 (T : Txt K mg) : SX K :=
  (sIf (tT' (xOp oIs (xVar 2) xNone))
      (c_law_there_and_back_14 T)
      sNext)
@[irreducible] def c_law_there_and_back_12 (T : Txt K mg) : SX K :=
  (sAsg 2 (xCall 2 (F_raised T) (xCons (xVar 2) (xCons (xVar 1) xNil))))
@[irreducible] def c_law_there_and_back_11 (T : Txt K mg) : SX K :=
  (sFor (iRg1 (xVar 3)) (nN 4)
    (sSeq (c_law_there_and_back_12 T)
    (c_law_there_and_back_13 T)))
@[irreducible] def c_law_there_and_back_10 (T : Txt K mg) : SX K :=
  (sRet (xBl false))
@[irreducible] def c_law_there_and_back_9 (T : Txt K mg) : SX K :=
  (sIf (tT' (xOp oGt (xVar 3) (xCB bLen (xCons (xVar 0) xNil))))
    (c_law_there_and_back_10 T)
    sNext)
@[irreducible] def c_law_there_and_back_8 (T : Txt K mg) : SX K :=
  (sAsg 3 (xOp oPlus (xVar 3) (xInt 1)))
@[irreducible] def c_law_there_and_back_7 (T : Txt K mg) : SX K :=
  (sAsg 2 (xVar 5))
@[irreducible] def c_law_there_and_back_6 (T : Txt K mg) : SX K :=
  sBreak
@[irreducible] def c_law_there_and_back_5 (T : Txt K mg) : SX K :=
  (sIf (tT' (xOp oIs (xVar 5) xNone))
      (c_law_there_and_back_6 T)
      sNext)
@[irreducible] def c_law_there_and_back_4 (T : Txt K mg) : SX K :=
  (sAsg 5 (xCall 2 (F_lowered T) (xCons (xVar 2) (xCons (xVar 1) xNil))))
@[irreducible] def c_law_there_and_back_3 (T : Txt K mg) : SX K :=
  (sFor (iRg1 (xOp oPlus (xCB bLen (xCons (xVar 0) xNil)) (xInt 1))) (nN 4)
    (sSeq (c_law_there_and_back_4 T)
    (sSeq (c_law_there_and_back_5 T)
    (sSeq (c_law_there_and_back_7 T)
    (c_law_there_and_back_8 T)))))
@[irreducible] def c_law_there_and_back_2 (T : Txt K mg) : SX K :=
  (sAsg 3 (xInt 0))
@[irreducible] def c_law_there_and_back_1 (T : Txt K mg) : SX K :=
  (sAsg 2 (xCB bList (xCons (xVar 0) xNil)))
def b_law_there_and_back (T : Txt K mg) : SX K :=
  (sSeq (c_law_there_and_back_1 T)
  (sSeq (c_law_there_and_back_2 T)
  (sSeq (c_law_there_and_back_3 T)
  (sSeq (c_law_there_and_back_9 T)
  (sSeq (c_law_there_and_back_11 T)
  (c_law_there_and_back_15 T))))))
def F_law_there_and_back (T : Txt K mg) : FnW := bodyF N_law_there_and_back.length (b_law_there_and_back T)
theorem u_law_there_and_back (T : Txt K mg) {a0 a1 : OV} {R : OV → Prop} {X : Addr → Prop} : F_law_there_and_back T [a0, a1] R X = (b_law_there_and_back T).wp [some a0, some a1, none, none, none, none] ⟨fun _ => R (.da .nw .none), R, X, fun _ => False, fun _ => False⟩ := rfl
theorem ok_law_there_and_back (T : Txt K mg) : FnOk P w K mg base CX0 3 T.law_there_and_back.f T.law_there_and_back.fd ["word", "number"] (spF K 2 (F_law_there_and_back T)) :=
  T.law_there_and_back.F.ok sc_law_there_and_back (fun vs H Q E h => spF_len rfl h) fun cdv A outer s H vs Q E hr h => ⟨_, (pss_cons (asE (t := (c_law_there_and_back_1 T).ts E) (ps_set (i := 2) sc_law_there_and_back.nd rfl (.inl rfl) (pe_callTy call_list_of (by rfl) T.list (by decide +kernel) (pa_cons (pv 0) pa_nil))) (by with_unfolding_all rfl))
      (pss_cons (asE (t := (c_law_there_and_back_2 T).ts E) (ps_set (i := 3) sc_law_there_and_back.nd rfl (.inl rfl) pe_int) (by with_unfolding_all rfl))
      (pss_cons (asE (t := (c_law_there_and_back_3 T).ts E) (ps_for PassesOwn.never rfl (pi_range1 (by rfl) T.range (pa_cons (pe_op op_plus (pe_callB call_len_seq (by rfl) T.len PySem.boot_len (pa_cons (pv 0) pa_nil)) pe_int) pa_nil)) (pg_name (i := 4) sc_law_there_and_back.nd rfl (.inl rfl))
      (pss_cons (asE (t := (c_law_there_and_back_4 T).ts E) (ps_set (i := 5) sc_law_there_and_back.nd rfl (.inl rfl) (pe_call (ok_lowered T) (hr.mono (by decide)) rfl T.lowered.g T.lowered.F.kp T.lowered.b .nil pass0 (pa_cons (pv 2) (pa_cons (pv 1) pa_nil)))) (by with_unfolding_all rfl))
        (pss_cons (asE (t := (c_law_there_and_back_5 T).ts E) (ps_if (pt_cmpR op_isN (pv 5) pe_non (nomark _))
        (pss_one (asE (t := (c_law_there_and_back_6 T).ts E) ps_break (by with_unfolding_all rfl)))
        pss_nil) (by with_unfolding_all rfl))
        (pss_cons (asE (t := (c_law_there_and_back_7 T).ts E) (ps_set (i := 2) sc_law_there_and_back.nd rfl (.inl rfl) (pv 5)) (by with_unfolding_all rfl))
        (pss_one (asE (t := (c_law_there_and_back_8 T).ts E) (ps_set (i := 3) sc_law_there_and_back.nd rfl (.inl rfl) (pe_op op_plus (pv 3) pe_int)) (by with_unfolding_all rfl))))))) (by with_unfolding_all rfl))
      (pss_cons (asE (t := (c_law_there_and_back_9 T).ts E) (ps_if (pt_cmpR op_gt (pv 3) (pe_callB call_len_seq (by rfl) T.len PySem.boot_len (pa_cons (pv 0) pa_nil)) (nomark _))
      (pss_one (asE (t := (c_law_there_and_back_10 T).ts E) (ps_ret pe_bl) (by with_unfolding_all rfl)))
      pss_nil) (by with_unfolding_all rfl))
      (pss_cons (asE (t := (c_law_there_and_back_11 T).ts E) (ps_for PassesOwn.never rfl (pi_range1 (by rfl) T.range (pa_cons (pv 3) pa_nil)) (pg_name (i := 4) sc_law_there_and_back.nd rfl (.inl rfl))
      (pss_cons (asE (t := (c_law_there_and_back_12 T).ts E) (ps_set (i := 2) sc_law_there_and_back.nd rfl (.inl rfl) (pe_call (ok_raised T) (hr.mono (by decide)) rfl T.raised.g T.raised.F.kp T.raised.b .nil pass0 (pa_cons (pv 2) (pa_cons (pv 1) pa_nil)))) (by with_unfolding_all rfl))
        (pss_one (asE (t := (c_law_there_and_back_13 T).ts E) (ps_if (pt_cmpR op_isN (pv 2) pe_non (nomark _))
        (pss_one (asE (t := (c_law_there_and_back_14 T).ts E) (ps_ret pe_bl) (by with_unfolding_all rfl)))
        pss_nil) (by with_unfolding_all rfl))))) (by with_unfolding_all rfl))
      (pss_one (asE (t := (c_law_there_and_back_15 T).ts E) (ps_ret (pe_cmpR (op_eqD hr.units) (pv 2) (pv 0) (nomark _))) (by with_unfolding_all rfl)))))))), by have q := body_ok (N := N_law_there_and_back) (ps := ["word", "number"]) (b_law_there_and_back T) h; exact q⟩
@[irreducible] def c_law_16 (T : Txt K mg) : SX K :=
  (sRet (xBl true))
@[irreducible] def c_law_15 (T : Txt K mg) : SX K :=
  (sRet (xBl false))
@[irreducible] def c_law_14 (T : Txt K mg) : SX K :=
  (sIf (tAnd' (tT' (xOp oNotIn (xOp oIx (xVar 4) (xVar 7)) (xLst (xCons (xVar 5) (xCons (xOp oPlus (xVar 5) (xInt 1)) xNil))))) (tT' (xOp oNe (xOp oIx (xVar 6) (xVar 7)) (xOp oIx (xVar 4) (xVar 7)))))
        (c_law_15 T)
        sNext)
@[irreducible] def c_law_13 (T : Txt K mg) : SX K :=
  (sFor (iRg1 (xCB bLen (xCons (xVar 4) xNil))) (nN 7)
      (c_law_14 T))
@[irreducible] def c_law_12 (T : Txt K mg) : SX K :=
  (sRet (xBl false))
@[irreducible] def c_law_11 (T : Txt K mg) : SX K :=
  (sIf (tOr' (tT' (xOp oNe (xCount (xVar 6) (xVar 5)) (xCount (xVar 4) (xOp oPlus (xVar 5) (xInt 1))))) (tT' (xOp oNe (xCount (xVar 6) (xOp oPlus (xVar 5) (xInt 1))) (xCount (xVar 4) (xVar 5)))))
      (c_law_12 T)
      sNext)
@[irreducible] def c_law_10 (T : Txt K mg) : SX K :=
  (sRet (xBl false))
@[irreducible] def c_law_9 (T : Txt K mg) : SX K :=
  (sIf (tOr' (tNot' (tB' (xCall 1 (F_law_is_word T) (xCons (xVar 6) xNil)))) (tOr' (tT' (xOp oNe (xCall 2 (F_exchanged T) (xCons (xCB bList (xCons (xVar 6) xNil)) (xCons (xVar 5) xNil))) (xVar 4))) (tNot' (tB' (xCall 2 (F_law_there_and_back T) (xCons (xVar 4) (xCons (xVar 5) xNil)))))))
      (c_law_10 T)
      sNext)
@[irreducible] def c_law_8 (T : Txt K mg) : SX K :=
  (sAsg 6 (xCall 2 (F_exchanged T) (xCons (xCB bList (xCons (xVar 4) xNil)) (xCons (xVar 5) xNil))))
@[irreducible] def c_law_7 (T : Txt K mg) : SX K :=
  (sFor (iRg2 (xOp oSub (xVar 2) (xInt 1)) (xOp oPlus (xVar 2) (xVar 3))) (nN 5)
    (sSeq (c_law_8 T)
    (sSeq (c_law_9 T)
    (sSeq (c_law_11 T)
    (c_law_13 T)))))
@[irreducible] def c_law_6 (T : Txt K mg) : SX K :=
  (sRet (xBl false))
@[irreducible] def c_law_5 (T : Txt K mg) : SX K :=
  (sIf (tT' (xOp oNe (xCall 2 (F_exchanged T) (xCons (xCall 2 (F_exchanged T) (xCons (xCB bList (xCons (xVar 4) xNil)) (xCons (xVar 2) xNil))) (xCons (xOp oPlus (xVar 2) (xInt 2)) xNil))) (xCall 2 (F_exchanged T) (xCons (xCall 2 (F_exchanged T) (xCons (xCB bList (xCons (xVar 4) xNil)) (xCons (xOp oPlus (xVar 2) (xInt 2)) xNil))) (xCons (xVar 2) xNil)))))
    (c_law_6 T)
    sNext)
@[irreducible] def c_law_4 (T : Txt K mg) : SX K :=
  (sAsg 4 (xLc (iRg1 (xCall 2 FNext (xCons (xVar 1) (xCons (xInt 15) xNil)))) (gN 7) tYes' (xOp oPlus (xVar 2) (xCall 2 FNext (xCons (xVar 1) (xCons (xVar 3) xNil)))) [7] (hw1 7)))
@[irreducible] def c_law_3 (T : Txt K mg) : SX K :=
  (sAsg 3 (xOp oPlus (xInt 3) (xCall 2 FNext (xCons (xVar 1) (xCons (xInt 2) xNil)))))
@[irreducible] def c_law_2 (T : Txt K mg) : SX K :=
  (sAsg 2 (xOp oSub (xCall 2 FNext (xCons (xVar 1) (xCons (xInt 7) xNil))) (xInt 3)))
@[irreducible] def c_law_1 (T : Txt K mg) : SX K :=
  (sAsg 1 (xCall 1 FStream (xCons (xCall 2 FCell (xCons (xVar 0) (xCons (xInt 0) xNil))) xNil)))
def b_law (T : Txt K mg) : SX K :=
  (sSeq (c_law_1 T)
  (sSeq (c_law_2 T)
  (sSeq (c_law_3 T)
  (sSeq (c_law_4 T)
  (sSeq (c_law_5 T)
  (sSeq (c_law_7 T)
  (c_law_16 T)))))))
def F_law (T : Txt K mg) : FnW := bodyF N_law.length (b_law T)
theorem u_law (T : Txt K mg) {a0 : OV} {R : OV → Prop} {X : Addr → Prop} : F_law T [a0] R X = (b_law T).wp [some a0, none, none, none, none, none, none, none] ⟨fun _ => R (.da .nw .none), R, X, fun _ => False, fun _ => False⟩ := rfl
theorem ok_law {f : Addr} {fd : FuncData} (T : Txt K mg) (FL : Fun K "law" "law" s_law f fd) : FnOk P w K mg base CX0 4 f fd ["script"] (spF K 1 (F_law T)) :=
  FL.ok sc_law (fun vs H Q E h => spF_len rfl h) fun cdv A outer s H vs Q E hr h => ⟨_, (pss_cons (asE (t := (c_law_1 T).ts E) (ps_set (i := 1) sc_law.nd rfl (.inr rfl) (pe_call (ok_law_stream T) (hr.mono (by decide)) rfl T.law_stream.g T.law_stream.F.kp T.law_stream.b .nil pass0 (pa_cons (pe_call (ok_law_cell T) (hr.mono (by decide)) rfl T.law_cell.g T.law_cell.F.kp T.law_cell.b .nil pass0 (pa_cons (pv 0) (pa_cons pe_int pa_nil))) pa_nil))) (by with_unfolding_all rfl))
      (pss_cons (asE (t := (c_law_2 T).ts E) (ps_set (i := 2) sc_law.nd rfl (.inr rfl) (pe_op op_sub (pe_call (ok_law_next T) (hr.mono (by decide)) rfl T.law_next.g T.law_next.F.kp T.law_next.b .nil pass0 (pa_cons (pv 1) (pa_cons pe_int pa_nil))) pe_int)) (by with_unfolding_all rfl))
      (pss_cons (asE (t := (c_law_3 T).ts E) (ps_set (i := 3) sc_law.nd rfl (.inr rfl) (pe_op op_plus pe_int (pe_call (ok_law_next T) (hr.mono (by decide)) rfl T.law_next.g T.law_next.F.kp T.law_next.b .nil pass0 (pa_cons (pv 1) (pa_cons pe_int pa_nil))))) (by with_unfolding_all rfl))
      (pss_cons (asE (t := (c_law_4 T).ts E) (ps_setLc (g := (gN 7).tg) (tt := tYes'.tt E) (te := (xOp oPlus (xVar 2) (xCall 2 FNext (xCons (xVar 1) (xCons (xVar 3) xNil)))).te E) (own := [("k", 7)]) (i := 4) (by rfl) sc_law.nd rfl rfl (sw_true rfl rfl rfl (by decide +kernel)) (pi_range1 (by rfl) T.range (pa_cons (pe_call (ok_law_next T) (hr.mono (by decide)) rfl T.law_next.g T.law_next.F.kp T.law_next.b .nil pass0 (pa_cons (pv 1) (pa_cons pe_int pa_nil))) pa_nil)) (blkOk_by (own := [("k", 7)]) (N := N_law) (sc := defScope s_law) (by decide +kernel)) (fun _ _ _ _ _ => (pg_name (i := 7) sc_law.nd rfl (.inl rfl))) (fun _ _ _ _ _ => pts_nil) (fun _ _ _ _ _ => (pe_op op_plus (pv 2) (pe_xCall (ok_law_next T) (hr.mono (by decide)) (by rfl) T.law_next.g T.law_next.F.kp T.law_next.b .nil pass0 (pa_cons (pv 1) (pa_cons (pv 3) pa_nil)))))) (by with_unfolding_all rfl))
      (pss_cons (asE (t := (c_law_5 T).ts E) (ps_if (pt_cmpR (op_neD hr.units) (pe_call (ok_exchanged T) (hr.mono (by decide)) rfl T.exchanged.g T.exchanged.F.kp T.exchanged.b .nil pass0 (pa_cons (pe_call (ok_exchanged T) (hr.mono (by decide)) rfl T.exchanged.g T.exchanged.F.kp T.exchanged.b .nil pass0 (pa_cons (pe_callTy call_list_of (by rfl) T.list (by decide +kernel) (pa_cons (pv 4) pa_nil)) (pa_cons (pv 2) pa_nil))) (pa_cons (pe_op op_plus (pv 2) pe_int) pa_nil))) (pe_call (ok_exchanged T) (hr.mono (by decide)) rfl T.exchanged.g T.exchanged.F.kp T.exchanged.b .nil pass0 (pa_cons (pe_call (ok_exchanged T) (hr.mono (by decide)) rfl T.exchanged.g T.exchanged.F.kp T.exchanged.b .nil pass0 (pa_cons (pe_callTy call_list_of (by rfl) T.list (by decide +kernel) (pa_cons (pv 4) pa_nil)) (pa_cons (pe_op op_plus (pv 2) pe_int) pa_nil))) (pa_cons (pv 2) pa_nil))) (nomark _))
      (pss_one (asE (t := (c_law_6 T).ts E) (ps_ret pe_bl) (by with_unfolding_all rfl)))
      pss_nil) (by with_unfolding_all rfl))
      (pss_cons (asE (t := (c_law_7 T).ts E) (ps_for PassesOwn.never rfl (pi_range2 (by rfl) T.range (pa_cons (pe_op op_sub (pv 2) pe_int) (pa_cons (pe_op op_plus (pv 2) (pv 3)) pa_nil))) (pg_name (i := 5) sc_law.nd rfl (.inl rfl))
      (pss_cons (asE (t := (c_law_8 T).ts E) (ps_set (i := 6) sc_law.nd rfl (.inl rfl) (pe_call (ok_exchanged T) (hr.mono (by decide)) rfl T.exchanged.g T.exchanged.F.kp T.exchanged.b .nil pass0 (pa_cons (pe_callTy call_list_of (by rfl) T.list (by decide +kernel) (pa_cons (pv 4) pa_nil)) (pa_cons (pv 5) pa_nil)))) (by with_unfolding_all rfl))
        (pss_cons (asE (t := (c_law_9 T).ts E) (ps_if (PW.pt (pw_or (pt_not (pt_val (pe_call (ok_law_is_word T) (hr.mono (by decide)) rfl T.law_is_word.g T.law_is_word.F.kp T.law_is_word.b .nil pass0 (pa_cons (pv 6) pa_nil)))) (pw_or (pt_cmpR (op_neD hr.units) (pe_call (ok_exchanged T) (hr.mono (by decide)) rfl T.exchanged.g T.exchanged.F.kp T.exchanged.b .nil pass0 (pa_cons (pe_callTy call_list_of (by rfl) T.list (by decide +kernel) (pa_cons (pv 6) pa_nil)) (pa_cons (pv 5) pa_nil))) (pv 4) (nomark _)) (pw_or1 (pt_not (pt_val (pe_call (ok_law_there_and_back T) (hr.mono (by decide)) rfl T.law_there_and_back.g T.law_there_and_back.F.kp T.law_there_and_back.b .nil pass0 (pa_cons (pv 4) (pa_cons (pv 5) pa_nil)))))))))
        (pss_one (asE (t := (c_law_10 T).ts E) (ps_ret pe_bl) (by with_unfolding_all rfl)))
        pss_nil) (by with_unfolding_all rfl))
        (pss_cons (asE (t := (c_law_11 T).ts E) (ps_if (PW.pt (pw_or (pt_cmpR (op_neD hr.units) (pe_bm PySem.F.plainAttrs_list PySem.F.slot_list_count PySem.F.type_list_count mt_lcount (pv 6) (pa_cons (pv 5) pa_nil)) (pe_bm PySem.F.plainAttrs_list PySem.F.slot_list_count PySem.F.type_list_count mt_lcount (pv 4) (pa_cons (pe_op op_plus (pv 5) pe_int) pa_nil)) (nomark _)) (pw_or1 (pt_cmpR (op_neD hr.units) (pe_bm PySem.F.plainAttrs_list PySem.F.slot_list_count PySem.F.type_list_count mt_lcount (pv 6) (pa_cons (pe_op op_plus (pv 5) pe_int) pa_nil)) (pe_bm PySem.F.plainAttrs_list PySem.F.slot_list_count PySem.F.type_list_count mt_lcount (pv 4) (pa_cons (pv 5) pa_nil)) (nomark _)))))
        (pss_one (asE (t := (c_law_12 T).ts E) (ps_ret pe_bl) (by with_unfolding_all rfl)))
        pss_nil) (by with_unfolding_all rfl))
        (pss_one (asE (t := (c_law_13 T).ts E) (ps_for PassesOwn.never rfl (pi_range1 (by rfl) T.range (pa_cons (pe_callB call_len_seq (by rfl) T.len PySem.boot_len (pa_cons (pv 4) pa_nil)) pa_nil)) (pg_name (i := 7) sc_law.nd rfl (.inl rfl))
        (pss_one (asE (t := (c_law_14 T).ts E) (ps_if (PW.pt (pw_and (pt_cmpR (op_notInD (hr65 hr)) (pe_ix ix_seq (pv 4) (pv 7) (fun _ _ => rfl)) (pe_lst (pa_cons (pv 5) (pa_cons (pe_op op_plus (pv 5) pe_int) pa_nil))) (by rfl)) (pw_and1 (pt_cmpR (op_neD hr.units) (pe_ix ix_seq (pv 6) (pv 7) (fun _ _ => rfl)) (pe_ix ix_seq (pv 4) (pv 7) (fun _ _ => rfl)) (nomark _)))))
          (pss_one (asE (t := (c_law_15 T).ts E) (ps_ret pe_bl) (by with_unfolding_all rfl)))
          pss_nil) (by with_unfolding_all rfl)))) (by with_unfolding_all rfl))))))) (by with_unfolding_all rfl))
      (pss_one (asE (t := (c_law_16 T).ts E) (ps_ret pe_bl) (by with_unfolding_all rfl))))))))), by have q := body_ok (N := N_law) (ps := ["script"]) (b_law T) h; exact q⟩
-- NAMED _with_letters: x
-- NAMED lowered: x
-- NAMED raised: x
-- RET2 _unmatched: x
-- NAMED law: x

theorem p_is_integer (T : Txt K mg) {l : Lv} {i : Int} {R : OV → Prop} {X : Addr → Prop} (h : R (.da .nw (.bool true))) : F_law_is_integer T [.da l (.int i)] R X := by
  rw [u_law_is_integer]
  unfold b_law_is_integer
  simp only [w_var, w_int, w_str, w_bl, w_none, w_op, w_nil, w_cons, w_cb, w_B, w_T, w_tand, w_tor, w_tnot, w_tyes, w_and, w_or, w_not, w_if, w_neg, w_tup, w_lst, w_no, w_at, w_sl, w_isi, w_call, w_callX, w_callL, w_fn, w_lrg1, w_lrg2, w_lc, w_sq, w_rg1, w_rg2, w_rgD, w_asg, w_own, w_seq, w_next, w_break, w_cont, w_sif, w_expr, w_ret, w_retN, w_raise, w_for, w_while, w_app, w_tgt, w_mN, w_mSub, w_mT, w_mNil, w_mCons, w_gN, w_nN, f_plus, f_times, f_I, f_I0, f_B0, f_eq, f_ne, f_is, f_isNot, f_in, f_notIn, f_ix, f_len, f_list, f_tuple, f_sum, f_max, f_min, f_all, f_any, f_int, f_abs, f_sorted, f_min2, f_max2, rd_da, rd2_da, rds_nil, rds_cons, asB_bool, gt_z, gt_s, onLs_z, onLs_s, keepS_nw, keepS_loc, keepS_fr, keepS_di, keepS_fn, asgF_nw, asgF_loc, asgF_fr, asgF_ns, asgF_fn, itemF_nw, itemF_loc, itemF_fr, ownF_nw, retF_ns, rc_nw, rc_di, rc_ns, args_nil, args_da, args_st, args_sc, args_fn, len_da_l, len_da_t, len_ls, len_sc, ix_l, ix_t, seq_l, seq_t, seq_ls, imm_int, imm_bool, imm_str, imm_none, imm_list, imm_tuple, immAll_nil, immAll_cons, immAll_app, immAll_ints, turn_eq, keep_nw, keep_loc, keep_fr, keep_di, f_next, f_stream, f_cell, sup_nwl, sup_nwr, sup_self, nrm_int, nrm_bool, nrm_str, nrm_none, nrm_list, nrm_tuple, nrm_R, nrm_nw, nl_nw, nt_nw, nl_ints, nt_ints, mk_def, retF_nw, retF_loc, c_p14, c_p15, c_p18, c_p29, c_p30, c_p4, rd_lsI, retF_lsI, args_lsI, eqv_int, eqv_str, shp_int, mk_ints, mk_rows, nl_rows, nt_rows, relv_ints, relv_rows, relv_irg, keep_lsI, rd_lsR, oR_snoc, oR_set, nrm_putO, imm_putO, immAll_rows, own_rows', own_ints', wipeE, w_ownL, w_nTt, w_nCons, w_nNil, w_iRvA, w_seqV_l, w_seqV_t, w_revL, w_revT, w_lc2, w_chain, w_extend, w_popE, turn2_eq, w_frz, w_asgD, f_sum2, wi2_l, wi2_t, f_maxA, w_count, isL_l, intD_i, wi_l, w_iEn, enF_l, w_iZp, zpF_l, zpF_t, w_ret2, ret2_lsI, rd2_lsI, rd2_lsIr, w_iEnS, enFz_l, w_appO, w_appAt, w_callN, nsF_ns, List.set_cons_zero, List.set_cons_succ, ite_true, ite_false, Bool.false_eq_true, reduceIte, true_and, and_true, List.length_cons, List.length_nil, Nat.zero_add, List.map_nil, List.nil_append, List.length_map, Bool.true_and, Bool.and_true, Bool.false_and]
  exact h

theorem en_ints {l : Lv} (ws : List Int) : (enD (ws.map PyData.int)).map (mk l) = (List.range ws.length).map fun (i : Nat) => OV.da .nw (.tuple [.int (i : Int), .int (ws.getD i 0)]) := by
  refine List.ext_getElem? fun i => ?_
  rw [List.getElem?_map, List.getElem?_map]
  by_cases c : i < ws.length
  · rw [List.getElem?_range c, enD_at (d := .int (ws.getD i 0)) (dW_at c)]
    rfl
  · rw [List.getElem?_eq_none (by rw [enD_len, List.length_map]; omega), List.getElem?_eq_none (by rw [List.length_range]; omega)]
    rfl
theorem en_relv (ws : List Int) : ((List.range ws.length).map fun (i : Nat) => OV.da .nw (.tuple [.int (i : Int), .int (ws.getD i 0)])).map relv = (List.range ws.length).map fun (i : Nat) => OV.da .nw (.tuple [.int (i : Int), .int (ws.getD i 0)]) := by
  rw [List.map_map]
  rfl
/-- one letter: the unmatched ones before, the place -/
def umS (n : Int) (st : List Nat × List Nat) (k : Nat) (x : Int) : List Nat × List Nat :=
  if x = n + 1 then (st.1, st.2 ++ [k]) else if x = n ∧ st.2 ≠ [] then (st.1, st.2.dropLast) else if x = n then (st.1 ++ [k], st.2) else st
def um (n : Int) (w : List Int) : Nat → List Nat × List Nat
  | 0 => ([], [])
  | i + 1 => umS n (um n w i) i (w.getD i 0)
theorem um_len (n : Int) (w : List Int) : ∀ i, (um n w i).1.length + (um n w i).2.length ≤ i
  | 0 => Nat.le_refl _
  | i + 1 => by
    have := um_len n w i
    show (umS n (um n w i) i (w.getD i 0)).1.length + (umS n (um n w i) i (w.getD i 0)).2.length ≤ i + 1
    unfold umS
    split
    · simp; omega
    · split
      · simp; omega
      · split
        · simp; omega
        · omega
theorem oN_app (xs : List Nat) (k : Nat) : ((iN xs).map fun w => OV.da .nw (.int w)) ++ [OV.da .nw (.int (k : Int))] = (iN (xs ++ [k])).map fun w => .da .nw (.int w) := by
  rw [iN, iN, List.map_append, List.map_append]
  rfl
theorem oN_drop (xs : List Nat) : ((iN xs).map fun w => OV.da .nw (.int w)).dropLast = (iN xs.dropLast).map fun w => .da .nw (.int w) := by
  rw [iN, iN, List.dropLast_eq_take, List.dropLast_eq_take, List.length_map, List.length_map, ← List.map_take, ← List.map_take]
theorem p_unmatched (T : Txt K mg) {l : Lv} (hl : l ≠ .di) {w : List Int} {n : Int} {R : OV → Prop} {X : Addr → Prop} (hz : w.length ≤ 1000) (h : R (.da .nw (.tuple [dW (iN (um n w w.length).1), dW (iN (um n w w.length).2)]))) : F_unmatched T [.da l (dW w), .da .nw (.int n)] R X := by
  rw [u_unmatched]
  unfold b_unmatched c_unmatched_1 c_unmatched_2 c_unmatched_3
  simp only [w_var, w_int, w_str, w_bl, w_none, w_op, w_nil, w_cons, w_cb, w_B, w_T, w_tand, w_tor, w_tnot, w_tyes, w_and, w_or, w_not, w_if, w_neg, w_tup, w_lst, w_no, w_at, w_sl, w_isi, w_call, w_callX, w_callL, w_fn, w_lrg1, w_lrg2, w_lc, w_sq, w_rg1, w_rg2, w_rgD, w_asg, w_own, w_seq, w_next, w_break, w_cont, w_sif, w_expr, w_ret, w_retN, w_raise, w_for, w_while, w_app, w_tgt, w_mN, w_mSub, w_mT, w_mNil, w_mCons, w_gN, w_nN, f_plus, f_times, f_I, f_I0, f_B0, f_eq, f_ne, f_is, f_isNot, f_in, f_notIn, f_ix, f_len, f_list, f_tuple, f_sum, f_max, f_min, f_all, f_any, f_int, f_abs, f_sorted, f_min2, f_max2, rd_da, rd2_da, rds_nil, rds_cons, asB_bool, gt_z, gt_s, onLs_z, onLs_s, keepS_nw, keepS_loc, keepS_fr, keepS_di, keepS_fn, asgF_nw, asgF_loc, asgF_fr, asgF_ns, asgF_fn, itemF_nw, itemF_loc, itemF_fr, ownF_nw, retF_ns, rc_nw, rc_di, rc_ns, args_nil, args_da, args_st, args_sc, args_fn, len_da_l, len_da_t, len_ls, len_sc, ix_l, ix_t, seq_l, seq_t, seq_ls, imm_int, imm_bool, imm_str, imm_none, imm_list, imm_tuple, immAll_nil, immAll_cons, immAll_app, immAll_ints, turn_eq, keep_nw, keep_loc, keep_fr, keep_di, f_next, f_stream, f_cell, sup_nwl, sup_nwr, sup_self, nrm_int, nrm_bool, nrm_str, nrm_none, nrm_list, nrm_tuple, nrm_R, nrm_nw, nl_nw, nt_nw, nl_ints, nt_ints, mk_def, retF_nw, retF_loc, c_p14, c_p15, c_p18, c_p29, c_p30, c_p4, rd_lsI, retF_lsI, args_lsI, eqv_int, eqv_str, shp_int, mk_ints, mk_rows, nl_rows, nt_rows, relv_ints, relv_rows, relv_irg, keep_lsI, rd_lsR, oR_snoc, oR_set, nrm_putO, imm_putO, immAll_rows, own_rows', own_ints', wipeE, w_ownL, w_nTt, w_nCons, w_nNil, w_iRvA, w_seqV_l, w_seqV_t, w_revL, w_revT, w_lc2, w_chain, w_extend, w_popE, turn2_eq, w_frz, w_asgD, f_sum2, wi2_l, wi2_t, f_maxA, w_count, isL_l, intD_i, wi_l, w_iEn, enF_l, w_iZp, zpF_l, zpF_t, w_ret2, ret2_lsI, rd2_lsI, rd2_lsIr, w_iEnS, enFz_l, w_appO, w_appAt, w_callN, nsF_ns, List.set_cons_zero, List.set_cons_succ, ite_true, ite_false, Bool.false_eq_true, reduceIte, true_and, and_true, List.length_cons, List.length_nil, Nat.zero_add, List.map_nil, List.nil_append, List.length_map, Bool.true_and, Bool.and_true, Bool.false_and, en_ints, en_relv]
  refine ⟨by decide, by decide, decide_eq_true hl, forW_ind (fun i env => ∃ x4 x5, env = [some (.da l (dW w)), some (.da .nw (.int n)), some (.ls ((iN (um n w i).1).map fun w => .da .nw (.int w))), some (.ls ((iN (um n w i).2).map fun w => .da .nw (.int w))), x4, x5]) ⟨none, none, rfl⟩ ?_ ?_⟩
  · rintro i o env N hi ⟨x4, x5, rfl⟩ hN
    rw [List.getElem?_map] at hi
    by_cases c : i < w.length
    · rw [List.getElem?_range c] at hi
      cases hi
      have hlen := um_len n w i
      have hstep : um n w (i + 1) = umS n (um n w i) i (w.getD i 0) := rfl
      generalize um n w i = st at *
      simp only [w_var, w_int, w_str, w_bl, w_none, w_op, w_nil, w_cons, w_cb, w_B, w_T, w_tand, w_tor, w_tnot, w_tyes, w_and, w_or, w_not, w_if, w_neg, w_tup, w_lst, w_no, w_at, w_sl, w_isi, w_call, w_callX, w_callL, w_fn, w_lrg1, w_lrg2, w_lc, w_sq, w_rg1, w_rg2, w_rgD, w_asg, w_own, w_seq, w_next, w_break, w_cont, w_sif, w_expr, w_ret, w_retN, w_raise, w_for, w_while, w_app, w_tgt, w_mN, w_mSub, w_mT, w_mNil, w_mCons, w_gN, w_nN, f_plus, f_times, f_I, f_I0, f_B0, f_eq, f_ne, f_is, f_isNot, f_in, f_notIn, f_ix, f_len, f_list, f_tuple, f_sum, f_max, f_min, f_all, f_any, f_int, f_abs, f_sorted, f_min2, f_max2, rd_da, rd2_da, rds_nil, rds_cons, asB_bool, gt_z, gt_s, onLs_z, onLs_s, keepS_nw, keepS_loc, keepS_fr, keepS_di, keepS_fn, asgF_nw, asgF_loc, asgF_fr, asgF_ns, asgF_fn, itemF_nw, itemF_loc, itemF_fr, ownF_nw, retF_ns, rc_nw, rc_di, rc_ns, args_nil, args_da, args_st, args_sc, args_fn, len_da_l, len_da_t, len_ls, len_sc, ix_l, ix_t, seq_l, seq_t, seq_ls, imm_int, imm_bool, imm_str, imm_none, imm_list, imm_tuple, immAll_nil, immAll_cons, immAll_app, immAll_ints, turn_eq, keep_nw, keep_loc, keep_fr, keep_di, f_next, f_stream, f_cell, sup_nwl, sup_nwr, sup_self, nrm_int, nrm_bool, nrm_str, nrm_none, nrm_list, nrm_tuple, nrm_R, nrm_nw, nl_nw, nt_nw, nl_ints, nt_ints, mk_def, retF_nw, retF_loc, c_p14, c_p15, c_p18, c_p29, c_p30, c_p4, rd_lsI, retF_lsI, args_lsI, eqv_int, eqv_str, shp_int, mk_ints, mk_rows, nl_rows, nt_rows, relv_ints, relv_rows, relv_irg, keep_lsI, rd_lsR, oR_snoc, oR_set, nrm_putO, imm_putO, immAll_rows, own_rows', own_ints', wipeE, w_ownL, w_nTt, w_nCons, w_nNil, w_iRvA, w_seqV_l, w_seqV_t, w_revL, w_revT, w_lc2, w_chain, w_extend, w_popE, turn2_eq, w_frz, w_asgD, f_sum2, wi2_l, wi2_t, f_maxA, w_count, isL_l, intD_i, wi_l, w_iEn, enF_l, w_iZp, zpF_l, zpF_t, w_ret2, ret2_lsI, rd2_lsI, rd2_lsIr, w_iEnS, enFz_l, w_appO, w_appAt, w_callN, nsF_ns, List.set_cons_zero, List.set_cons_succ, ite_true, ite_false, Bool.false_eq_true, reduceIte, true_and, and_true, List.length_cons, List.length_nil, Nat.zero_add, List.map_nil, List.nil_append, List.length_map, Bool.true_and, Bool.and_true, Bool.false_and]
      unfold c_unmatched_4
      simp only [w_var, w_int, w_str, w_bl, w_none, w_op, w_nil, w_cons, w_cb, w_B, w_T, w_tand, w_tor, w_tnot, w_tyes, w_and, w_or, w_not, w_if, w_neg, w_tup, w_lst, w_no, w_at, w_sl, w_isi, w_call, w_callX, w_callL, w_fn, w_lrg1, w_lrg2, w_lc, w_sq, w_rg1, w_rg2, w_rgD, w_asg, w_own, w_seq, w_next, w_break, w_cont, w_sif, w_expr, w_ret, w_retN, w_raise, w_for, w_while, w_app, w_tgt, w_mN, w_mSub, w_mT, w_mNil, w_mCons, w_gN, w_nN, f_plus, f_times, f_I, f_I0, f_B0, f_eq, f_ne, f_is, f_isNot, f_in, f_notIn, f_ix, f_len, f_list, f_tuple, f_sum, f_max, f_min, f_all, f_any, f_int, f_abs, f_sorted, f_min2, f_max2, rd_da, rd2_da, rds_nil, rds_cons, asB_bool, gt_z, gt_s, onLs_z, onLs_s, keepS_nw, keepS_loc, keepS_fr, keepS_di, keepS_fn, asgF_nw, asgF_loc, asgF_fr, asgF_ns, asgF_fn, itemF_nw, itemF_loc, itemF_fr, ownF_nw, retF_ns, rc_nw, rc_di, rc_ns, args_nil, args_da, args_st, args_sc, args_fn, len_da_l, len_da_t, len_ls, len_sc, ix_l, ix_t, seq_l, seq_t, seq_ls, imm_int, imm_bool, imm_str, imm_none, imm_list, imm_tuple, immAll_nil, immAll_cons, immAll_app, immAll_ints, turn_eq, keep_nw, keep_loc, keep_fr, keep_di, f_next, f_stream, f_cell, sup_nwl, sup_nwr, sup_self, nrm_int, nrm_bool, nrm_str, nrm_none, nrm_list, nrm_tuple, nrm_R, nrm_nw, nl_nw, nt_nw, nl_ints, nt_ints, mk_def, retF_nw, retF_loc, c_p14, c_p15, c_p18, c_p29, c_p30, c_p4, rd_lsI, retF_lsI, args_lsI, eqv_int, eqv_str, shp_int, mk_ints, mk_rows, nl_rows, nt_rows, relv_ints, relv_rows, relv_irg, keep_lsI, rd_lsR, oR_snoc, oR_set, nrm_putO, imm_putO, immAll_rows, own_rows', own_ints', wipeE, w_ownL, w_nTt, w_nCons, w_nNil, w_iRvA, w_seqV_l, w_seqV_t, w_revL, w_revT, w_lc2, w_chain, w_extend, w_popE, turn2_eq, w_frz, w_asgD, f_sum2, wi2_l, wi2_t, f_maxA, w_count, isL_l, intD_i, wi_l, w_iEn, enF_l, w_iZp, zpF_l, zpF_t, w_ret2, ret2_lsI, rd2_lsI, rd2_lsIr, w_iEnS, enFz_l, w_appO, w_appAt, w_callN, nsF_ns, List.set_cons_zero, List.set_cons_succ, ite_true, ite_false, Bool.false_eq_true, reduceIte, true_and, and_true, List.length_cons, List.length_nil, Nat.zero_add, List.map_nil, List.nil_append, List.length_map, Bool.true_and, Bool.and_true, Bool.false_and]
      generalize w.getD i 0 = x at *
      refine ifd (fun q => ?_) fun q => ?_
      · unfold c_unmatched_5
        simp only [w_var, w_int, w_str, w_bl, w_none, w_op, w_nil, w_cons, w_cb, w_B, w_T, w_tand, w_tor, w_tnot, w_tyes, w_and, w_or, w_not, w_if, w_neg, w_tup, w_lst, w_no, w_at, w_sl, w_isi, w_call, w_callX, w_callL, w_fn, w_lrg1, w_lrg2, w_lc, w_sq, w_rg1, w_rg2, w_rgD, w_asg, w_own, w_seq, w_next, w_break, w_cont, w_sif, w_expr, w_ret, w_retN, w_raise, w_for, w_while, w_app, w_tgt, w_mN, w_mSub, w_mT, w_mNil, w_mCons, w_gN, w_nN, f_plus, f_times, f_I, f_I0, f_B0, f_eq, f_ne, f_is, f_isNot, f_in, f_notIn, f_ix, f_len, f_list, f_tuple, f_sum, f_max, f_min, f_all, f_any, f_int, f_abs, f_sorted, f_min2, f_max2, rd_da, rd2_da, rds_nil, rds_cons, asB_bool, gt_z, gt_s, onLs_z, onLs_s, keepS_nw, keepS_loc, keepS_fr, keepS_di, keepS_fn, asgF_nw, asgF_loc, asgF_fr, asgF_ns, asgF_fn, itemF_nw, itemF_loc, itemF_fr, ownF_nw, retF_ns, rc_nw, rc_di, rc_ns, args_nil, args_da, args_st, args_sc, args_fn, len_da_l, len_da_t, len_ls, len_sc, ix_l, ix_t, seq_l, seq_t, seq_ls, imm_int, imm_bool, imm_str, imm_none, imm_list, imm_tuple, immAll_nil, immAll_cons, immAll_app, immAll_ints, turn_eq, keep_nw, keep_loc, keep_fr, keep_di, f_next, f_stream, f_cell, sup_nwl, sup_nwr, sup_self, nrm_int, nrm_bool, nrm_str, nrm_none, nrm_list, nrm_tuple, nrm_R, nrm_nw, nl_nw, nt_nw, nl_ints, nt_ints, mk_def, retF_nw, retF_loc, c_p14, c_p15, c_p18, c_p29, c_p30, c_p4, rd_lsI, retF_lsI, args_lsI, eqv_int, eqv_str, shp_int, mk_ints, mk_rows, nl_rows, nt_rows, relv_ints, relv_rows, relv_irg, keep_lsI, rd_lsR, oR_snoc, oR_set, nrm_putO, imm_putO, immAll_rows, own_rows', own_ints', wipeE, w_ownL, w_nTt, w_nCons, w_nNil, w_iRvA, w_seqV_l, w_seqV_t, w_revL, w_revT, w_lc2, w_chain, w_extend, w_popE, turn2_eq, w_frz, w_asgD, f_sum2, wi2_l, wi2_t, f_maxA, w_count, isL_l, intD_i, wi_l, w_iEn, enF_l, w_iZp, zpF_l, zpF_t, w_ret2, ret2_lsI, rd2_lsI, rd2_lsIr, w_iEnS, enFz_l, w_appO, w_appAt, w_callN, nsF_ns, List.set_cons_zero, List.set_cons_succ, ite_true, ite_false, Bool.false_eq_true, reduceIte, true_and, and_true, List.length_cons, List.length_nil, Nat.zero_add, List.map_nil, List.nil_append, List.length_map, Bool.true_and, Bool.and_true, Bool.false_and, oN_app]
        refine ⟨by omega, hN _ ⟨some (.da .nw (.int (i : Int))), some (.da .nw (.int x)), ?_⟩⟩
        rw [hstep, umS, if_pos q]
      · unfold c_unmatched_6
        simp only [w_var, w_int, w_str, w_bl, w_none, w_op, w_nil, w_cons, w_cb, w_B, w_T, w_tand, w_tor, w_tnot, w_tyes, w_and, w_or, w_not, w_if, w_neg, w_tup, w_lst, w_no, w_at, w_sl, w_isi, w_call, w_callX, w_callL, w_fn, w_lrg1, w_lrg2, w_lc, w_sq, w_rg1, w_rg2, w_rgD, w_asg, w_own, w_seq, w_next, w_break, w_cont, w_sif, w_expr, w_ret, w_retN, w_raise, w_for, w_while, w_app, w_tgt, w_mN, w_mSub, w_mT, w_mNil, w_mCons, w_gN, w_nN, f_plus, f_times, f_I, f_I0, f_B0, f_eq, f_ne, f_is, f_isNot, f_in, f_notIn, f_ix, f_len, f_list, f_tuple, f_sum, f_max, f_min, f_all, f_any, f_int, f_abs, f_sorted, f_min2, f_max2, rd_da, rd2_da, rds_nil, rds_cons, asB_bool, gt_z, gt_s, onLs_z, onLs_s, keepS_nw, keepS_loc, keepS_fr, keepS_di, keepS_fn, asgF_nw, asgF_loc, asgF_fr, asgF_ns, asgF_fn, itemF_nw, itemF_loc, itemF_fr, ownF_nw, retF_ns, rc_nw, rc_di, rc_ns, args_nil, args_da, args_st, args_sc, args_fn, len_da_l, len_da_t, len_ls, len_sc, ix_l, ix_t, seq_l, seq_t, seq_ls, imm_int, imm_bool, imm_str, imm_none, imm_list, imm_tuple, immAll_nil, immAll_cons, immAll_app, immAll_ints, turn_eq, keep_nw, keep_loc, keep_fr, keep_di, f_next, f_stream, f_cell, sup_nwl, sup_nwr, sup_self, nrm_int, nrm_bool, nrm_str, nrm_none, nrm_list, nrm_tuple, nrm_R, nrm_nw, nl_nw, nt_nw, nl_ints, nt_ints, mk_def, retF_nw, retF_loc, c_p14, c_p15, c_p18, c_p29, c_p30, c_p4, rd_lsI, retF_lsI, args_lsI, eqv_int, eqv_str, shp_int, mk_ints, mk_rows, nl_rows, nt_rows, relv_ints, relv_rows, relv_irg, keep_lsI, rd_lsR, oR_snoc, oR_set, nrm_putO, imm_putO, immAll_rows, own_rows', own_ints', wipeE, w_ownL, w_nTt, w_nCons, w_nNil, w_iRvA, w_seqV_l, w_seqV_t, w_revL, w_revT, w_lc2, w_chain, w_extend, w_popE, turn2_eq, w_frz, w_asgD, f_sum2, wi2_l, wi2_t, f_maxA, w_count, isL_l, intD_i, wi_l, w_iEn, enF_l, w_iZp, zpF_l, zpF_t, w_ret2, ret2_lsI, rd2_lsI, rd2_lsIr, w_iEnS, enFz_l, w_appO, w_appAt, w_callN, nsF_ns, List.set_cons_zero, List.set_cons_succ, ite_true, ite_false, Bool.false_eq_true, reduceIte, true_and, and_true, List.length_cons, List.length_nil, Nat.zero_add, List.map_nil, List.nil_append, List.length_map, Bool.true_and, Bool.and_true, Bool.false_and]
        refine ifd (fun q2 => ?_) fun q2 => ?_
        · refine ifd (fun q3 => ?_) fun q3 => ?_
          · unfold c_unmatched_7
            simp only [w_var, w_int, w_str, w_bl, w_none, w_op, w_nil, w_cons, w_cb, w_B, w_T, w_tand, w_tor, w_tnot, w_tyes, w_and, w_or, w_not, w_if, w_neg, w_tup, w_lst, w_no, w_at, w_sl, w_isi, w_call, w_callX, w_callL, w_fn, w_lrg1, w_lrg2, w_lc, w_sq, w_rg1, w_rg2, w_rgD, w_asg, w_own, w_seq, w_next, w_break, w_cont, w_sif, w_expr, w_ret, w_retN, w_raise, w_for, w_while, w_app, w_tgt, w_mN, w_mSub, w_mT, w_mNil, w_mCons, w_gN, w_nN, f_plus, f_times, f_I, f_I0, f_B0, f_eq, f_ne, f_is, f_isNot, f_in, f_notIn, f_ix, f_len, f_list, f_tuple, f_sum, f_max, f_min, f_all, f_any, f_int, f_abs, f_sorted, f_min2, f_max2, rd_da, rd2_da, rds_nil, rds_cons, asB_bool, gt_z, gt_s, onLs_z, onLs_s, keepS_nw, keepS_loc, keepS_fr, keepS_di, keepS_fn, asgF_nw, asgF_loc, asgF_fr, asgF_ns, asgF_fn, itemF_nw, itemF_loc, itemF_fr, ownF_nw, retF_ns, rc_nw, rc_di, rc_ns, args_nil, args_da, args_st, args_sc, args_fn, len_da_l, len_da_t, len_ls, len_sc, ix_l, ix_t, seq_l, seq_t, seq_ls, imm_int, imm_bool, imm_str, imm_none, imm_list, imm_tuple, immAll_nil, immAll_cons, immAll_app, immAll_ints, turn_eq, keep_nw, keep_loc, keep_fr, keep_di, f_next, f_stream, f_cell, sup_nwl, sup_nwr, sup_self, nrm_int, nrm_bool, nrm_str, nrm_none, nrm_list, nrm_tuple, nrm_R, nrm_nw, nl_nw, nt_nw, nl_ints, nt_ints, mk_def, retF_nw, retF_loc, c_p14, c_p15, c_p18, c_p29, c_p30, c_p4, rd_lsI, retF_lsI, args_lsI, eqv_int, eqv_str, shp_int, mk_ints, mk_rows, nl_rows, nt_rows, relv_ints, relv_rows, relv_irg, keep_lsI, rd_lsR, oR_snoc, oR_set, nrm_putO, imm_putO, immAll_rows, own_rows', own_ints', wipeE, w_ownL, w_nTt, w_nCons, w_nNil, w_iRvA, w_seqV_l, w_seqV_t, w_revL, w_revT, w_lc2, w_chain, w_extend, w_popE, turn2_eq, w_frz, w_asgD, f_sum2, wi2_l, wi2_t, f_maxA, w_count, isL_l, intD_i, wi_l, w_iEn, enF_l, w_iZp, zpF_l, zpF_t, w_ret2, ret2_lsI, rd2_lsI, rd2_lsIr, w_iEnS, enFz_l, w_appO, w_appAt, w_callN, nsF_ns, List.set_cons_zero, List.set_cons_succ, ite_true, ite_false, Bool.false_eq_true, reduceIte, true_and, and_true, List.length_cons, List.length_nil, Nat.zero_add, List.map_nil, List.nil_append, List.length_map, Bool.true_and, Bool.and_true, Bool.false_and, oN_drop]
            refine ⟨by omega, hN _ ⟨some (.da .nw (.int (i : Int))), some (.da .nw (.int x)), ?_⟩⟩
            rw [hstep, umS, if_neg q, if_pos ⟨q2, fun z => by rw [z] at q3; exact absurd q3 (by decide)⟩]
          · unfold c_unmatched_8 c_unmatched_9
            simp only [w_var, w_int, w_str, w_bl, w_none, w_op, w_nil, w_cons, w_cb, w_B, w_T, w_tand, w_tor, w_tnot, w_tyes, w_and, w_or, w_not, w_if, w_neg, w_tup, w_lst, w_no, w_at, w_sl, w_isi, w_call, w_callX, w_callL, w_fn, w_lrg1, w_lrg2, w_lc, w_sq, w_rg1, w_rg2, w_rgD, w_asg, w_own, w_seq, w_next, w_break, w_cont, w_sif, w_expr, w_ret, w_retN, w_raise, w_for, w_while, w_app, w_tgt, w_mN, w_mSub, w_mT, w_mNil, w_mCons, w_gN, w_nN, f_plus, f_times, f_I, f_I0, f_B0, f_eq, f_ne, f_is, f_isNot, f_in, f_notIn, f_ix, f_len, f_list, f_tuple, f_sum, f_max, f_min, f_all, f_any, f_int, f_abs, f_sorted, f_min2, f_max2, rd_da, rd2_da, rds_nil, rds_cons, asB_bool, gt_z, gt_s, onLs_z, onLs_s, keepS_nw, keepS_loc, keepS_fr, keepS_di, keepS_fn, asgF_nw, asgF_loc, asgF_fr, asgF_ns, asgF_fn, itemF_nw, itemF_loc, itemF_fr, ownF_nw, retF_ns, rc_nw, rc_di, rc_ns, args_nil, args_da, args_st, args_sc, args_fn, len_da_l, len_da_t, len_ls, len_sc, ix_l, ix_t, seq_l, seq_t, seq_ls, imm_int, imm_bool, imm_str, imm_none, imm_list, imm_tuple, immAll_nil, immAll_cons, immAll_app, immAll_ints, turn_eq, keep_nw, keep_loc, keep_fr, keep_di, f_next, f_stream, f_cell, sup_nwl, sup_nwr, sup_self, nrm_int, nrm_bool, nrm_str, nrm_none, nrm_list, nrm_tuple, nrm_R, nrm_nw, nl_nw, nt_nw, nl_ints, nt_ints, mk_def, retF_nw, retF_loc, c_p14, c_p15, c_p18, c_p29, c_p30, c_p4, rd_lsI, retF_lsI, args_lsI, eqv_int, eqv_str, shp_int, mk_ints, mk_rows, nl_rows, nt_rows, relv_ints, relv_rows, relv_irg, keep_lsI, rd_lsR, oR_snoc, oR_set, nrm_putO, imm_putO, immAll_rows, own_rows', own_ints', wipeE, w_ownL, w_nTt, w_nCons, w_nNil, w_iRvA, w_seqV_l, w_seqV_t, w_revL, w_revT, w_lc2, w_chain, w_extend, w_popE, turn2_eq, w_frz, w_asgD, f_sum2, wi2_l, wi2_t, f_maxA, w_count, isL_l, intD_i, wi_l, w_iEn, enF_l, w_iZp, zpF_l, zpF_t, w_ret2, ret2_lsI, rd2_lsI, rd2_lsIr, w_iEnS, enFz_l, w_appO, w_appAt, w_callN, nsF_ns, List.set_cons_zero, List.set_cons_succ, ite_true, ite_false, Bool.false_eq_true, reduceIte, true_and, and_true, List.length_cons, List.length_nil, Nat.zero_add, List.map_nil, List.nil_append, List.length_map, Bool.true_and, Bool.and_true, Bool.false_and, oN_app]
            have he : st.2 = [] := by
              cases h9 : st.2 with
              | nil => rfl
              | cons a b => exfalso; apply q3; rw [h9, List.length_cons]; omega
            refine ifT (decide_eq_true q2) ⟨by omega, hN _ ⟨some (.da .nw (.int (i : Int))), some (.da .nw (.int x)), ?_⟩⟩
            rw [hstep, umS, if_neg q, if_neg (fun z => z.2 he), if_pos q2]
        · unfold c_unmatched_8
          simp only [w_var, w_int, w_str, w_bl, w_none, w_op, w_nil, w_cons, w_cb, w_B, w_T, w_tand, w_tor, w_tnot, w_tyes, w_and, w_or, w_not, w_if, w_neg, w_tup, w_lst, w_no, w_at, w_sl, w_isi, w_call, w_callX, w_callL, w_fn, w_lrg1, w_lrg2, w_lc, w_sq, w_rg1, w_rg2, w_rgD, w_asg, w_own, w_seq, w_next, w_break, w_cont, w_sif, w_expr, w_ret, w_retN, w_raise, w_for, w_while, w_app, w_tgt, w_mN, w_mSub, w_mT, w_mNil, w_mCons, w_gN, w_nN, f_plus, f_times, f_I, f_I0, f_B0, f_eq, f_ne, f_is, f_isNot, f_in, f_notIn, f_ix, f_len, f_list, f_tuple, f_sum, f_max, f_min, f_all, f_any, f_int, f_abs, f_sorted, f_min2, f_max2, rd_da, rd2_da, rds_nil, rds_cons, asB_bool, gt_z, gt_s, onLs_z, onLs_s, keepS_nw, keepS_loc, keepS_fr, keepS_di, keepS_fn, asgF_nw, asgF_loc, asgF_fr, asgF_ns, asgF_fn, itemF_nw, itemF_loc, itemF_fr, ownF_nw, retF_ns, rc_nw, rc_di, rc_ns, args_nil, args_da, args_st, args_sc, args_fn, len_da_l, len_da_t, len_ls, len_sc, ix_l, ix_t, seq_l, seq_t, seq_ls, imm_int, imm_bool, imm_str, imm_none, imm_list, imm_tuple, immAll_nil, immAll_cons, immAll_app, immAll_ints, turn_eq, keep_nw, keep_loc, keep_fr, keep_di, f_next, f_stream, f_cell, sup_nwl, sup_nwr, sup_self, nrm_int, nrm_bool, nrm_str, nrm_none, nrm_list, nrm_tuple, nrm_R, nrm_nw, nl_nw, nt_nw, nl_ints, nt_ints, mk_def, retF_nw, retF_loc, c_p14, c_p15, c_p18, c_p29, c_p30, c_p4, rd_lsI, retF_lsI, args_lsI, eqv_int, eqv_str, shp_int, mk_ints, mk_rows, nl_rows, nt_rows, relv_ints, relv_rows, relv_irg, keep_lsI, rd_lsR, oR_snoc, oR_set, nrm_putO, imm_putO, immAll_rows, own_rows', own_ints', wipeE, w_ownL, w_nTt, w_nCons, w_nNil, w_iRvA, w_seqV_l, w_seqV_t, w_revL, w_revT, w_lc2, w_chain, w_extend, w_popE, turn2_eq, w_frz, w_asgD, f_sum2, wi2_l, wi2_t, f_maxA, w_count, isL_l, intD_i, wi_l, w_iEn, enF_l, w_iZp, zpF_l, zpF_t, w_ret2, ret2_lsI, rd2_lsI, rd2_lsIr, w_iEnS, enFz_l, w_appO, w_appAt, w_callN, nsF_ns, List.set_cons_zero, List.set_cons_succ, ite_true, ite_false, Bool.false_eq_true, reduceIte, true_and, and_true, List.length_cons, List.length_nil, Nat.zero_add, List.map_nil, List.nil_append, List.length_map, Bool.true_and, Bool.and_true, Bool.false_and]
          refine ifF (decide_eq_false q2) (hN _ ⟨some (.da .nw (.int (i : Int))), some (.da .nw (.int x)), ?_⟩)
          rw [hstep, umS, if_neg q, if_neg (fun z => q2 z.1), if_neg q2]
    · rw [List.getElem?_eq_none (by rw [List.length_range]; omega)] at hi
      cases hi
  · rintro env ⟨x4, x5, rfl⟩
    rw [List.length_map, List.length_range]
    unfold c_unmatched_10
    simp only [w_var, w_int, w_str, w_bl, w_none, w_op, w_nil, w_cons, w_cb, w_B, w_T, w_tand, w_tor, w_tnot, w_tyes, w_and, w_or, w_not, w_if, w_neg, w_tup, w_lst, w_no, w_at, w_sl, w_isi, w_call, w_callX, w_callL, w_fn, w_lrg1, w_lrg2, w_lc, w_sq, w_rg1, w_rg2, w_rgD, w_asg, w_own, w_seq, w_next, w_break, w_cont, w_sif, w_expr, w_ret, w_retN, w_raise, w_for, w_while, w_app, w_tgt, w_mN, w_mSub, w_mT, w_mNil, w_mCons, w_gN, w_nN, f_plus, f_times, f_I, f_I0, f_B0, f_eq, f_ne, f_is, f_isNot, f_in, f_notIn, f_ix, f_len, f_list, f_tuple, f_sum, f_max, f_min, f_all, f_any, f_int, f_abs, f_sorted, f_min2, f_max2, rd_da, rd2_da, rds_nil, rds_cons, asB_bool, gt_z, gt_s, onLs_z, onLs_s, keepS_nw, keepS_loc, keepS_fr, keepS_di, keepS_fn, asgF_nw, asgF_loc, asgF_fr, asgF_ns, asgF_fn, itemF_nw, itemF_loc, itemF_fr, ownF_nw, retF_ns, rc_nw, rc_di, rc_ns, args_nil, args_da, args_st, args_sc, args_fn, len_da_l, len_da_t, len_ls, len_sc, ix_l, ix_t, seq_l, seq_t, seq_ls, imm_int, imm_bool, imm_str, imm_none, imm_list, imm_tuple, immAll_nil, immAll_cons, immAll_app, immAll_ints, turn_eq, keep_nw, keep_loc, keep_fr, keep_di, f_next, f_stream, f_cell, sup_nwl, sup_nwr, sup_self, nrm_int, nrm_bool, nrm_str, nrm_none, nrm_list, nrm_tuple, nrm_R, nrm_nw, nl_nw, nt_nw, nl_ints, nt_ints, mk_def, retF_nw, retF_loc, c_p14, c_p15, c_p18, c_p29, c_p30, c_p4, rd_lsI, retF_lsI, args_lsI, eqv_int, eqv_str, shp_int, mk_ints, mk_rows, nl_rows, nt_rows, relv_ints, relv_rows, relv_irg, keep_lsI, rd_lsR, oR_snoc, oR_set, nrm_putO, imm_putO, immAll_rows, own_rows', own_ints', wipeE, w_ownL, w_nTt, w_nCons, w_nNil, w_iRvA, w_seqV_l, w_seqV_t, w_revL, w_revT, w_lc2, w_chain, w_extend, w_popE, turn2_eq, w_frz, w_asgD, f_sum2, wi2_l, wi2_t, f_maxA, w_count, isL_l, intD_i, wi_l, w_iEn, enF_l, w_iZp, zpF_l, zpF_t, w_ret2, ret2_lsI, rd2_lsI, rd2_lsIr, w_iEnS, enFz_l, w_appO, w_appAt, w_callN, nsF_ns, List.set_cons_zero, List.set_cons_succ, ite_true, ite_false, Bool.false_eq_true, reduceIte, true_and, and_true, List.length_cons, List.length_nil, Nat.zero_add, List.map_nil, List.nil_append, List.length_map, Bool.true_and, Bool.and_true, Bool.false_and]
    exact h
/-- letters put in -/
def wset (w : List Int) : List (Nat × Int) → List Int
  | [] => w
  | p :: ps => wset (w.set p.1 p.2) ps
theorem wset_len : ∀ (ps : List (Nat × Int)) (w : List Int), (wset w ps).length = w.length
  | [], _ => rfl
  | p :: ps, w => by
    show (wset (w.set p.1 p.2) ps).length = _
    rw [wset_len ps, List.length_set]
theorem wset_take {w : List Int} {ps : List (Nat × Int)} {i : Nat} {p : Nat × Int} (h : ps[i]? = some p) : wset w (ps.take (i + 1)) = (wset w (ps.take i)).set p.1 p.2 := by
  have app : ∀ (a : List (Nat × Int)) (w : List Int), wset w (a ++ [p]) = (wset w a).set p.1 p.2 := fun a => by
    induction a with
    | nil => intro w; rfl
    | cons q a ih => intro w; exact ih (w.set q.1 q.2)
  rw [List.take_add_one, h]
  exact app _ _
theorem zipO_ints (ks : List Nat) (xs : List Int) : zipO ((iN ks).map PyData.int) (xs.map PyData.int) = (ks.zip xs).map fun p => OV.da .nw (.tuple [.int (p.1 : Int), .int p.2]) := by
  unfold zipO iN
  rw [List.map_map, List.zip_map, List.map_map]
  rfl
theorem zip_relv (ps : List (Nat × Int)) : (ps.map fun p => OV.da .nw (.tuple [.int (p.1 : Int), .int p.2])).map relv = ps.map fun p => OV.da .nw (.tuple [.int (p.1 : Int), .int p.2]) := by
  rw [List.map_map]
  rfl
theorem p_with_letters (T : Txt K mg) {l l2 l3 : Lv} (hl2 : l2 ≠ .di) (hl3 : l3 ≠ .di) {w : List Int} {ks : List Nat} {xs : List Int} (hk : ∀ k ∈ ks, k < w.length) (hz : w.length ≤ 1000) {R : OV → Prop} {X : Addr → Prop} (h : R (.da .nw (dW (wset w (ks.zip xs))))) : F_with_letters T [.da l (dW w), .da l2 (dW (iN ks)), .da l3 (dW xs)] R X := by
  rw [u_with_letters]
  unfold b_with_letters c_with_letters_1 c_with_letters_2
  simp only [w_var, w_int, w_str, w_bl, w_none, w_op, w_nil, w_cons, w_cb, w_B, w_T, w_tand, w_tor, w_tnot, w_tyes, w_and, w_or, w_not, w_if, w_neg, w_tup, w_lst, w_no, w_at, w_sl, w_isi, w_call, w_callX, w_callL, w_fn, w_lrg1, w_lrg2, w_lc, w_sq, w_rg1, w_rg2, w_rgD, w_asg, w_own, w_seq, w_next, w_break, w_cont, w_sif, w_expr, w_ret, w_retN, w_raise, w_for, w_while, w_app, w_tgt, w_mN, w_mSub, w_mT, w_mNil, w_mCons, w_gN, w_nN, f_plus, f_times, f_I, f_I0, f_B0, f_eq, f_ne, f_is, f_isNot, f_in, f_notIn, f_ix, f_len, f_list, f_tuple, f_sum, f_max, f_min, f_all, f_any, f_int, f_abs, f_sorted, f_min2, f_max2, rd_da, rd2_da, rds_nil, rds_cons, asB_bool, gt_z, gt_s, onLs_z, onLs_s, keepS_nw, keepS_loc, keepS_fr, keepS_di, keepS_fn, asgF_nw, asgF_loc, asgF_fr, asgF_ns, asgF_fn, itemF_nw, itemF_loc, itemF_fr, ownF_nw, retF_ns, rc_nw, rc_di, rc_ns, args_nil, args_da, args_st, args_sc, args_fn, len_da_l, len_da_t, len_ls, len_sc, ix_l, ix_t, seq_l, seq_t, seq_ls, imm_int, imm_bool, imm_str, imm_none, imm_list, imm_tuple, immAll_nil, immAll_cons, immAll_app, immAll_ints, turn_eq, keep_nw, keep_loc, keep_fr, keep_di, f_next, f_stream, f_cell, sup_nwl, sup_nwr, sup_self, nrm_int, nrm_bool, nrm_str, nrm_none, nrm_list, nrm_tuple, nrm_R, nrm_nw, nl_nw, nt_nw, nl_ints, nt_ints, mk_def, retF_nw, retF_loc, c_p14, c_p15, c_p18, c_p29, c_p30, c_p4, rd_lsI, retF_lsI, args_lsI, eqv_int, eqv_str, shp_int, mk_ints, mk_rows, nl_rows, nt_rows, relv_ints, relv_rows, relv_irg, keep_lsI, rd_lsR, oR_snoc, oR_set, nrm_putO, imm_putO, immAll_rows, own_rows', own_ints', wipeE, w_ownL, w_nTt, w_nCons, w_nNil, w_iRvA, w_seqV_l, w_seqV_t, w_revL, w_revT, w_lc2, w_chain, w_extend, w_popE, turn2_eq, w_frz, w_asgD, f_sum2, wi2_l, wi2_t, f_maxA, w_count, isL_l, intD_i, wi_l, w_iEn, enF_l, w_iZp, zpF_l, zpF_t, w_ret2, ret2_lsI, rd2_lsI, rd2_lsIr, w_iEnS, enFz_l, w_appO, w_appAt, w_callN, nsF_ns, List.set_cons_zero, List.set_cons_succ, ite_true, ite_false, Bool.false_eq_true, reduceIte, true_and, and_true, List.length_cons, List.length_nil, Nat.zero_add, List.map_nil, List.nil_append, List.length_map, Bool.true_and, Bool.and_true, Bool.false_and, zipO_ints, zip_relv]
  refine ⟨decide_eq_true (sup_ne hl2 hl3), forW_ind (fun i env => ∃ x4 x5, env = [some (.da l (dW w)), some (.da l2 (dW (iN ks))), some (.da l3 (dW xs)), some (.ls ((wset w ((ks.zip xs).take i)).map fun w => .da .nw (.int w))), x4, x5]) ⟨none, none, rfl⟩ ?_ ?_⟩
  · rintro i o env N hi ⟨x4, x5, rfl⟩ hN
    rw [List.getElem?_map] at hi
    cases c : (ks.zip xs)[i]? with
    | none => rw [c] at hi; cases hi
    | some p =>
      rw [c] at hi
      cases hi
      have hp := hk p.1 (List.of_mem_zip (List.mem_of_getElem? c)).1
      have hwl := wset_len ((ks.zip xs).take i) w
      have hst := wset_take (w := w) c
      generalize wset w ((ks.zip xs).take i) = u at *
      simp only [w_var, w_int, w_str, w_bl, w_none, w_op, w_nil, w_cons, w_cb, w_B, w_T, w_tand, w_tor, w_tnot, w_tyes, w_and, w_or, w_not, w_if, w_neg, w_tup, w_lst, w_no, w_at, w_sl, w_isi, w_call, w_callX, w_callL, w_fn, w_lrg1, w_lrg2, w_lc, w_sq, w_rg1, w_rg2, w_rgD, w_asg, w_own, w_seq, w_next, w_break, w_cont, w_sif, w_expr, w_ret, w_retN, w_raise, w_for, w_while, w_app, w_tgt, w_mN, w_mSub, w_mT, w_mNil, w_mCons, w_gN, w_nN, f_plus, f_times, f_I, f_I0, f_B0, f_eq, f_ne, f_is, f_isNot, f_in, f_notIn, f_ix, f_len, f_list, f_tuple, f_sum, f_max, f_min, f_all, f_any, f_int, f_abs, f_sorted, f_min2, f_max2, rd_da, rd2_da, rds_nil, rds_cons, asB_bool, gt_z, gt_s, onLs_z, onLs_s, keepS_nw, keepS_loc, keepS_fr, keepS_di, keepS_fn, asgF_nw, asgF_loc, asgF_fr, asgF_ns, asgF_fn, itemF_nw, itemF_loc, itemF_fr, ownF_nw, retF_ns, rc_nw, rc_di, rc_ns, args_nil, args_da, args_st, args_sc, args_fn, len_da_l, len_da_t, len_ls, len_sc, ix_l, ix_t, seq_l, seq_t, seq_ls, imm_int, imm_bool, imm_str, imm_none, imm_list, imm_tuple, immAll_nil, immAll_cons, immAll_app, immAll_ints, turn_eq, keep_nw, keep_loc, keep_fr, keep_di, f_next, f_stream, f_cell, sup_nwl, sup_nwr, sup_self, nrm_int, nrm_bool, nrm_str, nrm_none, nrm_list, nrm_tuple, nrm_R, nrm_nw, nl_nw, nt_nw, nl_ints, nt_ints, mk_def, retF_nw, retF_loc, c_p14, c_p15, c_p18, c_p29, c_p30, c_p4, rd_lsI, retF_lsI, args_lsI, eqv_int, eqv_str, shp_int, mk_ints, mk_rows, nl_rows, nt_rows, relv_ints, relv_rows, relv_irg, keep_lsI, rd_lsR, oR_snoc, oR_set, nrm_putO, imm_putO, immAll_rows, own_rows', own_ints', wipeE, w_ownL, w_nTt, w_nCons, w_nNil, w_iRvA, w_seqV_l, w_seqV_t, w_revL, w_revT, w_lc2, w_chain, w_extend, w_popE, turn2_eq, w_frz, w_asgD, f_sum2, wi2_l, wi2_t, f_maxA, w_count, isL_l, intD_i, wi_l, w_iEn, enF_l, w_iZp, zpF_l, zpF_t, w_ret2, ret2_lsI, rd2_lsI, rd2_lsIr, w_iEnS, enFz_l, w_appO, w_appAt, w_callN, nsF_ns, List.set_cons_zero, List.set_cons_succ, ite_true, ite_false, Bool.false_eq_true, reduceIte, true_and, and_true, List.length_cons, List.length_nil, Nat.zero_add, List.map_nil, List.nil_append, List.length_map, Bool.true_and, Bool.and_true, Bool.false_and]
      unfold c_with_letters_3
      simp only [w_var, w_int, w_str, w_bl, w_none, w_op, w_nil, w_cons, w_cb, w_B, w_T, w_tand, w_tor, w_tnot, w_tyes, w_and, w_or, w_not, w_if, w_neg, w_tup, w_lst, w_no, w_at, w_sl, w_isi, w_call, w_callX, w_callL, w_fn, w_lrg1, w_lrg2, w_lc, w_sq, w_rg1, w_rg2, w_rgD, w_asg, w_own, w_seq, w_next, w_break, w_cont, w_sif, w_expr, w_ret, w_retN, w_raise, w_for, w_while, w_app, w_tgt, w_mN, w_mSub, w_mT, w_mNil, w_mCons, w_gN, w_nN, f_plus, f_times, f_I, f_I0, f_B0, f_eq, f_ne, f_is, f_isNot, f_in, f_notIn, f_ix, f_len, f_list, f_tuple, f_sum, f_max, f_min, f_all, f_any, f_int, f_abs, f_sorted, f_min2, f_max2, rd_da, rd2_da, rds_nil, rds_cons, asB_bool, gt_z, gt_s, onLs_z, onLs_s, keepS_nw, keepS_loc, keepS_fr, keepS_di, keepS_fn, asgF_nw, asgF_loc, asgF_fr, asgF_ns, asgF_fn, itemF_nw, itemF_loc, itemF_fr, ownF_nw, retF_ns, rc_nw, rc_di, rc_ns, args_nil, args_da, args_st, args_sc, args_fn, len_da_l, len_da_t, len_ls, len_sc, ix_l, ix_t, seq_l, seq_t, seq_ls, imm_int, imm_bool, imm_str, imm_none, imm_list, imm_tuple, immAll_nil, immAll_cons, immAll_app, immAll_ints, turn_eq, keep_nw, keep_loc, keep_fr, keep_di, f_next, f_stream, f_cell, sup_nwl, sup_nwr, sup_self, nrm_int, nrm_bool, nrm_str, nrm_none, nrm_list, nrm_tuple, nrm_R, nrm_nw, nl_nw, nt_nw, nl_ints, nt_ints, mk_def, retF_nw, retF_loc, c_p14, c_p15, c_p18, c_p29, c_p30, c_p4, rd_lsI, retF_lsI, args_lsI, eqv_int, eqv_str, shp_int, mk_ints, mk_rows, nl_rows, nt_rows, relv_ints, relv_rows, relv_irg, keep_lsI, rd_lsR, oR_snoc, oR_set, nrm_putO, imm_putO, immAll_rows, own_rows', own_ints', wipeE, w_ownL, w_nTt, w_nCons, w_nNil, w_iRvA, w_seqV_l, w_seqV_t, w_revL, w_revT, w_lc2, w_chain, w_extend, w_popE, turn2_eq, w_frz, w_asgD, f_sum2, wi2_l, wi2_t, f_maxA, w_count, isL_l, intD_i, wi_l, w_iEn, enF_l, w_iZp, zpF_l, zpF_t, w_ret2, ret2_lsI, rd2_lsI, rd2_lsIr, w_iEnS, enFz_l, w_appO, w_appAt, w_callN, nsF_ns, List.set_cons_zero, List.set_cons_succ, ite_true, ite_false, Bool.false_eq_true, reduceIte, true_and, and_true, List.length_cons, List.length_nil, Nat.zero_add, List.map_nil, List.nil_append, List.length_map, Bool.true_and, Bool.and_true, Bool.false_and]
      rw [ixN_of (i := (p.1 : Int)) (by omega) (by omega), Int.toNat_natCast]
      simp only [oI_set]
      refine hN _ ⟨some (.da .nw (.int (p.1 : Int))), some (.da .nw (.int p.2)), ?_⟩
      rw [hst]
  · rintro env ⟨x4, x5, rfl⟩
    rw [List.length_map, List.take_length]
    unfold c_with_letters_4
    simp only [w_var, w_int, w_str, w_bl, w_none, w_op, w_nil, w_cons, w_cb, w_B, w_T, w_tand, w_tor, w_tnot, w_tyes, w_and, w_or, w_not, w_if, w_neg, w_tup, w_lst, w_no, w_at, w_sl, w_isi, w_call, w_callX, w_callL, w_fn, w_lrg1, w_lrg2, w_lc, w_sq, w_rg1, w_rg2, w_rgD, w_asg, w_own, w_seq, w_next, w_break, w_cont, w_sif, w_expr, w_ret, w_retN, w_raise, w_for, w_while, w_app, w_tgt, w_mN, w_mSub, w_mT, w_mNil, w_mCons, w_gN, w_nN, f_plus, f_times, f_I, f_I0, f_B0, f_eq, f_ne, f_is, f_isNot, f_in, f_notIn, f_ix, f_len, f_list, f_tuple, f_sum, f_max, f_min, f_all, f_any, f_int, f_abs, f_sorted, f_min2, f_max2, rd_da, rd2_da, rds_nil, rds_cons, asB_bool, gt_z, gt_s, onLs_z, onLs_s, keepS_nw, keepS_loc, keepS_fr, keepS_di, keepS_fn, asgF_nw, asgF_loc, asgF_fr, asgF_ns, asgF_fn, itemF_nw, itemF_loc, itemF_fr, ownF_nw, retF_ns, rc_nw, rc_di, rc_ns, args_nil, args_da, args_st, args_sc, args_fn, len_da_l, len_da_t, len_ls, len_sc, ix_l, ix_t, seq_l, seq_t, seq_ls, imm_int, imm_bool, imm_str, imm_none, imm_list, imm_tuple, immAll_nil, immAll_cons, immAll_app, immAll_ints, turn_eq, keep_nw, keep_loc, keep_fr, keep_di, f_next, f_stream, f_cell, sup_nwl, sup_nwr, sup_self, nrm_int, nrm_bool, nrm_str, nrm_none, nrm_list, nrm_tuple, nrm_R, nrm_nw, nl_nw, nt_nw, nl_ints, nt_ints, mk_def, retF_nw, retF_loc, c_p14, c_p15, c_p18, c_p29, c_p30, c_p4, rd_lsI, retF_lsI, args_lsI, eqv_int, eqv_str, shp_int, mk_ints, mk_rows, nl_rows, nt_rows, relv_ints, relv_rows, relv_irg, keep_lsI, rd_lsR, oR_snoc, oR_set, nrm_putO, imm_putO, immAll_rows, own_rows', own_ints', wipeE, w_ownL, w_nTt, w_nCons, w_nNil, w_iRvA, w_seqV_l, w_seqV_t, w_revL, w_revT, w_lc2, w_chain, w_extend, w_popE, turn2_eq, w_frz, w_asgD, f_sum2, wi2_l, wi2_t, f_maxA, w_count, isL_l, intD_i, wi_l, w_iEn, enF_l, w_iZp, zpF_l, zpF_t, w_ret2, ret2_lsI, rd2_lsI, rd2_lsIr, w_iEnS, enFz_l, w_appO, w_appAt, w_callN, nsF_ns, List.set_cons_zero, List.set_cons_succ, ite_true, ite_false, Bool.false_eq_true, reduceIte, true_and, and_true, List.length_cons, List.length_nil, Nat.zero_add, List.map_nil, List.nil_append, List.length_map, Bool.true_and, Bool.and_true, Bool.false_and]
    exact h

theorem um_lt (n : Int) (w : List Int) : ∀ i, ∀ k, (k ∈ (um n w i).1 ∨ k ∈ (um n w i).2) → k < i
  | 0, k, h => by rcases h with h | h <;> cases h
  | i + 1, k, h => by
    have ih := um_lt n w i
    have e : um n w (i + 1) = umS n (um n w i) i (w.getD i 0) := rfl
    rw [e] at h
    generalize um n w i = st at *
    unfold umS at h
    split at h
    · rcases h with h | h
      · have := ih k (.inl h); omega
      · rcases List.mem_append.mp h with z | z
        · have := ih k (.inr z); omega
        · rw [List.mem_singleton] at z; omega
    · split at h
      · rcases h with h | h
        · have := ih k (.inl h); omega
        · have := ih k (.inr ((List.dropLast_sublist _).subset h)); omega
      · split at h
        · rcases h with h | h
          · rcases List.mem_append.mp h with z | z
            · have := ih k (.inl z); omega
            · rw [List.mem_singleton] at z; omega
          · have := ih k (.inr h); omega
        · have := ih k h; omega
abbrev lowI (n : Int) (w : List Int) : List Nat := (um n w w.length).1
abbrev uppI (n : Int) (w : List Int) : List Nat := (um n w w.length).2
theorem cut_last1 {ws : List Int} (h : ws ≠ []) : cutI (ws.map PyData.int) (some (-1)) none = [ws.getLast h].map .int := by
  obtain ⟨a, x, rfl⟩ : ∃ a x, ws = a ++ [x] := ⟨ws.dropLast, ws.getLast h, (List.dropLast_concat_getLast h).symm⟩
  unfold cutI
  have e : HT.sIx ((a ++ [x]).map PyData.int).length 0 (some (-1)) = a.length := by
    have hl : ((a ++ [x]).map PyData.int).length = a.length + 1 := by simp
    rw [hl]
    show (if (-1 : Int) < 0 then ((-1 : Int) + ((a.length + 1 : Nat) : Int)).toNat else min (-1 : Int).toNat (a.length + 1)) = a.length
    rw [if_pos (by decide)]
    omega
  rw [e, HT.sIx_none, ← List.map_drop]
  simp
theorem cutI_to2 {α : Type} (xs : List α) (k : Nat) (hk : k ≤ xs.length) : cutI xs none (some (k : Int)) = xs.take k := by
  unfold cutI
  rw [HT.sIx_none, HT.sIx_nat, Nat.min_eq_left hk]
  rfl
theorem rep_flat (k : Nat) (x : Int) : (List.replicate k [PyData.int x]).flatten = (List.replicate k x).map .int := by
  induction k with
  | zero => rfl
  | succ k ih => rw [List.replicate_succ, List.flatten_cons, ih, List.replicate_succ]; rfl
theorem p_lowered (T : Txt K mg) {l : Lv} (hl : l ≠ .di) {w : List Int} {n : Int} {R : OV → Prop} {X : Addr → Prop} (hz : w.length ≤ 1000) (h0 : lowI n w = [] → R (.da .nw .none)) (h1 : ∀ h : lowI n w ≠ [], R (.da .nw (dW (w.set ((lowI n w).getLast h) (n + 1))))) : F_lowered T [.da l (dW w), .da .nw (.int n)] R X := by
  rw [u_lowered]
  unfold b_lowered c_lowered_1
  simp only [w_var, w_int, w_str, w_bl, w_none, w_op, w_nil, w_cons, w_cb, w_B, w_T, w_tand, w_tor, w_tnot, w_tyes, w_and, w_or, w_not, w_if, w_neg, w_tup, w_lst, w_no, w_at, w_sl, w_isi, w_call, w_callX, w_callL, w_fn, w_lrg1, w_lrg2, w_lc, w_sq, w_rg1, w_rg2, w_rgD, w_asg, w_own, w_seq, w_next, w_break, w_cont, w_sif, w_expr, w_ret, w_retN, w_raise, w_for, w_while, w_app, w_tgt, w_mN, w_mSub, w_mT, w_mNil, w_mCons, w_gN, w_nN, f_plus, f_times, f_I, f_I0, f_B0, f_eq, f_ne, f_is, f_isNot, f_in, f_notIn, f_ix, f_len, f_list, f_tuple, f_sum, f_max, f_min, f_all, f_any, f_int, f_abs, f_sorted, f_min2, f_max2, rd_da, rd2_da, rds_nil, rds_cons, asB_bool, gt_z, gt_s, onLs_z, onLs_s, keepS_nw, keepS_loc, keepS_fr, keepS_di, keepS_fn, asgF_nw, asgF_loc, asgF_fr, asgF_ns, asgF_fn, itemF_nw, itemF_loc, itemF_fr, ownF_nw, retF_ns, rc_nw, rc_di, rc_ns, args_nil, args_da, args_st, args_sc, args_fn, len_da_l, len_da_t, len_ls, len_sc, ix_l, ix_t, seq_l, seq_t, seq_ls, imm_int, imm_bool, imm_str, imm_none, imm_list, imm_tuple, immAll_nil, immAll_cons, immAll_app, immAll_ints, turn_eq, keep_nw, keep_loc, keep_fr, keep_di, f_next, f_stream, f_cell, sup_nwl, sup_nwr, sup_self, nrm_int, nrm_bool, nrm_str, nrm_none, nrm_list, nrm_tuple, nrm_R, nrm_nw, nl_nw, nt_nw, nl_ints, nt_ints, mk_def, retF_nw, retF_loc, c_p14, c_p15, c_p18, c_p29, c_p30, c_p4, rd_lsI, retF_lsI, args_lsI, eqv_int, eqv_str, shp_int, mk_ints, mk_rows, nl_rows, nt_rows, relv_ints, relv_rows, relv_irg, keep_lsI, rd_lsR, oR_snoc, oR_set, nrm_putO, imm_putO, immAll_rows, own_rows', own_ints', wipeE, w_ownL, w_nTt, w_nCons, w_nNil, w_iRvA, w_seqV_l, w_seqV_t, w_revL, w_revT, w_lc2, w_chain, w_extend, w_popE, turn2_eq, w_frz, w_asgD, f_sum2, wi2_l, wi2_t, f_maxA, w_count, isL_l, intD_i, wi_l, w_iEn, enF_l, w_iZp, zpF_l, zpF_t, w_ret2, ret2_lsI, rd2_lsI, rd2_lsIr, w_iEnS, enFz_l, w_appO, w_appAt, w_callN, nsF_ns, List.set_cons_zero, List.set_cons_succ, ite_true, ite_false, Bool.false_eq_true, reduceIte, true_and, and_true, List.length_cons, List.length_nil, Nat.zero_add, List.map_nil, List.nil_append, List.length_map, Bool.true_and, Bool.and_true, Bool.false_and]
  refine p_unmatched T (by decide) hz ?_
  simp only [w_var, w_int, w_str, w_bl, w_none, w_op, w_nil, w_cons, w_cb, w_B, w_T, w_tand, w_tor, w_tnot, w_tyes, w_and, w_or, w_not, w_if, w_neg, w_tup, w_lst, w_no, w_at, w_sl, w_isi, w_call, w_callX, w_callL, w_fn, w_lrg1, w_lrg2, w_lc, w_sq, w_rg1, w_rg2, w_rgD, w_asg, w_own, w_seq, w_next, w_break, w_cont, w_sif, w_expr, w_ret, w_retN, w_raise, w_for, w_while, w_app, w_tgt, w_mN, w_mSub, w_mT, w_mNil, w_mCons, w_gN, w_nN, f_plus, f_times, f_I, f_I0, f_B0, f_eq, f_ne, f_is, f_isNot, f_in, f_notIn, f_ix, f_len, f_list, f_tuple, f_sum, f_max, f_min, f_all, f_any, f_int, f_abs, f_sorted, f_min2, f_max2, rd_da, rd2_da, rds_nil, rds_cons, asB_bool, gt_z, gt_s, onLs_z, onLs_s, keepS_nw, keepS_loc, keepS_fr, keepS_di, keepS_fn, asgF_nw, asgF_loc, asgF_fr, asgF_ns, asgF_fn, itemF_nw, itemF_loc, itemF_fr, ownF_nw, retF_ns, rc_nw, rc_di, rc_ns, args_nil, args_da, args_st, args_sc, args_fn, len_da_l, len_da_t, len_ls, len_sc, ix_l, ix_t, seq_l, seq_t, seq_ls, imm_int, imm_bool, imm_str, imm_none, imm_list, imm_tuple, immAll_nil, immAll_cons, immAll_app, immAll_ints, turn_eq, keep_nw, keep_loc, keep_fr, keep_di, f_next, f_stream, f_cell, sup_nwl, sup_nwr, sup_self, nrm_int, nrm_bool, nrm_str, nrm_none, nrm_list, nrm_tuple, nrm_R, nrm_nw, nl_nw, nt_nw, nl_ints, nt_ints, mk_def, retF_nw, retF_loc, c_p14, c_p15, c_p18, c_p29, c_p30, c_p4, rd_lsI, retF_lsI, args_lsI, eqv_int, eqv_str, shp_int, mk_ints, mk_rows, nl_rows, nt_rows, relv_ints, relv_rows, relv_irg, keep_lsI, rd_lsR, oR_snoc, oR_set, nrm_putO, imm_putO, immAll_rows, own_rows', own_ints', wipeE, w_ownL, w_nTt, w_nCons, w_nNil, w_iRvA, w_seqV_l, w_seqV_t, w_revL, w_revT, w_lc2, w_chain, w_extend, w_popE, turn2_eq, w_frz, w_asgD, f_sum2, wi2_l, wi2_t, f_maxA, w_count, isL_l, intD_i, wi_l, w_iEn, enF_l, w_iZp, zpF_l, zpF_t, w_ret2, ret2_lsI, rd2_lsI, rd2_lsIr, w_iEnS, enFz_l, w_appO, w_appAt, w_callN, nsF_ns, List.set_cons_zero, List.set_cons_succ, ite_true, ite_false, Bool.false_eq_true, reduceIte, true_and, and_true, List.length_cons, List.length_nil, Nat.zero_add, List.map_nil, List.nil_append, List.length_map, Bool.true_and, Bool.and_true, Bool.false_and]
  have hlt := um_lt n w w.length
  unfold lowI at h0 h1
  generalize um n w w.length = st at *
  unfold c_lowered_2 c_lowered_3
  simp only [w_var, w_int, w_str, w_bl, w_none, w_op, w_nil, w_cons, w_cb, w_B, w_T, w_tand, w_tor, w_tnot, w_tyes, w_and, w_or, w_not, w_if, w_neg, w_tup, w_lst, w_no, w_at, w_sl, w_isi, w_call, w_callX, w_callL, w_fn, w_lrg1, w_lrg2, w_lc, w_sq, w_rg1, w_rg2, w_rgD, w_asg, w_own, w_seq, w_next, w_break, w_cont, w_sif, w_expr, w_ret, w_retN, w_raise, w_for, w_while, w_app, w_tgt, w_mN, w_mSub, w_mT, w_mNil, w_mCons, w_gN, w_nN, f_plus, f_times, f_I, f_I0, f_B0, f_eq, f_ne, f_is, f_isNot, f_in, f_notIn, f_ix, f_len, f_list, f_tuple, f_sum, f_max, f_min, f_all, f_any, f_int, f_abs, f_sorted, f_min2, f_max2, rd_da, rd2_da, rds_nil, rds_cons, asB_bool, gt_z, gt_s, onLs_z, onLs_s, keepS_nw, keepS_loc, keepS_fr, keepS_di, keepS_fn, asgF_nw, asgF_loc, asgF_fr, asgF_ns, asgF_fn, itemF_nw, itemF_loc, itemF_fr, ownF_nw, retF_ns, rc_nw, rc_di, rc_ns, args_nil, args_da, args_st, args_sc, args_fn, len_da_l, len_da_t, len_ls, len_sc, ix_l, ix_t, seq_l, seq_t, seq_ls, imm_int, imm_bool, imm_str, imm_none, imm_list, imm_tuple, immAll_nil, immAll_cons, immAll_app, immAll_ints, turn_eq, keep_nw, keep_loc, keep_fr, keep_di, f_next, f_stream, f_cell, sup_nwl, sup_nwr, sup_self, nrm_int, nrm_bool, nrm_str, nrm_none, nrm_list, nrm_tuple, nrm_R, nrm_nw, nl_nw, nt_nw, nl_ints, nt_ints, mk_def, retF_nw, retF_loc, c_p14, c_p15, c_p18, c_p29, c_p30, c_p4, rd_lsI, retF_lsI, args_lsI, eqv_int, eqv_str, shp_int, mk_ints, mk_rows, nl_rows, nt_rows, relv_ints, relv_rows, relv_irg, keep_lsI, rd_lsR, oR_snoc, oR_set, nrm_putO, imm_putO, immAll_rows, own_rows', own_ints', wipeE, w_ownL, w_nTt, w_nCons, w_nNil, w_iRvA, w_seqV_l, w_seqV_t, w_revL, w_revT, w_lc2, w_chain, w_extend, w_popE, turn2_eq, w_frz, w_asgD, f_sum2, wi2_l, wi2_t, f_maxA, w_count, isL_l, intD_i, wi_l, w_iEn, enF_l, w_iZp, zpF_l, zpF_t, w_ret2, ret2_lsI, rd2_lsI, rd2_lsIr, w_iEnS, enFz_l, w_appO, w_appAt, w_callN, nsF_ns, List.set_cons_zero, List.set_cons_succ, ite_true, ite_false, Bool.false_eq_true, reduceIte, true_and, and_true, List.length_cons, List.length_nil, Nat.zero_add, List.map_nil, List.nil_append, List.length_map, Bool.true_and, Bool.and_true, Bool.false_and]
  by_cases c : st.1 = []
  · exact ifT (decide_eq_true (by rw [c]; rfl)) (h0 c)
  · have hp := List.length_pos_iff.mpr c
    refine ifF (decide_eq_false (by omega)) ?_
    have hne : iN st.1 ≠ [] := fun z => c (by simpa [iN] using z)
    unfold c_lowered_4
    simp only [w_var, w_int, w_str, w_bl, w_none, w_op, w_nil, w_cons, w_cb, w_B, w_T, w_tand, w_tor, w_tnot, w_tyes, w_and, w_or, w_not, w_if, w_neg, w_tup, w_lst, w_no, w_at, w_sl, w_isi, w_call, w_callX, w_callL, w_fn, w_lrg1, w_lrg2, w_lc, w_sq, w_rg1, w_rg2, w_rgD, w_asg, w_own, w_seq, w_next, w_break, w_cont, w_sif, w_expr, w_ret, w_retN, w_raise, w_for, w_while, w_app, w_tgt, w_mN, w_mSub, w_mT, w_mNil, w_mCons, w_gN, w_nN, f_plus, f_times, f_I, f_I0, f_B0, f_eq, f_ne, f_is, f_isNot, f_in, f_notIn, f_ix, f_len, f_list, f_tuple, f_sum, f_max, f_min, f_all, f_any, f_int, f_abs, f_sorted, f_min2, f_max2, rd_da, rd2_da, rds_nil, rds_cons, asB_bool, gt_z, gt_s, onLs_z, onLs_s, keepS_nw, keepS_loc, keepS_fr, keepS_di, keepS_fn, asgF_nw, asgF_loc, asgF_fr, asgF_ns, asgF_fn, itemF_nw, itemF_loc, itemF_fr, ownF_nw, retF_ns, rc_nw, rc_di, rc_ns, args_nil, args_da, args_st, args_sc, args_fn, len_da_l, len_da_t, len_ls, len_sc, ix_l, ix_t, seq_l, seq_t, seq_ls, imm_int, imm_bool, imm_str, imm_none, imm_list, imm_tuple, immAll_nil, immAll_cons, immAll_app, immAll_ints, turn_eq, keep_nw, keep_loc, keep_fr, keep_di, f_next, f_stream, f_cell, sup_nwl, sup_nwr, sup_self, nrm_int, nrm_bool, nrm_str, nrm_none, nrm_list, nrm_tuple, nrm_R, nrm_nw, nl_nw, nt_nw, nl_ints, nt_ints, mk_def, retF_nw, retF_loc, c_p14, c_p15, c_p18, c_p29, c_p30, c_p4, rd_lsI, retF_lsI, args_lsI, eqv_int, eqv_str, shp_int, mk_ints, mk_rows, nl_rows, nt_rows, relv_ints, relv_rows, relv_irg, keep_lsI, rd_lsR, oR_snoc, oR_set, nrm_putO, imm_putO, immAll_rows, own_rows', own_ints', wipeE, w_ownL, w_nTt, w_nCons, w_nNil, w_iRvA, w_seqV_l, w_seqV_t, w_revL, w_revT, w_lc2, w_chain, w_extend, w_popE, turn2_eq, w_frz, w_asgD, f_sum2, wi2_l, wi2_t, f_maxA, w_count, isL_l, intD_i, wi_l, w_iEn, enF_l, w_iZp, zpF_l, zpF_t, w_ret2, ret2_lsI, rd2_lsI, rd2_lsIr, w_iEnS, enFz_l, w_appO, w_appAt, w_callN, nsF_ns, List.set_cons_zero, List.set_cons_succ, ite_true, ite_false, Bool.false_eq_true, reduceIte, true_and, and_true, List.length_cons, List.length_nil, Nat.zero_add, List.map_nil, List.nil_append, List.length_map, Bool.true_and, Bool.and_true, Bool.false_and, cut_last1 hne]
    have eg : (iN st.1).getLast hne = ((st.1.getLast c : Nat) : Int) := by simp [iN]
    rw [eg]
    refine ⟨by decide, p_with_letters T (l := .fr) (l2 := .fr) (l3 := .fr) (ks := [st.1.getLast c]) (xs := [n + 1]) (by decide) (by decide) (fun k hk => ?_) hz ?_⟩
    · rw [List.mem_singleton] at hk
      rw [hk]
      exact hlt _ (.inl (List.getLast_mem c))
    · simp only [w_var, w_int, w_str, w_bl, w_none, w_op, w_nil, w_cons, w_cb, w_B, w_T, w_tand, w_tor, w_tnot, w_tyes, w_and, w_or, w_not, w_if, w_neg, w_tup, w_lst, w_no, w_at, w_sl, w_isi, w_call, w_callX, w_callL, w_fn, w_lrg1, w_lrg2, w_lc, w_sq, w_rg1, w_rg2, w_rgD, w_asg, w_own, w_seq, w_next, w_break, w_cont, w_sif, w_expr, w_ret, w_retN, w_raise, w_for, w_while, w_app, w_tgt, w_mN, w_mSub, w_mT, w_mNil, w_mCons, w_gN, w_nN, f_plus, f_times, f_I, f_I0, f_B0, f_eq, f_ne, f_is, f_isNot, f_in, f_notIn, f_ix, f_len, f_list, f_tuple, f_sum, f_max, f_min, f_all, f_any, f_int, f_abs, f_sorted, f_min2, f_max2, rd_da, rd2_da, rds_nil, rds_cons, asB_bool, gt_z, gt_s, onLs_z, onLs_s, keepS_nw, keepS_loc, keepS_fr, keepS_di, keepS_fn, asgF_nw, asgF_loc, asgF_fr, asgF_ns, asgF_fn, itemF_nw, itemF_loc, itemF_fr, ownF_nw, retF_ns, rc_nw, rc_di, rc_ns, args_nil, args_da, args_st, args_sc, args_fn, len_da_l, len_da_t, len_ls, len_sc, ix_l, ix_t, seq_l, seq_t, seq_ls, imm_int, imm_bool, imm_str, imm_none, imm_list, imm_tuple, immAll_nil, immAll_cons, immAll_app, immAll_ints, turn_eq, keep_nw, keep_loc, keep_fr, keep_di, f_next, f_stream, f_cell, sup_nwl, sup_nwr, sup_self, nrm_int, nrm_bool, nrm_str, nrm_none, nrm_list, nrm_tuple, nrm_R, nrm_nw, nl_nw, nt_nw, nl_ints, nt_ints, mk_def, retF_nw, retF_loc, c_p14, c_p15, c_p18, c_p29, c_p30, c_p4, rd_lsI, retF_lsI, args_lsI, eqv_int, eqv_str, shp_int, mk_ints, mk_rows, nl_rows, nt_rows, relv_ints, relv_rows, relv_irg, keep_lsI, rd_lsR, oR_snoc, oR_set, nrm_putO, imm_putO, immAll_rows, own_rows', own_ints', wipeE, w_ownL, w_nTt, w_nCons, w_nNil, w_iRvA, w_seqV_l, w_seqV_t, w_revL, w_revT, w_lc2, w_chain, w_extend, w_popE, turn2_eq, w_frz, w_asgD, f_sum2, wi2_l, wi2_t, f_maxA, w_count, isL_l, intD_i, wi_l, w_iEn, enF_l, w_iZp, zpF_l, zpF_t, w_ret2, ret2_lsI, rd2_lsI, rd2_lsIr, w_iEnS, enFz_l, w_appO, w_appAt, w_callN, nsF_ns, List.set_cons_zero, List.set_cons_succ, ite_true, ite_false, Bool.false_eq_true, reduceIte, true_and, and_true, List.length_cons, List.length_nil, Nat.zero_add, List.map_nil, List.nil_append, List.length_map, Bool.true_and, Bool.and_true, Bool.false_and]
      exact h1 c
theorem p_raised (T : Txt K mg) {l : Lv} (hl : l ≠ .di) {w : List Int} {n : Int} {R : OV → Prop} {X : Addr → Prop} (hz : w.length ≤ 1000) (h0 : uppI n w = [] → R (.da .nw .none)) (h1 : ∀ h : uppI n w ≠ [], R (.da .nw (dW (w.set ((uppI n w).head h) n)))) : F_raised T [.da l (dW w), .da .nw (.int n)] R X := by
  rw [u_raised]
  unfold b_raised c_raised_1
  simp only [w_var, w_int, w_str, w_bl, w_none, w_op, w_nil, w_cons, w_cb, w_B, w_T, w_tand, w_tor, w_tnot, w_tyes, w_and, w_or, w_not, w_if, w_neg, w_tup, w_lst, w_no, w_at, w_sl, w_isi, w_call, w_callX, w_callL, w_fn, w_lrg1, w_lrg2, w_lc, w_sq, w_rg1, w_rg2, w_rgD, w_asg, w_own, w_seq, w_next, w_break, w_cont, w_sif, w_expr, w_ret, w_retN, w_raise, w_for, w_while, w_app, w_tgt, w_mN, w_mSub, w_mT, w_mNil, w_mCons, w_gN, w_nN, f_plus, f_times, f_I, f_I0, f_B0, f_eq, f_ne, f_is, f_isNot, f_in, f_notIn, f_ix, f_len, f_list, f_tuple, f_sum, f_max, f_min, f_all, f_any, f_int, f_abs, f_sorted, f_min2, f_max2, rd_da, rd2_da, rds_nil, rds_cons, asB_bool, gt_z, gt_s, onLs_z, onLs_s, keepS_nw, keepS_loc, keepS_fr, keepS_di, keepS_fn, asgF_nw, asgF_loc, asgF_fr, asgF_ns, asgF_fn, itemF_nw, itemF_loc, itemF_fr, ownF_nw, retF_ns, rc_nw, rc_di, rc_ns, args_nil, args_da, args_st, args_sc, args_fn, len_da_l, len_da_t, len_ls, len_sc, ix_l, ix_t, seq_l, seq_t, seq_ls, imm_int, imm_bool, imm_str, imm_none, imm_list, imm_tuple, immAll_nil, immAll_cons, immAll_app, immAll_ints, turn_eq, keep_nw, keep_loc, keep_fr, keep_di, f_next, f_stream, f_cell, sup_nwl, sup_nwr, sup_self, nrm_int, nrm_bool, nrm_str, nrm_none, nrm_list, nrm_tuple, nrm_R, nrm_nw, nl_nw, nt_nw, nl_ints, nt_ints, mk_def, retF_nw, retF_loc, c_p14, c_p15, c_p18, c_p29, c_p30, c_p4, rd_lsI, retF_lsI, args_lsI, eqv_int, eqv_str, shp_int, mk_ints, mk_rows, nl_rows, nt_rows, relv_ints, relv_rows, relv_irg, keep_lsI, rd_lsR, oR_snoc, oR_set, nrm_putO, imm_putO, immAll_rows, own_rows', own_ints', wipeE, w_ownL, w_nTt, w_nCons, w_nNil, w_iRvA, w_seqV_l, w_seqV_t, w_revL, w_revT, w_lc2, w_chain, w_extend, w_popE, turn2_eq, w_frz, w_asgD, f_sum2, wi2_l, wi2_t, f_maxA, w_count, isL_l, intD_i, wi_l, w_iEn, enF_l, w_iZp, zpF_l, zpF_t, w_ret2, ret2_lsI, rd2_lsI, rd2_lsIr, w_iEnS, enFz_l, w_appO, w_appAt, w_callN, nsF_ns, List.set_cons_zero, List.set_cons_succ, ite_true, ite_false, Bool.false_eq_true, reduceIte, true_and, and_true, List.length_cons, List.length_nil, Nat.zero_add, List.map_nil, List.nil_append, List.length_map, Bool.true_and, Bool.and_true, Bool.false_and]
  refine p_unmatched T (by decide) hz ?_
  simp only [w_var, w_int, w_str, w_bl, w_none, w_op, w_nil, w_cons, w_cb, w_B, w_T, w_tand, w_tor, w_tnot, w_tyes, w_and, w_or, w_not, w_if, w_neg, w_tup, w_lst, w_no, w_at, w_sl, w_isi, w_call, w_callX, w_callL, w_fn, w_lrg1, w_lrg2, w_lc, w_sq, w_rg1, w_rg2, w_rgD, w_asg, w_own, w_seq, w_next, w_break, w_cont, w_sif, w_expr, w_ret, w_retN, w_raise, w_for, w_while, w_app, w_tgt, w_mN, w_mSub, w_mT, w_mNil, w_mCons, w_gN, w_nN, f_plus, f_times, f_I, f_I0, f_B0, f_eq, f_ne, f_is, f_isNot, f_in, f_notIn, f_ix, f_len, f_list, f_tuple, f_sum, f_max, f_min, f_all, f_any, f_int, f_abs, f_sorted, f_min2, f_max2, rd_da, rd2_da, rds_nil, rds_cons, asB_bool, gt_z, gt_s, onLs_z, onLs_s, keepS_nw, keepS_loc, keepS_fr, keepS_di, keepS_fn, asgF_nw, asgF_loc, asgF_fr, asgF_ns, asgF_fn, itemF_nw, itemF_loc, itemF_fr, ownF_nw, retF_ns, rc_nw, rc_di, rc_ns, args_nil, args_da, args_st, args_sc, args_fn, len_da_l, len_da_t, len_ls, len_sc, ix_l, ix_t, seq_l, seq_t, seq_ls, imm_int, imm_bool, imm_str, imm_none, imm_list, imm_tuple, immAll_nil, immAll_cons, immAll_app, immAll_ints, turn_eq, keep_nw, keep_loc, keep_fr, keep_di, f_next, f_stream, f_cell, sup_nwl, sup_nwr, sup_self, nrm_int, nrm_bool, nrm_str, nrm_none, nrm_list, nrm_tuple, nrm_R, nrm_nw, nl_nw, nt_nw, nl_ints, nt_ints, mk_def, retF_nw, retF_loc, c_p14, c_p15, c_p18, c_p29, c_p30, c_p4, rd_lsI, retF_lsI, args_lsI, eqv_int, eqv_str, shp_int, mk_ints, mk_rows, nl_rows, nt_rows, relv_ints, relv_rows, relv_irg, keep_lsI, rd_lsR, oR_snoc, oR_set, nrm_putO, imm_putO, immAll_rows, own_rows', own_ints', wipeE, w_ownL, w_nTt, w_nCons, w_nNil, w_iRvA, w_seqV_l, w_seqV_t, w_revL, w_revT, w_lc2, w_chain, w_extend, w_popE, turn2_eq, w_frz, w_asgD, f_sum2, wi2_l, wi2_t, f_maxA, w_count, isL_l, intD_i, wi_l, w_iEn, enF_l, w_iZp, zpF_l, zpF_t, w_ret2, ret2_lsI, rd2_lsI, rd2_lsIr, w_iEnS, enFz_l, w_appO, w_appAt, w_callN, nsF_ns, List.set_cons_zero, List.set_cons_succ, ite_true, ite_false, Bool.false_eq_true, reduceIte, true_and, and_true, List.length_cons, List.length_nil, Nat.zero_add, List.map_nil, List.nil_append, List.length_map, Bool.true_and, Bool.and_true, Bool.false_and]
  have hlt := um_lt n w w.length
  unfold uppI at h0 h1
  generalize um n w w.length = st at *
  unfold c_raised_2 c_raised_3
  simp only [w_var, w_int, w_str, w_bl, w_none, w_op, w_nil, w_cons, w_cb, w_B, w_T, w_tand, w_tor, w_tnot, w_tyes, w_and, w_or, w_not, w_if, w_neg, w_tup, w_lst, w_no, w_at, w_sl, w_isi, w_call, w_callX, w_callL, w_fn, w_lrg1, w_lrg2, w_lc, w_sq, w_rg1, w_rg2, w_rgD, w_asg, w_own, w_seq, w_next, w_break, w_cont, w_sif, w_expr, w_ret, w_retN, w_raise, w_for, w_while, w_app, w_tgt, w_mN, w_mSub, w_mT, w_mNil, w_mCons, w_gN, w_nN, f_plus, f_times, f_I, f_I0, f_B0, f_eq, f_ne, f_is, f_isNot, f_in, f_notIn, f_ix, f_len, f_list, f_tuple, f_sum, f_max, f_min, f_all, f_any, f_int, f_abs, f_sorted, f_min2, f_max2, rd_da, rd2_da, rds_nil, rds_cons, asB_bool, gt_z, gt_s, onLs_z, onLs_s, keepS_nw, keepS_loc, keepS_fr, keepS_di, keepS_fn, asgF_nw, asgF_loc, asgF_fr, asgF_ns, asgF_fn, itemF_nw, itemF_loc, itemF_fr, ownF_nw, retF_ns, rc_nw, rc_di, rc_ns, args_nil, args_da, args_st, args_sc, args_fn, len_da_l, len_da_t, len_ls, len_sc, ix_l, ix_t, seq_l, seq_t, seq_ls, imm_int, imm_bool, imm_str, imm_none, imm_list, imm_tuple, immAll_nil, immAll_cons, immAll_app, immAll_ints, turn_eq, keep_nw, keep_loc, keep_fr, keep_di, f_next, f_stream, f_cell, sup_nwl, sup_nwr, sup_self, nrm_int, nrm_bool, nrm_str, nrm_none, nrm_list, nrm_tuple, nrm_R, nrm_nw, nl_nw, nt_nw, nl_ints, nt_ints, mk_def, retF_nw, retF_loc, c_p14, c_p15, c_p18, c_p29, c_p30, c_p4, rd_lsI, retF_lsI, args_lsI, eqv_int, eqv_str, shp_int, mk_ints, mk_rows, nl_rows, nt_rows, relv_ints, relv_rows, relv_irg, keep_lsI, rd_lsR, oR_snoc, oR_set, nrm_putO, imm_putO, immAll_rows, own_rows', own_ints', wipeE, w_ownL, w_nTt, w_nCons, w_nNil, w_iRvA, w_seqV_l, w_seqV_t, w_revL, w_revT, w_lc2, w_chain, w_extend, w_popE, turn2_eq, w_frz, w_asgD, f_sum2, wi2_l, wi2_t, f_maxA, w_count, isL_l, intD_i, wi_l, w_iEn, enF_l, w_iZp, zpF_l, zpF_t, w_ret2, ret2_lsI, rd2_lsI, rd2_lsIr, w_iEnS, enFz_l, w_appO, w_appAt, w_callN, nsF_ns, List.set_cons_zero, List.set_cons_succ, ite_true, ite_false, Bool.false_eq_true, reduceIte, true_and, and_true, List.length_cons, List.length_nil, Nat.zero_add, List.map_nil, List.nil_append, List.length_map, Bool.true_and, Bool.and_true, Bool.false_and]
  by_cases c : st.2 = []
  · exact ifT (decide_eq_true (by rw [c]; rfl)) (h0 c)
  · have hp := List.length_pos_iff.mpr c
    refine ifF (decide_eq_false (by omega)) ?_
    have ec : cutI ((iN st.2).map PyData.int) none (some 1) = (iN [st.2.head c]).map .int := by
      obtain ⟨a, b, e⟩ : ∃ a b, st.2 = a :: b := by
        cases h9 : st.2 with
        | nil => exact absurd h9 c
        | cons a b => exact ⟨a, b, rfl⟩
      have := cutI_to2 ((iN st.2).map PyData.int) 1 (by rw [List.length_map, List.length_map]; omega)
      have e1 : (some (1 : Int)) = some ((1 : Nat) : Int) := rfl
      rw [e1, this]
      simp only [e]
      rfl
    unfold c_raised_4
    simp only [w_var, w_int, w_str, w_bl, w_none, w_op, w_nil, w_cons, w_cb, w_B, w_T, w_tand, w_tor, w_tnot, w_tyes, w_and, w_or, w_not, w_if, w_neg, w_tup, w_lst, w_no, w_at, w_sl, w_isi, w_call, w_callX, w_callL, w_fn, w_lrg1, w_lrg2, w_lc, w_sq, w_rg1, w_rg2, w_rgD, w_asg, w_own, w_seq, w_next, w_break, w_cont, w_sif, w_expr, w_ret, w_retN, w_raise, w_for, w_while, w_app, w_tgt, w_mN, w_mSub, w_mT, w_mNil, w_mCons, w_gN, w_nN, f_plus, f_times, f_I, f_I0, f_B0, f_eq, f_ne, f_is, f_isNot, f_in, f_notIn, f_ix, f_len, f_list, f_tuple, f_sum, f_max, f_min, f_all, f_any, f_int, f_abs, f_sorted, f_min2, f_max2, rd_da, rd2_da, rds_nil, rds_cons, asB_bool, gt_z, gt_s, onLs_z, onLs_s, keepS_nw, keepS_loc, keepS_fr, keepS_di, keepS_fn, asgF_nw, asgF_loc, asgF_fr, asgF_ns, asgF_fn, itemF_nw, itemF_loc, itemF_fr, ownF_nw, retF_ns, rc_nw, rc_di, rc_ns, args_nil, args_da, args_st, args_sc, args_fn, len_da_l, len_da_t, len_ls, len_sc, ix_l, ix_t, seq_l, seq_t, seq_ls, imm_int, imm_bool, imm_str, imm_none, imm_list, imm_tuple, immAll_nil, immAll_cons, immAll_app, immAll_ints, turn_eq, keep_nw, keep_loc, keep_fr, keep_di, f_next, f_stream, f_cell, sup_nwl, sup_nwr, sup_self, nrm_int, nrm_bool, nrm_str, nrm_none, nrm_list, nrm_tuple, nrm_R, nrm_nw, nl_nw, nt_nw, nl_ints, nt_ints, mk_def, retF_nw, retF_loc, c_p14, c_p15, c_p18, c_p29, c_p30, c_p4, rd_lsI, retF_lsI, args_lsI, eqv_int, eqv_str, shp_int, mk_ints, mk_rows, nl_rows, nt_rows, relv_ints, relv_rows, relv_irg, keep_lsI, rd_lsR, oR_snoc, oR_set, nrm_putO, imm_putO, immAll_rows, own_rows', own_ints', wipeE, w_ownL, w_nTt, w_nCons, w_nNil, w_iRvA, w_seqV_l, w_seqV_t, w_revL, w_revT, w_lc2, w_chain, w_extend, w_popE, turn2_eq, w_frz, w_asgD, f_sum2, wi2_l, wi2_t, f_maxA, w_count, isL_l, intD_i, wi_l, w_iEn, enF_l, w_iZp, zpF_l, zpF_t, w_ret2, ret2_lsI, rd2_lsI, rd2_lsIr, w_iEnS, enFz_l, w_appO, w_appAt, w_callN, nsF_ns, List.set_cons_zero, List.set_cons_succ, ite_true, ite_false, Bool.false_eq_true, reduceIte, true_and, and_true, List.length_cons, List.length_nil, Nat.zero_add, List.map_nil, List.nil_append, List.length_map, Bool.true_and, Bool.and_true, Bool.false_and, ec]
    refine ⟨by decide, p_with_letters T (l := .fr) (l2 := .fr) (l3 := .fr) (ks := [st.2.head c]) (xs := [n]) (by decide) (by decide) (fun k hk => ?_) hz ?_⟩
    · rw [List.mem_singleton] at hk
      rw [hk]
      exact hlt _ (.inr (List.head_mem c))
    · simp only [w_var, w_int, w_str, w_bl, w_none, w_op, w_nil, w_cons, w_cb, w_B, w_T, w_tand, w_tor, w_tnot, w_tyes, w_and, w_or, w_not, w_if, w_neg, w_tup, w_lst, w_no, w_at, w_sl, w_isi, w_call, w_callX, w_callL, w_fn, w_lrg1, w_lrg2, w_lc, w_sq, w_rg1, w_rg2, w_rgD, w_asg, w_own, w_seq, w_next, w_break, w_cont, w_sif, w_expr, w_ret, w_retN, w_raise, w_for, w_while, w_app, w_tgt, w_mN, w_mSub, w_mT, w_mNil, w_mCons, w_gN, w_nN, f_plus, f_times, f_I, f_I0, f_B0, f_eq, f_ne, f_is, f_isNot, f_in, f_notIn, f_ix, f_len, f_list, f_tuple, f_sum, f_max, f_min, f_all, f_any, f_int, f_abs, f_sorted, f_min2, f_max2, rd_da, rd2_da, rds_nil, rds_cons, asB_bool, gt_z, gt_s, onLs_z, onLs_s, keepS_nw, keepS_loc, keepS_fr, keepS_di, keepS_fn, asgF_nw, asgF_loc, asgF_fr, asgF_ns, asgF_fn, itemF_nw, itemF_loc, itemF_fr, ownF_nw, retF_ns, rc_nw, rc_di, rc_ns, args_nil, args_da, args_st, args_sc, args_fn, len_da_l, len_da_t, len_ls, len_sc, ix_l, ix_t, seq_l, seq_t, seq_ls, imm_int, imm_bool, imm_str, imm_none, imm_list, imm_tuple, immAll_nil, immAll_cons, immAll_app, immAll_ints, turn_eq, keep_nw, keep_loc, keep_fr, keep_di, f_next, f_stream, f_cell, sup_nwl, sup_nwr, sup_self, nrm_int, nrm_bool, nrm_str, nrm_none, nrm_list, nrm_tuple, nrm_R, nrm_nw, nl_nw, nt_nw, nl_ints, nt_ints, mk_def, retF_nw, retF_loc, c_p14, c_p15, c_p18, c_p29, c_p30, c_p4, rd_lsI, retF_lsI, args_lsI, eqv_int, eqv_str, shp_int, mk_ints, mk_rows, nl_rows, nt_rows, relv_ints, relv_rows, relv_irg, keep_lsI, rd_lsR, oR_snoc, oR_set, nrm_putO, imm_putO, immAll_rows, own_rows', own_ints', wipeE, w_ownL, w_nTt, w_nCons, w_nNil, w_iRvA, w_seqV_l, w_seqV_t, w_revL, w_revT, w_lc2, w_chain, w_extend, w_popE, turn2_eq, w_frz, w_asgD, f_sum2, wi2_l, wi2_t, f_maxA, w_count, isL_l, intD_i, wi_l, w_iEn, enF_l, w_iZp, zpF_l, zpF_t, w_ret2, ret2_lsI, rd2_lsI, rd2_lsIr, w_iEnS, enFz_l, w_appO, w_appAt, w_callN, nsF_ns, List.set_cons_zero, List.set_cons_succ, ite_true, ite_false, Bool.false_eq_true, reduceIte, true_and, and_true, List.length_cons, List.length_nil, Nat.zero_add, List.map_nil, List.nil_append, List.length_map, Bool.true_and, Bool.and_true, Bool.false_and]
      exact h1 c
theorem p_exchanged (T : Txt K mg) {l : Lv} (hl : l ≠ .di) {w : List Int} {n : Int} {R : OV → Prop} {X : Addr → Prop} (hz : w.length ≤ 1000) (h : R (.da .nw (dW (wset w ((lowI n w ++ uppI n w).zip (List.replicate (uppI n w).length n ++ List.replicate (lowI n w).length (n + 1))))))) : F_exchanged T [.da l (dW w), .da .nw (.int n)] R X := by
  rw [u_exchanged]
  unfold b_exchanged
  simp only [w_var, w_int, w_str, w_bl, w_none, w_op, w_nil, w_cons, w_cb, w_B, w_T, w_tand, w_tor, w_tnot, w_tyes, w_and, w_or, w_not, w_if, w_neg, w_tup, w_lst, w_no, w_at, w_sl, w_isi, w_call, w_callX, w_callL, w_fn, w_lrg1, w_lrg2, w_lc, w_sq, w_rg1, w_rg2, w_rgD, w_asg, w_own, w_seq, w_next, w_break, w_cont, w_sif, w_expr, w_ret, w_retN, w_raise, w_for, w_while, w_app, w_tgt, w_mN, w_mSub, w_mT, w_mNil, w_mCons, w_gN, w_nN, f_plus, f_times, f_I, f_I0, f_B0, f_eq, f_ne, f_is, f_isNot, f_in, f_notIn, f_ix, f_len, f_list, f_tuple, f_sum, f_max, f_min, f_all, f_any, f_int, f_abs, f_sorted, f_min2, f_max2, rd_da, rd2_da, rds_nil, rds_cons, asB_bool, gt_z, gt_s, onLs_z, onLs_s, keepS_nw, keepS_loc, keepS_fr, keepS_di, keepS_fn, asgF_nw, asgF_loc, asgF_fr, asgF_ns, asgF_fn, itemF_nw, itemF_loc, itemF_fr, ownF_nw, retF_ns, rc_nw, rc_di, rc_ns, args_nil, args_da, args_st, args_sc, args_fn, len_da_l, len_da_t, len_ls, len_sc, ix_l, ix_t, seq_l, seq_t, seq_ls, imm_int, imm_bool, imm_str, imm_none, imm_list, imm_tuple, immAll_nil, immAll_cons, immAll_app, immAll_ints, turn_eq, keep_nw, keep_loc, keep_fr, keep_di, f_next, f_stream, f_cell, sup_nwl, sup_nwr, sup_self, nrm_int, nrm_bool, nrm_str, nrm_none, nrm_list, nrm_tuple, nrm_R, nrm_nw, nl_nw, nt_nw, nl_ints, nt_ints, mk_def, retF_nw, retF_loc, c_p14, c_p15, c_p18, c_p29, c_p30, c_p4, rd_lsI, retF_lsI, args_lsI, eqv_int, eqv_str, shp_int, mk_ints, mk_rows, nl_rows, nt_rows, relv_ints, relv_rows, relv_irg, keep_lsI, rd_lsR, oR_snoc, oR_set, nrm_putO, imm_putO, immAll_rows, own_rows', own_ints', wipeE, w_ownL, w_nTt, w_nCons, w_nNil, w_iRvA, w_seqV_l, w_seqV_t, w_revL, w_revT, w_lc2, w_chain, w_extend, w_popE, turn2_eq, w_frz, w_asgD, f_sum2, wi2_l, wi2_t, f_maxA, w_count, isL_l, intD_i, wi_l, w_iEn, enF_l, w_iZp, zpF_l, zpF_t, w_ret2, ret2_lsI, rd2_lsI, rd2_lsIr, w_iEnS, enFz_l, w_appO, w_appAt, w_callN, nsF_ns, List.set_cons_zero, List.set_cons_succ, ite_true, ite_false, Bool.false_eq_true, reduceIte, true_and, and_true, List.length_cons, List.length_nil, Nat.zero_add, List.map_nil, List.nil_append, List.length_map, Bool.true_and, Bool.and_true, Bool.false_and]
  refine p_unmatched T (by decide) hz ?_
  simp only [w_var, w_int, w_str, w_bl, w_none, w_op, w_nil, w_cons, w_cb, w_B, w_T, w_tand, w_tor, w_tnot, w_tyes, w_and, w_or, w_not, w_if, w_neg, w_tup, w_lst, w_no, w_at, w_sl, w_isi, w_call, w_callX, w_callL, w_fn, w_lrg1, w_lrg2, w_lc, w_sq, w_rg1, w_rg2, w_rgD, w_asg, w_own, w_seq, w_next, w_break, w_cont, w_sif, w_expr, w_ret, w_retN, w_raise, w_for, w_while, w_app, w_tgt, w_mN, w_mSub, w_mT, w_mNil, w_mCons, w_gN, w_nN, f_plus, f_times, f_I, f_I0, f_B0, f_eq, f_ne, f_is, f_isNot, f_in, f_notIn, f_ix, f_len, f_list, f_tuple, f_sum, f_max, f_min, f_all, f_any, f_int, f_abs, f_sorted, f_min2, f_max2, rd_da, rd2_da, rds_nil, rds_cons, asB_bool, gt_z, gt_s, onLs_z, onLs_s, keepS_nw, keepS_loc, keepS_fr, keepS_di, keepS_fn, asgF_nw, asgF_loc, asgF_fr, asgF_ns, asgF_fn, itemF_nw, itemF_loc, itemF_fr, ownF_nw, retF_ns, rc_nw, rc_di, rc_ns, args_nil, args_da, args_st, args_sc, args_fn, len_da_l, len_da_t, len_ls, len_sc, ix_l, ix_t, seq_l, seq_t, seq_ls, imm_int, imm_bool, imm_str, imm_none, imm_list, imm_tuple, immAll_nil, immAll_cons, immAll_app, immAll_ints, turn_eq, keep_nw, keep_loc, keep_fr, keep_di, f_next, f_stream, f_cell, sup_nwl, sup_nwr, sup_self, nrm_int, nrm_bool, nrm_str, nrm_none, nrm_list, nrm_tuple, nrm_R, nrm_nw, nl_nw, nt_nw, nl_ints, nt_ints, mk_def, retF_nw, retF_loc, c_p14, c_p15, c_p18, c_p29, c_p30, c_p4, rd_lsI, retF_lsI, args_lsI, eqv_int, eqv_str, shp_int, mk_ints, mk_rows, nl_rows, nt_rows, relv_ints, relv_rows, relv_irg, keep_lsI, rd_lsR, oR_snoc, oR_set, nrm_putO, imm_putO, immAll_rows, own_rows', own_ints', wipeE, w_ownL, w_nTt, w_nCons, w_nNil, w_iRvA, w_seqV_l, w_seqV_t, w_revL, w_revT, w_lc2, w_chain, w_extend, w_popE, turn2_eq, w_frz, w_asgD, f_sum2, wi2_l, wi2_t, f_maxA, w_count, isL_l, intD_i, wi_l, w_iEn, enF_l, w_iZp, zpF_l, zpF_t, w_ret2, ret2_lsI, rd2_lsI, rd2_lsIr, w_iEnS, enFz_l, w_appO, w_appAt, w_callN, nsF_ns, List.set_cons_zero, List.set_cons_succ, ite_true, ite_false, Bool.false_eq_true, reduceIte, true_and, and_true, List.length_cons, List.length_nil, Nat.zero_add, List.map_nil, List.nil_append, List.length_map, Bool.true_and, Bool.and_true, Bool.false_and]
  have hlt := um_lt n w w.length
  have hlen := um_len n w w.length
  unfold lowI uppI at h
  generalize um n w w.length = st at *
  have ea : (iN st.1).map PyData.int ++ (iN st.2).map PyData.int = (iN (st.1 ++ st.2)).map .int := by
    rw [iN, iN, iN, List.map_append, List.map_append]
  have t1 : ((st.1.length : Int)).toNat = st.1.length := by omega
  have t2 : ((st.2.length : Int)).toNat = st.2.length := by omega
  have em : ∀ a b : List Int, a.map PyData.int ++ b.map PyData.int = (a ++ b).map .int := fun a b => List.map_append.symm
  simp only [ea, t1, t2, rep_flat, em, nl_ints]
  simp only [w_var, w_int, w_str, w_bl, w_none, w_op, w_nil, w_cons, w_cb, w_B, w_T, w_tand, w_tor, w_tnot, w_tyes, w_and, w_or, w_not, w_if, w_neg, w_tup, w_lst, w_no, w_at, w_sl, w_isi, w_call, w_callX, w_callL, w_fn, w_lrg1, w_lrg2, w_lc, w_sq, w_rg1, w_rg2, w_rgD, w_asg, w_own, w_seq, w_next, w_break, w_cont, w_sif, w_expr, w_ret, w_retN, w_raise, w_for, w_while, w_app, w_tgt, w_mN, w_mSub, w_mT, w_mNil, w_mCons, w_gN, w_nN, f_plus, f_times, f_I, f_I0, f_B0, f_eq, f_ne, f_is, f_isNot, f_in, f_notIn, f_ix, f_len, f_list, f_tuple, f_sum, f_max, f_min, f_all, f_any, f_int, f_abs, f_sorted, f_min2, f_max2, rd_da, rd2_da, rds_nil, rds_cons, asB_bool, gt_z, gt_s, onLs_z, onLs_s, keepS_nw, keepS_loc, keepS_fr, keepS_di, keepS_fn, asgF_nw, asgF_loc, asgF_fr, asgF_ns, asgF_fn, itemF_nw, itemF_loc, itemF_fr, ownF_nw, retF_ns, rc_nw, rc_di, rc_ns, args_nil, args_da, args_st, args_sc, args_fn, len_da_l, len_da_t, len_ls, len_sc, ix_l, ix_t, seq_l, seq_t, seq_ls, imm_int, imm_bool, imm_str, imm_none, imm_list, imm_tuple, immAll_nil, immAll_cons, immAll_app, immAll_ints, turn_eq, keep_nw, keep_loc, keep_fr, keep_di, f_next, f_stream, f_cell, sup_nwl, sup_nwr, sup_self, nrm_int, nrm_bool, nrm_str, nrm_none, nrm_list, nrm_tuple, nrm_R, nrm_nw, nl_nw, nt_nw, nl_ints, nt_ints, mk_def, retF_nw, retF_loc, c_p14, c_p15, c_p18, c_p29, c_p30, c_p4, rd_lsI, retF_lsI, args_lsI, eqv_int, eqv_str, shp_int, mk_ints, mk_rows, nl_rows, nt_rows, relv_ints, relv_rows, relv_irg, keep_lsI, rd_lsR, oR_snoc, oR_set, nrm_putO, imm_putO, immAll_rows, own_rows', own_ints', wipeE, w_ownL, w_nTt, w_nCons, w_nNil, w_iRvA, w_seqV_l, w_seqV_t, w_revL, w_revT, w_lc2, w_chain, w_extend, w_popE, turn2_eq, w_frz, w_asgD, f_sum2, wi2_l, wi2_t, f_maxA, w_count, isL_l, intD_i, wi_l, w_iEn, enF_l, w_iZp, zpF_l, zpF_t, w_ret2, ret2_lsI, rd2_lsI, rd2_lsIr, w_iEnS, enFz_l, w_appO, w_appAt, w_callN, nsF_ns, List.set_cons_zero, List.set_cons_succ, ite_true, ite_false, Bool.false_eq_true, reduceIte, true_and, and_true, List.length_cons, List.length_nil, Nat.zero_add, List.map_nil, List.nil_append, List.length_map, Bool.true_and, Bool.and_true, Bool.false_and, List.length_append, List.length_replicate, List.length_map]
  refine ⟨by omega, by decide, ⟨by omega, by omega, by omega⟩, by decide, ⟨by omega, by omega, by omega⟩, by omega, ?_⟩
  refine p_with_letters T (l := .fr) (l2 := .fr) (l3 := .fr) (ks := st.1 ++ st.2) (by decide) (by decide) (fun k hk => hlt k (List.mem_append.mp hk)) hz ?_
  simp only [w_var, w_int, w_str, w_bl, w_none, w_op, w_nil, w_cons, w_cb, w_B, w_T, w_tand, w_tor, w_tnot, w_tyes, w_and, w_or, w_not, w_if, w_neg, w_tup, w_lst, w_no, w_at, w_sl, w_isi, w_call, w_callX, w_callL, w_fn, w_lrg1, w_lrg2, w_lc, w_sq, w_rg1, w_rg2, w_rgD, w_asg, w_own, w_seq, w_next, w_break, w_cont, w_sif, w_expr, w_ret, w_retN, w_raise, w_for, w_while, w_app, w_tgt, w_mN, w_mSub, w_mT, w_mNil, w_mCons, w_gN, w_nN, f_plus, f_times, f_I, f_I0, f_B0, f_eq, f_ne, f_is, f_isNot, f_in, f_notIn, f_ix, f_len, f_list, f_tuple, f_sum, f_max, f_min, f_all, f_any, f_int, f_abs, f_sorted, f_min2, f_max2, rd_da, rd2_da, rds_nil, rds_cons, asB_bool, gt_z, gt_s, onLs_z, onLs_s, keepS_nw, keepS_loc, keepS_fr, keepS_di, keepS_fn, asgF_nw, asgF_loc, asgF_fr, asgF_ns, asgF_fn, itemF_nw, itemF_loc, itemF_fr, ownF_nw, retF_ns, rc_nw, rc_di, rc_ns, args_nil, args_da, args_st, args_sc, args_fn, len_da_l, len_da_t, len_ls, len_sc, ix_l, ix_t, seq_l, seq_t, seq_ls, imm_int, imm_bool, imm_str, imm_none, imm_list, imm_tuple, immAll_nil, immAll_cons, immAll_app, immAll_ints, turn_eq, keep_nw, keep_loc, keep_fr, keep_di, f_next, f_stream, f_cell, sup_nwl, sup_nwr, sup_self, nrm_int, nrm_bool, nrm_str, nrm_none, nrm_list, nrm_tuple, nrm_R, nrm_nw, nl_nw, nt_nw, nl_ints, nt_ints, mk_def, retF_nw, retF_loc, c_p14, c_p15, c_p18, c_p29, c_p30, c_p4, rd_lsI, retF_lsI, args_lsI, eqv_int, eqv_str, shp_int, mk_ints, mk_rows, nl_rows, nt_rows, relv_ints, relv_rows, relv_irg, keep_lsI, rd_lsR, oR_snoc, oR_set, nrm_putO, imm_putO, immAll_rows, own_rows', own_ints', wipeE, w_ownL, w_nTt, w_nCons, w_nNil, w_iRvA, w_seqV_l, w_seqV_t, w_revL, w_revT, w_lc2, w_chain, w_extend, w_popE, turn2_eq, w_frz, w_asgD, f_sum2, wi2_l, wi2_t, f_maxA, w_count, isL_l, intD_i, wi_l, w_iEn, enF_l, w_iZp, zpF_l, zpF_t, w_ret2, ret2_lsI, rd2_lsI, rd2_lsIr, w_iEnS, enFz_l, w_appO, w_appAt, w_callN, nsF_ns, List.set_cons_zero, List.set_cons_succ, ite_true, ite_false, Bool.false_eq_true, reduceIte, true_and, and_true, List.length_cons, List.length_nil, Nat.zero_add, List.map_nil, List.nil_append, List.length_map, Bool.true_and, Bool.and_true, Bool.false_and]
  exact h

/-- letters one after the other, by index -/
def fo (n : Int) (w : List Int) (st : List Nat × List Nat) (ks : List Nat) : List Nat × List Nat := ks.foldl (fun s k => umS n s k (w.getD k 0)) st
theorem fo_app (n : Int) (w : List Int) (st : List Nat × List Nat) (a b : List Nat) : fo n w st (a ++ b) = fo n w (fo n w st a) b := List.foldl_append
theorem fo_cons (n : Int) (w : List Int) (st : List Nat × List Nat) (k : Nat) (b : List Nat) : fo n w st (k :: b) = fo n w (umS n st k (w.getD k 0)) b := rfl
theorem um_fo (n : Int) (w : List Int) : ∀ i, um n w i = fo n w ([], []) (List.range i)
  | 0 => rfl
  | i + 1 => by
    rw [List.range_succ, fo_app, ← um_fo n w i]
    rfl
theorem umS_up {n : Int} {st : List Nat × List Nat} {k : Nat} {x : Int} (h : x = n + 1) : umS n st k x = (st.1, st.2 ++ [k]) := if_pos h
theorem umS_lo {n : Int} {st : List Nat × List Nat} {k : Nat} {x : Int} (h : x = n) (h2 : st.2 = []) : umS n st k x = (st.1 ++ [k], st.2) := by
  unfold umS
  rw [if_neg (by omega), if_neg (fun z => z.2 h2), if_pos h]
theorem umS_pop {n : Int} {st : List Nat × List Nat} {k : Nat} {x : Int} (h : x = n) (h2 : st.2 ≠ []) : umS n st k x = (st.1, st.2.dropLast) := by
  unfold umS
  rw [if_neg (by omega), if_pos ⟨h, h2⟩]
theorem umS_no {n : Int} {st : List Nat × List Nat} {k : Nat} {x : Int} (h : x ≠ n) (h2 : x ≠ n + 1) : umS n st k x = st := by
  unfold umS
  rw [if_neg h2, if_neg (fun z => h z.1), if_neg h]
theorem umS_pair {n : Int} {st : List Nat × List Nat} {j k : Nat} {x y : Int} (hx : x = n + 1) (hy : y = n) : umS n (umS n st j x) k y = st := by
  rw [umS_up hx, umS_pop hy (by simp)]
  simp
/-- the unmatched ones P among ks, with what is matched between them -/
inductive Dc (n : Int) (w : List Int) : List Nat → List Nat → Prop
  | nil : Dc n w [] []
  | bal {xs P b : List Nat} : Dc n w xs P → (∀ st, fo n w st b = st) → Dc n w (xs ++ b) P
  | one {xs P : List Nat} {p : Nat} : Dc n w xs P → Dc n w (xs ++ [p]) (P ++ [p])
theorem Dc.fold {n : Int} {w : List Int} {xs P : List Nat} (h : Dc n w xs P) (st : List Nat × List Nat) : fo n w st xs = fo n w st P := by
  induction h with
  | nil => rfl
  | bal a b ih => rw [fo_app, ih, b]
  | one a ih => rw [fo_app, fo_app, ih]
theorem Dc.sub {n : Int} {w : List Int} {xs P : List Nat} (h : Dc n w xs P) : P.Sublist xs := by
  induction h with
  | nil => exact List.Sublist.refl _
  | bal a b ih => exact ih.trans (List.sublist_append_left _ _)
  | one a ih => exact ih.append (List.Sublist.refl _)
theorem Dc.inv {n : Int} {w : List Int} {xs P' : List Nat} (h : Dc n w xs P') : ∀ {P : List Nat} {q : Nat}, P' = P ++ [q] → ∃ ys b, xs = ys ++ ([q] ++ b) ∧ Dc n w ys P ∧ ∀ st, fo n w st b = st := by
  induction h with
  | nil => intro P q e; simp at e
  | @bal xs P b a hb ih =>
    intro P q e
    obtain ⟨ys, c, e1, e2, e3⟩ := ih e
    refine ⟨ys, c ++ b, by rw [e1]; simp, e2, fun st => by rw [fo_app, e3, hb]⟩
  | @one xs P p a ih =>
    intro P q e
    obtain ⟨e1, e2⟩ := List.append_inj' e rfl
    cases e1
    cases e2
    exact ⟨xs, [], rfl, a, fun st => rfl⟩
theorem fo_same {n : Int} {w w' : List Int} : ∀ {b : List Nat} {st : List Nat × List Nat}, (∀ k ∈ b, w'.getD k 0 = w.getD k 0) → fo n w' st b = fo n w st b
  | [], _, _ => rfl
  | k :: b, st, h => by
    rw [fo_cons, fo_cons, h k List.mem_cons_self]
    exact fo_same fun j hj => h j (List.mem_cons_of_mem _ hj)
theorem Dc.other {n : Int} {w w' : List Int} {xs P : List Nat} (h : Dc n w xs P) (hd : xs.Nodup) (e : ∀ k ∈ xs, k ∉ P → w'.getD k 0 = w.getD k 0) : Dc n w' xs P := by
  induction h with
  | nil => exact .nil
  | @bal xs P b a hb ih =>
    obtain ⟨d1, d2, d3⟩ := List.nodup_append.mp hd
    refine .bal (ih d1 fun k hk hp => e k (List.mem_append_left _ hk) hp) fun st => ?_
    rw [fo_same fun k hk => e k (List.mem_append_right _ hk) fun hp => d3 k (a.sub.subset hp) k hk rfl]
    exact hb st
  | @one xs P p a ih =>
    obtain ⟨d1, d2, d3⟩ := List.nodup_append.mp hd
    refine .one (ih d1 fun k hk hp => e k (List.mem_append_left _ hk) fun z => ?_)
    rcases List.mem_append.mp z with z | z
    · exact hp z
    · exact d3 k hk k z rfl
theorem dc_range (n : Int) (w : List Int) : ∀ i, Dc n w (List.range i) ((um n w i).1 ++ (um n w i).2) ∧ (∀ k ∈ (um n w i).1, w.getD k 0 = n) ∧ ∀ k ∈ (um n w i).2, w.getD k 0 = n + 1
  | 0 => ⟨.nil, fun k h => (by cases h), fun k h => (by cases h)⟩
  | i + 1 => by
    obtain ⟨h1, h2, h3⟩ := dc_range n w i
    have e : um n w (i + 1) = umS n (um n w i) i (w.getD i 0) := rfl
    rw [e, List.range_succ]
    generalize um n w i = st at *
    by_cases c1 : w.getD i 0 = n + 1
    · rw [umS_up c1]
      refine ⟨?_, h2, fun k hk => ?_⟩
      · rw [← List.append_assoc]
        exact .one h1
      · rcases List.mem_append.mp hk with z | z
        · exact h3 k z
        · rw [List.mem_singleton.mp z]; exact c1
    · by_cases c2 : w.getD i 0 = n
      · by_cases c3 : st.2 = []
        · rw [umS_lo c2 c3]
          refine ⟨?_, fun k hk => ?_, h3⟩
          · rw [c3, List.append_nil]
            rw [c3, List.append_nil] at h1
            exact .one h1
          · rcases List.mem_append.mp hk with z | z
            · exact h2 k z
            · rw [List.mem_singleton.mp z]; exact c2
        · rw [umS_pop c2 c3]
          have e2 := (List.dropLast_concat_getLast c3).symm
          have hq : w.getD (st.2.getLast c3) 0 = n + 1 := h3 _ (List.getLast_mem c3)
          refine ⟨?_, h2, fun k hk => h3 k ((List.dropLast_sublist _).subset hk)⟩
          generalize st.2.getLast c3 = q at *
          obtain ⟨ys, b, e3, e4, e5⟩ := h1.inv (P := st.1 ++ st.2.dropLast) (q := q) (by rw [List.append_assoc, ← e2])
          rw [e3, List.append_assoc]
          refine .bal e4 fun t => ?_
          rw [fo_app, fo_app, e5]
          exact umS_pair hq c2
      · rw [umS_no c2 c1]
        exact ⟨.bal h1 fun t => umS_no c2 c1, h2, h3⟩
/-- the unmatched ones, from left to right -/
abbrev umP (n : Int) (w : List Int) : List Nat := lowI n w ++ uppI n w
theorem fo_low {n : Int} {w : List Int} : ∀ {A a : List Nat}, (∀ k ∈ A, w.getD k 0 = n) → fo n w (a, []) A = (a ++ A, [])
  | [], a, _ => by rw [List.append_nil]; rfl
  | k :: A, a, h => by
    rw [fo_cons, umS_lo (h k List.mem_cons_self) rfl]
    rw [fo_low (A := A) fun j hj => h j (List.mem_cons_of_mem _ hj)]
    simp
theorem fo_upp {n : Int} {w : List Int} : ∀ {B a b : List Nat}, (∀ k ∈ B, w.getD k 0 = n + 1) → fo n w (a, b) B = (a, b ++ B)
  | [], a, b, _ => by rw [List.append_nil]; rfl
  | k :: B, a, b, h => by
    rw [fo_cons, umS_up (h k List.mem_cons_self)]
    rw [fo_upp (B := B) fun j hj => h j (List.mem_cons_of_mem _ hj)]
    simp
theorem fo_both {n : Int} {w : List Int} {A B : List Nat} (h : ∀ k ∈ A, w.getD k 0 = n) (h2 : ∀ k ∈ B, w.getD k 0 = n + 1) : fo n w ([], []) (A ++ B) = (A, B) := by
  rw [fo_app, fo_low h, fo_upp h2]
  rfl
theorem umP_nd (n : Int) (w : List Int) : (umP n w).Nodup := (dc_range n w w.length).1.sub.nodup List.nodup_range
theorem umP_lt {n : Int} {w : List Int} {k : Nat} (h : k ∈ umP n w) : k < w.length := List.mem_range.mp ((dc_range n w w.length).1.sub.subset h)
theorem umP_lo {n : Int} {w : List Int} {k : Nat} (h : k ∈ lowI n w) : w.getD k 0 = n := (dc_range n w w.length).2.1 k h
theorem umP_up {n : Int} {w : List Int} {k : Nat} (h : k ∈ uppI n w) : w.getD k 0 = n + 1 := (dc_range n w w.length).2.2 k h
/-- other letters at the unmatched ones -/
theorem um_other {n : Int} {w w' : List Int} {A B : List Nat} (hl : w'.length = w.length) (hP : umP n w = A ++ B) (e : ∀ k < w.length, k ∉ umP n w → w'.getD k 0 = w.getD k 0) (hA : ∀ k ∈ A, w'.getD k 0 = n) (hB : ∀ k ∈ B, w'.getD k 0 = n + 1) : lowI n w' = A ∧ uppI n w' = B := by
  have h := ((dc_range n w w.length).1.other (w' := w') List.nodup_range fun k hk hp => e k (List.mem_range.mp hk) hp).fold ([], [])
  have h2 : um n w' w'.length = (A, B) := by
    rw [um_fo, hl, h]
    have h3 := hP
    unfold umP lowI uppI at h3
    rw [h3]
    exact fo_both hA hB
  exact ⟨congrArg Prod.fst h2, congrArg Prod.snd h2⟩
theorem getD_set {w : List Int} {p : Nat} {x : Int} (k : Nat) (hp : p < w.length) : (w.set p x).getD k 0 = if k = p then x else w.getD k 0 := by
  rw [List.getD_eq_getElem?_getD, List.getD_eq_getElem?_getD, List.getElem?_set]
  by_cases c : p = k
  · rw [if_pos c, if_pos hp, if_pos c.symm]; rfl
  · rw [if_neg c, if_neg (fun z => c z.symm)]
theorem set_set_self {w : List Int} {p : Nat} {x y : Int} (hp : p < w.length) (h : w.getD p 0 = y) : (w.set p x).set p y = w := by
  rw [List.set_set]
  refine List.ext_getElem? fun k => ?_
  rw [List.getElem?_set]
  by_cases c : p = k
  · subst c
    rw [if_pos rfl, if_pos hp, ← h, List.getElem?_eq_getElem hp]
    simp [List.getD_eq_getElem?_getD, hp]
  · rw [if_neg c]
theorem low_up {n : Int} {w : List Int} (h : lowI n w ≠ []) : ∃ h2 : uppI n (w.set ((lowI n w).getLast h) (n + 1)) ≠ [], (w.set ((lowI n w).getLast h) (n + 1)).set ((uppI n (w.set ((lowI n w).getLast h) (n + 1))).head h2) n = w := by
  have hm : (lowI n w).getLast h ∈ umP n w := List.mem_append_left _ (List.getLast_mem h)
  have hlt := umP_lt hm
  have hw := umP_lo (List.getLast_mem h)
  have hnd := umP_nd n w
  have e2 := (List.dropLast_concat_getLast h).symm
  have hP : umP n w = (lowI n w).dropLast ++ (lowI n w).getLast h :: uppI n w := by
    show lowI n w ++ uppI n w = _
    conv => lhs; rw [e2]
    simp
  have hlow : ∀ k ∈ (lowI n w).dropLast, w.getD k 0 = n := fun k hk => umP_lo ((List.dropLast_sublist _).subset hk)
  have hup : ∀ k ∈ uppI n w, w.getD k 0 = n + 1 := fun k hk => umP_up hk
  have hE := um_other (n := n) (w := w) (w' := w.set ((lowI n w).getLast h) (n + 1)) (List.length_set ..) hP
  generalize (lowI n w).getLast h = p at *
  rw [hP] at hnd
  obtain ⟨d1, d2, d3⟩ := List.nodup_append.mp hnd
  obtain ⟨_, e4⟩ := hE (fun k _ hk => by
      rw [getD_set k hlt, if_neg fun z => hk (by rw [z]; exact hm)])
    (fun k hk => by
      rw [getD_set k hlt, if_neg (d3 k hk p List.mem_cons_self)]
      exact hlow k hk)
    (fun k hk => by
      rw [getD_set k hlt]
      rcases List.mem_cons.mp hk with z | z
      · rw [if_pos z]
      · by_cases c : k = p
        · rw [if_pos c]
        · rw [if_neg c]; exact hup k z)
  refine ⟨by rw [e4]; simp, ?_⟩
  have e5 : ∀ h2, (uppI n (w.set p (n + 1))).head h2 = p := by rw [e4]; intro h2; rfl
  rw [e5]
  exact set_set_self hlt hw
theorem up_low {n : Int} {w : List Int} (h : uppI n w ≠ []) : ∃ h2 : lowI n (w.set ((uppI n w).head h) n) ≠ [], (w.set ((uppI n w).head h) n).set ((lowI n (w.set ((uppI n w).head h) n)).getLast h2) (n + 1) = w := by
  have hm : (uppI n w).head h ∈ umP n w := List.mem_append_right _ (List.head_mem h)
  have hlt := umP_lt hm
  have hw := umP_up (List.head_mem h)
  have hnd := umP_nd n w
  have e2 : uppI n w = (uppI n w).head h :: (uppI n w).tail := (List.cons_head_tail h).symm
  have hP : umP n w = (lowI n w ++ [(uppI n w).head h]) ++ (uppI n w).tail := by
    show lowI n w ++ uppI n w = _
    conv => lhs; rw [e2]
    simp
  have hlow : ∀ k ∈ lowI n w, w.getD k 0 = n := fun k hk => umP_lo hk
  have hup : ∀ k ∈ (uppI n w).tail, w.getD k 0 = n + 1 := fun k hk => umP_up (List.mem_of_mem_tail hk)
  have hE := um_other (n := n) (w := w) (w' := w.set ((uppI n w).head h) n) (List.length_set ..) hP
  generalize (uppI n w).head h = p at *
  rw [hP] at hnd
  obtain ⟨d1, d2, d3⟩ := List.nodup_append.mp hnd
  obtain ⟨e4, _⟩ := hE (fun k _ hk => by
      rw [getD_set k hlt, if_neg fun z => hk (by rw [z]; exact hm)])
    (fun k hk => by
      rw [getD_set k hlt]
      rcases List.mem_append.mp hk with z | z
      · by_cases c : k = p
        · rw [if_pos c]
        · rw [if_neg c]; exact hlow k z
      · rw [if_pos (List.mem_singleton.mp z)])
    (fun k hk => by
      rw [getD_set k hlt, if_neg fun z => d3 p (by simp) k hk z.symm]
      exact hup k hk)
  refine ⟨by rw [e4]; simp, ?_⟩
  have e5 : ∀ h2, (lowI n (w.set p n)).getLast h2 = p := by rw [e4]; intro h2; simp
  rw [e5]
  exact set_set_self hlt hw
theorem wset_at : ∀ {ks : List Nat} {xs : List Int} {w : List Int} {k : Nat}, k ∉ ks → (wset w (ks.zip xs)).getD k 0 = w.getD k 0
  | [], _, _, _, _ => rfl
  | _ :: _, [], _, _, _ => rfl
  | p :: ks, x :: xs, w, k, h => by
    show (wset (w.set p x) (ks.zip xs)).getD k 0 = _
    rw [wset_at fun z => h (List.mem_cons_of_mem _ z)]
    rw [List.getD_eq_getElem?_getD, List.getD_eq_getElem?_getD, List.getElem?_set_ne fun z => h (by rw [z]; exact List.mem_cons_self)]
theorem wset_in : ∀ {ks : List Nat} {xs : List Int} {w : List Int} {j k : Nat}, ks.Nodup → ks[j]? = some k → k < w.length → xs.length = ks.length → (wset w (ks.zip xs)).getD k 0 = xs.getD j 0
  | [], _, _, _, _, _, h, _, _ => by simp at h
  | _ :: _, [], _, _, _, _, _, _, h => by simp at h
  | p :: ks, x :: xs, w, 0, k, hd, h, hk, hl => by
    simp only [List.getElem?_cons_zero, Option.some.injEq] at h
    subst h
    show (wset (w.set p x) (ks.zip xs)).getD p 0 = _
    rw [wset_at (List.nodup_cons.mp hd).1, getD_set p hk, if_pos rfl]
    rfl
  | p :: ks, x :: xs, w, j + 1, k, hd, h, hk, hl => by
    show (wset (w.set p x) (ks.zip xs)).getD k 0 = _
    rw [wset_in (j := j) (List.nodup_cons.mp hd).2 (by simpa using h) (by rw [List.length_set]; exact hk) (by simpa using hl)]
    simp [List.getD_eq_getElem?_getD]
theorem ext_getZ {a b : List Int} (hl : a.length = b.length) (h : ∀ k < a.length, a.getD k 0 = b.getD k 0) : a = b := by
  refine List.ext_getElem hl fun k h1 h2 => ?_
  have := h k h1
  rw [List.getD_eq_getElem?_getD, List.getD_eq_getElem?_getD, List.getElem?_eq_getElem h1, List.getElem?_eq_getElem h2] at this
  exact this
/-- as many n as it has n + 1, and back -/
abbrev exW (n : Int) (w : List Int) : List Int := wset w ((lowI n w ++ uppI n w).zip (List.replicate (uppI n w).length n ++ List.replicate (lowI n w).length (n + 1)))
theorem rr_get (n : Int) (a b j : Nat) (h : j < a + b) : (List.replicate a n ++ List.replicate b (n + 1)).getD j 0 = if j < a then n else n + 1 := by
  rw [List.getD_eq_getElem?_getD, List.getElem?_append, List.length_replicate]
  by_cases c : j < a
  · rw [if_pos c, if_pos c, List.getElem?_replicate, if_pos c]; rfl
  · rw [if_neg c, if_neg c, List.getElem?_replicate, if_pos (by omega)]; rfl
theorem ex_ex (n : Int) (w : List Int) : exW n (exW n w) = w := by
  have hnd := umP_nd n w
  have hlt : ∀ k ∈ umP n w, k < w.length := fun k => umP_lt
  have hlo : ∀ k ∈ lowI n w, w.getD k 0 = n := fun k => umP_lo
  have hup : ∀ k ∈ uppI n w, w.getD k 0 = n + 1 := fun k => umP_up
  have hE := fun A B hl hP => um_other (n := n) (w := w) (w' := exW n w) (A := A) (B := B) hl hP
  have hxl : (exW n w).length = w.length := wset_len _ _
  have key : ∀ u, exW n u = wset u ((lowI n u ++ uppI n u).zip (List.replicate (uppI n u).length n ++ List.replicate (lowI n u).length (n + 1))) := fun u => rfl
  have hin : ∀ j k, (umP n w)[j]? = some k → (exW n w).getD k 0 = if j < (uppI n w).length then n else n + 1 := fun j k hj => by
    have hj2 := (List.getElem?_eq_some_iff.mp hj).1
    rw [List.length_append] at hj2
    rw [key, wset_in hnd hj (hlt k (List.mem_of_getElem? hj)) (by simp; omega), rr_get n _ _ _ (by omega)]
  have hout : ∀ k, k ∉ umP n w → (exW n w).getD k 0 = w.getD k 0 := fun k hk => wset_at hk
  generalize eu : exW n w = u at *
  obtain ⟨e1, e2⟩ := hE ((umP n w).take (uppI n w).length) ((umP n w).drop (uppI n w).length) hxl (List.take_append_drop _ _).symm (fun k _ hk => hout k hk)
    (fun k hk => by
      obtain ⟨j, hj⟩ := List.mem_iff_getElem?.mp hk
      rw [List.getElem?_take] at hj
      split at hj
      · rename_i c
        rw [hin j k hj, if_pos c]
      · cases hj)
    (fun k hk => by
      obtain ⟨j, hj⟩ := List.mem_iff_getElem?.mp hk
      rw [List.getElem?_drop] at hj
      rw [hin _ k hj, if_neg (by omega)])
  rw [key u, e1, e2, List.take_append_drop]
  have hlen : (umP n w).length = (lowI n w).length + (uppI n w).length := List.length_append
  refine ext_getZ (by rw [wset_len, hxl]) fun k hk => ?_
  rw [wset_len, hxl] at hk
  by_cases c : k ∈ umP n w
  · obtain ⟨j, hj⟩ := List.mem_iff_getElem?.mp c
    have hj2 := (List.getElem?_eq_some_iff.mp hj).1
    rw [wset_in hnd hj (by rw [hxl]; exact hk) (by simp; try omega), rr_get n _ _ _ (by simp; try omega)]
    rw [List.length_drop, hlen]
    by_cases q : j < (lowI n w).length
    · rw [if_pos (by omega)]
      rw [List.getElem?_append_left q] at hj
      exact (hlo k (List.mem_of_getElem? hj)).symm
    · rw [if_neg (by omega)]
      rw [List.getElem?_append_right (by omega)] at hj
      exact (hup k (List.mem_of_getElem? hj)).symm
  · rw [wset_at c, hout k c]

theorem p_law_is_word (T : Txt K mg) {l : Lv} (hl : l ≠ .di) {w : List Int} {R : OV → Prop} {X : Addr → Prop} (h : R (.da .nw (.bool true))) : F_law_is_word T [.da l (dW w)] R X := by
  rw [u_law_is_word]
  unfold b_law_is_word c_law_is_word_1 c_law_is_word_2 c_law_is_word_3
  simp only [w_var, w_int, w_str, w_bl, w_none, w_op, w_nil, w_cons, w_cb, w_B, w_T, w_tand, w_tor, w_tnot, w_tyes, w_and, w_or, w_not, w_if, w_neg, w_tup, w_lst, w_no, w_at, w_sl, w_isi, w_call, w_callX, w_callL, w_fn, w_lrg1, w_lrg2, w_lc, w_sq, w_rg1, w_rg2, w_rgD, w_asg, w_own, w_seq, w_next, w_break, w_cont, w_sif, w_expr, w_ret, w_retN, w_raise, w_for, w_while, w_app, w_tgt, w_mN, w_mSub, w_mT, w_mNil, w_mCons, w_gN, w_nN, f_plus, f_times, f_I, f_I0, f_B0, f_eq, f_ne, f_is, f_isNot, f_in, f_notIn, f_ix, f_len, f_list, f_tuple, f_sum, f_max, f_min, f_all, f_any, f_int, f_abs, f_sorted, f_min2, f_max2, rd_da, rd2_da, rds_nil, rds_cons, asB_bool, gt_z, gt_s, onLs_z, onLs_s, keepS_nw, keepS_loc, keepS_fr, keepS_di, keepS_fn, asgF_nw, asgF_loc, asgF_fr, asgF_ns, asgF_fn, itemF_nw, itemF_loc, itemF_fr, ownF_nw, retF_ns, rc_nw, rc_di, rc_ns, args_nil, args_da, args_st, args_sc, args_fn, len_da_l, len_da_t, len_ls, len_sc, ix_l, ix_t, seq_l, seq_t, seq_ls, imm_int, imm_bool, imm_str, imm_none, imm_list, imm_tuple, immAll_nil, immAll_cons, immAll_app, immAll_ints, turn_eq, keep_nw, keep_loc, keep_fr, keep_di, f_next, f_stream, f_cell, sup_nwl, sup_nwr, sup_self, nrm_int, nrm_bool, nrm_str, nrm_none, nrm_list, nrm_tuple, nrm_R, nrm_nw, nl_nw, nt_nw, nl_ints, nt_ints, mk_def, retF_nw, retF_loc, c_p14, c_p15, c_p18, c_p29, c_p30, c_p4, rd_lsI, retF_lsI, args_lsI, eqv_int, eqv_str, shp_int, mk_ints, mk_rows, nl_rows, nt_rows, relv_ints, relv_rows, relv_irg, keep_lsI, rd_lsR, oR_snoc, oR_set, nrm_putO, imm_putO, immAll_rows, own_rows', own_ints', wipeE, w_ownL, w_nTt, w_nCons, w_nNil, w_iRvA, w_seqV_l, w_seqV_t, w_revL, w_revT, w_lc2, w_chain, w_extend, w_popE, turn2_eq, w_frz, w_asgD, f_sum2, wi2_l, wi2_t, f_maxA, w_count, isL_l, intD_i, wi_l, w_iEn, enF_l, w_iZp, zpF_l, zpF_t, w_ret2, ret2_lsI, rd2_lsI, rd2_lsIr, w_iEnS, enFz_l, w_appO, w_appAt, w_callN, nsF_ns, List.set_cons_zero, List.set_cons_succ, ite_true, ite_false, Bool.false_eq_true, reduceIte, true_and, and_true, List.length_cons, List.length_nil, Nat.zero_add, List.map_nil, List.nil_append, List.length_map, Bool.true_and, Bool.and_true, Bool.false_and]
  refine ifF rfl ⟨decide_eq_true hl, forW_ind (fun i env => ∃ x1, env = [some (.da l (dW w)), x1]) ⟨none, rfl⟩ ?_ ?_⟩
  · rintro i o env N hi ⟨x1, rfl⟩ hN
    rw [List.getElem?_map] at hi
    cases c : w[i]? with
    | none => rw [c] at hi; cases hi
    | some x =>
      rw [c] at hi
      cases hi
      unfold c_law_is_word_4 c_law_is_word_5
      simp only [w_var, w_int, w_str, w_bl, w_none, w_op, w_nil, w_cons, w_cb, w_B, w_T, w_tand, w_tor, w_tnot, w_tyes, w_and, w_or, w_not, w_if, w_neg, w_tup, w_lst, w_no, w_at, w_sl, w_isi, w_call, w_callX, w_callL, w_fn, w_lrg1, w_lrg2, w_lc, w_sq, w_rg1, w_rg2, w_rgD, w_asg, w_own, w_seq, w_next, w_break, w_cont, w_sif, w_expr, w_ret, w_retN, w_raise, w_for, w_while, w_app, w_tgt, w_mN, w_mSub, w_mT, w_mNil, w_mCons, w_gN, w_nN, f_plus, f_times, f_I, f_I0, f_B0, f_eq, f_ne, f_is, f_isNot, f_in, f_notIn, f_ix, f_len, f_list, f_tuple, f_sum, f_max, f_min, f_all, f_any, f_int, f_abs, f_sorted, f_min2, f_max2, rd_da, rd2_da, rds_nil, rds_cons, asB_bool, gt_z, gt_s, onLs_z, onLs_s, keepS_nw, keepS_loc, keepS_fr, keepS_di, keepS_fn, asgF_nw, asgF_loc, asgF_fr, asgF_ns, asgF_fn, itemF_nw, itemF_loc, itemF_fr, ownF_nw, retF_ns, rc_nw, rc_di, rc_ns, args_nil, args_da, args_st, args_sc, args_fn, len_da_l, len_da_t, len_ls, len_sc, ix_l, ix_t, seq_l, seq_t, seq_ls, imm_int, imm_bool, imm_str, imm_none, imm_list, imm_tuple, immAll_nil, immAll_cons, immAll_app, immAll_ints, turn_eq, keep_nw, keep_loc, keep_fr, keep_di, f_next, f_stream, f_cell, sup_nwl, sup_nwr, sup_self, nrm_int, nrm_bool, nrm_str, nrm_none, nrm_list, nrm_tuple, nrm_R, nrm_nw, nl_nw, nt_nw, nl_ints, nt_ints, mk_def, retF_nw, retF_loc, c_p14, c_p15, c_p18, c_p29, c_p30, c_p4, rd_lsI, retF_lsI, args_lsI, eqv_int, eqv_str, shp_int, mk_ints, mk_rows, nl_rows, nt_rows, relv_ints, relv_rows, relv_irg, keep_lsI, rd_lsR, oR_snoc, oR_set, nrm_putO, imm_putO, immAll_rows, own_rows', own_ints', wipeE, w_ownL, w_nTt, w_nCons, w_nNil, w_iRvA, w_seqV_l, w_seqV_t, w_revL, w_revT, w_lc2, w_chain, w_extend, w_popE, turn2_eq, w_frz, w_asgD, f_sum2, wi2_l, wi2_t, f_maxA, w_count, isL_l, intD_i, wi_l, w_iEn, enF_l, w_iZp, zpF_l, zpF_t, w_ret2, ret2_lsI, rd2_lsI, rd2_lsIr, w_iEnS, enFz_l, w_appO, w_appAt, w_callN, nsF_ns, List.set_cons_zero, List.set_cons_succ, ite_true, ite_false, Bool.false_eq_true, reduceIte, true_and, and_true, List.length_cons, List.length_nil, Nat.zero_add, List.map_nil, List.nil_append, List.length_map, Bool.true_and, Bool.and_true, Bool.false_and]
      refine p_is_integer T ?_
      simp only [w_var, w_int, w_str, w_bl, w_none, w_op, w_nil, w_cons, w_cb, w_B, w_T, w_tand, w_tor, w_tnot, w_tyes, w_and, w_or, w_not, w_if, w_neg, w_tup, w_lst, w_no, w_at, w_sl, w_isi, w_call, w_callX, w_callL, w_fn, w_lrg1, w_lrg2, w_lc, w_sq, w_rg1, w_rg2, w_rgD, w_asg, w_own, w_seq, w_next, w_break, w_cont, w_sif, w_expr, w_ret, w_retN, w_raise, w_for, w_while, w_app, w_tgt, w_mN, w_mSub, w_mT, w_mNil, w_mCons, w_gN, w_nN, f_plus, f_times, f_I, f_I0, f_B0, f_eq, f_ne, f_is, f_isNot, f_in, f_notIn, f_ix, f_len, f_list, f_tuple, f_sum, f_max, f_min, f_all, f_any, f_int, f_abs, f_sorted, f_min2, f_max2, rd_da, rd2_da, rds_nil, rds_cons, asB_bool, gt_z, gt_s, onLs_z, onLs_s, keepS_nw, keepS_loc, keepS_fr, keepS_di, keepS_fn, asgF_nw, asgF_loc, asgF_fr, asgF_ns, asgF_fn, itemF_nw, itemF_loc, itemF_fr, ownF_nw, retF_ns, rc_nw, rc_di, rc_ns, args_nil, args_da, args_st, args_sc, args_fn, len_da_l, len_da_t, len_ls, len_sc, ix_l, ix_t, seq_l, seq_t, seq_ls, imm_int, imm_bool, imm_str, imm_none, imm_list, imm_tuple, immAll_nil, immAll_cons, immAll_app, immAll_ints, turn_eq, keep_nw, keep_loc, keep_fr, keep_di, f_next, f_stream, f_cell, sup_nwl, sup_nwr, sup_self, nrm_int, nrm_bool, nrm_str, nrm_none, nrm_list, nrm_tuple, nrm_R, nrm_nw, nl_nw, nt_nw, nl_ints, nt_ints, mk_def, retF_nw, retF_loc, c_p14, c_p15, c_p18, c_p29, c_p30, c_p4, rd_lsI, retF_lsI, args_lsI, eqv_int, eqv_str, shp_int, mk_ints, mk_rows, nl_rows, nt_rows, relv_ints, relv_rows, relv_irg, keep_lsI, rd_lsR, oR_snoc, oR_set, nrm_putO, imm_putO, immAll_rows, own_rows', own_ints', wipeE, w_ownL, w_nTt, w_nCons, w_nNil, w_iRvA, w_seqV_l, w_seqV_t, w_revL, w_revT, w_lc2, w_chain, w_extend, w_popE, turn2_eq, w_frz, w_asgD, f_sum2, wi2_l, wi2_t, f_maxA, w_count, isL_l, intD_i, wi_l, w_iEn, enF_l, w_iZp, zpF_l, zpF_t, w_ret2, ret2_lsI, rd2_lsI, rd2_lsIr, w_iEnS, enFz_l, w_appO, w_appAt, w_callN, nsF_ns, List.set_cons_zero, List.set_cons_succ, ite_true, ite_false, Bool.false_eq_true, reduceIte, true_and, and_true, List.length_cons, List.length_nil, Nat.zero_add, List.map_nil, List.nil_append, List.length_map, Bool.true_and, Bool.and_true, Bool.false_and]
      exact hN _ ⟨_, rfl⟩
  · rintro env ⟨x1, rfl⟩
    unfold c_law_is_word_6
    simp only [w_var, w_int, w_str, w_bl, w_none, w_op, w_nil, w_cons, w_cb, w_B, w_T, w_tand, w_tor, w_tnot, w_tyes, w_and, w_or, w_not, w_if, w_neg, w_tup, w_lst, w_no, w_at, w_sl, w_isi, w_call, w_callX, w_callL, w_fn, w_lrg1, w_lrg2, w_lc, w_sq, w_rg1, w_rg2, w_rgD, w_asg, w_own, w_seq, w_next, w_break, w_cont, w_sif, w_expr, w_ret, w_retN, w_raise, w_for, w_while, w_app, w_tgt, w_mN, w_mSub, w_mT, w_mNil, w_mCons, w_gN, w_nN, f_plus, f_times, f_I, f_I0, f_B0, f_eq, f_ne, f_is, f_isNot, f_in, f_notIn, f_ix, f_len, f_list, f_tuple, f_sum, f_max, f_min, f_all, f_any, f_int, f_abs, f_sorted, f_min2, f_max2, rd_da, rd2_da, rds_nil, rds_cons, asB_bool, gt_z, gt_s, onLs_z, onLs_s, keepS_nw, keepS_loc, keepS_fr, keepS_di, keepS_fn, asgF_nw, asgF_loc, asgF_fr, asgF_ns, asgF_fn, itemF_nw, itemF_loc, itemF_fr, ownF_nw, retF_ns, rc_nw, rc_di, rc_ns, args_nil, args_da, args_st, args_sc, args_fn, len_da_l, len_da_t, len_ls, len_sc, ix_l, ix_t, seq_l, seq_t, seq_ls, imm_int, imm_bool, imm_str, imm_none, imm_list, imm_tuple, immAll_nil, immAll_cons, immAll_app, immAll_ints, turn_eq, keep_nw, keep_loc, keep_fr, keep_di, f_next, f_stream, f_cell, sup_nwl, sup_nwr, sup_self, nrm_int, nrm_bool, nrm_str, nrm_none, nrm_list, nrm_tuple, nrm_R, nrm_nw, nl_nw, nt_nw, nl_ints, nt_ints, mk_def, retF_nw, retF_loc, c_p14, c_p15, c_p18, c_p29, c_p30, c_p4, rd_lsI, retF_lsI, args_lsI, eqv_int, eqv_str, shp_int, mk_ints, mk_rows, nl_rows, nt_rows, relv_ints, relv_rows, relv_irg, keep_lsI, rd_lsR, oR_snoc, oR_set, nrm_putO, imm_putO, immAll_rows, own_rows', own_ints', wipeE, w_ownL, w_nTt, w_nCons, w_nNil, w_iRvA, w_seqV_l, w_seqV_t, w_revL, w_revT, w_lc2, w_chain, w_extend, w_popE, turn2_eq, w_frz, w_asgD, f_sum2, wi2_l, wi2_t, f_maxA, w_count, isL_l, intD_i, wi_l, w_iEn, enF_l, w_iZp, zpF_l, zpF_t, w_ret2, ret2_lsI, rd2_lsI, rd2_lsIr, w_iEnS, enFz_l, w_appO, w_appAt, w_callN, nsF_ns, List.set_cons_zero, List.set_cons_succ, ite_true, ite_false, Bool.false_eq_true, reduceIte, true_and, and_true, List.length_cons, List.length_nil, Nat.zero_add, List.map_nil, List.nil_append, List.length_map, Bool.true_and, Bool.and_true, Bool.false_and]
    exact h

theorem low_dec {n : Int} {w : List Int} (h : lowI n w ≠ []) : lowI n (w.set ((lowI n w).getLast h) (n + 1)) = (lowI n w).dropLast ∧ uppI n (w.set ((lowI n w).getLast h) (n + 1)) = (lowI n w).getLast h :: uppI n w := by
  have hm : (lowI n w).getLast h ∈ umP n w := List.mem_append_left _ (List.getLast_mem h)
  have hlt := umP_lt hm
  have hnd := umP_nd n w
  have e2 := (List.dropLast_concat_getLast h).symm
  have hP : umP n w = (lowI n w).dropLast ++ (lowI n w).getLast h :: uppI n w := by
    show lowI n w ++ uppI n w = _
    conv => lhs; rw [e2]
    simp
  have hlow : ∀ k ∈ (lowI n w).dropLast, w.getD k 0 = n := fun k hk => umP_lo ((List.dropLast_sublist _).subset hk)
  have hup : ∀ k ∈ uppI n w, w.getD k 0 = n + 1 := fun k hk => umP_up hk
  have hE := um_other (n := n) (w := w) (w' := w.set ((lowI n w).getLast h) (n + 1)) (List.length_set ..) hP
  generalize (lowI n w).getLast h = p at *
  rw [hP] at hnd
  obtain ⟨d1, d2, d3⟩ := List.nodup_append.mp hnd
  exact hE (fun k _ hk => by
      rw [getD_set k hlt, if_neg fun z => hk (by rw [z]; exact hm)])
    (fun k hk => by
      rw [getD_set k hlt, if_neg (d3 k hk p List.mem_cons_self)]
      exact hlow k hk)
    (fun k hk => by
      rw [getD_set k hlt]
      rcases List.mem_cons.mp hk with z | z
      · rw [if_pos z]
      · by_cases c : k = p
        · rw [if_pos c]
        · rw [if_neg c]; exact hup k z)
theorem ex_in {n : Int} {w : List Int} {j k : Nat} (hj : (umP n w)[j]? = some k) : (exW n w).getD k 0 = if j < (uppI n w).length then n else n + 1 := by
  have hj2 := (List.getElem?_eq_some_iff.mp hj).1
  rw [List.length_append] at hj2
  have hk := umP_lt (List.mem_of_getElem? hj)
  show (wset w _).getD k 0 = _
  rw [wset_in (umP_nd n w) hj hk (by simp; omega), rr_get n _ _ _ (by omega)]
theorem ex_out {n : Int} {w : List Int} {k : Nat} (hk : k ∉ umP n w) : (exW n w).getD k 0 = w.getD k 0 := wset_at hk
theorem exW_len (n : Int) (w : List Int) : (exW n w).length = w.length := wset_len _ _
theorem ex_um (n : Int) (w : List Int) : lowI n (exW n w) = (umP n w).take (uppI n w).length ∧ uppI n (exW n w) = (umP n w).drop (uppI n w).length :=
  um_other (exW_len n w) (List.take_append_drop _ _).symm (fun k _ hk => ex_out hk)
    (fun k hk => by
      obtain ⟨j, hj⟩ := List.mem_iff_getElem?.mp hk
      rw [List.getElem?_take] at hj
      split at hj
      · rename_i c
        rw [ex_in hj, if_pos c]
      · cases hj)
    (fun k hk => by
      obtain ⟨j, hj⟩ := List.mem_iff_getElem?.mp hk
      rw [List.getElem?_drop] at hj
      rw [ex_in hj, if_neg (by omega)])
theorem ex_mem {n : Int} {w : List Int} {k : Nat} (hk : k ∈ umP n w) : ((exW n w).getD k 0 = n ∨ (exW n w).getD k 0 = n + 1) ∧ (w.getD k 0 = n ∨ w.getD k 0 = n + 1) := by
  obtain ⟨j, hj⟩ := List.mem_iff_getElem?.mp hk
  refine ⟨?_, (List.mem_append.mp hk).elim (fun z => .inl (umP_lo z)) fun z => .inr (umP_up z)⟩
  rw [ex_in hj]
  split
  · exact .inl rfl
  · exact .inr rfl
/-- letters that are neither -/
theorem um_neutral {n : Int} {w w' : List Int} (h : ∀ k, w'.getD k 0 = w.getD k 0 ∨ ((w.getD k 0 ≠ n ∧ w.getD k 0 ≠ n + 1) ∧ (w'.getD k 0 ≠ n ∧ w'.getD k 0 ≠ n + 1))) : ∀ i, um n w' i = um n w i
  | 0 => rfl
  | i + 1 => by
    show umS n (um n w' i) i (w'.getD i 0) = umS n (um n w i) i (w.getD i 0)
    rw [um_neutral h i]
    rcases h i with z | ⟨z1, z2⟩
    · rw [z]
    · rw [umS_no z1.1 z1.2, umS_no z2.1 z2.2]
theorem ex_neutral {n m : Int} (hm : m = n + 2 ∨ n = m + 2) (w : List Int) : lowI n (exW m w) = lowI n w ∧ uppI n (exW m w) = uppI n w := by
  have := um_neutral (n := n) (w := w) (w' := exW m w) (fun k => by
    by_cases c : k ∈ umP m w
    · obtain ⟨a, b⟩ := ex_mem c
      exact .inr ⟨⟨by omega, by omega⟩, by omega, by omega⟩
    · exact .inl (ex_out c)) w.length
  unfold lowI uppI
  rw [exW_len, this]
  exact ⟨rfl, rfl⟩
theorem ex_comm {n m : Int} (hm : m = n + 2) (w : List Int) : exW n (exW m w) = exW m (exW n w) := by
  obtain ⟨a1, a2⟩ := ex_neutral (.inl hm) w
  obtain ⟨b1, b2⟩ := ex_neutral (n := m) (m := n) (.inr hm) w
  have p1 : umP n (exW m w) = umP n w := by unfold umP; rw [a1, a2]
  have p2 : umP m (exW n w) = umP m w := by unfold umP; rw [b1, b2]
  refine ext_getZ (by rw [exW_len, exW_len, exW_len, exW_len]) fun k _ => ?_
  by_cases c : k ∈ umP n w
  · have d : k ∉ umP m w := fun z => by
      have := (ex_mem c).2
      have := (ex_mem z).2
      omega
    rw [ex_out (n := m) (by rw [p2]; exact d)]
    obtain ⟨j, hj⟩ := List.mem_iff_getElem?.mp c
    rw [ex_in hj, ex_in (n := n) (w := exW m w) (by rw [p1]; exact hj), a2]
  · rw [ex_out (n := n) (by rw [p1]; exact c)]
    by_cases d : k ∈ umP m w
    · obtain ⟨j, hj⟩ := List.mem_iff_getElem?.mp d
      rw [ex_in hj, ex_in (n := m) (w := exW n w) (by rw [p2]; exact hj), b2]
    · rw [ex_out (n := m) (by exact d), ex_out (n := m) (by rw [p2]; exact d), ex_out c]
def cN (z : Int) (w : List Int) : Nat := w.countP fun x => decide (x = z)
theorem cN_cons (z x : Int) (w : List Int) : cN z (x :: w) = cN z w + if x = z then 1 else 0 := by
  unfold cN
  rw [List.countP_cons]
  by_cases c : x = z <;> simp [c]
theorem cN_snoc (z x : Int) (w : List Int) : cN z (w ++ [x]) = cN z w + if x = z then 1 else 0 := by
  unfold cN
  rw [List.countP_append, List.countP_singleton]
  by_cases c : x = z <;> simp [c]
theorem um_count (n : Int) (w : List Int) : ∀ i, i ≤ w.length → cN n (w.take i) + (um n w i).2.length = cN (n + 1) (w.take i) + (um n w i).1.length
  | 0, _ => rfl
  | i + 1, h => by
    have ih := um_count n w i (by omega)
    have hl : i < w.length := by omega
    have e : w.take (i + 1) = w.take i ++ [w.getD i 0] := by
      rw [List.take_add_one, List.getD_eq_getElem?_getD, List.getElem?_eq_getElem hl]
      rfl
    rw [e, cN_snoc, cN_snoc]
    show _ + (umS n (um n w i) i (w.getD i 0)).2.length = _ + (umS n (um n w i) i (w.getD i 0)).1.length
    generalize um n w i = st at *
    generalize w.getD i 0 = x at *
    by_cases c1 : x = n + 1
    · rw [umS_up c1, if_neg (by omega), if_pos c1]
      simp; omega
    · by_cases c2 : x = n
      · by_cases c3 : st.2 = []
        · rw [umS_lo c2 c3, if_pos c2, if_neg c1]
          simp; omega
        · rw [umS_pop c2 c3, if_pos c2, if_neg c1]
          have := List.length_pos_iff.mpr c3
          simp; omega
      · rw [umS_no c2 c1, if_neg c2, if_neg c1]
        omega
theorem um_countL (n : Int) (w : List Int) : cN n w + (uppI n w).length = cN (n + 1) w + (lowI n w).length := by
  have := um_count n w w.length (Nat.le_refl _)
  rw [List.take_length] at this
  exact this
theorem cN_both (n : Int) : ∀ w : List Int, cN n w + cN (n + 1) w = (w.map fun x => decide (x = n ∨ x = n + 1)).countP id
  | [] => rfl
  | x :: w => by
    have ih := cN_both n w
    rw [cN_cons, cN_cons, List.map_cons, List.countP_cons, ← ih]
    by_cases c1 : x = n
    · have c2 : ¬ x = n + 1 := by omega
      rw [if_pos c1, if_neg c2]
      simp [c1]; omega
    · by_cases c2 : x = n + 1
      · rw [if_neg c1, if_pos c2]
        simp [c2]; omega
      · rw [if_neg c1, if_neg c2]
        simp [c1, c2]
theorem ex_count (n : Int) (w : List Int) : cN n (exW n w) = cN (n + 1) w ∧ cN (n + 1) (exW n w) = cN n w := by
  have h1 := um_countL n w
  have h2 := um_countL n (exW n w)
  obtain ⟨e1, e2⟩ := ex_um n w
  have hl : (umP n w).length = (lowI n w).length + (uppI n w).length := List.length_append
  rw [e1, e2, List.length_take, List.length_drop, hl] at h2
  have h3 : ((exW n w).map fun x => decide (x = n ∨ x = n + 1)) = w.map fun x => decide (x = n ∨ x = n + 1) := by
    refine List.ext_getElem (by rw [List.length_map, List.length_map, exW_len]) fun k g1 g2 => ?_
    rw [List.length_map] at g1 g2
    rw [List.getElem_map, List.getElem_map]
    have f1 : (exW n w).getD k 0 = (exW n w)[k] := by rw [List.getD_eq_getElem?_getD, List.getElem?_eq_getElem g1]; rfl
    have f2 : w.getD k 0 = w[k] := by rw [List.getD_eq_getElem?_getD, List.getElem?_eq_getElem g2]; rfl
    rw [← f1, ← f2]
    by_cases c : k ∈ umP n w
    · obtain ⟨a, b⟩ := ex_mem c
      rw [decide_eq_true a, decide_eq_true b]
    · rw [ex_out c]
  have h4 := cN_both n w
  have h5 := cN_both n (exW n w)
  rw [h3] at h5
  omega
/-- k lowerings -/
def lowO (n : Int) (w : List Int) : List Int := if h : lowI n w = [] then w else w.set ((lowI n w).getLast h) (n + 1)
def lowK (n : Int) (w : List Int) : Nat → List Int
  | 0 => w
  | k + 1 => lowO n (lowK n w k)
theorem lowO_len (n : Int) (w : List Int) : (lowO n w).length = w.length := by
  unfold lowO
  split
  · rfl
  · rw [List.length_set]
theorem lowK_len (n : Int) (w : List Int) : ∀ k, (lowK n w k).length = w.length
  | 0 => rfl
  | k + 1 => by rw [lowK, lowO_len, lowK_len n w k]
theorem lowK_low (n : Int) (w : List Int) : ∀ k, k ≤ (lowI n w).length → (lowI n (lowK n w k)).length = (lowI n w).length - k
  | 0, _ => rfl
  | k + 1, h => by
    have ih := lowK_low n w k (by omega)
    have hne : ¬ lowI n (lowK n w k) = [] := fun z => by rw [z] at ih; simp at ih; omega
    rw [lowK, lowO, dif_neg hne, (low_dec hne).1, List.length_dropLast, ih]
    omega
theorem low_le (n : Int) (w : List Int) : (lowI n w).length ≤ w.length := by
  have := um_len n w w.length
  unfold lowI
  omega
theorem cN_count (z : Int) : ∀ w : List Int, w.count z = cN z w
  | [] => rfl
  | x :: w => by
    rw [List.count_cons, cN_cons, cN_count z w]
    by_cases c : x = z <;> simp [c]

theorem p_there_and_back (T : Txt K mg) {l : Lv} {w : List Int} {n : Int} {R : OV → Prop} {X : Addr → Prop} (hz : w.length ≤ 1000) (h : R (.da .nw (.bool true))) : F_law_there_and_back T [.da l (dW w), .da .nw (.int n)] R X := by
  rw [u_law_there_and_back]
  unfold b_law_there_and_back c_law_there_and_back_1 c_law_there_and_back_2 c_law_there_and_back_3
  simp only [w_var, w_int, w_str, w_bl, w_none, w_op, w_nil, w_cons, w_cb, w_B, w_T, w_tand, w_tor, w_tnot, w_tyes, w_and, w_or, w_not, w_if, w_neg, w_tup, w_lst, w_no, w_at, w_sl, w_isi, w_call, w_callX, w_callL, w_fn, w_lrg1, w_lrg2, w_lc, w_sq, w_rg1, w_rg2, w_rgD, w_asg, w_own, w_seq, w_next, w_break, w_cont, w_sif, w_expr, w_ret, w_retN, w_raise, w_for, w_while, w_app, w_tgt, w_mN, w_mSub, w_mT, w_mNil, w_mCons, w_gN, w_nN, f_plus, f_times, f_I, f_I0, f_B0, f_eq, f_ne, f_is, f_isNot, f_in, f_notIn, f_ix, f_len, f_list, f_tuple, f_sum, f_max, f_min, f_all, f_any, f_int, f_abs, f_sorted, f_min2, f_max2, rd_da, rd2_da, rds_nil, rds_cons, asB_bool, gt_z, gt_s, onLs_z, onLs_s, keepS_nw, keepS_loc, keepS_fr, keepS_di, keepS_fn, asgF_nw, asgF_loc, asgF_fr, asgF_ns, asgF_fn, itemF_nw, itemF_loc, itemF_fr, ownF_nw, retF_ns, rc_nw, rc_di, rc_ns, args_nil, args_da, args_st, args_sc, args_fn, len_da_l, len_da_t, len_ls, len_sc, ix_l, ix_t, seq_l, seq_t, seq_ls, imm_int, imm_bool, imm_str, imm_none, imm_list, imm_tuple, immAll_nil, immAll_cons, immAll_app, immAll_ints, turn_eq, keep_nw, keep_loc, keep_fr, keep_di, f_next, f_stream, f_cell, sup_nwl, sup_nwr, sup_self, nrm_int, nrm_bool, nrm_str, nrm_none, nrm_list, nrm_tuple, nrm_R, nrm_nw, nl_nw, nt_nw, nl_ints, nt_ints, mk_def, retF_nw, retF_loc, c_p14, c_p15, c_p18, c_p29, c_p30, c_p4, rd_lsI, retF_lsI, args_lsI, eqv_int, eqv_str, shp_int, mk_ints, mk_rows, nl_rows, nt_rows, relv_ints, relv_rows, relv_irg, keep_lsI, rd_lsR, oR_snoc, oR_set, nrm_putO, imm_putO, immAll_rows, own_rows', own_ints', wipeE, w_ownL, w_nTt, w_nCons, w_nNil, w_iRvA, w_seqV_l, w_seqV_t, w_revL, w_revT, w_lc2, w_chain, w_extend, w_popE, turn2_eq, w_frz, w_asgD, f_sum2, wi2_l, wi2_t, f_maxA, w_count, isL_l, intD_i, wi_l, w_iEn, enF_l, w_iZp, zpF_l, zpF_t, w_ret2, ret2_lsI, rd2_lsI, rd2_lsIr, w_iEnS, enFz_l, w_appO, w_appAt, w_callN, nsF_ns, List.set_cons_zero, List.set_cons_succ, ite_true, ite_false, Bool.false_eq_true, reduceIte, true_and, and_true, List.length_cons, List.length_nil, Nat.zero_add, List.map_nil, List.nil_append, List.length_map, Bool.true_and, Bool.and_true, Bool.false_and]
  have hle := low_le n w
  refine ⟨⟨by omega, by omega⟩, ?_⟩
  refine' cutE (c_law_there_and_back_9 T) (fun env => ∃ x4 x5, env = [some (.da l (dW w)), some (.da .nw (.int n)), some (.da .loc (dW (lowK n w (lowI n w).length))), some (.da .nw (.int ((lowI n w).length : Int))), x4, x5]) (fun key => ?_) ?_
  rotate_left
  · refine forW_ind (fun i env => i ≤ (lowI n w).length ∧ ∃ x4 x5, env = [some (.da l (dW w)), some (.da .nw (.int n)), some (.da .loc (dW (lowK n w i))), some (.da .nw (.int (i : Int))), x4, x5]) ⟨Nat.zero_le _, none, none, rfl⟩ ?_ ?_
    · rintro i o env N hi ⟨hil, x4, x5, rfl⟩ hN
      obtain ⟨hin, rfl⟩ := irg_at hi
      have e0 : (0 : Int) + (i : Int) * 1 = (i : Int) := by omega
      rw [e0]
      simp only [w_var, w_int, w_str, w_bl, w_none, w_op, w_nil, w_cons, w_cb, w_B, w_T, w_tand, w_tor, w_tnot, w_tyes, w_and, w_or, w_not, w_if, w_neg, w_tup, w_lst, w_no, w_at, w_sl, w_isi, w_call, w_callX, w_callL, w_fn, w_lrg1, w_lrg2, w_lc, w_sq, w_rg1, w_rg2, w_rgD, w_asg, w_own, w_seq, w_next, w_break, w_cont, w_sif, w_expr, w_ret, w_retN, w_raise, w_for, w_while, w_app, w_tgt, w_mN, w_mSub, w_mT, w_mNil, w_mCons, w_gN, w_nN, f_plus, f_times, f_I, f_I0, f_B0, f_eq, f_ne, f_is, f_isNot, f_in, f_notIn, f_ix, f_len, f_list, f_tuple, f_sum, f_max, f_min, f_all, f_any, f_int, f_abs, f_sorted, f_min2, f_max2, rd_da, rd2_da, rds_nil, rds_cons, asB_bool, gt_z, gt_s, onLs_z, onLs_s, keepS_nw, keepS_loc, keepS_fr, keepS_di, keepS_fn, asgF_nw, asgF_loc, asgF_fr, asgF_ns, asgF_fn, itemF_nw, itemF_loc, itemF_fr, ownF_nw, retF_ns, rc_nw, rc_di, rc_ns, args_nil, args_da, args_st, args_sc, args_fn, len_da_l, len_da_t, len_ls, len_sc, ix_l, ix_t, seq_l, seq_t, seq_ls, imm_int, imm_bool, imm_str, imm_none, imm_list, imm_tuple, immAll_nil, immAll_cons, immAll_app, immAll_ints, turn_eq, keep_nw, keep_loc, keep_fr, keep_di, f_next, f_stream, f_cell, sup_nwl, sup_nwr, sup_self, nrm_int, nrm_bool, nrm_str, nrm_none, nrm_list, nrm_tuple, nrm_R, nrm_nw, nl_nw, nt_nw, nl_ints, nt_ints, mk_def, retF_nw, retF_loc, c_p14, c_p15, c_p18, c_p29, c_p30, c_p4, rd_lsI, retF_lsI, args_lsI, eqv_int, eqv_str, shp_int, mk_ints, mk_rows, nl_rows, nt_rows, relv_ints, relv_rows, relv_irg, keep_lsI, rd_lsR, oR_snoc, oR_set, nrm_putO, imm_putO, immAll_rows, own_rows', own_ints', wipeE, w_ownL, w_nTt, w_nCons, w_nNil, w_iRvA, w_seqV_l, w_seqV_t, w_revL, w_revT, w_lc2, w_chain, w_extend, w_popE, turn2_eq, w_frz, w_asgD, f_sum2, wi2_l, wi2_t, f_maxA, w_count, isL_l, intD_i, wi_l, w_iEn, enF_l, w_iZp, zpF_l, zpF_t, w_ret2, ret2_lsI, rd2_lsI, rd2_lsIr, w_iEnS, enFz_l, w_appO, w_appAt, w_callN, nsF_ns, List.set_cons_zero, List.set_cons_succ, ite_true, ite_false, Bool.false_eq_true, reduceIte, true_and, and_true, List.length_cons, List.length_nil, Nat.zero_add, List.map_nil, List.nil_append, List.length_map, Bool.true_and, Bool.and_true, Bool.false_and]
      unfold c_law_there_and_back_4
      simp only [w_var, w_int, w_str, w_bl, w_none, w_op, w_nil, w_cons, w_cb, w_B, w_T, w_tand, w_tor, w_tnot, w_tyes, w_and, w_or, w_not, w_if, w_neg, w_tup, w_lst, w_no, w_at, w_sl, w_isi, w_call, w_callX, w_callL, w_fn, w_lrg1, w_lrg2, w_lc, w_sq, w_rg1, w_rg2, w_rgD, w_asg, w_own, w_seq, w_next, w_break, w_cont, w_sif, w_expr, w_ret, w_retN, w_raise, w_for, w_while, w_app, w_tgt, w_mN, w_mSub, w_mT, w_mNil, w_mCons, w_gN, w_nN, f_plus, f_times, f_I, f_I0, f_B0, f_eq, f_ne, f_is, f_isNot, f_in, f_notIn, f_ix, f_len, f_list, f_tuple, f_sum, f_max, f_min, f_all, f_any, f_int, f_abs, f_sorted, f_min2, f_max2, rd_da, rd2_da, rds_nil, rds_cons, asB_bool, gt_z, gt_s, onLs_z, onLs_s, keepS_nw, keepS_loc, keepS_fr, keepS_di, keepS_fn, asgF_nw, asgF_loc, asgF_fr, asgF_ns, asgF_fn, itemF_nw, itemF_loc, itemF_fr, ownF_nw, retF_ns, rc_nw, rc_di, rc_ns, args_nil, args_da, args_st, args_sc, args_fn, len_da_l, len_da_t, len_ls, len_sc, ix_l, ix_t, seq_l, seq_t, seq_ls, imm_int, imm_bool, imm_str, imm_none, imm_list, imm_tuple, immAll_nil, immAll_cons, immAll_app, immAll_ints, turn_eq, keep_nw, keep_loc, keep_fr, keep_di, f_next, f_stream, f_cell, sup_nwl, sup_nwr, sup_self, nrm_int, nrm_bool, nrm_str, nrm_none, nrm_list, nrm_tuple, nrm_R, nrm_nw, nl_nw, nt_nw, nl_ints, nt_ints, mk_def, retF_nw, retF_loc, c_p14, c_p15, c_p18, c_p29, c_p30, c_p4, rd_lsI, retF_lsI, args_lsI, eqv_int, eqv_str, shp_int, mk_ints, mk_rows, nl_rows, nt_rows, relv_ints, relv_rows, relv_irg, keep_lsI, rd_lsR, oR_snoc, oR_set, nrm_putO, imm_putO, immAll_rows, own_rows', own_ints', wipeE, w_ownL, w_nTt, w_nCons, w_nNil, w_iRvA, w_seqV_l, w_seqV_t, w_revL, w_revT, w_lc2, w_chain, w_extend, w_popE, turn2_eq, w_frz, w_asgD, f_sum2, wi2_l, wi2_t, f_maxA, w_count, isL_l, intD_i, wi_l, w_iEn, enF_l, w_iZp, zpF_l, zpF_t, w_ret2, ret2_lsI, rd2_lsI, rd2_lsIr, w_iEnS, enFz_l, w_appO, w_appAt, w_callN, nsF_ns, List.set_cons_zero, List.set_cons_succ, ite_true, ite_false, Bool.false_eq_true, reduceIte, true_and, and_true, List.length_cons, List.length_nil, Nat.zero_add, List.map_nil, List.nil_append, List.length_map, Bool.true_and, Bool.and_true, Bool.false_and]
      have hlow := lowK_low n w i hil
      have hst : lowK n w (i + 1) = lowO n (lowK n w i) := rfl
      have hll := lowK_len n w i
      refine p_lowered T (by decide) (by omega) (fun h0 => ?_) fun h1 => ?_
      · simp only [w_var, w_int, w_str, w_bl, w_none, w_op, w_nil, w_cons, w_cb, w_B, w_T, w_tand, w_tor, w_tnot, w_tyes, w_and, w_or, w_not, w_if, w_neg, w_tup, w_lst, w_no, w_at, w_sl, w_isi, w_call, w_callX, w_callL, w_fn, w_lrg1, w_lrg2, w_lc, w_sq, w_rg1, w_rg2, w_rgD, w_asg, w_own, w_seq, w_next, w_break, w_cont, w_sif, w_expr, w_ret, w_retN, w_raise, w_for, w_while, w_app, w_tgt, w_mN, w_mSub, w_mT, w_mNil, w_mCons, w_gN, w_nN, f_plus, f_times, f_I, f_I0, f_B0, f_eq, f_ne, f_is, f_isNot, f_in, f_notIn, f_ix, f_len, f_list, f_tuple, f_sum, f_max, f_min, f_all, f_any, f_int, f_abs, f_sorted, f_min2, f_max2, rd_da, rd2_da, rds_nil, rds_cons, asB_bool, gt_z, gt_s, onLs_z, onLs_s, keepS_nw, keepS_loc, keepS_fr, keepS_di, keepS_fn, asgF_nw, asgF_loc, asgF_fr, asgF_ns, asgF_fn, itemF_nw, itemF_loc, itemF_fr, ownF_nw, retF_ns, rc_nw, rc_di, rc_ns, args_nil, args_da, args_st, args_sc, args_fn, len_da_l, len_da_t, len_ls, len_sc, ix_l, ix_t, seq_l, seq_t, seq_ls, imm_int, imm_bool, imm_str, imm_none, imm_list, imm_tuple, immAll_nil, immAll_cons, immAll_app, immAll_ints, turn_eq, keep_nw, keep_loc, keep_fr, keep_di, f_next, f_stream, f_cell, sup_nwl, sup_nwr, sup_self, nrm_int, nrm_bool, nrm_str, nrm_none, nrm_list, nrm_tuple, nrm_R, nrm_nw, nl_nw, nt_nw, nl_ints, nt_ints, mk_def, retF_nw, retF_loc, c_p14, c_p15, c_p18, c_p29, c_p30, c_p4, rd_lsI, retF_lsI, args_lsI, eqv_int, eqv_str, shp_int, mk_ints, mk_rows, nl_rows, nt_rows, relv_ints, relv_rows, relv_irg, keep_lsI, rd_lsR, oR_snoc, oR_set, nrm_putO, imm_putO, immAll_rows, own_rows', own_ints', wipeE, w_ownL, w_nTt, w_nCons, w_nNil, w_iRvA, w_seqV_l, w_seqV_t, w_revL, w_revT, w_lc2, w_chain, w_extend, w_popE, turn2_eq, w_frz, w_asgD, f_sum2, wi2_l, wi2_t, f_maxA, w_count, isL_l, intD_i, wi_l, w_iEn, enF_l, w_iZp, zpF_l, zpF_t, w_ret2, ret2_lsI, rd2_lsI, rd2_lsIr, w_iEnS, enFz_l, w_appO, w_appAt, w_callN, nsF_ns, List.set_cons_zero, List.set_cons_succ, ite_true, ite_false, Bool.false_eq_true, reduceIte, true_and, and_true, List.length_cons, List.length_nil, Nat.zero_add, List.map_nil, List.nil_append, List.length_map, Bool.true_and, Bool.and_true, Bool.false_and]
        unfold c_law_there_and_back_5 c_law_there_and_back_6
        simp only [w_var, w_int, w_str, w_bl, w_none, w_op, w_nil, w_cons, w_cb, w_B, w_T, w_tand, w_tor, w_tnot, w_tyes, w_and, w_or, w_not, w_if, w_neg, w_tup, w_lst, w_no, w_at, w_sl, w_isi, w_call, w_callX, w_callL, w_fn, w_lrg1, w_lrg2, w_lc, w_sq, w_rg1, w_rg2, w_rgD, w_asg, w_own, w_seq, w_next, w_break, w_cont, w_sif, w_expr, w_ret, w_retN, w_raise, w_for, w_while, w_app, w_tgt, w_mN, w_mSub, w_mT, w_mNil, w_mCons, w_gN, w_nN, f_plus, f_times, f_I, f_I0, f_B0, f_eq, f_ne, f_is, f_isNot, f_in, f_notIn, f_ix, f_len, f_list, f_tuple, f_sum, f_max, f_min, f_all, f_any, f_int, f_abs, f_sorted, f_min2, f_max2, rd_da, rd2_da, rds_nil, rds_cons, asB_bool, gt_z, gt_s, onLs_z, onLs_s, keepS_nw, keepS_loc, keepS_fr, keepS_di, keepS_fn, asgF_nw, asgF_loc, asgF_fr, asgF_ns, asgF_fn, itemF_nw, itemF_loc, itemF_fr, ownF_nw, retF_ns, rc_nw, rc_di, rc_ns, args_nil, args_da, args_st, args_sc, args_fn, len_da_l, len_da_t, len_ls, len_sc, ix_l, ix_t, seq_l, seq_t, seq_ls, imm_int, imm_bool, imm_str, imm_none, imm_list, imm_tuple, immAll_nil, immAll_cons, immAll_app, immAll_ints, turn_eq, keep_nw, keep_loc, keep_fr, keep_di, f_next, f_stream, f_cell, sup_nwl, sup_nwr, sup_self, nrm_int, nrm_bool, nrm_str, nrm_none, nrm_list, nrm_tuple, nrm_R, nrm_nw, nl_nw, nt_nw, nl_ints, nt_ints, mk_def, retF_nw, retF_loc, c_p14, c_p15, c_p18, c_p29, c_p30, c_p4, rd_lsI, retF_lsI, args_lsI, eqv_int, eqv_str, shp_int, mk_ints, mk_rows, nl_rows, nt_rows, relv_ints, relv_rows, relv_irg, keep_lsI, rd_lsR, oR_snoc, oR_set, nrm_putO, imm_putO, immAll_rows, own_rows', own_ints', wipeE, w_ownL, w_nTt, w_nCons, w_nNil, w_iRvA, w_seqV_l, w_seqV_t, w_revL, w_revT, w_lc2, w_chain, w_extend, w_popE, turn2_eq, w_frz, w_asgD, f_sum2, wi2_l, wi2_t, f_maxA, w_count, isL_l, intD_i, wi_l, w_iEn, enF_l, w_iZp, zpF_l, zpF_t, w_ret2, ret2_lsI, rd2_lsI, rd2_lsIr, w_iEnS, enFz_l, w_appO, w_appAt, w_callN, nsF_ns, List.set_cons_zero, List.set_cons_succ, ite_true, ite_false, Bool.false_eq_true, reduceIte, true_and, and_true, List.length_cons, List.length_nil, Nat.zero_add, List.map_nil, List.nil_append, List.length_map, Bool.true_and, Bool.and_true, Bool.false_and]
        rw [h0] at hlow
        have : i = (lowI n w).length := by simp at hlow; omega
        subst this
        exact key _ ⟨_, _, rfl⟩
      · have hp := List.length_pos_iff.mpr h1
        rw [lowO, dif_neg h1] at hst
        simp only [w_var, w_int, w_str, w_bl, w_none, w_op, w_nil, w_cons, w_cb, w_B, w_T, w_tand, w_tor, w_tnot, w_tyes, w_and, w_or, w_not, w_if, w_neg, w_tup, w_lst, w_no, w_at, w_sl, w_isi, w_call, w_callX, w_callL, w_fn, w_lrg1, w_lrg2, w_lc, w_sq, w_rg1, w_rg2, w_rgD, w_asg, w_own, w_seq, w_next, w_break, w_cont, w_sif, w_expr, w_ret, w_retN, w_raise, w_for, w_while, w_app, w_tgt, w_mN, w_mSub, w_mT, w_mNil, w_mCons, w_gN, w_nN, f_plus, f_times, f_I, f_I0, f_B0, f_eq, f_ne, f_is, f_isNot, f_in, f_notIn, f_ix, f_len, f_list, f_tuple, f_sum, f_max, f_min, f_all, f_any, f_int, f_abs, f_sorted, f_min2, f_max2, rd_da, rd2_da, rds_nil, rds_cons, asB_bool, gt_z, gt_s, onLs_z, onLs_s, keepS_nw, keepS_loc, keepS_fr, keepS_di, keepS_fn, asgF_nw, asgF_loc, asgF_fr, asgF_ns, asgF_fn, itemF_nw, itemF_loc, itemF_fr, ownF_nw, retF_ns, rc_nw, rc_di, rc_ns, args_nil, args_da, args_st, args_sc, args_fn, len_da_l, len_da_t, len_ls, len_sc, ix_l, ix_t, seq_l, seq_t, seq_ls, imm_int, imm_bool, imm_str, imm_none, imm_list, imm_tuple, immAll_nil, immAll_cons, immAll_app, immAll_ints, turn_eq, keep_nw, keep_loc, keep_fr, keep_di, f_next, f_stream, f_cell, sup_nwl, sup_nwr, sup_self, nrm_int, nrm_bool, nrm_str, nrm_none, nrm_list, nrm_tuple, nrm_R, nrm_nw, nl_nw, nt_nw, nl_ints, nt_ints, mk_def, retF_nw, retF_loc, c_p14, c_p15, c_p18, c_p29, c_p30, c_p4, rd_lsI, retF_lsI, args_lsI, eqv_int, eqv_str, shp_int, mk_ints, mk_rows, nl_rows, nt_rows, relv_ints, relv_rows, relv_irg, keep_lsI, rd_lsR, oR_snoc, oR_set, nrm_putO, imm_putO, immAll_rows, own_rows', own_ints', wipeE, w_ownL, w_nTt, w_nCons, w_nNil, w_iRvA, w_seqV_l, w_seqV_t, w_revL, w_revT, w_lc2, w_chain, w_extend, w_popE, turn2_eq, w_frz, w_asgD, f_sum2, wi2_l, wi2_t, f_maxA, w_count, isL_l, intD_i, wi_l, w_iEn, enF_l, w_iZp, zpF_l, zpF_t, w_ret2, ret2_lsI, rd2_lsI, rd2_lsIr, w_iEnS, enFz_l, w_appO, w_appAt, w_callN, nsF_ns, List.set_cons_zero, List.set_cons_succ, ite_true, ite_false, Bool.false_eq_true, reduceIte, true_and, and_true, List.length_cons, List.length_nil, Nat.zero_add, List.map_nil, List.nil_append, List.length_map, Bool.true_and, Bool.and_true, Bool.false_and]
        unfold c_law_there_and_back_5
        simp only [w_var, w_int, w_str, w_bl, w_none, w_op, w_nil, w_cons, w_cb, w_B, w_T, w_tand, w_tor, w_tnot, w_tyes, w_and, w_or, w_not, w_if, w_neg, w_tup, w_lst, w_no, w_at, w_sl, w_isi, w_call, w_callX, w_callL, w_fn, w_lrg1, w_lrg2, w_lc, w_sq, w_rg1, w_rg2, w_rgD, w_asg, w_own, w_seq, w_next, w_break, w_cont, w_sif, w_expr, w_ret, w_retN, w_raise, w_for, w_while, w_app, w_tgt, w_mN, w_mSub, w_mT, w_mNil, w_mCons, w_gN, w_nN, f_plus, f_times, f_I, f_I0, f_B0, f_eq, f_ne, f_is, f_isNot, f_in, f_notIn, f_ix, f_len, f_list, f_tuple, f_sum, f_max, f_min, f_all, f_any, f_int, f_abs, f_sorted, f_min2, f_max2, rd_da, rd2_da, rds_nil, rds_cons, asB_bool, gt_z, gt_s, onLs_z, onLs_s, keepS_nw, keepS_loc, keepS_fr, keepS_di, keepS_fn, asgF_nw, asgF_loc, asgF_fr, asgF_ns, asgF_fn, itemF_nw, itemF_loc, itemF_fr, ownF_nw, retF_ns, rc_nw, rc_di, rc_ns, args_nil, args_da, args_st, args_sc, args_fn, len_da_l, len_da_t, len_ls, len_sc, ix_l, ix_t, seq_l, seq_t, seq_ls, imm_int, imm_bool, imm_str, imm_none, imm_list, imm_tuple, immAll_nil, immAll_cons, immAll_app, immAll_ints, turn_eq, keep_nw, keep_loc, keep_fr, keep_di, f_next, f_stream, f_cell, sup_nwl, sup_nwr, sup_self, nrm_int, nrm_bool, nrm_str, nrm_none, nrm_list, nrm_tuple, nrm_R, nrm_nw, nl_nw, nt_nw, nl_ints, nt_ints, mk_def, retF_nw, retF_loc, c_p14, c_p15, c_p18, c_p29, c_p30, c_p4, rd_lsI, retF_lsI, args_lsI, eqv_int, eqv_str, shp_int, mk_ints, mk_rows, nl_rows, nt_rows, relv_ints, relv_rows, relv_irg, keep_lsI, rd_lsR, oR_snoc, oR_set, nrm_putO, imm_putO, immAll_rows, own_rows', own_ints', wipeE, w_ownL, w_nTt, w_nCons, w_nNil, w_iRvA, w_seqV_l, w_seqV_t, w_revL, w_revT, w_lc2, w_chain, w_extend, w_popE, turn2_eq, w_frz, w_asgD, f_sum2, wi2_l, wi2_t, f_maxA, w_count, isL_l, intD_i, wi_l, w_iEn, enF_l, w_iZp, zpF_l, zpF_t, w_ret2, ret2_lsI, rd2_lsI, rd2_lsIr, w_iEnS, enFz_l, w_appO, w_appAt, w_callN, nsF_ns, List.set_cons_zero, List.set_cons_succ, ite_true, ite_false, Bool.false_eq_true, reduceIte, true_and, and_true, List.length_cons, List.length_nil, Nat.zero_add, List.map_nil, List.nil_append, List.length_map, Bool.true_and, Bool.and_true, Bool.false_and]
        unfold c_law_there_and_back_7 c_law_there_and_back_8
        simp only [w_var, w_int, w_str, w_bl, w_none, w_op, w_nil, w_cons, w_cb, w_B, w_T, w_tand, w_tor, w_tnot, w_tyes, w_and, w_or, w_not, w_if, w_neg, w_tup, w_lst, w_no, w_at, w_sl, w_isi, w_call, w_callX, w_callL, w_fn, w_lrg1, w_lrg2, w_lc, w_sq, w_rg1, w_rg2, w_rgD, w_asg, w_own, w_seq, w_next, w_break, w_cont, w_sif, w_expr, w_ret, w_retN, w_raise, w_for, w_while, w_app, w_tgt, w_mN, w_mSub, w_mT, w_mNil, w_mCons, w_gN, w_nN, f_plus, f_times, f_I, f_I0, f_B0, f_eq, f_ne, f_is, f_isNot, f_in, f_notIn, f_ix, f_len, f_list, f_tuple, f_sum, f_max, f_min, f_all, f_any, f_int, f_abs, f_sorted, f_min2, f_max2, rd_da, rd2_da, rds_nil, rds_cons, asB_bool, gt_z, gt_s, onLs_z, onLs_s, keepS_nw, keepS_loc, keepS_fr, keepS_di, keepS_fn, asgF_nw, asgF_loc, asgF_fr, asgF_ns, asgF_fn, itemF_nw, itemF_loc, itemF_fr, ownF_nw, retF_ns, rc_nw, rc_di, rc_ns, args_nil, args_da, args_st, args_sc, args_fn, len_da_l, len_da_t, len_ls, len_sc, ix_l, ix_t, seq_l, seq_t, seq_ls, imm_int, imm_bool, imm_str, imm_none, imm_list, imm_tuple, immAll_nil, immAll_cons, immAll_app, immAll_ints, turn_eq, keep_nw, keep_loc, keep_fr, keep_di, f_next, f_stream, f_cell, sup_nwl, sup_nwr, sup_self, nrm_int, nrm_bool, nrm_str, nrm_none, nrm_list, nrm_tuple, nrm_R, nrm_nw, nl_nw, nt_nw, nl_ints, nt_ints, mk_def, retF_nw, retF_loc, c_p14, c_p15, c_p18, c_p29, c_p30, c_p4, rd_lsI, retF_lsI, args_lsI, eqv_int, eqv_str, shp_int, mk_ints, mk_rows, nl_rows, nt_rows, relv_ints, relv_rows, relv_irg, keep_lsI, rd_lsR, oR_snoc, oR_set, nrm_putO, imm_putO, immAll_rows, own_rows', own_ints', wipeE, w_ownL, w_nTt, w_nCons, w_nNil, w_iRvA, w_seqV_l, w_seqV_t, w_revL, w_revT, w_lc2, w_chain, w_extend, w_popE, turn2_eq, w_frz, w_asgD, f_sum2, wi2_l, wi2_t, f_maxA, w_count, isL_l, intD_i, wi_l, w_iEn, enF_l, w_iZp, zpF_l, zpF_t, w_ret2, ret2_lsI, rd2_lsI, rd2_lsIr, w_iEnS, enFz_l, w_appO, w_appAt, w_callN, nsF_ns, List.set_cons_zero, List.set_cons_succ, ite_true, ite_false, Bool.false_eq_true, reduceIte, true_and, and_true, List.length_cons, List.length_nil, Nat.zero_add, List.map_nil, List.nil_append, List.length_map, Bool.true_and, Bool.and_true, Bool.false_and]
        exact hN _ ⟨by omega, _, _, by rw [hst]; rfl⟩
    · rintro env ⟨hil, _⟩
      rw [irgO_len] at hil
      omega
  · rintro env ⟨x4, x5, rfl⟩
    unfold c_law_there_and_back_9
    simp only [w_var, w_int, w_str, w_bl, w_none, w_op, w_nil, w_cons, w_cb, w_B, w_T, w_tand, w_tor, w_tnot, w_tyes, w_and, w_or, w_not, w_if, w_neg, w_tup, w_lst, w_no, w_at, w_sl, w_isi, w_call, w_callX, w_callL, w_fn, w_lrg1, w_lrg2, w_lc, w_sq, w_rg1, w_rg2, w_rgD, w_asg, w_own, w_seq, w_next, w_break, w_cont, w_sif, w_expr, w_ret, w_retN, w_raise, w_for, w_while, w_app, w_tgt, w_mN, w_mSub, w_mT, w_mNil, w_mCons, w_gN, w_nN, f_plus, f_times, f_I, f_I0, f_B0, f_eq, f_ne, f_is, f_isNot, f_in, f_notIn, f_ix, f_len, f_list, f_tuple, f_sum, f_max, f_min, f_all, f_any, f_int, f_abs, f_sorted, f_min2, f_max2, rd_da, rd2_da, rds_nil, rds_cons, asB_bool, gt_z, gt_s, onLs_z, onLs_s, keepS_nw, keepS_loc, keepS_fr, keepS_di, keepS_fn, asgF_nw, asgF_loc, asgF_fr, asgF_ns, asgF_fn, itemF_nw, itemF_loc, itemF_fr, ownF_nw, retF_ns, rc_nw, rc_di, rc_ns, args_nil, args_da, args_st, args_sc, args_fn, len_da_l, len_da_t, len_ls, len_sc, ix_l, ix_t, seq_l, seq_t, seq_ls, imm_int, imm_bool, imm_str, imm_none, imm_list, imm_tuple, immAll_nil, immAll_cons, immAll_app, immAll_ints, turn_eq, keep_nw, keep_loc, keep_fr, keep_di, f_next, f_stream, f_cell, sup_nwl, sup_nwr, sup_self, nrm_int, nrm_bool, nrm_str, nrm_none, nrm_list, nrm_tuple, nrm_R, nrm_nw, nl_nw, nt_nw, nl_ints, nt_ints, mk_def, retF_nw, retF_loc, c_p14, c_p15, c_p18, c_p29, c_p30, c_p4, rd_lsI, retF_lsI, args_lsI, eqv_int, eqv_str, shp_int, mk_ints, mk_rows, nl_rows, nt_rows, relv_ints, relv_rows, relv_irg, keep_lsI, rd_lsR, oR_snoc, oR_set, nrm_putO, imm_putO, immAll_rows, own_rows', own_ints', wipeE, w_ownL, w_nTt, w_nCons, w_nNil, w_iRvA, w_seqV_l, w_seqV_t, w_revL, w_revT, w_lc2, w_chain, w_extend, w_popE, turn2_eq, w_frz, w_asgD, f_sum2, wi2_l, wi2_t, f_maxA, w_count, isL_l, intD_i, wi_l, w_iEn, enF_l, w_iZp, zpF_l, zpF_t, w_ret2, ret2_lsI, rd2_lsI, rd2_lsIr, w_iEnS, enFz_l, w_appO, w_appAt, w_callN, nsF_ns, List.set_cons_zero, List.set_cons_succ, ite_true, ite_false, Bool.false_eq_true, reduceIte, true_and, and_true, List.length_cons, List.length_nil, Nat.zero_add, List.map_nil, List.nil_append, List.length_map, Bool.true_and, Bool.and_true, Bool.false_and]
    refine ifF (decide_eq_false (by omega)) ?_
    unfold c_law_there_and_back_11
    simp only [w_var, w_int, w_str, w_bl, w_none, w_op, w_nil, w_cons, w_cb, w_B, w_T, w_tand, w_tor, w_tnot, w_tyes, w_and, w_or, w_not, w_if, w_neg, w_tup, w_lst, w_no, w_at, w_sl, w_isi, w_call, w_callX, w_callL, w_fn, w_lrg1, w_lrg2, w_lc, w_sq, w_rg1, w_rg2, w_rgD, w_asg, w_own, w_seq, w_next, w_break, w_cont, w_sif, w_expr, w_ret, w_retN, w_raise, w_for, w_while, w_app, w_tgt, w_mN, w_mSub, w_mT, w_mNil, w_mCons, w_gN, w_nN, f_plus, f_times, f_I, f_I0, f_B0, f_eq, f_ne, f_is, f_isNot, f_in, f_notIn, f_ix, f_len, f_list, f_tuple, f_sum, f_max, f_min, f_all, f_any, f_int, f_abs, f_sorted, f_min2, f_max2, rd_da, rd2_da, rds_nil, rds_cons, asB_bool, gt_z, gt_s, onLs_z, onLs_s, keepS_nw, keepS_loc, keepS_fr, keepS_di, keepS_fn, asgF_nw, asgF_loc, asgF_fr, asgF_ns, asgF_fn, itemF_nw, itemF_loc, itemF_fr, ownF_nw, retF_ns, rc_nw, rc_di, rc_ns, args_nil, args_da, args_st, args_sc, args_fn, len_da_l, len_da_t, len_ls, len_sc, ix_l, ix_t, seq_l, seq_t, seq_ls, imm_int, imm_bool, imm_str, imm_none, imm_list, imm_tuple, immAll_nil, immAll_cons, immAll_app, immAll_ints, turn_eq, keep_nw, keep_loc, keep_fr, keep_di, f_next, f_stream, f_cell, sup_nwl, sup_nwr, sup_self, nrm_int, nrm_bool, nrm_str, nrm_none, nrm_list, nrm_tuple, nrm_R, nrm_nw, nl_nw, nt_nw, nl_ints, nt_ints, mk_def, retF_nw, retF_loc, c_p14, c_p15, c_p18, c_p29, c_p30, c_p4, rd_lsI, retF_lsI, args_lsI, eqv_int, eqv_str, shp_int, mk_ints, mk_rows, nl_rows, nt_rows, relv_ints, relv_rows, relv_irg, keep_lsI, rd_lsR, oR_snoc, oR_set, nrm_putO, imm_putO, immAll_rows, own_rows', own_ints', wipeE, w_ownL, w_nTt, w_nCons, w_nNil, w_iRvA, w_seqV_l, w_seqV_t, w_revL, w_revT, w_lc2, w_chain, w_extend, w_popE, turn2_eq, w_frz, w_asgD, f_sum2, wi2_l, wi2_t, f_maxA, w_count, isL_l, intD_i, wi_l, w_iEn, enF_l, w_iZp, zpF_l, zpF_t, w_ret2, ret2_lsI, rd2_lsI, rd2_lsIr, w_iEnS, enFz_l, w_appO, w_appAt, w_callN, nsF_ns, List.set_cons_zero, List.set_cons_succ, ite_true, ite_false, Bool.false_eq_true, reduceIte, true_and, and_true, List.length_cons, List.length_nil, Nat.zero_add, List.map_nil, List.nil_append, List.length_map, Bool.true_and, Bool.and_true, Bool.false_and]
    refine ⟨⟨by omega, by omega⟩, ?_⟩
    refine forW_ind (fun i env => ∃ x4 x5, env = [some (.da l (dW w)), some (.da .nw (.int n)), some (.da .loc (dW (lowK n w ((lowI n w).length - i)))), some (.da .nw (.int ((lowI n w).length : Int))), x4, x5]) ⟨x4, x5, rfl⟩ ?_ ?_
    · rintro i o env N hi ⟨x4, x5, rfl⟩ hN
      obtain ⟨hin, rfl⟩ := irg_at hi
      have hin : i < (lowI n w).length := by omega
      have hst : (lowI n w).length - i = ((lowI n w).length - (i + 1)) + 1 := by omega
      rw [hst]
      simp only [w_var, w_int, w_str, w_bl, w_none, w_op, w_nil, w_cons, w_cb, w_B, w_T, w_tand, w_tor, w_tnot, w_tyes, w_and, w_or, w_not, w_if, w_neg, w_tup, w_lst, w_no, w_at, w_sl, w_isi, w_call, w_callX, w_callL, w_fn, w_lrg1, w_lrg2, w_lc, w_sq, w_rg1, w_rg2, w_rgD, w_asg, w_own, w_seq, w_next, w_break, w_cont, w_sif, w_expr, w_ret, w_retN, w_raise, w_for, w_while, w_app, w_tgt, w_mN, w_mSub, w_mT, w_mNil, w_mCons, w_gN, w_nN, f_plus, f_times, f_I, f_I0, f_B0, f_eq, f_ne, f_is, f_isNot, f_in, f_notIn, f_ix, f_len, f_list, f_tuple, f_sum, f_max, f_min, f_all, f_any, f_int, f_abs, f_sorted, f_min2, f_max2, rd_da, rd2_da, rds_nil, rds_cons, asB_bool, gt_z, gt_s, onLs_z, onLs_s, keepS_nw, keepS_loc, keepS_fr, keepS_di, keepS_fn, asgF_nw, asgF_loc, asgF_fr, asgF_ns, asgF_fn, itemF_nw, itemF_loc, itemF_fr, ownF_nw, retF_ns, rc_nw, rc_di, rc_ns, args_nil, args_da, args_st, args_sc, args_fn, len_da_l, len_da_t, len_ls, len_sc, ix_l, ix_t, seq_l, seq_t, seq_ls, imm_int, imm_bool, imm_str, imm_none, imm_list, imm_tuple, immAll_nil, immAll_cons, immAll_app, immAll_ints, turn_eq, keep_nw, keep_loc, keep_fr, keep_di, f_next, f_stream, f_cell, sup_nwl, sup_nwr, sup_self, nrm_int, nrm_bool, nrm_str, nrm_none, nrm_list, nrm_tuple, nrm_R, nrm_nw, nl_nw, nt_nw, nl_ints, nt_ints, mk_def, retF_nw, retF_loc, c_p14, c_p15, c_p18, c_p29, c_p30, c_p4, rd_lsI, retF_lsI, args_lsI, eqv_int, eqv_str, shp_int, mk_ints, mk_rows, nl_rows, nt_rows, relv_ints, relv_rows, relv_irg, keep_lsI, rd_lsR, oR_snoc, oR_set, nrm_putO, imm_putO, immAll_rows, own_rows', own_ints', wipeE, w_ownL, w_nTt, w_nCons, w_nNil, w_iRvA, w_seqV_l, w_seqV_t, w_revL, w_revT, w_lc2, w_chain, w_extend, w_popE, turn2_eq, w_frz, w_asgD, f_sum2, wi2_l, wi2_t, f_maxA, w_count, isL_l, intD_i, wi_l, w_iEn, enF_l, w_iZp, zpF_l, zpF_t, w_ret2, ret2_lsI, rd2_lsI, rd2_lsIr, w_iEnS, enFz_l, w_appO, w_appAt, w_callN, nsF_ns, List.set_cons_zero, List.set_cons_succ, ite_true, ite_false, Bool.false_eq_true, reduceIte, true_and, and_true, List.length_cons, List.length_nil, Nat.zero_add, List.map_nil, List.nil_append, List.length_map, Bool.true_and, Bool.and_true, Bool.false_and]
      have hlow := lowK_low n w ((lowI n w).length - (i + 1)) (by omega)
      have hll := lowK_len n w ((lowI n w).length - (i + 1))
      have hst : lowK n w ((lowI n w).length - (i + 1) + 1) = lowO n (lowK n w ((lowI n w).length - (i + 1))) := rfl
      generalize lowK n w ((lowI n w).length - (i + 1)) = u at *
      have h1 : lowI n u ≠ [] := fun z => by rw [z] at hlow; simp at hlow; omega
      rw [lowO, dif_neg h1] at hst
      obtain ⟨h2, e2⟩ := low_up h1
      rw [hst]
      unfold c_law_there_and_back_12
      simp only [w_var, w_int, w_str, w_bl, w_none, w_op, w_nil, w_cons, w_cb, w_B, w_T, w_tand, w_tor, w_tnot, w_tyes, w_and, w_or, w_not, w_if, w_neg, w_tup, w_lst, w_no, w_at, w_sl, w_isi, w_call, w_callX, w_callL, w_fn, w_lrg1, w_lrg2, w_lc, w_sq, w_rg1, w_rg2, w_rgD, w_asg, w_own, w_seq, w_next, w_break, w_cont, w_sif, w_expr, w_ret, w_retN, w_raise, w_for, w_while, w_app, w_tgt, w_mN, w_mSub, w_mT, w_mNil, w_mCons, w_gN, w_nN, f_plus, f_times, f_I, f_I0, f_B0, f_eq, f_ne, f_is, f_isNot, f_in, f_notIn, f_ix, f_len, f_list, f_tuple, f_sum, f_max, f_min, f_all, f_any, f_int, f_abs, f_sorted, f_min2, f_max2, rd_da, rd2_da, rds_nil, rds_cons, asB_bool, gt_z, gt_s, onLs_z, onLs_s, keepS_nw, keepS_loc, keepS_fr, keepS_di, keepS_fn, asgF_nw, asgF_loc, asgF_fr, asgF_ns, asgF_fn, itemF_nw, itemF_loc, itemF_fr, ownF_nw, retF_ns, rc_nw, rc_di, rc_ns, args_nil, args_da, args_st, args_sc, args_fn, len_da_l, len_da_t, len_ls, len_sc, ix_l, ix_t, seq_l, seq_t, seq_ls, imm_int, imm_bool, imm_str, imm_none, imm_list, imm_tuple, immAll_nil, immAll_cons, immAll_app, immAll_ints, turn_eq, keep_nw, keep_loc, keep_fr, keep_di, f_next, f_stream, f_cell, sup_nwl, sup_nwr, sup_self, nrm_int, nrm_bool, nrm_str, nrm_none, nrm_list, nrm_tuple, nrm_R, nrm_nw, nl_nw, nt_nw, nl_ints, nt_ints, mk_def, retF_nw, retF_loc, c_p14, c_p15, c_p18, c_p29, c_p30, c_p4, rd_lsI, retF_lsI, args_lsI, eqv_int, eqv_str, shp_int, mk_ints, mk_rows, nl_rows, nt_rows, relv_ints, relv_rows, relv_irg, keep_lsI, rd_lsR, oR_snoc, oR_set, nrm_putO, imm_putO, immAll_rows, own_rows', own_ints', wipeE, w_ownL, w_nTt, w_nCons, w_nNil, w_iRvA, w_seqV_l, w_seqV_t, w_revL, w_revT, w_lc2, w_chain, w_extend, w_popE, turn2_eq, w_frz, w_asgD, f_sum2, wi2_l, wi2_t, f_maxA, w_count, isL_l, intD_i, wi_l, w_iEn, enF_l, w_iZp, zpF_l, zpF_t, w_ret2, ret2_lsI, rd2_lsI, rd2_lsIr, w_iEnS, enFz_l, w_appO, w_appAt, w_callN, nsF_ns, List.set_cons_zero, List.set_cons_succ, ite_true, ite_false, Bool.false_eq_true, reduceIte, true_and, and_true, List.length_cons, List.length_nil, Nat.zero_add, List.map_nil, List.nil_append, List.length_map, Bool.true_and, Bool.and_true, Bool.false_and]
      refine p_raised T (by decide) (by rw [List.length_set]; omega) (fun h0 => absurd h0 h2) fun h3 => ?_
      rw [e2]
      simp only [w_var, w_int, w_str, w_bl, w_none, w_op, w_nil, w_cons, w_cb, w_B, w_T, w_tand, w_tor, w_tnot, w_tyes, w_and, w_or, w_not, w_if, w_neg, w_tup, w_lst, w_no, w_at, w_sl, w_isi, w_call, w_callX, w_callL, w_fn, w_lrg1, w_lrg2, w_lc, w_sq, w_rg1, w_rg2, w_rgD, w_asg, w_own, w_seq, w_next, w_break, w_cont, w_sif, w_expr, w_ret, w_retN, w_raise, w_for, w_while, w_app, w_tgt, w_mN, w_mSub, w_mT, w_mNil, w_mCons, w_gN, w_nN, f_plus, f_times, f_I, f_I0, f_B0, f_eq, f_ne, f_is, f_isNot, f_in, f_notIn, f_ix, f_len, f_list, f_tuple, f_sum, f_max, f_min, f_all, f_any, f_int, f_abs, f_sorted, f_min2, f_max2, rd_da, rd2_da, rds_nil, rds_cons, asB_bool, gt_z, gt_s, onLs_z, onLs_s, keepS_nw, keepS_loc, keepS_fr, keepS_di, keepS_fn, asgF_nw, asgF_loc, asgF_fr, asgF_ns, asgF_fn, itemF_nw, itemF_loc, itemF_fr, ownF_nw, retF_ns, rc_nw, rc_di, rc_ns, args_nil, args_da, args_st, args_sc, args_fn, len_da_l, len_da_t, len_ls, len_sc, ix_l, ix_t, seq_l, seq_t, seq_ls, imm_int, imm_bool, imm_str, imm_none, imm_list, imm_tuple, immAll_nil, immAll_cons, immAll_app, immAll_ints, turn_eq, keep_nw, keep_loc, keep_fr, keep_di, f_next, f_stream, f_cell, sup_nwl, sup_nwr, sup_self, nrm_int, nrm_bool, nrm_str, nrm_none, nrm_list, nrm_tuple, nrm_R, nrm_nw, nl_nw, nt_nw, nl_ints, nt_ints, mk_def, retF_nw, retF_loc, c_p14, c_p15, c_p18, c_p29, c_p30, c_p4, rd_lsI, retF_lsI, args_lsI, eqv_int, eqv_str, shp_int, mk_ints, mk_rows, nl_rows, nt_rows, relv_ints, relv_rows, relv_irg, keep_lsI, rd_lsR, oR_snoc, oR_set, nrm_putO, imm_putO, immAll_rows, own_rows', own_ints', wipeE, w_ownL, w_nTt, w_nCons, w_nNil, w_iRvA, w_seqV_l, w_seqV_t, w_revL, w_revT, w_lc2, w_chain, w_extend, w_popE, turn2_eq, w_frz, w_asgD, f_sum2, wi2_l, wi2_t, f_maxA, w_count, isL_l, intD_i, wi_l, w_iEn, enF_l, w_iZp, zpF_l, zpF_t, w_ret2, ret2_lsI, rd2_lsI, rd2_lsIr, w_iEnS, enFz_l, w_appO, w_appAt, w_callN, nsF_ns, List.set_cons_zero, List.set_cons_succ, ite_true, ite_false, Bool.false_eq_true, reduceIte, true_and, and_true, List.length_cons, List.length_nil, Nat.zero_add, List.map_nil, List.nil_append, List.length_map, Bool.true_and, Bool.and_true, Bool.false_and]
      unfold c_law_there_and_back_13
      simp only [w_var, w_int, w_str, w_bl, w_none, w_op, w_nil, w_cons, w_cb, w_B, w_T, w_tand, w_tor, w_tnot, w_tyes, w_and, w_or, w_not, w_if, w_neg, w_tup, w_lst, w_no, w_at, w_sl, w_isi, w_call, w_callX, w_callL, w_fn, w_lrg1, w_lrg2, w_lc, w_sq, w_rg1, w_rg2, w_rgD, w_asg, w_own, w_seq, w_next, w_break, w_cont, w_sif, w_expr, w_ret, w_retN, w_raise, w_for, w_while, w_app, w_tgt, w_mN, w_mSub, w_mT, w_mNil, w_mCons, w_gN, w_nN, f_plus, f_times, f_I, f_I0, f_B0, f_eq, f_ne, f_is, f_isNot, f_in, f_notIn, f_ix, f_len, f_list, f_tuple, f_sum, f_max, f_min, f_all, f_any, f_int, f_abs, f_sorted, f_min2, f_max2, rd_da, rd2_da, rds_nil, rds_cons, asB_bool, gt_z, gt_s, onLs_z, onLs_s, keepS_nw, keepS_loc, keepS_fr, keepS_di, keepS_fn, asgF_nw, asgF_loc, asgF_fr, asgF_ns, asgF_fn, itemF_nw, itemF_loc, itemF_fr, ownF_nw, retF_ns, rc_nw, rc_di, rc_ns, args_nil, args_da, args_st, args_sc, args_fn, len_da_l, len_da_t, len_ls, len_sc, ix_l, ix_t, seq_l, seq_t, seq_ls, imm_int, imm_bool, imm_str, imm_none, imm_list, imm_tuple, immAll_nil, immAll_cons, immAll_app, immAll_ints, turn_eq, keep_nw, keep_loc, keep_fr, keep_di, f_next, f_stream, f_cell, sup_nwl, sup_nwr, sup_self, nrm_int, nrm_bool, nrm_str, nrm_none, nrm_list, nrm_tuple, nrm_R, nrm_nw, nl_nw, nt_nw, nl_ints, nt_ints, mk_def, retF_nw, retF_loc, c_p14, c_p15, c_p18, c_p29, c_p30, c_p4, rd_lsI, retF_lsI, args_lsI, eqv_int, eqv_str, shp_int, mk_ints, mk_rows, nl_rows, nt_rows, relv_ints, relv_rows, relv_irg, keep_lsI, rd_lsR, oR_snoc, oR_set, nrm_putO, imm_putO, immAll_rows, own_rows', own_ints', wipeE, w_ownL, w_nTt, w_nCons, w_nNil, w_iRvA, w_seqV_l, w_seqV_t, w_revL, w_revT, w_lc2, w_chain, w_extend, w_popE, turn2_eq, w_frz, w_asgD, f_sum2, wi2_l, wi2_t, f_maxA, w_count, isL_l, intD_i, wi_l, w_iEn, enF_l, w_iZp, zpF_l, zpF_t, w_ret2, ret2_lsI, rd2_lsI, rd2_lsIr, w_iEnS, enFz_l, w_appO, w_appAt, w_callN, nsF_ns, List.set_cons_zero, List.set_cons_succ, ite_true, ite_false, Bool.false_eq_true, reduceIte, true_and, and_true, List.length_cons, List.length_nil, Nat.zero_add, List.map_nil, List.nil_append, List.length_map, Bool.true_and, Bool.and_true, Bool.false_and]
      exact hN _ ⟨_, _, rfl⟩
    · rintro env ⟨x4, x5, rfl⟩
      rw [irgO_len]
      have e : (lowI n w).length - ((lowI n w).length : Int).toNat = 0 := by omega
      rw [e]
      unfold c_law_there_and_back_15
      simp only [w_var, w_int, w_str, w_bl, w_none, w_op, w_nil, w_cons, w_cb, w_B, w_T, w_tand, w_tor, w_tnot, w_tyes, w_and, w_or, w_not, w_if, w_neg, w_tup, w_lst, w_no, w_at, w_sl, w_isi, w_call, w_callX, w_callL, w_fn, w_lrg1, w_lrg2, w_lc, w_sq, w_rg1, w_rg2, w_rgD, w_asg, w_own, w_seq, w_next, w_break, w_cont, w_sif, w_expr, w_ret, w_retN, w_raise, w_for, w_while, w_app, w_tgt, w_mN, w_mSub, w_mT, w_mNil, w_mCons, w_gN, w_nN, f_plus, f_times, f_I, f_I0, f_B0, f_eq, f_ne, f_is, f_isNot, f_in, f_notIn, f_ix, f_len, f_list, f_tuple, f_sum, f_max, f_min, f_all, f_any, f_int, f_abs, f_sorted, f_min2, f_max2, rd_da, rd2_da, rds_nil, rds_cons, asB_bool, gt_z, gt_s, onLs_z, onLs_s, keepS_nw, keepS_loc, keepS_fr, keepS_di, keepS_fn, asgF_nw, asgF_loc, asgF_fr, asgF_ns, asgF_fn, itemF_nw, itemF_loc, itemF_fr, ownF_nw, retF_ns, rc_nw, rc_di, rc_ns, args_nil, args_da, args_st, args_sc, args_fn, len_da_l, len_da_t, len_ls, len_sc, ix_l, ix_t, seq_l, seq_t, seq_ls, imm_int, imm_bool, imm_str, imm_none, imm_list, imm_tuple, immAll_nil, immAll_cons, immAll_app, immAll_ints, turn_eq, keep_nw, keep_loc, keep_fr, keep_di, f_next, f_stream, f_cell, sup_nwl, sup_nwr, sup_self, nrm_int, nrm_bool, nrm_str, nrm_none, nrm_list, nrm_tuple, nrm_R, nrm_nw, nl_nw, nt_nw, nl_ints, nt_ints, mk_def, retF_nw, retF_loc, c_p14, c_p15, c_p18, c_p29, c_p30, c_p4, rd_lsI, retF_lsI, args_lsI, eqv_int, eqv_str, shp_int, mk_ints, mk_rows, nl_rows, nt_rows, relv_ints, relv_rows, relv_irg, keep_lsI, rd_lsR, oR_snoc, oR_set, nrm_putO, imm_putO, immAll_rows, own_rows', own_ints', wipeE, w_ownL, w_nTt, w_nCons, w_nNil, w_iRvA, w_seqV_l, w_seqV_t, w_revL, w_revT, w_lc2, w_chain, w_extend, w_popE, turn2_eq, w_frz, w_asgD, f_sum2, wi2_l, wi2_t, f_maxA, w_count, isL_l, intD_i, wi_l, w_iEn, enF_l, w_iZp, zpF_l, zpF_t, w_ret2, ret2_lsI, rd2_lsI, rd2_lsIr, w_iEnS, enFz_l, w_appO, w_appAt, w_callN, nsF_ns, List.set_cons_zero, List.set_cons_succ, ite_true, ite_false, Bool.false_eq_true, reduceIte, true_and, and_true, List.length_cons, List.length_nil, Nat.zero_add, List.map_nil, List.nil_append, List.length_map, Bool.true_and, Bool.and_true, Bool.false_and]
      refine ⟨shp (pur_W _), shp (pur_W _), ?_⟩
      have : PyData.eqv (dW (lowK n w 0)) (dW w) = true := eqv_self (pur_W _)
      rw [this]
      exact h
def exN (n : Int) (w : List Int) : List Int := exW n w
theorem exN_len (n : Int) (w : List Int) : (exN n w).length = w.length := exW_len n w
theorem p_exc (T : Txt K mg) {l : Lv} (hl : l ≠ .di) {w : List Int} {n : Int} {R : OV → Prop} {X : Addr → Prop} (hz : w.length ≤ 1000) (h : R (.da .nw (dW (exN n w)))) : F_exchanged T [.da l (dW w), .da .nw (.int n)] R X := p_exchanged T hl hz h
theorem notin2 {a b c : Int} : ([PyData.int a, .int b]).any (fun z => PyData.eqv z (.int c)) = decide (a = c ∨ b = c) := by
  simp only [List.any_cons, List.any_nil, eqv_int, Bool.or_false, Bool.decide_or]
theorem law_true (T : Txt K mg) (ns : List Int) (hl : ns.length ≤ 63) : F_law T [.sc ns] (fun o => o = .da .nw (.bool true)) fun _ => False := by
  rw [u_law]
  unfold b_law c_law_1 c_law_2 c_law_3 c_law_4
  simp only [w_var, w_int, w_str, w_bl, w_none, w_op, w_nil, w_cons, w_cb, w_B, w_T, w_tand, w_tor, w_tnot, w_tyes, w_and, w_or, w_not, w_if, w_neg, w_tup, w_lst, w_no, w_at, w_sl, w_isi, w_call, w_callX, w_callL, w_fn, w_lrg1, w_lrg2, w_lc, w_sq, w_rg1, w_rg2, w_rgD, w_asg, w_own, w_seq, w_next, w_break, w_cont, w_sif, w_expr, w_ret, w_retN, w_raise, w_for, w_while, w_app, w_tgt, w_mN, w_mSub, w_mT, w_mNil, w_mCons, w_gN, w_nN, f_plus, f_times, f_I, f_I0, f_B0, f_eq, f_ne, f_is, f_isNot, f_in, f_notIn, f_ix, f_len, f_list, f_tuple, f_sum, f_max, f_min, f_all, f_any, f_int, f_abs, f_sorted, f_min2, f_max2, rd_da, rd2_da, rds_nil, rds_cons, asB_bool, gt_z, gt_s, onLs_z, onLs_s, keepS_nw, keepS_loc, keepS_fr, keepS_di, keepS_fn, asgF_nw, asgF_loc, asgF_fr, asgF_ns, asgF_fn, itemF_nw, itemF_loc, itemF_fr, ownF_nw, retF_ns, rc_nw, rc_di, rc_ns, args_nil, args_da, args_st, args_sc, args_fn, len_da_l, len_da_t, len_ls, len_sc, ix_l, ix_t, seq_l, seq_t, seq_ls, imm_int, imm_bool, imm_str, imm_none, imm_list, imm_tuple, immAll_nil, immAll_cons, immAll_app, immAll_ints, turn_eq, keep_nw, keep_loc, keep_fr, keep_di, f_next, f_stream, f_cell, sup_nwl, sup_nwr, sup_self, nrm_int, nrm_bool, nrm_str, nrm_none, nrm_list, nrm_tuple, nrm_R, nrm_nw, nl_nw, nt_nw, nl_ints, nt_ints, mk_def, retF_nw, retF_loc, c_p14, c_p15, c_p18, c_p29, c_p30, c_p4, rd_lsI, retF_lsI, args_lsI, eqv_int, eqv_str, shp_int, mk_ints, mk_rows, nl_rows, nt_rows, relv_ints, relv_rows, relv_irg, keep_lsI, rd_lsR, oR_snoc, oR_set, nrm_putO, imm_putO, immAll_rows, own_rows', own_ints', wipeE, w_ownL, w_nTt, w_nCons, w_nNil, w_iRvA, w_seqV_l, w_seqV_t, w_revL, w_revT, w_lc2, w_chain, w_extend, w_popE, turn2_eq, w_frz, w_asgD, f_sum2, wi2_l, wi2_t, f_maxA, w_count, isL_l, intD_i, wi_l, w_iEn, enF_l, w_iZp, zpF_l, zpF_t, w_ret2, ret2_lsI, rd2_lsI, rd2_lsIr, w_iEnS, enFz_l, w_appO, w_appAt, w_callN, nsF_ns, List.set_cons_zero, List.set_cons_succ, ite_true, ite_false, Bool.false_eq_true, reduceIte, true_and, and_true, List.length_cons, List.length_nil, Nat.zero_add, List.map_nil, List.nil_append, List.length_map, Bool.true_and, Bool.and_true, Bool.false_and]
  refine ⟨by decide, fun cell => ⟨by decide, by decide, fun d d0 d1 => ⟨by decide, by decide, fun s s0 s1 => ⟨by decide, by decide, fun c c0 c1 => ⟨⟨by omega, by omega⟩, by rw [irgO_len]; omega, lcW_ind (fun i l acc => l = .nw ∧ ∃ ws : List Int, acc = ws.map .int ∧ ws.length = i) ⟨rfl, [], rfl, rfl⟩ ?_ ?_⟩⟩⟩⟩⟩
  · rintro i o l' acc N1 N2 hi ⟨rfl, ws, rfl, hl⟩ h1 h2
    obtain ⟨hin, rfl⟩ := irg_at hi
    simp only [w_var, w_int, w_str, w_bl, w_none, w_op, w_nil, w_cons, w_cb, w_B, w_T, w_tand, w_tor, w_tnot, w_tyes, w_and, w_or, w_not, w_if, w_neg, w_tup, w_lst, w_no, w_at, w_sl, w_isi, w_call, w_callX, w_callL, w_fn, w_lrg1, w_lrg2, w_lc, w_sq, w_rg1, w_rg2, w_rgD, w_asg, w_own, w_seq, w_next, w_break, w_cont, w_sif, w_expr, w_ret, w_retN, w_raise, w_for, w_while, w_app, w_tgt, w_mN, w_mSub, w_mT, w_mNil, w_mCons, w_gN, w_nN, f_plus, f_times, f_I, f_I0, f_B0, f_eq, f_ne, f_is, f_isNot, f_in, f_notIn, f_ix, f_len, f_list, f_tuple, f_sum, f_max, f_min, f_all, f_any, f_int, f_abs, f_sorted, f_min2, f_max2, rd_da, rd2_da, rds_nil, rds_cons, asB_bool, gt_z, gt_s, onLs_z, onLs_s, keepS_nw, keepS_loc, keepS_fr, keepS_di, keepS_fn, asgF_nw, asgF_loc, asgF_fr, asgF_ns, asgF_fn, itemF_nw, itemF_loc, itemF_fr, ownF_nw, retF_ns, rc_nw, rc_di, rc_ns, args_nil, args_da, args_st, args_sc, args_fn, len_da_l, len_da_t, len_ls, len_sc, ix_l, ix_t, seq_l, seq_t, seq_ls, imm_int, imm_bool, imm_str, imm_none, imm_list, imm_tuple, immAll_nil, immAll_cons, immAll_app, immAll_ints, turn_eq, keep_nw, keep_loc, keep_fr, keep_di, f_next, f_stream, f_cell, sup_nwl, sup_nwr, sup_self, nrm_int, nrm_bool, nrm_str, nrm_none, nrm_list, nrm_tuple, nrm_R, nrm_nw, nl_nw, nt_nw, nl_ints, nt_ints, mk_def, retF_nw, retF_loc, c_p14, c_p15, c_p18, c_p29, c_p30, c_p4, rd_lsI, retF_lsI, args_lsI, eqv_int, eqv_str, shp_int, mk_ints, mk_rows, nl_rows, nt_rows, relv_ints, relv_rows, relv_irg, keep_lsI, rd_lsR, oR_snoc, oR_set, nrm_putO, imm_putO, immAll_rows, own_rows', own_ints', wipeE, w_ownL, w_nTt, w_nCons, w_nNil, w_iRvA, w_seqV_l, w_seqV_t, w_revL, w_revT, w_lc2, w_chain, w_extend, w_popE, turn2_eq, w_frz, w_asgD, f_sum2, wi2_l, wi2_t, f_maxA, w_count, isL_l, intD_i, wi_l, w_iEn, enF_l, w_iZp, zpF_l, zpF_t, w_ret2, ret2_lsI, rd2_lsI, rd2_lsIr, w_iEnS, enFz_l, w_appO, w_appAt, w_callN, nsF_ns, List.set_cons_zero, List.set_cons_succ, ite_true, ite_false, Bool.false_eq_true, reduceIte, true_and, and_true, List.length_cons, List.length_nil, Nat.zero_add, List.map_nil, List.nil_append, List.length_map, Bool.true_and, Bool.and_true, Bool.false_and]
    exact ⟨by omega, by omega, fun e e0 e1 => ⟨by decide, h1 _ _ ⟨rfl, ws ++ [d - 3 + e], map_app1 ws (d - 3 + e), by simp [hl]⟩⟩⟩
  rintro l' acc ⟨rfl, w, rfl, hwl⟩
  rw [irgO_len] at hwl
  have hz : w.length ≤ 15 := by omega
  clear hwl
  simp only [w_var, w_int, w_str, w_bl, w_none, w_op, w_nil, w_cons, w_cb, w_B, w_T, w_tand, w_tor, w_tnot, w_tyes, w_and, w_or, w_not, w_if, w_neg, w_tup, w_lst, w_no, w_at, w_sl, w_isi, w_call, w_callX, w_callL, w_fn, w_lrg1, w_lrg2, w_lc, w_sq, w_rg1, w_rg2, w_rgD, w_asg, w_own, w_seq, w_next, w_break, w_cont, w_sif, w_expr, w_ret, w_retN, w_raise, w_for, w_while, w_app, w_tgt, w_mN, w_mSub, w_mT, w_mNil, w_mCons, w_gN, w_nN, f_plus, f_times, f_I, f_I0, f_B0, f_eq, f_ne, f_is, f_isNot, f_in, f_notIn, f_ix, f_len, f_list, f_tuple, f_sum, f_max, f_min, f_all, f_any, f_int, f_abs, f_sorted, f_min2, f_max2, rd_da, rd2_da, rds_nil, rds_cons, asB_bool, gt_z, gt_s, onLs_z, onLs_s, keepS_nw, keepS_loc, keepS_fr, keepS_di, keepS_fn, asgF_nw, asgF_loc, asgF_fr, asgF_ns, asgF_fn, itemF_nw, itemF_loc, itemF_fr, ownF_nw, retF_ns, rc_nw, rc_di, rc_ns, args_nil, args_da, args_st, args_sc, args_fn, len_da_l, len_da_t, len_ls, len_sc, ix_l, ix_t, seq_l, seq_t, seq_ls, imm_int, imm_bool, imm_str, imm_none, imm_list, imm_tuple, immAll_nil, immAll_cons, immAll_app, immAll_ints, turn_eq, keep_nw, keep_loc, keep_fr, keep_di, f_next, f_stream, f_cell, sup_nwl, sup_nwr, sup_self, nrm_int, nrm_bool, nrm_str, nrm_none, nrm_list, nrm_tuple, nrm_R, nrm_nw, nl_nw, nt_nw, nl_ints, nt_ints, mk_def, retF_nw, retF_loc, c_p14, c_p15, c_p18, c_p29, c_p30, c_p4, rd_lsI, retF_lsI, args_lsI, eqv_int, eqv_str, shp_int, mk_ints, mk_rows, nl_rows, nt_rows, relv_ints, relv_rows, relv_irg, keep_lsI, rd_lsR, oR_snoc, oR_set, nrm_putO, imm_putO, immAll_rows, own_rows', own_ints', wipeE, w_ownL, w_nTt, w_nCons, w_nNil, w_iRvA, w_seqV_l, w_seqV_t, w_revL, w_revT, w_lc2, w_chain, w_extend, w_popE, turn2_eq, w_frz, w_asgD, f_sum2, wi2_l, wi2_t, f_maxA, w_count, isL_l, intD_i, wi_l, w_iEn, enF_l, w_iZp, zpF_l, zpF_t, w_ret2, ret2_lsI, rd2_lsI, rd2_lsIr, w_iEnS, enFz_l, w_appO, w_appAt, w_callN, nsF_ns, List.set_cons_zero, List.set_cons_succ, ite_true, ite_false, Bool.false_eq_true, reduceIte, true_and, and_true, List.length_cons, List.length_nil, Nat.zero_add, List.map_nil, List.nil_append, List.length_map, Bool.true_and, Bool.and_true, Bool.false_and, nl_ints]
  unfold c_law_5
  simp only [w_var, w_int, w_str, w_bl, w_none, w_op, w_nil, w_cons, w_cb, w_B, w_T, w_tand, w_tor, w_tnot, w_tyes, w_and, w_or, w_not, w_if, w_neg, w_tup, w_lst, w_no, w_at, w_sl, w_isi, w_call, w_callX, w_callL, w_fn, w_lrg1, w_lrg2, w_lc, w_sq, w_rg1, w_rg2, w_rgD, w_asg, w_own, w_seq, w_next, w_break, w_cont, w_sif, w_expr, w_ret, w_retN, w_raise, w_for, w_while, w_app, w_tgt, w_mN, w_mSub, w_mT, w_mNil, w_mCons, w_gN, w_nN, f_plus, f_times, f_I, f_I0, f_B0, f_eq, f_ne, f_is, f_isNot, f_in, f_notIn, f_ix, f_len, f_list, f_tuple, f_sum, f_max, f_min, f_all, f_any, f_int, f_abs, f_sorted, f_min2, f_max2, rd_da, rd2_da, rds_nil, rds_cons, asB_bool, gt_z, gt_s, onLs_z, onLs_s, keepS_nw, keepS_loc, keepS_fr, keepS_di, keepS_fn, asgF_nw, asgF_loc, asgF_fr, asgF_ns, asgF_fn, itemF_nw, itemF_loc, itemF_fr, ownF_nw, retF_ns, rc_nw, rc_di, rc_ns, args_nil, args_da, args_st, args_sc, args_fn, len_da_l, len_da_t, len_ls, len_sc, ix_l, ix_t, seq_l, seq_t, seq_ls, imm_int, imm_bool, imm_str, imm_none, imm_list, imm_tuple, immAll_nil, immAll_cons, immAll_app, immAll_ints, turn_eq, keep_nw, keep_loc, keep_fr, keep_di, f_next, f_stream, f_cell, sup_nwl, sup_nwr, sup_self, nrm_int, nrm_bool, nrm_str, nrm_none, nrm_list, nrm_tuple, nrm_R, nrm_nw, nl_nw, nt_nw, nl_ints, nt_ints, mk_def, retF_nw, retF_loc, c_p14, c_p15, c_p18, c_p29, c_p30, c_p4, rd_lsI, retF_lsI, args_lsI, eqv_int, eqv_str, shp_int, mk_ints, mk_rows, nl_rows, nt_rows, relv_ints, relv_rows, relv_irg, keep_lsI, rd_lsR, oR_snoc, oR_set, nrm_putO, imm_putO, immAll_rows, own_rows', own_ints', wipeE, w_ownL, w_nTt, w_nCons, w_nNil, w_iRvA, w_seqV_l, w_seqV_t, w_revL, w_revT, w_lc2, w_chain, w_extend, w_popE, turn2_eq, w_frz, w_asgD, f_sum2, wi2_l, wi2_t, f_maxA, w_count, isL_l, intD_i, wi_l, w_iEn, enF_l, w_iZp, zpF_l, zpF_t, w_ret2, ret2_lsI, rd2_lsI, rd2_lsIr, w_iEnS, enFz_l, w_appO, w_appAt, w_callN, nsF_ns, List.set_cons_zero, List.set_cons_succ, ite_true, ite_false, Bool.false_eq_true, reduceIte, true_and, and_true, List.length_cons, List.length_nil, Nat.zero_add, List.map_nil, List.nil_append, List.length_map, Bool.true_and, Bool.and_true, Bool.false_and]
  refine p_exc T (by decide) (by omega) ?_
  simp only [w_var, w_int, w_str, w_bl, w_none, w_op, w_nil, w_cons, w_cb, w_B, w_T, w_tand, w_tor, w_tnot, w_tyes, w_and, w_or, w_not, w_if, w_neg, w_tup, w_lst, w_no, w_at, w_sl, w_isi, w_call, w_callX, w_callL, w_fn, w_lrg1, w_lrg2, w_lc, w_sq, w_rg1, w_rg2, w_rgD, w_asg, w_own, w_seq, w_next, w_break, w_cont, w_sif, w_expr, w_ret, w_retN, w_raise, w_for, w_while, w_app, w_tgt, w_mN, w_mSub, w_mT, w_mNil, w_mCons, w_gN, w_nN, f_plus, f_times, f_I, f_I0, f_B0, f_eq, f_ne, f_is, f_isNot, f_in, f_notIn, f_ix, f_len, f_list, f_tuple, f_sum, f_max, f_min, f_all, f_any, f_int, f_abs, f_sorted, f_min2, f_max2, rd_da, rd2_da, rds_nil, rds_cons, asB_bool, gt_z, gt_s, onLs_z, onLs_s, keepS_nw, keepS_loc, keepS_fr, keepS_di, keepS_fn, asgF_nw, asgF_loc, asgF_fr, asgF_ns, asgF_fn, itemF_nw, itemF_loc, itemF_fr, ownF_nw, retF_ns, rc_nw, rc_di, rc_ns, args_nil, args_da, args_st, args_sc, args_fn, len_da_l, len_da_t, len_ls, len_sc, ix_l, ix_t, seq_l, seq_t, seq_ls, imm_int, imm_bool, imm_str, imm_none, imm_list, imm_tuple, immAll_nil, immAll_cons, immAll_app, immAll_ints, turn_eq, keep_nw, keep_loc, keep_fr, keep_di, f_next, f_stream, f_cell, sup_nwl, sup_nwr, sup_self, nrm_int, nrm_bool, nrm_str, nrm_none, nrm_list, nrm_tuple, nrm_R, nrm_nw, nl_nw, nt_nw, nl_ints, nt_ints, mk_def, retF_nw, retF_loc, c_p14, c_p15, c_p18, c_p29, c_p30, c_p4, rd_lsI, retF_lsI, args_lsI, eqv_int, eqv_str, shp_int, mk_ints, mk_rows, nl_rows, nt_rows, relv_ints, relv_rows, relv_irg, keep_lsI, rd_lsR, oR_snoc, oR_set, nrm_putO, imm_putO, immAll_rows, own_rows', own_ints', wipeE, w_ownL, w_nTt, w_nCons, w_nNil, w_iRvA, w_seqV_l, w_seqV_t, w_revL, w_revT, w_lc2, w_chain, w_extend, w_popE, turn2_eq, w_frz, w_asgD, f_sum2, wi2_l, wi2_t, f_maxA, w_count, isL_l, intD_i, wi_l, w_iEn, enF_l, w_iZp, zpF_l, zpF_t, w_ret2, ret2_lsI, rd2_lsI, rd2_lsIr, w_iEnS, enFz_l, w_appO, w_appAt, w_callN, nsF_ns, List.set_cons_zero, List.set_cons_succ, ite_true, ite_false, Bool.false_eq_true, reduceIte, true_and, and_true, List.length_cons, List.length_nil, Nat.zero_add, List.map_nil, List.nil_append, List.length_map, Bool.true_and, Bool.and_true, Bool.false_and]
  refine p_exc T (by decide) (by rw [exN_len]; omega) ?_
  simp only [w_var, w_int, w_str, w_bl, w_none, w_op, w_nil, w_cons, w_cb, w_B, w_T, w_tand, w_tor, w_tnot, w_tyes, w_and, w_or, w_not, w_if, w_neg, w_tup, w_lst, w_no, w_at, w_sl, w_isi, w_call, w_callX, w_callL, w_fn, w_lrg1, w_lrg2, w_lc, w_sq, w_rg1, w_rg2, w_rgD, w_asg, w_own, w_seq, w_next, w_break, w_cont, w_sif, w_expr, w_ret, w_retN, w_raise, w_for, w_while, w_app, w_tgt, w_mN, w_mSub, w_mT, w_mNil, w_mCons, w_gN, w_nN, f_plus, f_times, f_I, f_I0, f_B0, f_eq, f_ne, f_is, f_isNot, f_in, f_notIn, f_ix, f_len, f_list, f_tuple, f_sum, f_max, f_min, f_all, f_any, f_int, f_abs, f_sorted, f_min2, f_max2, rd_da, rd2_da, rds_nil, rds_cons, asB_bool, gt_z, gt_s, onLs_z, onLs_s, keepS_nw, keepS_loc, keepS_fr, keepS_di, keepS_fn, asgF_nw, asgF_loc, asgF_fr, asgF_ns, asgF_fn, itemF_nw, itemF_loc, itemF_fr, ownF_nw, retF_ns, rc_nw, rc_di, rc_ns, args_nil, args_da, args_st, args_sc, args_fn, len_da_l, len_da_t, len_ls, len_sc, ix_l, ix_t, seq_l, seq_t, seq_ls, imm_int, imm_bool, imm_str, imm_none, imm_list, imm_tuple, immAll_nil, immAll_cons, immAll_app, immAll_ints, turn_eq, keep_nw, keep_loc, keep_fr, keep_di, f_next, f_stream, f_cell, sup_nwl, sup_nwr, sup_self, nrm_int, nrm_bool, nrm_str, nrm_none, nrm_list, nrm_tuple, nrm_R, nrm_nw, nl_nw, nt_nw, nl_ints, nt_ints, mk_def, retF_nw, retF_loc, c_p14, c_p15, c_p18, c_p29, c_p30, c_p4, rd_lsI, retF_lsI, args_lsI, eqv_int, eqv_str, shp_int, mk_ints, mk_rows, nl_rows, nt_rows, relv_ints, relv_rows, relv_irg, keep_lsI, rd_lsR, oR_snoc, oR_set, nrm_putO, imm_putO, immAll_rows, own_rows', own_ints', wipeE, w_ownL, w_nTt, w_nCons, w_nNil, w_iRvA, w_seqV_l, w_seqV_t, w_revL, w_revT, w_lc2, w_chain, w_extend, w_popE, turn2_eq, w_frz, w_asgD, f_sum2, wi2_l, wi2_t, f_maxA, w_count, isL_l, intD_i, wi_l, w_iEn, enF_l, w_iZp, zpF_l, zpF_t, w_ret2, ret2_lsI, rd2_lsI, rd2_lsIr, w_iEnS, enFz_l, w_appO, w_appAt, w_callN, nsF_ns, List.set_cons_zero, List.set_cons_succ, ite_true, ite_false, Bool.false_eq_true, reduceIte, true_and, and_true, List.length_cons, List.length_nil, Nat.zero_add, List.map_nil, List.nil_append, List.length_map, Bool.true_and, Bool.and_true, Bool.false_and]
  refine p_exc T (by decide) (by omega) ?_
  simp only [w_var, w_int, w_str, w_bl, w_none, w_op, w_nil, w_cons, w_cb, w_B, w_T, w_tand, w_tor, w_tnot, w_tyes, w_and, w_or, w_not, w_if, w_neg, w_tup, w_lst, w_no, w_at, w_sl, w_isi, w_call, w_callX, w_callL, w_fn, w_lrg1, w_lrg2, w_lc, w_sq, w_rg1, w_rg2, w_rgD, w_asg, w_own, w_seq, w_next, w_break, w_cont, w_sif, w_expr, w_ret, w_retN, w_raise, w_for, w_while, w_app, w_tgt, w_mN, w_mSub, w_mT, w_mNil, w_mCons, w_gN, w_nN, f_plus, f_times, f_I, f_I0, f_B0, f_eq, f_ne, f_is, f_isNot, f_in, f_notIn, f_ix, f_len, f_list, f_tuple, f_sum, f_max, f_min, f_all, f_any, f_int, f_abs, f_sorted, f_min2, f_max2, rd_da, rd2_da, rds_nil, rds_cons, asB_bool, gt_z, gt_s, onLs_z, onLs_s, keepS_nw, keepS_loc, keepS_fr, keepS_di, keepS_fn, asgF_nw, asgF_loc, asgF_fr, asgF_ns, asgF_fn, itemF_nw, itemF_loc, itemF_fr, ownF_nw, retF_ns, rc_nw, rc_di, rc_ns, args_nil, args_da, args_st, args_sc, args_fn, len_da_l, len_da_t, len_ls, len_sc, ix_l, ix_t, seq_l, seq_t, seq_ls, imm_int, imm_bool, imm_str, imm_none, imm_list, imm_tuple, immAll_nil, immAll_cons, immAll_app, immAll_ints, turn_eq, keep_nw, keep_loc, keep_fr, keep_di, f_next, f_stream, f_cell, sup_nwl, sup_nwr, sup_self, nrm_int, nrm_bool, nrm_str, nrm_none, nrm_list, nrm_tuple, nrm_R, nrm_nw, nl_nw, nt_nw, nl_ints, nt_ints, mk_def, retF_nw, retF_loc, c_p14, c_p15, c_p18, c_p29, c_p30, c_p4, rd_lsI, retF_lsI, args_lsI, eqv_int, eqv_str, shp_int, mk_ints, mk_rows, nl_rows, nt_rows, relv_ints, relv_rows, relv_irg, keep_lsI, rd_lsR, oR_snoc, oR_set, nrm_putO, imm_putO, immAll_rows, own_rows', own_ints', wipeE, w_ownL, w_nTt, w_nCons, w_nNil, w_iRvA, w_seqV_l, w_seqV_t, w_revL, w_revT, w_lc2, w_chain, w_extend, w_popE, turn2_eq, w_frz, w_asgD, f_sum2, wi2_l, wi2_t, f_maxA, w_count, isL_l, intD_i, wi_l, w_iEn, enF_l, w_iZp, zpF_l, zpF_t, w_ret2, ret2_lsI, rd2_lsI, rd2_lsIr, w_iEnS, enFz_l, w_appO, w_appAt, w_callN, nsF_ns, List.set_cons_zero, List.set_cons_succ, ite_true, ite_false, Bool.false_eq_true, reduceIte, true_and, and_true, List.length_cons, List.length_nil, Nat.zero_add, List.map_nil, List.nil_append, List.length_map, Bool.true_and, Bool.and_true, Bool.false_and]
  refine p_exc T (by decide) (by rw [exN_len]; omega) ?_
  simp only [w_var, w_int, w_str, w_bl, w_none, w_op, w_nil, w_cons, w_cb, w_B, w_T, w_tand, w_tor, w_tnot, w_tyes, w_and, w_or, w_not, w_if, w_neg, w_tup, w_lst, w_no, w_at, w_sl, w_isi, w_call, w_callX, w_callL, w_fn, w_lrg1, w_lrg2, w_lc, w_sq, w_rg1, w_rg2, w_rgD, w_asg, w_own, w_seq, w_next, w_break, w_cont, w_sif, w_expr, w_ret, w_retN, w_raise, w_for, w_while, w_app, w_tgt, w_mN, w_mSub, w_mT, w_mNil, w_mCons, w_gN, w_nN, f_plus, f_times, f_I, f_I0, f_B0, f_eq, f_ne, f_is, f_isNot, f_in, f_notIn, f_ix, f_len, f_list, f_tuple, f_sum, f_max, f_min, f_all, f_any, f_int, f_abs, f_sorted, f_min2, f_max2, rd_da, rd2_da, rds_nil, rds_cons, asB_bool, gt_z, gt_s, onLs_z, onLs_s, keepS_nw, keepS_loc, keepS_fr, keepS_di, keepS_fn, asgF_nw, asgF_loc, asgF_fr, asgF_ns, asgF_fn, itemF_nw, itemF_loc, itemF_fr, ownF_nw, retF_ns, rc_nw, rc_di, rc_ns, args_nil, args_da, args_st, args_sc, args_fn, len_da_l, len_da_t, len_ls, len_sc, ix_l, ix_t, seq_l, seq_t, seq_ls, imm_int, imm_bool, imm_str, imm_none, imm_list, imm_tuple, immAll_nil, immAll_cons, immAll_app, immAll_ints, turn_eq, keep_nw, keep_loc, keep_fr, keep_di, f_next, f_stream, f_cell, sup_nwl, sup_nwr, sup_self, nrm_int, nrm_bool, nrm_str, nrm_none, nrm_list, nrm_tuple, nrm_R, nrm_nw, nl_nw, nt_nw, nl_ints, nt_ints, mk_def, retF_nw, retF_loc, c_p14, c_p15, c_p18, c_p29, c_p30, c_p4, rd_lsI, retF_lsI, args_lsI, eqv_int, eqv_str, shp_int, mk_ints, mk_rows, nl_rows, nt_rows, relv_ints, relv_rows, relv_irg, keep_lsI, rd_lsR, oR_snoc, oR_set, nrm_putO, imm_putO, immAll_rows, own_rows', own_ints', wipeE, w_ownL, w_nTt, w_nCons, w_nNil, w_iRvA, w_seqV_l, w_seqV_t, w_revL, w_revT, w_lc2, w_chain, w_extend, w_popE, turn2_eq, w_frz, w_asgD, f_sum2, wi2_l, wi2_t, f_maxA, w_count, isL_l, intD_i, wi_l, w_iEn, enF_l, w_iZp, zpF_l, zpF_t, w_ret2, ret2_lsI, rd2_lsI, rd2_lsIr, w_iEnS, enFz_l, w_appO, w_appAt, w_callN, nsF_ns, List.set_cons_zero, List.set_cons_succ, ite_true, ite_false, Bool.false_eq_true, reduceIte, true_and, and_true, List.length_cons, List.length_nil, Nat.zero_add, List.map_nil, List.nil_append, List.length_map, Bool.true_and, Bool.and_true, Bool.false_and]
  refine ⟨shp (pur_W _), shp (pur_W _), ?_⟩
  have e5 : exN (d - 3 + 2) (exN (d - 3) w) = exN (d - 3) (exN (d - 3 + 2) w) := (ex_comm rfl w).symm
  rw [e5, eqv_self (pur_W _)]
  refine ifF rfl ?_
  unfold c_law_7
  simp only [w_var, w_int, w_str, w_bl, w_none, w_op, w_nil, w_cons, w_cb, w_B, w_T, w_tand, w_tor, w_tnot, w_tyes, w_and, w_or, w_not, w_if, w_neg, w_tup, w_lst, w_no, w_at, w_sl, w_isi, w_call, w_callX, w_callL, w_fn, w_lrg1, w_lrg2, w_lc, w_sq, w_rg1, w_rg2, w_rgD, w_asg, w_own, w_seq, w_next, w_break, w_cont, w_sif, w_expr, w_ret, w_retN, w_raise, w_for, w_while, w_app, w_tgt, w_mN, w_mSub, w_mT, w_mNil, w_mCons, w_gN, w_nN, f_plus, f_times, f_I, f_I0, f_B0, f_eq, f_ne, f_is, f_isNot, f_in, f_notIn, f_ix, f_len, f_list, f_tuple, f_sum, f_max, f_min, f_all, f_any, f_int, f_abs, f_sorted, f_min2, f_max2, rd_da, rd2_da, rds_nil, rds_cons, asB_bool, gt_z, gt_s, onLs_z, onLs_s, keepS_nw, keepS_loc, keepS_fr, keepS_di, keepS_fn, asgF_nw, asgF_loc, asgF_fr, asgF_ns, asgF_fn, itemF_nw, itemF_loc, itemF_fr, ownF_nw, retF_ns, rc_nw, rc_di, rc_ns, args_nil, args_da, args_st, args_sc, args_fn, len_da_l, len_da_t, len_ls, len_sc, ix_l, ix_t, seq_l, seq_t, seq_ls, imm_int, imm_bool, imm_str, imm_none, imm_list, imm_tuple, immAll_nil, immAll_cons, immAll_app, immAll_ints, turn_eq, keep_nw, keep_loc, keep_fr, keep_di, f_next, f_stream, f_cell, sup_nwl, sup_nwr, sup_self, nrm_int, nrm_bool, nrm_str, nrm_none, nrm_list, nrm_tuple, nrm_R, nrm_nw, nl_nw, nt_nw, nl_ints, nt_ints, mk_def, retF_nw, retF_loc, c_p14, c_p15, c_p18, c_p29, c_p30, c_p4, rd_lsI, retF_lsI, args_lsI, eqv_int, eqv_str, shp_int, mk_ints, mk_rows, nl_rows, nt_rows, relv_ints, relv_rows, relv_irg, keep_lsI, rd_lsR, oR_snoc, oR_set, nrm_putO, imm_putO, immAll_rows, own_rows', own_ints', wipeE, w_ownL, w_nTt, w_nCons, w_nNil, w_iRvA, w_seqV_l, w_seqV_t, w_revL, w_revT, w_lc2, w_chain, w_extend, w_popE, turn2_eq, w_frz, w_asgD, f_sum2, wi2_l, wi2_t, f_maxA, w_count, isL_l, intD_i, wi_l, w_iEn, enF_l, w_iZp, zpF_l, zpF_t, w_ret2, ret2_lsI, rd2_lsI, rd2_lsIr, w_iEnS, enFz_l, w_appO, w_appAt, w_callN, nsF_ns, List.set_cons_zero, List.set_cons_succ, ite_true, ite_false, Bool.false_eq_true, reduceIte, true_and, and_true, List.length_cons, List.length_nil, Nat.zero_add, List.map_nil, List.nil_append, List.length_map, Bool.true_and, Bool.and_true, Bool.false_and]
  refine ⟨⟨by omega, by omega, by omega, by omega⟩, forW_ind (fun i env => ∃ x5 x6 x7, env = [some (OV.sc ns), some OV.st, some (OV.da Lv.nw (PyData.int (d - 3))), some (OV.da Lv.nw (PyData.int (3 + s))), some (OV.da Lv.loc (PyData.list (List.map PyData.int w))), x5, x6, x7]) ⟨none, none, none, rfl⟩ ?_ ?_⟩
  · rintro i o env N hi ⟨x5, x6, x7, rfl⟩ hN
    obtain ⟨hin, rfl⟩ := irg_at hi
    generalize d - 3 - 1 + (i : Int) * 1 = n at *
    simp only [w_var, w_int, w_str, w_bl, w_none, w_op, w_nil, w_cons, w_cb, w_B, w_T, w_tand, w_tor, w_tnot, w_tyes, w_and, w_or, w_not, w_if, w_neg, w_tup, w_lst, w_no, w_at, w_sl, w_isi, w_call, w_callX, w_callL, w_fn, w_lrg1, w_lrg2, w_lc, w_sq, w_rg1, w_rg2, w_rgD, w_asg, w_own, w_seq, w_next, w_break, w_cont, w_sif, w_expr, w_ret, w_retN, w_raise, w_for, w_while, w_app, w_tgt, w_mN, w_mSub, w_mT, w_mNil, w_mCons, w_gN, w_nN, f_plus, f_times, f_I, f_I0, f_B0, f_eq, f_ne, f_is, f_isNot, f_in, f_notIn, f_ix, f_len, f_list, f_tuple, f_sum, f_max, f_min, f_all, f_any, f_int, f_abs, f_sorted, f_min2, f_max2, rd_da, rd2_da, rds_nil, rds_cons, asB_bool, gt_z, gt_s, onLs_z, onLs_s, keepS_nw, keepS_loc, keepS_fr, keepS_di, keepS_fn, asgF_nw, asgF_loc, asgF_fr, asgF_ns, asgF_fn, itemF_nw, itemF_loc, itemF_fr, ownF_nw, retF_ns, rc_nw, rc_di, rc_ns, args_nil, args_da, args_st, args_sc, args_fn, len_da_l, len_da_t, len_ls, len_sc, ix_l, ix_t, seq_l, seq_t, seq_ls, imm_int, imm_bool, imm_str, imm_none, imm_list, imm_tuple, immAll_nil, immAll_cons, immAll_app, immAll_ints, turn_eq, keep_nw, keep_loc, keep_fr, keep_di, f_next, f_stream, f_cell, sup_nwl, sup_nwr, sup_self, nrm_int, nrm_bool, nrm_str, nrm_none, nrm_list, nrm_tuple, nrm_R, nrm_nw, nl_nw, nt_nw, nl_ints, nt_ints, mk_def, retF_nw, retF_loc, c_p14, c_p15, c_p18, c_p29, c_p30, c_p4, rd_lsI, retF_lsI, args_lsI, eqv_int, eqv_str, shp_int, mk_ints, mk_rows, nl_rows, nt_rows, relv_ints, relv_rows, relv_irg, keep_lsI, rd_lsR, oR_snoc, oR_set, nrm_putO, imm_putO, immAll_rows, own_rows', own_ints', wipeE, w_ownL, w_nTt, w_nCons, w_nNil, w_iRvA, w_seqV_l, w_seqV_t, w_revL, w_revT, w_lc2, w_chain, w_extend, w_popE, turn2_eq, w_frz, w_asgD, f_sum2, wi2_l, wi2_t, f_maxA, w_count, isL_l, intD_i, wi_l, w_iEn, enF_l, w_iZp, zpF_l, zpF_t, w_ret2, ret2_lsI, rd2_lsI, rd2_lsIr, w_iEnS, enFz_l, w_appO, w_appAt, w_callN, nsF_ns, List.set_cons_zero, List.set_cons_succ, ite_true, ite_false, Bool.false_eq_true, reduceIte, true_and, and_true, List.length_cons, List.length_nil, Nat.zero_add, List.map_nil, List.nil_append, List.length_map, Bool.true_and, Bool.and_true, Bool.false_and]
    unfold c_law_8
    simp only [w_var, w_int, w_str, w_bl, w_none, w_op, w_nil, w_cons, w_cb, w_B, w_T, w_tand, w_tor, w_tnot, w_tyes, w_and, w_or, w_not, w_if, w_neg, w_tup, w_lst, w_no, w_at, w_sl, w_isi, w_call, w_callX, w_callL, w_fn, w_lrg1, w_lrg2, w_lc, w_sq, w_rg1, w_rg2, w_rgD, w_asg, w_own, w_seq, w_next, w_break, w_cont, w_sif, w_expr, w_ret, w_retN, w_raise, w_for, w_while, w_app, w_tgt, w_mN, w_mSub, w_mT, w_mNil, w_mCons, w_gN, w_nN, f_plus, f_times, f_I, f_I0, f_B0, f_eq, f_ne, f_is, f_isNot, f_in, f_notIn, f_ix, f_len, f_list, f_tuple, f_sum, f_max, f_min, f_all, f_any, f_int, f_abs, f_sorted, f_min2, f_max2, rd_da, rd2_da, rds_nil, rds_cons, asB_bool, gt_z, gt_s, onLs_z, onLs_s, keepS_nw, keepS_loc, keepS_fr, keepS_di, keepS_fn, asgF_nw, asgF_loc, asgF_fr, asgF_ns, asgF_fn, itemF_nw, itemF_loc, itemF_fr, ownF_nw, retF_ns, rc_nw, rc_di, rc_ns, args_nil, args_da, args_st, args_sc, args_fn, len_da_l, len_da_t, len_ls, len_sc, ix_l, ix_t, seq_l, seq_t, seq_ls, imm_int, imm_bool, imm_str, imm_none, imm_list, imm_tuple, immAll_nil, immAll_cons, immAll_app, immAll_ints, turn_eq, keep_nw, keep_loc, keep_fr, keep_di, f_next, f_stream, f_cell, sup_nwl, sup_nwr, sup_self, nrm_int, nrm_bool, nrm_str, nrm_none, nrm_list, nrm_tuple, nrm_R, nrm_nw, nl_nw, nt_nw, nl_ints, nt_ints, mk_def, retF_nw, retF_loc, c_p14, c_p15, c_p18, c_p29, c_p30, c_p4, rd_lsI, retF_lsI, args_lsI, eqv_int, eqv_str, shp_int, mk_ints, mk_rows, nl_rows, nt_rows, relv_ints, relv_rows, relv_irg, keep_lsI, rd_lsR, oR_snoc, oR_set, nrm_putO, imm_putO, immAll_rows, own_rows', own_ints', wipeE, w_ownL, w_nTt, w_nCons, w_nNil, w_iRvA, w_seqV_l, w_seqV_t, w_revL, w_revT, w_lc2, w_chain, w_extend, w_popE, turn2_eq, w_frz, w_asgD, f_sum2, wi2_l, wi2_t, f_maxA, w_count, isL_l, intD_i, wi_l, w_iEn, enF_l, w_iZp, zpF_l, zpF_t, w_ret2, ret2_lsI, rd2_lsI, rd2_lsIr, w_iEnS, enFz_l, w_appO, w_appAt, w_callN, nsF_ns, List.set_cons_zero, List.set_cons_succ, ite_true, ite_false, Bool.false_eq_true, reduceIte, true_and, and_true, List.length_cons, List.length_nil, Nat.zero_add, List.map_nil, List.nil_append, List.length_map, Bool.true_and, Bool.and_true, Bool.false_and]
    refine p_exc T (by decide) (by omega) ?_
    simp only [w_var, w_int, w_str, w_bl, w_none, w_op, w_nil, w_cons, w_cb, w_B, w_T, w_tand, w_tor, w_tnot, w_tyes, w_and, w_or, w_not, w_if, w_neg, w_tup, w_lst, w_no, w_at, w_sl, w_isi, w_call, w_callX, w_callL, w_fn, w_lrg1, w_lrg2, w_lc, w_sq, w_rg1, w_rg2, w_rgD, w_asg, w_own, w_seq, w_next, w_break, w_cont, w_sif, w_expr, w_ret, w_retN, w_raise, w_for, w_while, w_app, w_tgt, w_mN, w_mSub, w_mT, w_mNil, w_mCons, w_gN, w_nN, f_plus, f_times, f_I, f_I0, f_B0, f_eq, f_ne, f_is, f_isNot, f_in, f_notIn, f_ix, f_len, f_list, f_tuple, f_sum, f_max, f_min, f_all, f_any, f_int, f_abs, f_sorted, f_min2, f_max2, rd_da, rd2_da, rds_nil, rds_cons, asB_bool, gt_z, gt_s, onLs_z, onLs_s, keepS_nw, keepS_loc, keepS_fr, keepS_di, keepS_fn, asgF_nw, asgF_loc, asgF_fr, asgF_ns, asgF_fn, itemF_nw, itemF_loc, itemF_fr, ownF_nw, retF_ns, rc_nw, rc_di, rc_ns, args_nil, args_da, args_st, args_sc, args_fn, len_da_l, len_da_t, len_ls, len_sc, ix_l, ix_t, seq_l, seq_t, seq_ls, imm_int, imm_bool, imm_str, imm_none, imm_list, imm_tuple, immAll_nil, immAll_cons, immAll_app, immAll_ints, turn_eq, keep_nw, keep_loc, keep_fr, keep_di, f_next, f_stream, f_cell, sup_nwl, sup_nwr, sup_self, nrm_int, nrm_bool, nrm_str, nrm_none, nrm_list, nrm_tuple, nrm_R, nrm_nw, nl_nw, nt_nw, nl_ints, nt_ints, mk_def, retF_nw, retF_loc, c_p14, c_p15, c_p18, c_p29, c_p30, c_p4, rd_lsI, retF_lsI, args_lsI, eqv_int, eqv_str, shp_int, mk_ints, mk_rows, nl_rows, nt_rows, relv_ints, relv_rows, relv_irg, keep_lsI, rd_lsR, oR_snoc, oR_set, nrm_putO, imm_putO, immAll_rows, own_rows', own_ints', wipeE, w_ownL, w_nTt, w_nCons, w_nNil, w_iRvA, w_seqV_l, w_seqV_t, w_revL, w_revT, w_lc2, w_chain, w_extend, w_popE, turn2_eq, w_frz, w_asgD, f_sum2, wi2_l, wi2_t, f_maxA, w_count, isL_l, intD_i, wi_l, w_iEn, enF_l, w_iZp, zpF_l, zpF_t, w_ret2, ret2_lsI, rd2_lsI, rd2_lsIr, w_iEnS, enFz_l, w_appO, w_appAt, w_callN, nsF_ns, List.set_cons_zero, List.set_cons_succ, ite_true, ite_false, Bool.false_eq_true, reduceIte, true_and, and_true, List.length_cons, List.length_nil, Nat.zero_add, List.map_nil, List.nil_append, List.length_map, Bool.true_and, Bool.and_true, Bool.false_and]
    unfold c_law_9
    simp only [w_var, w_int, w_str, w_bl, w_none, w_op, w_nil, w_cons, w_cb, w_B, w_T, w_tand, w_tor, w_tnot, w_tyes, w_and, w_or, w_not, w_if, w_neg, w_tup, w_lst, w_no, w_at, w_sl, w_isi, w_call, w_callX, w_callL, w_fn, w_lrg1, w_lrg2, w_lc, w_sq, w_rg1, w_rg2, w_rgD, w_asg, w_own, w_seq, w_next, w_break, w_cont, w_sif, w_expr, w_ret, w_retN, w_raise, w_for, w_while, w_app, w_tgt, w_mN, w_mSub, w_mT, w_mNil, w_mCons, w_gN, w_nN, f_plus, f_times, f_I, f_I0, f_B0, f_eq, f_ne, f_is, f_isNot, f_in, f_notIn, f_ix, f_len, f_list, f_tuple, f_sum, f_max, f_min, f_all, f_any, f_int, f_abs, f_sorted, f_min2, f_max2, rd_da, rd2_da, rds_nil, rds_cons, asB_bool, gt_z, gt_s, onLs_z, onLs_s, keepS_nw, keepS_loc, keepS_fr, keepS_di, keepS_fn, asgF_nw, asgF_loc, asgF_fr, asgF_ns, asgF_fn, itemF_nw, itemF_loc, itemF_fr, ownF_nw, retF_ns, rc_nw, rc_di, rc_ns, args_nil, args_da, args_st, args_sc, args_fn, len_da_l, len_da_t, len_ls, len_sc, ix_l, ix_t, seq_l, seq_t, seq_ls, imm_int, imm_bool, imm_str, imm_none, imm_list, imm_tuple, immAll_nil, immAll_cons, immAll_app, immAll_ints, turn_eq, keep_nw, keep_loc, keep_fr, keep_di, f_next, f_stream, f_cell, sup_nwl, sup_nwr, sup_self, nrm_int, nrm_bool, nrm_str, nrm_none, nrm_list, nrm_tuple, nrm_R, nrm_nw, nl_nw, nt_nw, nl_ints, nt_ints, mk_def, retF_nw, retF_loc, c_p14, c_p15, c_p18, c_p29, c_p30, c_p4, rd_lsI, retF_lsI, args_lsI, eqv_int, eqv_str, shp_int, mk_ints, mk_rows, nl_rows, nt_rows, relv_ints, relv_rows, relv_irg, keep_lsI, rd_lsR, oR_snoc, oR_set, nrm_putO, imm_putO, immAll_rows, own_rows', own_ints', wipeE, w_ownL, w_nTt, w_nCons, w_nNil, w_iRvA, w_seqV_l, w_seqV_t, w_revL, w_revT, w_lc2, w_chain, w_extend, w_popE, turn2_eq, w_frz, w_asgD, f_sum2, wi2_l, wi2_t, f_maxA, w_count, isL_l, intD_i, wi_l, w_iEn, enF_l, w_iZp, zpF_l, zpF_t, w_ret2, ret2_lsI, rd2_lsI, rd2_lsIr, w_iEnS, enFz_l, w_appO, w_appAt, w_callN, nsF_ns, List.set_cons_zero, List.set_cons_succ, ite_true, ite_false, Bool.false_eq_true, reduceIte, true_and, and_true, List.length_cons, List.length_nil, Nat.zero_add, List.map_nil, List.nil_append, List.length_map, Bool.true_and, Bool.and_true, Bool.false_and]
    refine p_law_is_word T (by decide) ?_
    simp only [w_var, w_int, w_str, w_bl, w_none, w_op, w_nil, w_cons, w_cb, w_B, w_T, w_tand, w_tor, w_tnot, w_tyes, w_and, w_or, w_not, w_if, w_neg, w_tup, w_lst, w_no, w_at, w_sl, w_isi, w_call, w_callX, w_callL, w_fn, w_lrg1, w_lrg2, w_lc, w_sq, w_rg1, w_rg2, w_rgD, w_asg, w_own, w_seq, w_next, w_break, w_cont, w_sif, w_expr, w_ret, w_retN, w_raise, w_for, w_while, w_app, w_tgt, w_mN, w_mSub, w_mT, w_mNil, w_mCons, w_gN, w_nN, f_plus, f_times, f_I, f_I0, f_B0, f_eq, f_ne, f_is, f_isNot, f_in, f_notIn, f_ix, f_len, f_list, f_tuple, f_sum, f_max, f_min, f_all, f_any, f_int, f_abs, f_sorted, f_min2, f_max2, rd_da, rd2_da, rds_nil, rds_cons, asB_bool, gt_z, gt_s, onLs_z, onLs_s, keepS_nw, keepS_loc, keepS_fr, keepS_di, keepS_fn, asgF_nw, asgF_loc, asgF_fr, asgF_ns, asgF_fn, itemF_nw, itemF_loc, itemF_fr, ownF_nw, retF_ns, rc_nw, rc_di, rc_ns, args_nil, args_da, args_st, args_sc, args_fn, len_da_l, len_da_t, len_ls, len_sc, ix_l, ix_t, seq_l, seq_t, seq_ls, imm_int, imm_bool, imm_str, imm_none, imm_list, imm_tuple, immAll_nil, immAll_cons, immAll_app, immAll_ints, turn_eq, keep_nw, keep_loc, keep_fr, keep_di, f_next, f_stream, f_cell, sup_nwl, sup_nwr, sup_self, nrm_int, nrm_bool, nrm_str, nrm_none, nrm_list, nrm_tuple, nrm_R, nrm_nw, nl_nw, nt_nw, nl_ints, nt_ints, mk_def, retF_nw, retF_loc, c_p14, c_p15, c_p18, c_p29, c_p30, c_p4, rd_lsI, retF_lsI, args_lsI, eqv_int, eqv_str, shp_int, mk_ints, mk_rows, nl_rows, nt_rows, relv_ints, relv_rows, relv_irg, keep_lsI, rd_lsR, oR_snoc, oR_set, nrm_putO, imm_putO, immAll_rows, own_rows', own_ints', wipeE, w_ownL, w_nTt, w_nCons, w_nNil, w_iRvA, w_seqV_l, w_seqV_t, w_revL, w_revT, w_lc2, w_chain, w_extend, w_popE, turn2_eq, w_frz, w_asgD, f_sum2, wi2_l, wi2_t, f_maxA, w_count, isL_l, intD_i, wi_l, w_iEn, enF_l, w_iZp, zpF_l, zpF_t, w_ret2, ret2_lsI, rd2_lsI, rd2_lsIr, w_iEnS, enFz_l, w_appO, w_appAt, w_callN, nsF_ns, List.set_cons_zero, List.set_cons_succ, ite_true, ite_false, Bool.false_eq_true, reduceIte, true_and, and_true, List.length_cons, List.length_nil, Nat.zero_add, List.map_nil, List.nil_append, List.length_map, Bool.true_and, Bool.and_true, Bool.false_and]
    refine ifF rfl (p_exc T (by decide) (by rw [exN_len]; omega) ?_)
    have e6 : exN n (exN n w) = w := ex_ex n w
    rw [e6]
    simp only [w_var, w_int, w_str, w_bl, w_none, w_op, w_nil, w_cons, w_cb, w_B, w_T, w_tand, w_tor, w_tnot, w_tyes, w_and, w_or, w_not, w_if, w_neg, w_tup, w_lst, w_no, w_at, w_sl, w_isi, w_call, w_callX, w_callL, w_fn, w_lrg1, w_lrg2, w_lc, w_sq, w_rg1, w_rg2, w_rgD, w_asg, w_own, w_seq, w_next, w_break, w_cont, w_sif, w_expr, w_ret, w_retN, w_raise, w_for, w_while, w_app, w_tgt, w_mN, w_mSub, w_mT, w_mNil, w_mCons, w_gN, w_nN, f_plus, f_times, f_I, f_I0, f_B0, f_eq, f_ne, f_is, f_isNot, f_in, f_notIn, f_ix, f_len, f_list, f_tuple, f_sum, f_max, f_min, f_all, f_any, f_int, f_abs, f_sorted, f_min2, f_max2, rd_da, rd2_da, rds_nil, rds_cons, asB_bool, gt_z, gt_s, onLs_z, onLs_s, keepS_nw, keepS_loc, keepS_fr, keepS_di, keepS_fn, asgF_nw, asgF_loc, asgF_fr, asgF_ns, asgF_fn, itemF_nw, itemF_loc, itemF_fr, ownF_nw, retF_ns, rc_nw, rc_di, rc_ns, args_nil, args_da, args_st, args_sc, args_fn, len_da_l, len_da_t, len_ls, len_sc, ix_l, ix_t, seq_l, seq_t, seq_ls, imm_int, imm_bool, imm_str, imm_none, imm_list, imm_tuple, immAll_nil, immAll_cons, immAll_app, immAll_ints, turn_eq, keep_nw, keep_loc, keep_fr, keep_di, f_next, f_stream, f_cell, sup_nwl, sup_nwr, sup_self, nrm_int, nrm_bool, nrm_str, nrm_none, nrm_list, nrm_tuple, nrm_R, nrm_nw, nl_nw, nt_nw, nl_ints, nt_ints, mk_def, retF_nw, retF_loc, c_p14, c_p15, c_p18, c_p29, c_p30, c_p4, rd_lsI, retF_lsI, args_lsI, eqv_int, eqv_str, shp_int, mk_ints, mk_rows, nl_rows, nt_rows, relv_ints, relv_rows, relv_irg, keep_lsI, rd_lsR, oR_snoc, oR_set, nrm_putO, imm_putO, immAll_rows, own_rows', own_ints', wipeE, w_ownL, w_nTt, w_nCons, w_nNil, w_iRvA, w_seqV_l, w_seqV_t, w_revL, w_revT, w_lc2, w_chain, w_extend, w_popE, turn2_eq, w_frz, w_asgD, f_sum2, wi2_l, wi2_t, f_maxA, w_count, isL_l, intD_i, wi_l, w_iEn, enF_l, w_iZp, zpF_l, zpF_t, w_ret2, ret2_lsI, rd2_lsI, rd2_lsIr, w_iEnS, enFz_l, w_appO, w_appAt, w_callN, nsF_ns, List.set_cons_zero, List.set_cons_succ, ite_true, ite_false, Bool.false_eq_true, reduceIte, true_and, and_true, List.length_cons, List.length_nil, Nat.zero_add, List.map_nil, List.nil_append, List.length_map, Bool.true_and, Bool.and_true, Bool.false_and]
    refine ⟨shp (pur_W _), shp (pur_W _), ?_⟩
    rw [eqv_self (pur_W _)]
    refine ifF rfl (p_there_and_back T (by omega) ?_)
    simp only [w_var, w_int, w_str, w_bl, w_none, w_op, w_nil, w_cons, w_cb, w_B, w_T, w_tand, w_tor, w_tnot, w_tyes, w_and, w_or, w_not, w_if, w_neg, w_tup, w_lst, w_no, w_at, w_sl, w_isi, w_call, w_callX, w_callL, w_fn, w_lrg1, w_lrg2, w_lc, w_sq, w_rg1, w_rg2, w_rgD, w_asg, w_own, w_seq, w_next, w_break, w_cont, w_sif, w_expr, w_ret, w_retN, w_raise, w_for, w_while, w_app, w_tgt, w_mN, w_mSub, w_mT, w_mNil, w_mCons, w_gN, w_nN, f_plus, f_times, f_I, f_I0, f_B0, f_eq, f_ne, f_is, f_isNot, f_in, f_notIn, f_ix, f_len, f_list, f_tuple, f_sum, f_max, f_min, f_all, f_any, f_int, f_abs, f_sorted, f_min2, f_max2, rd_da, rd2_da, rds_nil, rds_cons, asB_bool, gt_z, gt_s, onLs_z, onLs_s, keepS_nw, keepS_loc, keepS_fr, keepS_di, keepS_fn, asgF_nw, asgF_loc, asgF_fr, asgF_ns, asgF_fn, itemF_nw, itemF_loc, itemF_fr, ownF_nw, retF_ns, rc_nw, rc_di, rc_ns, args_nil, args_da, args_st, args_sc, args_fn, len_da_l, len_da_t, len_ls, len_sc, ix_l, ix_t, seq_l, seq_t, seq_ls, imm_int, imm_bool, imm_str, imm_none, imm_list, imm_tuple, immAll_nil, immAll_cons, immAll_app, immAll_ints, turn_eq, keep_nw, keep_loc, keep_fr, keep_di, f_next, f_stream, f_cell, sup_nwl, sup_nwr, sup_self, nrm_int, nrm_bool, nrm_str, nrm_none, nrm_list, nrm_tuple, nrm_R, nrm_nw, nl_nw, nt_nw, nl_ints, nt_ints, mk_def, retF_nw, retF_loc, c_p14, c_p15, c_p18, c_p29, c_p30, c_p4, rd_lsI, retF_lsI, args_lsI, eqv_int, eqv_str, shp_int, mk_ints, mk_rows, nl_rows, nt_rows, relv_ints, relv_rows, relv_irg, keep_lsI, rd_lsR, oR_snoc, oR_set, nrm_putO, imm_putO, immAll_rows, own_rows', own_ints', wipeE, w_ownL, w_nTt, w_nCons, w_nNil, w_iRvA, w_seqV_l, w_seqV_t, w_revL, w_revT, w_lc2, w_chain, w_extend, w_popE, turn2_eq, w_frz, w_asgD, f_sum2, wi2_l, wi2_t, f_maxA, w_count, isL_l, intD_i, wi_l, w_iEn, enF_l, w_iZp, zpF_l, zpF_t, w_ret2, ret2_lsI, rd2_lsI, rd2_lsIr, w_iEnS, enFz_l, w_appO, w_appAt, w_callN, nsF_ns, List.set_cons_zero, List.set_cons_succ, ite_true, ite_false, Bool.false_eq_true, reduceIte, true_and, and_true, List.length_cons, List.length_nil, Nat.zero_add, List.map_nil, List.nil_append, List.length_map, Bool.true_and, Bool.and_true, Bool.false_and]
    refine ifF rfl ?_
    unfold c_law_11
    simp only [w_var, w_int, w_str, w_bl, w_none, w_op, w_nil, w_cons, w_cb, w_B, w_T, w_tand, w_tor, w_tnot, w_tyes, w_and, w_or, w_not, w_if, w_neg, w_tup, w_lst, w_no, w_at, w_sl, w_isi, w_call, w_callX, w_callL, w_fn, w_lrg1, w_lrg2, w_lc, w_sq, w_rg1, w_rg2, w_rgD, w_asg, w_own, w_seq, w_next, w_break, w_cont, w_sif, w_expr, w_ret, w_retN, w_raise, w_for, w_while, w_app, w_tgt, w_mN, w_mSub, w_mT, w_mNil, w_mCons, w_gN, w_nN, f_plus, f_times, f_I, f_I0, f_B0, f_eq, f_ne, f_is, f_isNot, f_in, f_notIn, f_ix, f_len, f_list, f_tuple, f_sum, f_max, f_min, f_all, f_any, f_int, f_abs, f_sorted, f_min2, f_max2, rd_da, rd2_da, rds_nil, rds_cons, asB_bool, gt_z, gt_s, onLs_z, onLs_s, keepS_nw, keepS_loc, keepS_fr, keepS_di, keepS_fn, asgF_nw, asgF_loc, asgF_fr, asgF_ns, asgF_fn, itemF_nw, itemF_loc, itemF_fr, ownF_nw, retF_ns, rc_nw, rc_di, rc_ns, args_nil, args_da, args_st, args_sc, args_fn, len_da_l, len_da_t, len_ls, len_sc, ix_l, ix_t, seq_l, seq_t, seq_ls, imm_int, imm_bool, imm_str, imm_none, imm_list, imm_tuple, immAll_nil, immAll_cons, immAll_app, immAll_ints, turn_eq, keep_nw, keep_loc, keep_fr, keep_di, f_next, f_stream, f_cell, sup_nwl, sup_nwr, sup_self, nrm_int, nrm_bool, nrm_str, nrm_none, nrm_list, nrm_tuple, nrm_R, nrm_nw, nl_nw, nt_nw, nl_ints, nt_ints, mk_def, retF_nw, retF_loc, c_p14, c_p15, c_p18, c_p29, c_p30, c_p4, rd_lsI, retF_lsI, args_lsI, eqv_int, eqv_str, shp_int, mk_ints, mk_rows, nl_rows, nt_rows, relv_ints, relv_rows, relv_irg, keep_lsI, rd_lsR, oR_snoc, oR_set, nrm_putO, imm_putO, immAll_rows, own_rows', own_ints', wipeE, w_ownL, w_nTt, w_nCons, w_nNil, w_iRvA, w_seqV_l, w_seqV_t, w_revL, w_revT, w_lc2, w_chain, w_extend, w_popE, turn2_eq, w_frz, w_asgD, f_sum2, wi2_l, wi2_t, f_maxA, w_count, isL_l, intD_i, wi_l, w_iEn, enF_l, w_iZp, zpF_l, zpF_t, w_ret2, ret2_lsI, rd2_lsI, rd2_lsIr, w_iEnS, enFz_l, w_appO, w_appAt, w_callN, nsF_ns, List.set_cons_zero, List.set_cons_succ, ite_true, ite_false, Bool.false_eq_true, reduceIte, true_and, and_true, List.length_cons, List.length_nil, Nat.zero_add, List.map_nil, List.nil_append, List.length_map, Bool.true_and, Bool.and_true, Bool.false_and]
    have hc := ex_count n w
    have k1 : List.count n (exN n w) = List.count (n + 1) w := by rw [cN_count, cN_count]; exact hc.1
    have k2 : List.count (n + 1) (exN n w) = List.count n w := by rw [cN_count, cN_count]; exact hc.2
    rw [k1, k2, decide_eq_true rfl, decide_eq_true rfl]
    refine ifF rfl (ifF rfl ?_)
    unfold c_law_13
    simp only [w_var, w_int, w_str, w_bl, w_none, w_op, w_nil, w_cons, w_cb, w_B, w_T, w_tand, w_tor, w_tnot, w_tyes, w_and, w_or, w_not, w_if, w_neg, w_tup, w_lst, w_no, w_at, w_sl, w_isi, w_call, w_callX, w_callL, w_fn, w_lrg1, w_lrg2, w_lc, w_sq, w_rg1, w_rg2, w_rgD, w_asg, w_own, w_seq, w_next, w_break, w_cont, w_sif, w_expr, w_ret, w_retN, w_raise, w_for, w_while, w_app, w_tgt, w_mN, w_mSub, w_mT, w_mNil, w_mCons, w_gN, w_nN, f_plus, f_times, f_I, f_I0, f_B0, f_eq, f_ne, f_is, f_isNot, f_in, f_notIn, f_ix, f_len, f_list, f_tuple, f_sum, f_max, f_min, f_all, f_any, f_int, f_abs, f_sorted, f_min2, f_max2, rd_da, rd2_da, rds_nil, rds_cons, asB_bool, gt_z, gt_s, onLs_z, onLs_s, keepS_nw, keepS_loc, keepS_fr, keepS_di, keepS_fn, asgF_nw, asgF_loc, asgF_fr, asgF_ns, asgF_fn, itemF_nw, itemF_loc, itemF_fr, ownF_nw, retF_ns, rc_nw, rc_di, rc_ns, args_nil, args_da, args_st, args_sc, args_fn, len_da_l, len_da_t, len_ls, len_sc, ix_l, ix_t, seq_l, seq_t, seq_ls, imm_int, imm_bool, imm_str, imm_none, imm_list, imm_tuple, immAll_nil, immAll_cons, immAll_app, immAll_ints, turn_eq, keep_nw, keep_loc, keep_fr, keep_di, f_next, f_stream, f_cell, sup_nwl, sup_nwr, sup_self, nrm_int, nrm_bool, nrm_str, nrm_none, nrm_list, nrm_tuple, nrm_R, nrm_nw, nl_nw, nt_nw, nl_ints, nt_ints, mk_def, retF_nw, retF_loc, c_p14, c_p15, c_p18, c_p29, c_p30, c_p4, rd_lsI, retF_lsI, args_lsI, eqv_int, eqv_str, shp_int, mk_ints, mk_rows, nl_rows, nt_rows, relv_ints, relv_rows, relv_irg, keep_lsI, rd_lsR, oR_snoc, oR_set, nrm_putO, imm_putO, immAll_rows, own_rows', own_ints', wipeE, w_ownL, w_nTt, w_nCons, w_nNil, w_iRvA, w_seqV_l, w_seqV_t, w_revL, w_revT, w_lc2, w_chain, w_extend, w_popE, turn2_eq, w_frz, w_asgD, f_sum2, wi2_l, wi2_t, f_maxA, w_count, isL_l, intD_i, wi_l, w_iEn, enF_l, w_iZp, zpF_l, zpF_t, w_ret2, ret2_lsI, rd2_lsI, rd2_lsIr, w_iEnS, enFz_l, w_appO, w_appAt, w_callN, nsF_ns, List.set_cons_zero, List.set_cons_succ, ite_true, ite_false, Bool.false_eq_true, reduceIte, true_and, and_true, List.length_cons, List.length_nil, Nat.zero_add, List.map_nil, List.nil_append, List.length_map, Bool.true_and, Bool.and_true, Bool.false_and]
    refine ⟨⟨by omega, by omega⟩, forW_ind (fun j env => ∃ x7, env = [some (OV.sc ns), some OV.st, some (OV.da Lv.nw (PyData.int (d - 3))), some (OV.da Lv.nw (PyData.int (3 + s))), some (OV.da Lv.loc (PyData.list (List.map PyData.int w))), some (.da .nw (.int n)), some (.da .loc (dW (exN n w))), x7]) ⟨_, rfl⟩ ?_ ?_⟩
    · rintro j o env N2 hj ⟨x7, rfl⟩ hN2
      obtain ⟨hjn, rfl⟩ := irg_at hj
      have hjw : j < w.length := by omega
      have e0 : (0 : Int) + (j : Int) * 1 = (j : Int) := by omega
      rw [e0]
      have hxl := exN_len n w
      simp only [w_var, w_int, w_str, w_bl, w_none, w_op, w_nil, w_cons, w_cb, w_B, w_T, w_tand, w_tor, w_tnot, w_tyes, w_and, w_or, w_not, w_if, w_neg, w_tup, w_lst, w_no, w_at, w_sl, w_isi, w_call, w_callX, w_callL, w_fn, w_lrg1, w_lrg2, w_lc, w_sq, w_rg1, w_rg2, w_rgD, w_asg, w_own, w_seq, w_next, w_break, w_cont, w_sif, w_expr, w_ret, w_retN, w_raise, w_for, w_while, w_app, w_tgt, w_mN, w_mSub, w_mT, w_mNil, w_mCons, w_gN, w_nN, f_plus, f_times, f_I, f_I0, f_B0, f_eq, f_ne, f_is, f_isNot, f_in, f_notIn, f_ix, f_len, f_list, f_tuple, f_sum, f_max, f_min, f_all, f_any, f_int, f_abs, f_sorted, f_min2, f_max2, rd_da, rd2_da, rds_nil, rds_cons, asB_bool, gt_z, gt_s, onLs_z, onLs_s, keepS_nw, keepS_loc, keepS_fr, keepS_di, keepS_fn, asgF_nw, asgF_loc, asgF_fr, asgF_ns, asgF_fn, itemF_nw, itemF_loc, itemF_fr, ownF_nw, retF_ns, rc_nw, rc_di, rc_ns, args_nil, args_da, args_st, args_sc, args_fn, len_da_l, len_da_t, len_ls, len_sc, ix_l, ix_t, seq_l, seq_t, seq_ls, imm_int, imm_bool, imm_str, imm_none, imm_list, imm_tuple, immAll_nil, immAll_cons, immAll_app, immAll_ints, turn_eq, keep_nw, keep_loc, keep_fr, keep_di, f_next, f_stream, f_cell, sup_nwl, sup_nwr, sup_self, nrm_int, nrm_bool, nrm_str, nrm_none, nrm_list, nrm_tuple, nrm_R, nrm_nw, nl_nw, nt_nw, nl_ints, nt_ints, mk_def, retF_nw, retF_loc, c_p14, c_p15, c_p18, c_p29, c_p30, c_p4, rd_lsI, retF_lsI, args_lsI, eqv_int, eqv_str, shp_int, mk_ints, mk_rows, nl_rows, nt_rows, relv_ints, relv_rows, relv_irg, keep_lsI, rd_lsR, oR_snoc, oR_set, nrm_putO, imm_putO, immAll_rows, own_rows', own_ints', wipeE, w_ownL, w_nTt, w_nCons, w_nNil, w_iRvA, w_seqV_l, w_seqV_t, w_revL, w_revT, w_lc2, w_chain, w_extend, w_popE, turn2_eq, w_frz, w_asgD, f_sum2, wi2_l, wi2_t, f_maxA, w_count, isL_l, intD_i, wi_l, w_iEn, enF_l, w_iZp, zpF_l, zpF_t, w_ret2, ret2_lsI, rd2_lsI, rd2_lsIr, w_iEnS, enFz_l, w_appO, w_appAt, w_callN, nsF_ns, List.set_cons_zero, List.set_cons_succ, ite_true, ite_false, Bool.false_eq_true, reduceIte, true_and, and_true, List.length_cons, List.length_nil, Nat.zero_add, List.map_nil, List.nil_append, List.length_map, Bool.true_and, Bool.and_true, Bool.false_and]
      unfold c_law_14
      simp only [w_var, w_int, w_str, w_bl, w_none, w_op, w_nil, w_cons, w_cb, w_B, w_T, w_tand, w_tor, w_tnot, w_tyes, w_and, w_or, w_not, w_if, w_neg, w_tup, w_lst, w_no, w_at, w_sl, w_isi, w_call, w_callX, w_callL, w_fn, w_lrg1, w_lrg2, w_lc, w_sq, w_rg1, w_rg2, w_rgD, w_asg, w_own, w_seq, w_next, w_break, w_cont, w_sif, w_expr, w_ret, w_retN, w_raise, w_for, w_while, w_app, w_tgt, w_mN, w_mSub, w_mT, w_mNil, w_mCons, w_gN, w_nN, f_plus, f_times, f_I, f_I0, f_B0, f_eq, f_ne, f_is, f_isNot, f_in, f_notIn, f_ix, f_len, f_list, f_tuple, f_sum, f_max, f_min, f_all, f_any, f_int, f_abs, f_sorted, f_min2, f_max2, rd_da, rd2_da, rds_nil, rds_cons, asB_bool, gt_z, gt_s, onLs_z, onLs_s, keepS_nw, keepS_loc, keepS_fr, keepS_di, keepS_fn, asgF_nw, asgF_loc, asgF_fr, asgF_ns, asgF_fn, itemF_nw, itemF_loc, itemF_fr, ownF_nw, retF_ns, rc_nw, rc_di, rc_ns, args_nil, args_da, args_st, args_sc, args_fn, len_da_l, len_da_t, len_ls, len_sc, ix_l, ix_t, seq_l, seq_t, seq_ls, imm_int, imm_bool, imm_str, imm_none, imm_list, imm_tuple, immAll_nil, immAll_cons, immAll_app, immAll_ints, turn_eq, keep_nw, keep_loc, keep_fr, keep_di, f_next, f_stream, f_cell, sup_nwl, sup_nwr, sup_self, nrm_int, nrm_bool, nrm_str, nrm_none, nrm_list, nrm_tuple, nrm_R, nrm_nw, nl_nw, nt_nw, nl_ints, nt_ints, mk_def, retF_nw, retF_loc, c_p14, c_p15, c_p18, c_p29, c_p30, c_p4, rd_lsI, retF_lsI, args_lsI, eqv_int, eqv_str, shp_int, mk_ints, mk_rows, nl_rows, nt_rows, relv_ints, relv_rows, relv_irg, keep_lsI, rd_lsR, oR_snoc, oR_set, nrm_putO, imm_putO, immAll_rows, own_rows', own_ints', wipeE, w_ownL, w_nTt, w_nCons, w_nNil, w_iRvA, w_seqV_l, w_seqV_t, w_revL, w_revT, w_lc2, w_chain, w_extend, w_popE, turn2_eq, w_frz, w_asgD, f_sum2, wi2_l, wi2_t, f_maxA, w_count, isL_l, intD_i, wi_l, w_iEn, enF_l, w_iZp, zpF_l, zpF_t, w_ret2, ret2_lsI, rd2_lsI, rd2_lsIr, w_iEnS, enFz_l, w_appO, w_appAt, w_callN, nsF_ns, List.set_cons_zero, List.set_cons_succ, ite_true, ite_false, Bool.false_eq_true, reduceIte, true_and, and_true, List.length_cons, List.length_nil, Nat.zero_add, List.map_nil, List.nil_append, List.length_map, Bool.true_and, Bool.and_true, Bool.false_and]
      refine itm_int (by omega) (by omega) ?_
      simp only [w_var, w_int, w_str, w_bl, w_none, w_op, w_nil, w_cons, w_cb, w_B, w_T, w_tand, w_tor, w_tnot, w_tyes, w_and, w_or, w_not, w_if, w_neg, w_tup, w_lst, w_no, w_at, w_sl, w_isi, w_call, w_callX, w_callL, w_fn, w_lrg1, w_lrg2, w_lc, w_sq, w_rg1, w_rg2, w_rgD, w_asg, w_own, w_seq, w_next, w_break, w_cont, w_sif, w_expr, w_ret, w_retN, w_raise, w_for, w_while, w_app, w_tgt, w_mN, w_mSub, w_mT, w_mNil, w_mCons, w_gN, w_nN, f_plus, f_times, f_I, f_I0, f_B0, f_eq, f_ne, f_is, f_isNot, f_in, f_notIn, f_ix, f_len, f_list, f_tuple, f_sum, f_max, f_min, f_all, f_any, f_int, f_abs, f_sorted, f_min2, f_max2, rd_da, rd2_da, rds_nil, rds_cons, asB_bool, gt_z, gt_s, onLs_z, onLs_s, keepS_nw, keepS_loc, keepS_fr, keepS_di, keepS_fn, asgF_nw, asgF_loc, asgF_fr, asgF_ns, asgF_fn, itemF_nw, itemF_loc, itemF_fr, ownF_nw, retF_ns, rc_nw, rc_di, rc_ns, args_nil, args_da, args_st, args_sc, args_fn, len_da_l, len_da_t, len_ls, len_sc, ix_l, ix_t, seq_l, seq_t, seq_ls, imm_int, imm_bool, imm_str, imm_none, imm_list, imm_tuple, immAll_nil, immAll_cons, immAll_app, immAll_ints, turn_eq, keep_nw, keep_loc, keep_fr, keep_di, f_next, f_stream, f_cell, sup_nwl, sup_nwr, sup_self, nrm_int, nrm_bool, nrm_str, nrm_none, nrm_list, nrm_tuple, nrm_R, nrm_nw, nl_nw, nt_nw, nl_ints, nt_ints, mk_def, retF_nw, retF_loc, c_p14, c_p15, c_p18, c_p29, c_p30, c_p4, rd_lsI, retF_lsI, args_lsI, eqv_int, eqv_str, shp_int, mk_ints, mk_rows, nl_rows, nt_rows, relv_ints, relv_rows, relv_irg, keep_lsI, rd_lsR, oR_snoc, oR_set, nrm_putO, imm_putO, immAll_rows, own_rows', own_ints', wipeE, w_ownL, w_nTt, w_nCons, w_nNil, w_iRvA, w_seqV_l, w_seqV_t, w_revL, w_revT, w_lc2, w_chain, w_extend, w_popE, turn2_eq, w_frz, w_asgD, f_sum2, wi2_l, wi2_t, f_maxA, w_count, isL_l, intD_i, wi_l, w_iEn, enF_l, w_iZp, zpF_l, zpF_t, w_ret2, ret2_lsI, rd2_lsI, rd2_lsIr, w_iEnS, enFz_l, w_appO, w_appAt, w_callN, nsF_ns, List.set_cons_zero, List.set_cons_succ, ite_true, ite_false, Bool.false_eq_true, reduceIte, true_and, and_true, List.length_cons, List.length_nil, Nat.zero_add, List.map_nil, List.nil_append, List.length_map, Bool.true_and, Bool.and_true, Bool.false_and]
      rw [notin2, Int.toNat_natCast]
      refine ⟨by decide, shp (pur_lst (n := 0) fun d hd => ?_), ?_⟩
      · simp only [List.mem_cons, List.not_mem_nil, or_false] at hd
        rcases hd with rfl | rfl <;> exact pur_int
      by_cases q : n = w.getD j 0 ∨ n + 1 = w.getD j 0
      · rw [decide_eq_true q]
        exact ifF rfl (hN2 _ ⟨_, rfl⟩)
      · rw [decide_eq_false q]
        refine ifT rfl (itm_int (by omega) (by omega) ?_)
        simp only [w_var, w_int, w_str, w_bl, w_none, w_op, w_nil, w_cons, w_cb, w_B, w_T, w_tand, w_tor, w_tnot, w_tyes, w_and, w_or, w_not, w_if, w_neg, w_tup, w_lst, w_no, w_at, w_sl, w_isi, w_call, w_callX, w_callL, w_fn, w_lrg1, w_lrg2, w_lc, w_sq, w_rg1, w_rg2, w_rgD, w_asg, w_own, w_seq, w_next, w_break, w_cont, w_sif, w_expr, w_ret, w_retN, w_raise, w_for, w_while, w_app, w_tgt, w_mN, w_mSub, w_mT, w_mNil, w_mCons, w_gN, w_nN, f_plus, f_times, f_I, f_I0, f_B0, f_eq, f_ne, f_is, f_isNot, f_in, f_notIn, f_ix, f_len, f_list, f_tuple, f_sum, f_max, f_min, f_all, f_any, f_int, f_abs, f_sorted, f_min2, f_max2, rd_da, rd2_da, rds_nil, rds_cons, asB_bool, gt_z, gt_s, onLs_z, onLs_s, keepS_nw, keepS_loc, keepS_fr, keepS_di, keepS_fn, asgF_nw, asgF_loc, asgF_fr, asgF_ns, asgF_fn, itemF_nw, itemF_loc, itemF_fr, ownF_nw, retF_ns, rc_nw, rc_di, rc_ns, args_nil, args_da, args_st, args_sc, args_fn, len_da_l, len_da_t, len_ls, len_sc, ix_l, ix_t, seq_l, seq_t, seq_ls, imm_int, imm_bool, imm_str, imm_none, imm_list, imm_tuple, immAll_nil, immAll_cons, immAll_app, immAll_ints, turn_eq, keep_nw, keep_loc, keep_fr, keep_di, f_next, f_stream, f_cell, sup_nwl, sup_nwr, sup_self, nrm_int, nrm_bool, nrm_str, nrm_none, nrm_list, nrm_tuple, nrm_R, nrm_nw, nl_nw, nt_nw, nl_ints, nt_ints, mk_def, retF_nw, retF_loc, c_p14, c_p15, c_p18, c_p29, c_p30, c_p4, rd_lsI, retF_lsI, args_lsI, eqv_int, eqv_str, shp_int, mk_ints, mk_rows, nl_rows, nt_rows, relv_ints, relv_rows, relv_irg, keep_lsI, rd_lsR, oR_snoc, oR_set, nrm_putO, imm_putO, immAll_rows, own_rows', own_ints', wipeE, w_ownL, w_nTt, w_nCons, w_nNil, w_iRvA, w_seqV_l, w_seqV_t, w_revL, w_revT, w_lc2, w_chain, w_extend, w_popE, turn2_eq, w_frz, w_asgD, f_sum2, wi2_l, wi2_t, f_maxA, w_count, isL_l, intD_i, wi_l, w_iEn, enF_l, w_iZp, zpF_l, zpF_t, w_ret2, ret2_lsI, rd2_lsI, rd2_lsIr, w_iEnS, enFz_l, w_appO, w_appAt, w_callN, nsF_ns, List.set_cons_zero, List.set_cons_succ, ite_true, ite_false, Bool.false_eq_true, reduceIte, true_and, and_true, List.length_cons, List.length_nil, Nat.zero_add, List.map_nil, List.nil_append, List.length_map, Bool.true_and, Bool.and_true, Bool.false_and]
        refine itm_int (by omega) (by omega) ?_
        simp only [w_var, w_int, w_str, w_bl, w_none, w_op, w_nil, w_cons, w_cb, w_B, w_T, w_tand, w_tor, w_tnot, w_tyes, w_and, w_or, w_not, w_if, w_neg, w_tup, w_lst, w_no, w_at, w_sl, w_isi, w_call, w_callX, w_callL, w_fn, w_lrg1, w_lrg2, w_lc, w_sq, w_rg1, w_rg2, w_rgD, w_asg, w_own, w_seq, w_next, w_break, w_cont, w_sif, w_expr, w_ret, w_retN, w_raise, w_for, w_while, w_app, w_tgt, w_mN, w_mSub, w_mT, w_mNil, w_mCons, w_gN, w_nN, f_plus, f_times, f_I, f_I0, f_B0, f_eq, f_ne, f_is, f_isNot, f_in, f_notIn, f_ix, f_len, f_list, f_tuple, f_sum, f_max, f_min, f_all, f_any, f_int, f_abs, f_sorted, f_min2, f_max2, rd_da, rd2_da, rds_nil, rds_cons, asB_bool, gt_z, gt_s, onLs_z, onLs_s, keepS_nw, keepS_loc, keepS_fr, keepS_di, keepS_fn, asgF_nw, asgF_loc, asgF_fr, asgF_ns, asgF_fn, itemF_nw, itemF_loc, itemF_fr, ownF_nw, retF_ns, rc_nw, rc_di, rc_ns, args_nil, args_da, args_st, args_sc, args_fn, len_da_l, len_da_t, len_ls, len_sc, ix_l, ix_t, seq_l, seq_t, seq_ls, imm_int, imm_bool, imm_str, imm_none, imm_list, imm_tuple, immAll_nil, immAll_cons, immAll_app, immAll_ints, turn_eq, keep_nw, keep_loc, keep_fr, keep_di, f_next, f_stream, f_cell, sup_nwl, sup_nwr, sup_self, nrm_int, nrm_bool, nrm_str, nrm_none, nrm_list, nrm_tuple, nrm_R, nrm_nw, nl_nw, nt_nw, nl_ints, nt_ints, mk_def, retF_nw, retF_loc, c_p14, c_p15, c_p18, c_p29, c_p30, c_p4, rd_lsI, retF_lsI, args_lsI, eqv_int, eqv_str, shp_int, mk_ints, mk_rows, nl_rows, nt_rows, relv_ints, relv_rows, relv_irg, keep_lsI, rd_lsR, oR_snoc, oR_set, nrm_putO, imm_putO, immAll_rows, own_rows', own_ints', wipeE, w_ownL, w_nTt, w_nCons, w_nNil, w_iRvA, w_seqV_l, w_seqV_t, w_revL, w_revT, w_lc2, w_chain, w_extend, w_popE, turn2_eq, w_frz, w_asgD, f_sum2, wi2_l, wi2_t, f_maxA, w_count, isL_l, intD_i, wi_l, w_iEn, enF_l, w_iZp, zpF_l, zpF_t, w_ret2, ret2_lsI, rd2_lsI, rd2_lsIr, w_iEnS, enFz_l, w_appO, w_appAt, w_callN, nsF_ns, List.set_cons_zero, List.set_cons_succ, ite_true, ite_false, Bool.false_eq_true, reduceIte, true_and, and_true, List.length_cons, List.length_nil, Nat.zero_add, List.map_nil, List.nil_append, List.length_map, Bool.true_and, Bool.and_true, Bool.false_and]
        rw [Int.toNat_natCast]
        have es : (exN n w).getD j 0 = w.getD j 0 := ex_out fun z => by
          have := (ex_mem z).2
          omega
        rw [es, decide_eq_true rfl]
        exact ifF rfl (hN2 _ ⟨_, rfl⟩)
    · rintro env ⟨x7, rfl⟩
      exact hN _ ⟨_, _, _, rfl⟩
  · rintro env ⟨x5, x6, x7, rfl⟩
    unfold c_law_16
    simp only [w_var, w_int, w_str, w_bl, w_none, w_op, w_nil, w_cons, w_cb, w_B, w_T, w_tand, w_tor, w_tnot, w_tyes, w_and, w_or, w_not, w_if, w_neg, w_tup, w_lst, w_no, w_at, w_sl, w_isi, w_call, w_callX, w_callL, w_fn, w_lrg1, w_lrg2, w_lc, w_sq, w_rg1, w_rg2, w_rgD, w_asg, w_own, w_seq, w_next, w_break, w_cont, w_sif, w_expr, w_ret, w_retN, w_raise, w_for, w_while, w_app, w_tgt, w_mN, w_mSub, w_mT, w_mNil, w_mCons, w_gN, w_nN, f_plus, f_times, f_I, f_I0, f_B0, f_eq, f_ne, f_is, f_isNot, f_in, f_notIn, f_ix, f_len, f_list, f_tuple, f_sum, f_max, f_min, f_all, f_any, f_int, f_abs, f_sorted, f_min2, f_max2, rd_da, rd2_da, rds_nil, rds_cons, asB_bool, gt_z, gt_s, onLs_z, onLs_s, keepS_nw, keepS_loc, keepS_fr, keepS_di, keepS_fn, asgF_nw, asgF_loc, asgF_fr, asgF_ns, asgF_fn, itemF_nw, itemF_loc, itemF_fr, ownF_nw, retF_ns, rc_nw, rc_di, rc_ns, args_nil, args_da, args_st, args_sc, args_fn, len_da_l, len_da_t, len_ls, len_sc, ix_l, ix_t, seq_l, seq_t, seq_ls, imm_int, imm_bool, imm_str, imm_none, imm_list, imm_tuple, immAll_nil, immAll_cons, immAll_app, immAll_ints, turn_eq, keep_nw, keep_loc, keep_fr, keep_di, f_next, f_stream, f_cell, sup_nwl, sup_nwr, sup_self, nrm_int, nrm_bool, nrm_str, nrm_none, nrm_list, nrm_tuple, nrm_R, nrm_nw, nl_nw, nt_nw, nl_ints, nt_ints, mk_def, retF_nw, retF_loc, c_p14, c_p15, c_p18, c_p29, c_p30, c_p4, rd_lsI, retF_lsI, args_lsI, eqv_int, eqv_str, shp_int, mk_ints, mk_rows, nl_rows, nt_rows, relv_ints, relv_rows, relv_irg, keep_lsI, rd_lsR, oR_snoc, oR_set, nrm_putO, imm_putO, immAll_rows, own_rows', own_ints', wipeE, w_ownL, w_nTt, w_nCons, w_nNil, w_iRvA, w_seqV_l, w_seqV_t, w_revL, w_revT, w_lc2, w_chain, w_extend, w_popE, turn2_eq, w_frz, w_asgD, f_sum2, wi2_l, wi2_t, f_maxA, w_count, isL_l, intD_i, wi_l, w_iEn, enF_l, w_iZp, zpF_l, zpF_t, w_ret2, ret2_lsI, rd2_lsI, rd2_lsIr, w_iEnS, enFz_l, w_appO, w_appAt, w_callN, nsF_ns, List.set_cons_zero, List.set_cons_succ, ite_true, ite_false, Bool.false_eq_true, reduceIte, true_and, and_true, List.length_cons, List.length_nil, Nat.zero_add, List.map_nil, List.nil_append, List.length_map, Bool.true_and, Bool.and_true, Bool.false_and]

def spLaw (K : PySem.W.Frag) : Sp := fun vs H Q _ => ∃ (a : Addr) (ns : List Int), vs = [.ref a] ∧ SqL K H a (ns.map V.int) ∧ ns.length ≤ 63 ∧ ∀ H', Q (.bl true) H'
theorem law_end {K : PySem.W.Frag} {H : Hp} {a : Addr} {ns : List Int} (hl : ns.length ≤ 63) (hO : Only H) (hS : SqL K H a (ns.map V.int)) : spLaw K [.ref a] H (fun v _ => v = .bl true) fun _ _ _ => False := ⟨a, ns, rfl, hS, hl, fun _ => rfl⟩
theorem ct_ex0 {H : Hp} : Ex H (fz H [] [] H H .fr) := fun b o e => ct_of (by simp [bad]) e
theorem law_ok {f : Addr} {fd : FuncData} (T : Txt K mg) (FL : Fun K "law" "law" s_law f fd) : FnOk P w K mg base CX0 4 f fd ["script"] (spLaw K) := by
  refine (ok_law T FL).imp fun vs H Q E h => ?_
  obtain ⟨a, ns, rfl, hS, hl, q⟩ := h
  refine ⟨[.sc ns], [], fun o => o = .da .nw (.bool true), fun _ => False, rfl, law_true T ns hl, .cons ⟨.sc (Evl.ex_l ct_ex0 hS), rfl⟩ .nil, fun a ha => (List.not_mem_nil ha).elim, fun v H2 o ho _ hr => ?_, fun C H2 hC => hC.elim⟩
  subst ho
  have hr : Da (fz H [] [] H H2 .nw) v (.bool true) := hr
  cases hr
  exact q H2
end
theorem all_mk {l : PySem.W.OpenLaw} {w : World} {K : PySem.W.Frag} {h : Heap} {mg : Str → Option Value} {fa : Addr} (X : K.In h) (G : h.Ns mainGlobals mg) (hfa : mg "law" = some (.ref fa))
    {od1 an1 : Option Addr} {sl1 : Array (Option Value)} {oc1 kV1 dc1 pm1 cd1 ct1 : Value} {f1 : Addr}
    (a1 : PySem.W.nsIn K mainGlobals "lowered" = some (some (.ref f1))) (l1 : K.lookup f1 = some ⟨oc1, od1, .func (PySem.W.fnOf "lowered" "lowered" (defArgs s_lowered) (defBody s_lowered) (defScope s_lowered) .none kV1 dc1 pm1 an1 cd1 ct1), sl1⟩) (c1 : PySem.W.codeIn K cd1 "lowered" = true) (k1 : PySem.W.keepIn K (.ref f1) = true)
    {od2 an2 : Option Addr} {sl2 : Array (Option Value)} {oc2 kV2 dc2 pm2 cd2 ct2 : Value} {f2 : Addr}
    (a2 : PySem.W.nsIn K mainGlobals "raised" = some (some (.ref f2))) (l2 : K.lookup f2 = some ⟨oc2, od2, .func (PySem.W.fnOf "raised" "raised" (defArgs s_raised) (defBody s_raised) (defScope s_raised) .none kV2 dc2 pm2 an2 cd2 ct2), sl2⟩) (c2 : PySem.W.codeIn K cd2 "raised" = true) (k2 : PySem.W.keepIn K (.ref f2) = true)
    {od3 an3 : Option Addr} {sl3 : Array (Option Value)} {oc3 kV3 dc3 pm3 cd3 ct3 : Value} {f3 : Addr}
    (a3 : PySem.W.nsIn K mainGlobals "exchanged" = some (some (.ref f3))) (l3 : K.lookup f3 = some ⟨oc3, od3, .func (PySem.W.fnOf "exchanged" "exchanged" (defArgs s_exchanged) (defBody s_exchanged) (defScope s_exchanged) .none kV3 dc3 pm3 an3 cd3 ct3), sl3⟩) (c3 : PySem.W.codeIn K cd3 "exchanged" = true) (k3 : PySem.W.keepIn K (.ref f3) = true)
    {od4 an4 : Option Addr} {sl4 : Array (Option Value)} {oc4 kV4 dc4 pm4 cd4 ct4 : Value} {f4 : Addr}
    (a4 : PySem.W.nsIn K mainGlobals "_unmatched" = some (some (.ref f4))) (l4 : K.lookup f4 = some ⟨oc4, od4, .func (PySem.W.fnOf "_unmatched" "_unmatched" (defArgs s_unmatched) (defBody s_unmatched) (defScope s_unmatched) .none kV4 dc4 pm4 an4 cd4 ct4), sl4⟩) (c4 : PySem.W.codeIn K cd4 "_unmatched" = true) (k4 : PySem.W.keepIn K (.ref f4) = true)
    {od5 an5 : Option Addr} {sl5 : Array (Option Value)} {oc5 kV5 dc5 pm5 cd5 ct5 : Value} {f5 : Addr}
    (a5 : PySem.W.nsIn K mainGlobals "_with_letters" = some (some (.ref f5))) (l5 : K.lookup f5 = some ⟨oc5, od5, .func (PySem.W.fnOf "_with_letters" "_with_letters" (defArgs s_with_letters) (defBody s_with_letters) (defScope s_with_letters) .none kV5 dc5 pm5 an5 cd5 ct5), sl5⟩) (c5 : PySem.W.codeIn K cd5 "_with_letters" = true) (k5 : PySem.W.keepIn K (.ref f5) = true)
    {od6 an6 : Option Addr} {sl6 : Array (Option Value)} {oc6 kV6 dc6 pm6 cd6 ct6 : Value} {f6 : Addr}
    (a6 : PySem.W.nsIn K mainGlobals "_law_cell" = some (some (.ref f6))) (l6 : K.lookup f6 = some ⟨oc6, od6, .func (PySem.W.fnOf "_law_cell" "_law_cell" (defArgs s_law_cell) (defBody s_law_cell) (defScope s_law_cell) .none kV6 dc6 pm6 an6 cd6 ct6), sl6⟩) (c6 : PySem.W.codeIn K cd6 "_law_cell" = true) (k6 : PySem.W.keepIn K (.ref f6) = true)
    {od7 an7 : Option Addr} {sl7 : Array (Option Value)} {oc7 kV7 dc7 pm7 cd7 ct7 : Value} {f7 : Addr}
    (a7 : PySem.W.nsIn K mainGlobals "_law_stream" = some (some (.ref f7))) (l7 : K.lookup f7 = some ⟨oc7, od7, .func (PySem.W.fnOf "_law_stream" "_law_stream" (defArgs s_law_stream) (defBody s_law_stream) (defScope s_law_stream) .none kV7 dc7 pm7 an7 cd7 ct7), sl7⟩) (c7 : PySem.W.codeIn K cd7 "_law_stream" = true) (k7 : PySem.W.keepIn K (.ref f7) = true)
    {od8 an8 : Option Addr} {sl8 : Array (Option Value)} {oc8 kV8 dc8 pm8 cd8 ct8 : Value} {f8 : Addr}
    (a8 : PySem.W.nsIn K mainGlobals "_law_next" = some (some (.ref f8))) (l8 : K.lookup f8 = some ⟨oc8, od8, .func (PySem.W.fnOf "_law_next" "_law_next" (defArgs s_law_next) (defBody s_law_next) (defScope s_law_next) .none kV8 dc8 pm8 an8 cd8 ct8), sl8⟩) (c8 : PySem.W.codeIn K cd8 "_law_next" = true) (k8 : PySem.W.keepIn K (.ref f8) = true)
    {od9 an9 : Option Addr} {sl9 : Array (Option Value)} {oc9 kV9 dc9 pm9 cd9 ct9 : Value} {f9 : Addr}
    (a9 : PySem.W.nsIn K mainGlobals "_law_is_integer" = some (some (.ref f9))) (l9 : K.lookup f9 = some ⟨oc9, od9, .func (PySem.W.fnOf "_law_is_integer" "_law_is_integer" (defArgs s_law_is_integer) (defBody s_law_is_integer) (defScope s_law_is_integer) .none kV9 dc9 pm9 an9 cd9 ct9), sl9⟩) (c9 : PySem.W.codeIn K cd9 "_law_is_integer" = true) (k9 : PySem.W.keepIn K (.ref f9) = true)
    {od10 an10 : Option Addr} {sl10 : Array (Option Value)} {oc10 kV10 dc10 pm10 cd10 ct10 : Value} {f10 : Addr}
    (a10 : PySem.W.nsIn K mainGlobals "_law_is_word" = some (some (.ref f10))) (l10 : K.lookup f10 = some ⟨oc10, od10, .func (PySem.W.fnOf "_law_is_word" "_law_is_word" (defArgs s_law_is_word) (defBody s_law_is_word) (defScope s_law_is_word) .none kV10 dc10 pm10 an10 cd10 ct10), sl10⟩) (c10 : PySem.W.codeIn K cd10 "_law_is_word" = true) (k10 : PySem.W.keepIn K (.ref f10) = true)
    {od11 an11 : Option Addr} {sl11 : Array (Option Value)} {oc11 kV11 dc11 pm11 cd11 ct11 : Value} {f11 : Addr}
    (a11 : PySem.W.nsIn K mainGlobals "_law_there_and_back" = some (some (.ref f11))) (l11 : K.lookup f11 = some ⟨oc11, od11, .func (PySem.W.fnOf "_law_there_and_back" "_law_there_and_back" (defArgs s_law_there_and_back) (defBody s_law_there_and_back) (defScope s_law_there_and_back) .none kV11 dc11 pm11 an11 cd11 ct11), sl11⟩) (c11 : PySem.W.codeIn K cd11 "_law_there_and_back" = true) (k11 : PySem.W.keepIn K (.ref f11) = true)
    {od12 an12 : Option Addr} {sl12 : Array (Option Value)} {oc12 kV12 dc12 pm12 cd12 ct12 : Value} {f12 : Addr}
    (a12 : PySem.W.nsIn K mainGlobals "law" = some (some (.ref f12))) (l12 : K.lookup f12 = some ⟨oc12, od12, .func (PySem.W.fnOf "law" "law" (defArgs s_law) (defBody s_law) (defScope s_law) .none kV12 dc12 pm12 an12 cd12 ct12), sl12⟩) (c12 : PySem.W.codeIn K cd12 "law" = true) (k12 : PySem.W.keepIn K (.ref f12) = true)
    (z0 : PySem.W.nsIn K mainGlobals "bool" = some none)
    (z1 : PySem.W.nsIn K mainGlobals "enumerate" = some none)
    (z2 : PySem.W.nsIn K mainGlobals "int" = some none)
    (z3 : PySem.W.nsIn K mainGlobals "isinstance" = some none)
    (z4 : PySem.W.nsIn K mainGlobals "len" = some none)
    (z5 : PySem.W.nsIn K mainGlobals "list" = some none)
    (z6 : PySem.W.nsIn K mainGlobals "range" = some none)
    (z7 : PySem.W.nsIn K mainGlobals "zip" = some none)
    : ∃ fd : FuncData, (∀ (s : Shared) (v : Value), BindsTo s fd ⟨[v], []⟩ [("script", v)]) ∧ ∀ base : Heap, K.In base → base.Ns mainGlobals mg → FnOk l.prog w K mg base CX0 4 fa fd ["script"] (spLaw K) := by
  have e := hfa.symm.trans (PySem.W.mg_of X G a12)
  cases e
  have FL := fun_mk (st := s_law) l12 c12 k12
  have T : Txt K mg := {
    lowered := D1.mk' (ps := ["word", "number"]) X G a1 l1 c1 k1 (fun _ _ _ _ _ _ us hl => match us, hl with | [_, _], _ => rfl),
    raised := D1.mk' (ps := ["word", "number"]) X G a2 l2 c2 k2 (fun _ _ _ _ _ _ us hl => match us, hl with | [_, _], _ => rfl),
    exchanged := D1.mk' (ps := ["word", "number"]) X G a3 l3 c3 k3 (fun _ _ _ _ _ _ us hl => match us, hl with | [_, _], _ => rfl),
    unmatched := D1.mk' (ps := ["word", "number"]) X G a4 l4 c4 k4 (fun _ _ _ _ _ _ us hl => match us, hl with | [_, _], _ => rfl),
    with_letters := D1.mk' (ps := ["word", "indexes", "letters"]) X G a5 l5 c5 k5 (fun _ _ _ _ _ _ us hl => match us, hl with | [_, _, _], _ => rfl),
    law_cell := D1.mk' (ps := ["script", "k"]) X G a6 l6 c6 k6 (fun _ _ _ _ _ _ us hl => match us, hl with | [_, _], _ => rfl),
    law_stream := D1.mk' (ps := ["cell"]) X G a7 l7 c7 k7 (fun _ _ _ _ _ _ us hl => match us, hl with | [_], _ => rfl),
    law_next := D1.mk' (ps := ["stream", "size"]) X G a8 l8 c8 k8 (fun _ _ _ _ _ _ us hl => match us, hl with | [_, _], _ => rfl),
    law_is_integer := D1.mk' (ps := ["actual"]) X G a9 l9 c9 k9 (fun _ _ _ _ _ _ us hl => match us, hl with | [_], _ => rfl),
    law_is_word := D1.mk' (ps := ["actual"]) X G a10 l10 c10 k10 (fun _ _ _ _ _ _ us hl => match us, hl with | [_], _ => rfl),
    law_there_and_back := D1.mk' (ps := ["word", "number"]) X G a11 l11 c11 k11 (fun _ _ _ _ _ _ us hl => match us, hl with | [_, _], _ => rfl),
    bool := PySem.W.mg_none_of X G z0,
    enumerate := PySem.W.mg_none_of X G z1,
    int := PySem.W.mg_none_of X G z2,
    isinstance := PySem.W.mg_none_of X G z3,
    len := PySem.W.mg_none_of X G z4,
    list := PySem.W.mg_none_of X G z5,
    range := PySem.W.mg_none_of X G z6,
    zip := PySem.W.mg_none_of X G z7 }
  exact ⟨PySem.W.fnOf "law" "law" (defArgs s_law) (defBody s_law) (defScope s_law) .none kV12 dc12 pm12 an12 cd12 ct12, fun s v => .of_eq rfl, fun base _ _ => law_ok T FL⟩
end CP
open PySem PySem.W PyProof.Rows
set_option maxRecDepth 100000 in
set_option maxHeartbeats 0 in
theorem PySem.Challenge.cw_coverpapers_k27_exchanges_of_words_holds : PySem.Challenge.rw_coverpapers_k27_exchanges_of_words.Holds := by
  w_on; o_law; k_head; (case hw => w_witness2)
  k_fill
  refine L2.walk_of (l := PySem.Challenge.rw_coverpapers_k27_exchanges_of_words) (n := 63) (k := 4) (x := "script") (CX := fun _ => L2.CX0) (sp := fun w => CP.spLaw _) rfl (by decide) rfl ⟨rfl, by decide, by decide⟩ (fun w h Y => PySem.W.kIn_of Y) ?F (fun _ _ a ns hl hO hS => CP.law_end hl hO hS) (fun _ _ _ _ _ h => h)
  case F =>
    intro w mg fa h KX G hmg
    refine' CP.all_mk KX G hmg ?a1 ?l1 ?c1 ?k1 ?a2 ?l2 ?c2 ?k2 ?a3 ?l3 ?c3 ?k3 ?a4 ?l4 ?c4 ?k4 ?a5 ?l5 ?c5 ?k5 ?a6 ?l6 ?c6 ?k6 ?a7 ?l7 ?c7 ?k7 ?a8 ?l8 ?c8 ?k8 ?a9 ?l9 ?c9 ?k9 ?a10 ?l10 ?c10 ?k10 ?a11 ?l11 ?c11 ?k11 ?a12 ?l12 ?c12 ?k12 ?z0 ?z1 ?z2 ?z3 ?z4 ?z5 ?z6 ?z7
    (case a1 => k_is)
    (case l1 => k_is)
    (case c1 => k_is)
    (case k1 => k_is)
    (case a2 => k_is)
    (case l2 => k_is)
    (case c2 => k_is)
    (case k2 => k_is)
    (case a3 => k_is)
    (case l3 => k_is)
    (case c3 => k_is)
    (case k3 => k_is)
    (case a4 => k_is)
    (case l4 => k_is)
    (case c4 => k_is)
    (case k4 => k_is)
    (case a5 => k_is)
    (case l5 => k_is)
    (case c5 => k_is)
    (case k5 => k_is)
    (case a6 => k_is)
    (case l6 => k_is)
    (case c6 => k_is)
    (case k6 => k_is)
    (case a7 => k_is)
    (case l7 => k_is)
    (case c7 => k_is)
    (case k7 => k_is)
    (case a8 => k_is)
    (case l8 => k_is)
    (case c8 => k_is)
    (case k8 => k_is)
    (case a9 => k_is)
    (case l9 => k_is)
    (case c9 => k_is)
    (case k9 => k_is)
    (case a10 => k_is)
    (case l10 => k_is)
    (case c10 => k_is)
    (case k10 => k_is)
    (case a11 => k_is)
    (case l11 => k_is)
    (case c11 => k_is)
    (case k11 => k_is)
    (case a12 => k_is)
    (case l12 => k_is)
    (case c12 => k_is)
    (case k12 => k_is)
    (case z0 => k_is)
    (case z1 => k_is)
    (case z2 => k_is)
    (case z3 => k_is)
    (case z4 => k_is)
    (case z5 => k_is)
    (case z6 => k_is)
    (case z7 => k_is)
