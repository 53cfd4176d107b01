import PyProof.Rows.All
import Wide.All
import OpenK.AllK
import Wide.FinOn
import Open.SpecLaws
import KE.OsGo
import HandS.ForSpec
import HandS.Dict
import HandS.Comp
import HandS.Iter
import HandS.Text
import PyFlatLaws
import PySem.Challenge.RW_surelyforgotten_s01_answers
set_option Elab.async false
set_option maxRecDepth 100000
set_option maxHeartbeats 4000000
/-! ### 1. The mathematics: what is asked in a call as numbers; the way as the program goes it; the specification beside it -/
namespace My
open Ks189 (Ref Node Dev Ev Mix Page)
/-- an event's numbers -/
def encEv : Ev → List Nat
  | .know _ => [1]
  | .keep r => 2 :: r
  | .read p _ => [3, p]
  | .write p b => 4 :: p :: b
  | .any _ => [5]
  | .mix k _ => 6 :: k
def encs (l : List Ev) : List Nat := l.flatMap encEv
theorem encs_nil : encs [] = [] := rfl
theorem encs_append (a b : List Ev) : encs (a ++ b) = encs a ++ encs b := List.flatMap_append
theorem encs_one (e : Ev) : encs [e] = encEv e := by simp [encs]
theorem encs_snoc (a : List Ev) (e : Ev) : encs (a ++ [e]) = encs a ++ encEv e := by rw [encs_append, encs_one]
/-- the program's state: what lies outside, the call's script, what was asked in the call -/
structure S where
  dev : Dev
  scr : List Nat
  evs : List Ev
def S.tell (s : S) (e : Ev) : S := { s with dev := s.dev.on e, evs := s.evs ++ [e] }
def S.tells (s : S) (l : List Ev) : S := { s with dev := s.dev.after l, evs := s.evs ++ l }
theorem tells_nil (s : S) : s.tells [] = s := by
  unfold S.tells Dev.after
  rw [List.append_nil]
  rfl
theorem tells_append (s : S) (a b : List Ev) : s.tells (a ++ b) = (s.tells a).tells b := by
  unfold S.tells Dev.after
  simp only [List.foldl_append, List.append_assoc]
theorem tells_cons (s : S) (e : Ev) (l : List Ev) : s.tells (e :: l) = (s.tell e).tells l := by
  unfold S.tells S.tell Dev.after
  simp only [List.foldl_cons, List.append_assoc, List.singleton_append]
theorem tell_one (s : S) (e : Ev) : s.tells [e] = s.tell e := by rw [tells_cons, tells_nil]
/-! the way as the program goes it: nodes that aren't there are gone through, too -/
def raw (b : List Nat) : Node := ⟨⟨b.getD 64 0, b.take 32⟩, ⟨b.getD 65 0, (b.drop 32).take 32⟩⟩
theorem nodeOf_raw (b : List Nat) : Ks189.nodeOf b = if (raw b).l.copy ≤ 2 ∧ (raw b).r.copy ≤ 2 then some (raw b) else none := rfl
section
variable (f : Mix) (d : Dev) (i : Nat)
def readEvs (v : Nat) (x : Ref) : List Ev := [Ev.read (Ks189.pageOf v x.copy) (d.page (Ks189.pageOf v x.copy)), .mix x.key (f x.key)]
def kids (v : Nat) (x : Ref) : List Ev × Node :=
  if x.copy = 0 then ([], Ks189.empty) else (readEvs f d v x, raw (Ks189.xor (d.page (Ks189.pageOf v x.copy)) (f x.key)))
def walk : Nat → Nat → Ref → List Ev × Option (List Node × List Ref)
  | 0, _, _ => ([], some ([], []))
  | k + 1, deep, x => let q := kids f d (Ks189.nodeAt i deep) x
    if q.2.l.copy ≤ 2 ∧ q.2.r.copy ≤ 2 then
      let c := q.2.child (Ks189.right_ i deep)
      let y := walk k (deep + 1) c
      (q.1 ++ y.1, y.2.map fun z => (q.2 :: z.1, c :: z.2))
    else (q.1, none)
end
section
variable {f : Mix} {d : Dev} {i : Nat}
theorem child_empty (b : Bool) : Ks189.empty.child b = Ks189.none_ := by cases b <;> rfl
theorem kids_absent {v : Nat} {x : Ref} (h : x.copy = 0) : kids f d v x = ([], Ks189.empty) := if_pos h
theorem kids_there {v : Nat} {x : Ref} (h : ¬ x.copy = 0) : kids f d v x = (readEvs f d v x, raw (Ks189.xor (d.page (Ks189.pageOf v x.copy)) (f x.key))) := if_neg h
theorem walk_step {k deep : Nat} {x : Ref} (h : (kids f d (Ks189.nodeAt i deep) x).2.l.copy ≤ 2 ∧ (kids f d (Ks189.nodeAt i deep) x).2.r.copy ≤ 2) :
    walk f d i (k + 1) deep x = ((kids f d (Ks189.nodeAt i deep) x).1 ++ (walk f d i k (deep + 1) ((kids f d (Ks189.nodeAt i deep) x).2.child (Ks189.right_ i deep))).1,
      (walk f d i k (deep + 1) ((kids f d (Ks189.nodeAt i deep) x).2.child (Ks189.right_ i deep))).2.map fun z => ((kids f d (Ks189.nodeAt i deep) x).2 :: z.1, (kids f d (Ks189.nodeAt i deep) x).2.child (Ks189.right_ i deep) :: z.2)) := if_pos h
theorem walk_stop {k deep : Nat} {x : Ref} (h : ¬ ((kids f d (Ks189.nodeAt i deep) x).2.l.copy ≤ 2 ∧ (kids f d (Ks189.nodeAt i deep) x).2.r.copy ≤ 2)) :
    walk f d i (k + 1) deep x = ((kids f d (Ks189.nodeAt i deep) x).1, none) := if_neg h
theorem walk_absent : ∀ (k deep : Nat) (x : Ref), x.copy = 0 → walk f d i k deep x = ([], some (List.replicate k Ks189.empty, List.replicate k Ks189.none_))
  | 0, _, _, _ => rfl
  | k + 1, deep, x, h => by
    have e := kids_absent (f := f) (d := d) (v := Ks189.nodeAt i deep) h
    rw [walk_step (by rw [e]; exact ⟨by decide, by decide⟩), e]
    simp only [child_empty]
    rw [walk_absent k (deep + 1) Ks189.none_ rfl]
    rfl
theorem getD_rep {α : Type} (a : α) : ∀ (k j : Nat), (List.replicate k a).getD j a = a
  | 0, _ => rfl
  | _ + 1, 0 => rfl
  | k + 1, j + 1 => by
    rw [List.replicate_succ]
    exact getD_rep a k j
theorem had_cons (a : Nat × Node) (w : List (Nat × Node)) (j : Nat) : Ks189.had (a :: w) (j + 1) = Ks189.had w j := rfl
/-- the program's way beside the specification's -/
theorem go_walk : ∀ (k deep : Nat) (x : Ref),
    (∀ e, Ks189.go f d i k deep x = (e, none) → walk f d i k deep x = (e, none)) ∧
    (∀ e w y, Ks189.go f d i k deep x = (e, some (w, y)) → ∃ ns rs, walk f d i k deep x = (e, some (ns, rs)) ∧ ns.length = k ∧ rs.length = k ∧
      (∀ j, j < k → Ks189.had w j = (((x :: rs).getD j Ks189.none_).copy, ns.getD j Ks189.empty)) ∧ (x :: rs).getD k Ks189.none_ = if w.length = k then y else Ks189.none_)
  | 0, deep, x => by
    refine ⟨fun e h => ?_, fun e w y h => ?_⟩
    · have h2 : (([] : List Ev), some (([] : List (Nat × Node)), x)) = (e, none) := h
      cases h2
    · have h2 : (([] : List Ev), some (([] : List (Nat × Node)), x)) = (e, some (w, y)) := h
      cases h2
      exact ⟨[], [], rfl, rfl, rfl, fun j hj => absurd hj (Nat.not_lt_zero _), rfl⟩
  | k + 1, deep, x => by
    by_cases hx : x.copy = 0
    · have g : Ks189.go f d i (k + 1) deep x = ([], some ([], x)) := if_pos hx
      rw [g, walk_absent _ _ _ hx]
      refine ⟨fun e h => (by cases h), fun e w y h => ?_⟩
      cases h
      refine ⟨_, _, rfl, by simp, by simp, fun j hj => ?_, ?_⟩
      · rw [getD_rep]
        cases j with
        | zero => show (0, Ks189.empty) = (x.copy, Ks189.empty); rw [hx]
        | succ j =>
          show (0, Ks189.empty) = (((List.replicate (k + 1) Ks189.none_).getD j Ks189.none_).copy, Ks189.empty)
          rw [getD_rep]
          rfl
      · show (List.replicate (k + 1) Ks189.none_).getD k Ks189.none_ = Ks189.none_
        rw [getD_rep]
    · have kd := kids_there (f := f) (d := d) (v := Ks189.nodeAt i deep) hx
      have g : Ks189.go f d i (k + 1) deep x = (match Ks189.nodeOf (Ks189.xor (d.page (Ks189.pageOf (Ks189.nodeAt i deep) x.copy)) (f x.key)) with
        | none => (readEvs f d (Ks189.nodeAt i deep) x, none)
        | some n => (readEvs f d (Ks189.nodeAt i deep) x ++ (Ks189.go f d i k (deep + 1) (n.child (Ks189.right_ i deep))).1,
            (Ks189.go f d i k (deep + 1) (n.child (Ks189.right_ i deep))).2.map fun z => ((x.copy, n) :: z.1, z.2))) := if_neg hx
      rw [g, nodeOf_raw]
      generalize hr : raw (Ks189.xor (d.page (Ks189.pageOf (Ks189.nodeAt i deep) x.copy)) (f x.key)) = r at kd
      by_cases hc : r.l.copy ≤ 2 ∧ r.r.copy ≤ 2
      · rw [if_pos hc]
        rw [walk_step (by rw [kd]; exact hc), kd]
        obtain ⟨ih1, ih2⟩ := go_walk k (deep + 1) (r.child (Ks189.right_ i deep))
        dsimp only
        generalize hgo : Ks189.go f d i k (deep + 1) (r.child (Ks189.right_ i deep)) = go' at ih1 ih2 ⊢
        obtain ⟨e', o⟩ := go'
        cases o with
        | none =>
          rw [ih1 e' rfl]
          refine ⟨fun e h => ?_, fun e w y h => ?_⟩
          · cases h
            rfl
          · cases h
        | some wy =>
          obtain ⟨w', y'⟩ := wy
          obtain ⟨ns, rs, e1, l1, l2, hh, hl⟩ := ih2 e' w' y' rfl
          rw [e1]
          refine ⟨fun e h => (by cases h), fun e w y h => ?_⟩
          cases h
          refine ⟨_, _, rfl, by simp [l1], by simp [l2], fun j hj => ?_, ?_⟩
          · cases j with
            | zero => rfl
            | succ j => exact hh j (Nat.lt_of_succ_lt_succ hj)
          · show (r.child (Ks189.right_ i deep) :: rs).getD k Ks189.none_ = if w'.length + 1 = k + 1 then y' else Ks189.none_
            rw [hl]
            by_cases hw : w'.length = k
            · rw [if_pos hw, if_pos (by omega)]
            · rw [if_neg hw, if_neg (by omega)]
      · rw [if_neg hc]
        rw [walk_stop (by rw [kd]; exact hc), kd]
        dsimp only
        refine ⟨fun e h => ?_, fun e w y h => ?_⟩
        · cases h
          rfl
        · cases h
end
end My
/-! ### 2. The heap: how the program's things lie in it; what is kept -/
namespace My
open PySem PySem.Spec PyProof.Rows L2
open Ks189 (Ref Node Dev Ev)
/-- numbers as values -/
def vs (l : List Nat) : List V := l.map fun (n : Nat) => V.int (n : Int)
theorem vs_app (a b : List Nat) : vs (a ++ b) = vs a ++ vs b := List.map_append
theorem vs_len (l : List Nat) : (vs l).length = l.length := List.length_map _
theorem vs_take (n : Nat) (l : List Nat) : (vs l).take n = vs (l.take n) := List.map_take.symm
theorem vs_drop (n : Nat) (l : List Nat) : (vs l).drop n = vs (l.drop n) := List.map_drop.symm
theorem vs_get {l : List Nat} {i : Nat} (h : i < l.length) : (vs l)[i]? = some (.int ((l.getD i 0 : Nat) : Int)) := by
  unfold vs
  rw [List.getElem?_map, List.getD_eq_getElem?_getD, List.getElem?_eq_getElem h]
  rfl
theorem vs_at {l : List Nat} {i : Nat} (h : i < l.length) : atI (vs l) (i : Int) = some (.int ((l.getD i 0 : Nat) : Int)) := atI_nat (vs_get h)
theorem vs_cut {l : List Nat} {a b : Nat} (h : a ≤ b) (hb : b ≤ l.length) : cutV (vs l) (some (a : Int)) (some (b : Int)) = vs ((l.drop a).take (b - a)) := by
  unfold cutV
  rw [HT.sIx_nat, HT.sIx_nat, vs_len, Nat.min_eq_left hb, Nat.min_eq_left (Nat.le_trans h hb), vs_drop, vs_take]
theorem vs_from {l : List Nat} {a : Nat} (h : a ≤ l.length) : cutV (vs l) (some (a : Int)) none = vs (l.drop a) := by
  unfold cutV
  rw [HT.sIx_nat, HT.sIx_none, vs_len, Nat.min_eq_left h, vs_drop, vs_take]
  congr 1
  rw [List.take_of_length_le]
  rw [List.length_drop]
  exact Nat.le_refl _
theorem rep_one (n : Nat) (x : V) : (List.replicate n [x]).flatten = List.replicate n x := by
  induction n with
  | zero => rfl
  | succ n ih => rw [List.replicate_succ, List.flatten_cons, ih]; rfl
theorem vs_zeros (n : Nat) : vs (Ks189.zeros n) = List.replicate n (.int 0) := by
  unfold vs Ks189.zeros
  rw [List.map_replicate]
  rfl
theorem rep_zeros (n : Nat) : (List.replicate n [V.int 0]).flatten = vs (Ks189.zeros n) := by rw [rep_one, vs_zeros]
theorem zeros_len (n : Nat) : (Ks189.zeros n).length = n := List.length_replicate
/-! what is changed, what is kept -/
abbrev Own := Addr → Prop
def No : Own := fun _ => False
def OL (o pd an : Addr) : Own := fun b => b = o ∨ b = pd ∨ b = an
def Tr (M : Own) (H : Hp) : Prop := ∀ b, M b → ∃ u, H b = some u
def Keep (L : Own) (H H' : Hp) : Prop := ∀ b u, H b = some u → ¬ L b → H' b = some u
theorem Keep.refl {L : Own} {H : Hp} : Keep L H H := fun _ _ h _ => h
theorem Keep.trans {L : Own} {H H1 H2 : Hp} (a : Keep L H H1) (b : Keep L H1 H2) : Keep L H H2 := fun c u h n => b c u (a c u h n) n
theorem Keep.mono {L L' : Own} {H H' : Hp} (a : Keep L H H') (s : ∀ b, L b → L' b) : Keep L' H H' := fun c u h n => a c u h fun z => n (s c z)
theorem Keep.any {L : Own} {H H' : Hp} (a : Keep No H H') : Keep L H H' := a.mono fun _ z => z.elim
theorem Keep.new {H : Hp} {p : Addr} {u : HO} (h : H p = none) : Keep No H (upd H p u) := fun b x hb _ => by
  rw [upd_ne (ne_of_none hb h)]
  exact hb
theorem Keep.at {H : Hp} {a : Addr} {u : HO} : Keep (fun b => b = a) H (upd H a u) := fun b x hb n => by
  rw [upd_ne n]
  exact hb
theorem Keep.get {L : Own} {H H' : Hp} {a : Addr} {u : HO} (k : Keep L H H') (h : H a = some u) (n : ¬ L a) : H' a = some u := k a u h n
theorem Keep.is {H H' : Hp} {a : Addr} {u : HO} (k : Keep No H H') (h : H a = some u) : H' a = some u := k a u h fun z => z
theorem Keep.free {L : Own} {H H' : Hp} {p : Addr} (k : Keep L H H') (t : Tr L H') (h : H' p = none) : H p = none := by
  cases e : H p with
  | none => rfl
  | some u =>
    by_cases l : L p
    · obtain ⟨x, hx⟩ := t p l
      rw [hx] at h
      cases h
    · rw [k p u e l] at h
      cases h
theorem Keep.free0 {H H' : Hp} {p : Addr} (k : Keep No H H') (h : H' p = none) : H p = none := k.free (fun _ z => z.elim) h
theorem Keep.same {H H' : Hp} (k : ∀ b u, H b = some u → H' b = some u) : Keep No H H' := fun b u h _ => k b u h
theorem Tr.keep {L M : Own} {H H' : Hp} (t : Tr M H) (k : Keep L H H') (t' : Tr L H') : Tr M H' := fun b m => by
  by_cases l : L b
  · exact t' b l
  · obtain ⟨u, h⟩ := t b m
    exact ⟨u, k b u h l⟩
theorem Tr.keep0 {M : Own} {H H' : Hp} (t : Tr M H) (k : Keep No H H') : Tr M H' := t.keep k fun _ z => z.elim
theorem Tr.out {M : Own} {H : Hp} {p : Addr} (t : Tr M H) (h : H p = none) : ¬ M p := fun m => by
  obtain ⟨u, e⟩ := t p m
  rw [h] at e
  cases e
theorem Tr.no {H : Hp} : Tr No H := fun _ z => z.elim
/-! a list of numbers that nobody changes -/
def LstAt (M : Own) (H : Hp) (p : Addr) (l : List Nat) : Prop := H p = some (.lst (vs l)) ∧ ¬ M p
theorem LstAt.keep {M L : Own} {H H' : Hp} {p : Addr} {l : List Nat} (h : LstAt M H p l) (k : Keep L H H') (s : ∀ b, L b → M b) : LstAt M H' p l := ⟨k p _ h.1 fun z => h.2 (s p z), h.2⟩
theorem LstAt.keep0 {M : Own} {H H' : Hp} {p : Addr} {l : List Nat} (h : LstAt M H p l) (k : Keep No H H') : LstAt M H' p l := h.keep k fun _ z => z.elim
theorem LstAt.new {M : Own} {H H' : Hp} {p : Addr} {l : List Nat} (t : Tr M H) (n : H p = none) (h : H' p = some (.lst (vs l))) : LstAt M H' p l := ⟨h, t.out n⟩
theorem LstAt.less {M M' : Own} {H : Hp} {p : Addr} {l : List Nat} (h : LstAt M' H p l) (s : ∀ b, M b → M' b) : LstAt M H p l := ⟨h.1, fun z => h.2 (s p z)⟩
theorem LstAt.grow {M N : Own} {H H' : Hp} {p : Addr} {l : List Nat} (h : LstAt M H p l) (k : Keep No H H') (n : ∀ b, N b → H b = none) : LstAt (fun b => M b ∨ N b) H' p l :=
  ⟨k.is h.1, fun z => z.elim h.2 fun q => by
    have e := n p q
    rw [h.1] at e
    cases e⟩
/-! the fields -/
theorem lk_none {m : Str} : ∀ {fs : List (Str × V)} {ns : List Str}, fs.map (·.1) = ns → ns.contains m = false → fs.lookup m = none
  | [], _, _, _ => rfl
  | (g, x) :: r, _, rfl, h => by
    have h2 : (m == g || (r.map (·.1)).contains m) = false := h
    rw [Bool.or_eq_false_iff] at h2
    have ih := lk_none (m := m) (fs := r) rfl h2.2
    simp only [List.lookup, h2.1]
    exact ih
def nth (ns : List Str) (m : Str) : Nat → Bool
  | 0 => match ns with
    | [] => false
    | g :: _ => m == g
  | i + 1 => match ns with
    | [] => false
    | g :: r => !(m == g) && nth r m i
theorem lk_some {m : Str} {v : V} : ∀ {i : Nat} {fs : List (Str × V)} {ns : List Str}, fs.map (·.1) = ns → nth ns m i = true → (fs.map (·.2))[i]? = some v → fs.lookup m = some v
  | 0, [], _, rfl, h, _ => by cases h
  | 0, (g, x) :: r, _, rfl, h, e => by
    have h2 : (m == g) = true := h
    have e2 : x = v := Option.some.inj e
    simp only [List.lookup, h2, e2]
  | i + 1, [], _, rfl, h, _ => by cases h
  | i + 1, (g, x) :: r, _, rfl, h, e => by
    have h2 : (!(m == g) && nth (r.map (·.1)) m i) = true := h
    rw [Bool.and_eq_true, Bool.not_eq_true'] at h2
    have ih := lk_some (m := m) (v := v) (i := i) (fs := r) rfl h2.2 e
    simp only [List.lookup, h2.1]
    exact ih
theorem put_at {m : Str} {v : V} : ∀ {i : Nat} {fs : List (Str × V)} {ns : List Str}, fs.map (·.1) = ns → nth ns m i = true → putF m v fs = fs.set i (m, v)
  | 0, [], _, rfl, h => by cases h
  | 0, (g, x) :: r, _, rfl, h => by
    have h2 : (m == g) = true := h
    have h3 : m = g := beq_iff_eq.mp h2
    subst h3
    exact if_pos rfl
  | i + 1, [], _, rfl, h => by cases h
  | i + 1, (g, x) :: r, _, rfl, h => by
    have h2 : (!(m == g) && nth (r.map (·.1)) m i) = true := h
    rw [Bool.and_eq_true, Bool.not_eq_true'] at h2
    have h3 : ¬ g = m := fun z => by
      have h4 := h2.1
      rw [z, beq_self_eq_true] at h4
      cases h4
    have ih := put_at (m := m) (v := v) (i := i) (fs := r) rfl h2.2
    have e : putF m v ((g, x) :: r) = (g, x) :: putF m v r := if_neg h3
    rw [e, ih]
    rfl
theorem put_end {m : Str} {v : V} : ∀ {fs : List (Str × V)} {ns : List Str}, fs.map (·.1) = ns → ns.contains m = false → putF m v fs = fs ++ [(m, v)]
  | [], _, _, _ => rfl
  | (g, x) :: r, _, rfl, h => by
    have h2 : (m == g || (r.map (·.1)).contains m) = false := h
    rw [Bool.or_eq_false_iff] at h2
    have h3 : ¬ g = m := fun z => by
      have h4 := h2.1
      rw [z, beq_self_eq_true] at h4
      cases h4
    have ih := put_end (m := m) (v := v) (fs := r) rfl h2.2
    have e : putF m v ((g, x) :: r) = (g, x) :: putF m v r := if_neg h3
    rw [e, ih]
    rfl
/-- the classes -/
structure Cs where
  L : Addr
  O : Addr
  R : Addr
  W : Addr
def lN : List Str := ["copy_number", "key"]
def lF (c : Nat) (k : Addr) : List (Str × V) := [("copy_number", .int (c : Int)), ("key", .ref k)]
theorem lF_c (c : Nat) (k : Addr) : (lF c k).lookup ("copy_number" : Str) = some (.int (c : Int)) := lk_some (i := 0) (ns := lN) rfl (by decide +kernel) rfl
theorem lF_k (c : Nat) (k : Addr) : (lF c k).lookup ("key" : Str) = some (.ref k) := lk_some (i := 1) (ns := lN) rfl (by decide +kernel) rfl
theorem lF_no {m : Str} (c : Nat) (k : Addr) (h : lN.contains m = false) : (lF c k).lookup m = none := lk_none (ns := lN) rfl h
theorem lF_mk (c : Nat) (k : Addr) : putF "key" (.ref k) (putF "copy_number" (.int (c : Int)) []) = lF c k := put_end (fs := [("copy_number", .int (c : Int))]) (ns := ["copy_number"]) rfl (by decide +kernel)
def LinkAt (C : Cs) (M : Own) (H : Hp) (a : Addr) (x : Ref) : Prop := ∃ dx k, H a = some (.ins C.L dx (lF x.copy k)) ∧ ¬ M a ∧ LstAt M H k x.key ∧ x.key.length = 32
theorem LinkAt.keep {C : Cs} {M L : Own} {H H' : Hp} {a : Addr} {x : Ref} (h : LinkAt C M H a x) (k : Keep L H H') (s : ∀ b, L b → M b) : LinkAt C M H' a x := by
  obtain ⟨dx, ky, h1, h2, h3, h4⟩ := h
  exact ⟨dx, ky, k a _ h1 fun z => h2 (s a z), h2, h3.keep k s, h4⟩
theorem LinkAt.keep0 {C : Cs} {M : Own} {H H' : Hp} {a : Addr} {x : Ref} (h : LinkAt C M H a x) (k : Keep No H H') : LinkAt C M H' a x := h.keep k fun _ z => z.elim
theorem LinkAt.less {C : Cs} {M M' : Own} {H : Hp} {a : Addr} {x : Ref} (h : LinkAt C M' H a x) (s : ∀ b, M b → M' b) : LinkAt C M H a x := by
  obtain ⟨dx, ky, h1, h2, h3, h4⟩ := h
  exact ⟨dx, ky, h1, fun z => h2 (s a z), h3.less s, h4⟩
def KidsAt (C : Cs) (M : Own) (H : Hp) (p : Addr) (n : Node) : Prop := ∃ a b, H p = some (.lst [.ref a, .ref b]) ∧ ¬ M p ∧ LinkAt C M H a n.l ∧ LinkAt C M H b n.r
theorem KidsAt.keep {C : Cs} {M L : Own} {H H' : Hp} {p : Addr} {n : Node} (h : KidsAt C M H p n) (k : Keep L H H') (s : ∀ b, L b → M b) : KidsAt C M H' p n := by
  obtain ⟨a, b, h1, h2, h3, h4⟩ := h
  exact ⟨a, b, k p _ h1 fun z => h2 (s p z), h2, h3.keep k s, h4.keep k s⟩
theorem KidsAt.keep0 {C : Cs} {M : Own} {H H' : Hp} {p : Addr} {n : Node} (h : KidsAt C M H p n) (k : Keep No H H') : KidsAt C M H' p n := h.keep k fun _ z => z.elim
theorem KidsAt.less {C : Cs} {M M' : Own} {H : Hp} {p : Addr} {n : Node} (h : KidsAt C M' H p n) (s : ∀ b, M b → M' b) : KidsAt C M H p n := by
  obtain ⟨a, b, h1, h2, h3, h4⟩ := h
  exact ⟨a, b, h1, fun z => h2 (s p z), h3.less s, h4.less s⟩
/-! the object of what lies outside -/
def oN : List Str := ["in_register", "pages", "script", "asked_count", "asked_numbers"]
def oF (r pd sc : Addr) (k : Nat) (an : Addr) : List (Str × V) := [("in_register", .ref r), ("pages", .ref pd), ("script", .ref sc), ("asked_count", .int (k : Int)), ("asked_numbers", .ref an)]
section
variable (r pd sc : Addr) (k : Nat) (an : Addr)
theorem oF_r : (oF r pd sc k an).lookup ("in_register" : Str) = some (.ref r) := lk_some (i := 0) (ns := oN) rfl (by decide +kernel) rfl
theorem oF_p : (oF r pd sc k an).lookup ("pages" : Str) = some (.ref pd) := lk_some (i := 1) (ns := oN) rfl (by decide +kernel) rfl
theorem oF_s : (oF r pd sc k an).lookup ("script" : Str) = some (.ref sc) := lk_some (i := 2) (ns := oN) rfl (by decide +kernel) rfl
theorem oF_c : (oF r pd sc k an).lookup ("asked_count" : Str) = some (.int (k : Int)) := lk_some (i := 3) (ns := oN) rfl (by decide +kernel) rfl
theorem oF_n : (oF r pd sc k an).lookup ("asked_numbers" : Str) = some (.ref an) := lk_some (i := 4) (ns := oN) rfl (by decide +kernel) rfl
theorem oF_no {m : Str} (h : oN.contains m = false) : (oF r pd sc k an).lookup m = none := lk_none (ns := oN) rfl h
theorem oF_pr (x : Addr) : putF "in_register" (.ref x) (oF r pd sc k an) = oF x pd sc k an := put_at (i := 0) (ns := oN) rfl (by decide +kernel)
theorem oF_ps (x : Addr) : putF "script" (.ref x) (oF r pd sc k an) = oF r pd x k an := put_at (i := 2) (ns := oN) rfl (by decide +kernel)
theorem oF_pc (x : Nat) : putF "asked_count" (.int (x : Int)) (oF r pd sc k an) = oF r pd sc x an := put_at (i := 3) (ns := oN) rfl (by decide +kernel)
theorem oF_pn (x : Addr) : putF "asked_numbers" (.ref x) (oF r pd sc k an) = oF r pd sc k x := put_at (i := 4) (ns := oN) rfl (by decide +kernel)
end
def PagesAt (M : Own) (H : Hp) (pd : Addr) (pg : Nat → List Nat) (n : Nat) : Prop := ∃ kvs : List (Key × V), H pd = some (.dK kvs) ∧ kvs.length ≤ n ∧
  (∀ p : Nat, valV kvs (Sum.inl (p : Int)) = none → pg p = Ks189.zeros 96) ∧ (∀ (p : Nat) v, valV kvs (Sum.inl (p : Int)) = some v → ∃ a, v = .ref a ∧ LstAt M H a (pg p))
def Wf (d : Dev) : Prop := d.reg.length = 40 ∧ ∀ p, (d.page p).length = 96
structure OutAt (C : Cs) (M : Own) (H : Hp) (o pd an : Addr) (s : S) (n : Nat) : Prop where
  tr : Tr M H
  sub : ∀ b, OL o pd an b → M b
  ob : ∃ dx r sc, H o = some (.ins C.O dx (oF r pd sc s.evs.length an)) ∧ LstAt M H r s.dev.reg ∧ LstAt M H sc s.scr
  pg : PagesAt M H pd s.dev.page n
  nu : H an = some (.lst (vs (encs s.evs)))
  sz : (encs s.evs).length ≤ 100 * n
  wf : Wf s.dev
section
variable {C : Cs} {M : Own} {H H' : Hp} {o pd an : Addr} {s : S} {n : Nat}
theorem PagesAt.keep {L : Own} {pg : Nat → List Nat} (h : PagesAt M H pd pg n) (k : Keep L H H') (np : ¬ L pd) (hL : ∀ b, L b → M b) : PagesAt M H' pd pg n := by
  obtain ⟨kvs, h1, h2, h3, h4⟩ := h
  refine ⟨kvs, k pd _ h1 np, h2, h3, fun p v e => ?_⟩
  obtain ⟨a, e1, e2⟩ := h4 p v e
  exact ⟨a, e1, e2.keep k hL⟩
theorem PagesAt.up {pg : Nat → List Nat} {m : Nat} (h : PagesAt M H pd pg n) (hm : n ≤ m) : PagesAt M H pd pg m := by
  obtain ⟨kvs, h1, h2, h3⟩ := h
  exact ⟨kvs, h1, Nat.le_trans h2 hm, h3⟩
theorem OutAt.mo (h : OutAt C M H o pd an s n) : M o := h.sub o (.inl rfl)
theorem OutAt.mp (h : OutAt C M H o pd an s n) : M pd := h.sub pd (.inr (.inl rfl))
theorem OutAt.ma (h : OutAt C M H o pd an s n) : M an := h.sub an (.inr (.inr rfl))
theorem OutAt.frame {L : Own} (h : OutAt C M H o pd an s n) (k : Keep L H H') (hL : ∀ b, L b → M b ∧ ¬ OL o pd an b) (ht : Tr L H') : OutAt C M H' o pd an s n := by
  obtain ⟨dx, r, sc, h1, h2, h3⟩ := h.ob
  have s1 : ∀ b, L b → M b := fun b z => (hL b z).1
  exact ⟨h.tr.keep k ht, h.sub, ⟨dx, r, sc, k o _ h1 (fun z => (hL o z).2 (.inl rfl)), h2.keep k s1, h3.keep k s1⟩, h.pg.keep k (fun z => (hL pd z).2 (.inr (.inl rfl))) s1,
    k an _ h.nu (fun z => (hL an z).2 (.inr (.inr rfl))), h.sz, h.wf⟩
theorem OutAt.keep0 (h : OutAt C M H o pd an s n) (k : Keep No H H') : OutAt C M H' o pd an s n := h.frame k (fun _ z => z.elim) Tr.no
theorem OutAt.up {m : Nat} (h : OutAt C M H o pd an s n) (hm : n ≤ m) : OutAt C M H o pd an s m :=
  ⟨h.tr, h.sub, h.ob, h.pg.up hm, h.nu, Nat.le_trans h.sz (Nat.mul_le_mul_left 100 hm), h.wf⟩
theorem OutAt.grow {N : Own} (h : OutAt C M H o pd an s n) (k : Keep No H H') (nn : ∀ b, N b → H b = none) (nt : Tr N H') : OutAt C (fun b => M b ∨ N b) H' o pd an s n := by
  obtain ⟨dx, r, sc, h1, h2, h3⟩ := h.ob
  obtain ⟨kvs, p1, p2, p3, p4⟩ := h.pg
  refine ⟨fun b z => z.elim (h.tr.keep0 k b) (nt b), fun b z => .inl (h.sub b z), ⟨dx, r, sc, k.is h1, h2.grow k nn, h3.grow k nn⟩, ⟨kvs, k.is p1, p2, p3, fun p v e => ?_⟩, k.is h.nu, h.sz, h.wf⟩
  obtain ⟨a, e1, e2⟩ := p4 p v e
  exact ⟨a, e1, e2.grow k nn⟩
theorem OutAt.less {M' : Own} (h : OutAt C M' H o pd an s n) (w : ∀ b, M b → M' b) (sub : ∀ b, OL o pd an b → M b) : OutAt C M H o pd an s n := by
  obtain ⟨dx, r, sc, h1, h2, h3⟩ := h.ob
  obtain ⟨kvs, p1, p2, p3, p4⟩ := h.pg
  refine ⟨fun b z => h.tr b (w b z), sub, ⟨dx, r, sc, h1, h2.less w, h3.less w⟩, ⟨kvs, p1, p2, p3, fun p v e => ?_⟩, h.nu, h.sz, h.wf⟩
  obtain ⟨a, e1, e2⟩ := p4 p v e
  exact ⟨a, e1, e2.less w⟩
end
end My
/-! ### 3. The text by places; what the top has written -/
namespace My
open PySem PySem.Spec PyProof.Rows L2
def top (i : Nat) : Stmt := PySem.Challenge.pw_surelyforgotten_s01_answers.main.body.getD i (.Pass ⟨0, 0, 0, 0⟩)
/-- a name of the module that stands for a constant -/
def GV (mg : Str → Option Value) (x : Str) (v : V) : Prop := ∃ u, mg x = some u ∧ RelV v u
/-- a def of the module -/
def DefT (K : PySem.W.Frag) (mg : Str → Option Value) (x : Str) (st : Stmt) (ps : List Str) : Prop := ∃ f fd, mg x = some (.ref f) ∧ Fun K x x st f fd ∧ Binds K fd ps []
/-- a method of a class -/
def MetT (K : PySem.W.Frag) (C : Addr) (m qual : Str) (st : Stmt) (ps : List Str) : Prop := ∃ f fd, Meth K C m f ∧ Fun K m qual st f fd ∧ Binds K fd ps []
/-- a class's __init__ -/
def IniT (K : PySem.W.Frag) (C : Addr) (qual : Str) (st : Stmt) (ps : List Str) : Prop := ∃ f fd, Mk K C f ∧ Fun K "__init__" qual st f fd ∧ Binds K fd ps []
structure DefOk (P : Program) (w : World) (K : PySem.W.Frag) (mg : Str → Option Value) (base : Heap) (x : Str) (k : Nat) (ps : List Str) (sp : Sp) : Prop where
  ex : ∃ f fd, mg x = some (.ref f) ∧ PySem.W.keepIn K (.ref f) = true ∧ FnOk P w K mg base CX0 k f fd ps sp ∧ Binds K fd ps []
structure MetOk (P : Program) (w : World) (K : PySem.W.Frag) (mg : Str → Option Value) (base : Heap) (C : Addr) (m : Str) (k : Nat) (ps : List Str) (sp : Sp) : Prop where
  ex : ∃ f fd, Meth K C m f ∧ FnOk P w K mg base CX0 k f fd ps sp ∧ Binds K fd ps []
structure IniOk (P : Program) (w : World) (K : PySem.W.Frag) (mg : Str → Option Value) (base : Heap) (C : Addr) (k : Nat) (ps : List Str) (sp : Sp) : Prop where
  ex : ∃ f fd, Mk K C f ∧ FnOk P w K mg base CX0 k f fd ps sp ∧ Binds K fd ps []
section
variable {P : Program} {w : World} {K : PySem.W.Frag} {mg : Str → Option Value} {base : Heap} {C : Addr} {x m qual : Str} {st : Stmt} {ps : List Str} {sp : Sp} {k : Nat}
theorem DefT.ok (d : DefT K mg x st ps) (h : ∀ f fd, Fun K x x st f fd → FnOk P w K mg base CX0 k f fd ps sp) : DefOk P w K mg base x k ps sp := by
  obtain ⟨f, fd, e, F, b⟩ := d
  exact ⟨f, fd, e, F.kp, h f fd F, b⟩
theorem MetT.ok (d : MetT K C m qual st ps) (h : ∀ f fd, Fun K m qual st f fd → FnOk P w K mg base CX0 k f fd ps sp) : MetOk P w K mg base C m k ps sp := by
  obtain ⟨f, fd, e, F, b⟩ := d
  exact ⟨f, fd, e, h f fd F, b⟩
theorem IniT.ok (d : IniT K C qual st ps) (h : ∀ f fd, Fun K "__init__" qual st f fd → FnOk P w K mg base CX0 k f fd ps sp) : IniOk P w K mg base C k ps sp := by
  obtain ⟨f, fd, e, F, b⟩ := d
  exact ⟨f, fd, e, h f fd F, b⟩
end
section
variable {X : Cx} {k : Nat} {C : Addr} {ps : List Str} {sp : Sp} {x m : Str} {p pos apos : Pos} {e o : Expr} {es : List Expr} {ta : TE} {t : TA} {v : V}
theorem pe_gv (h : GV X.mg x v) (hg : Gl X x := by rfl) (hd : (x == ("__debug__" : Str)) = false := by decide) : PE X (.Name x pos) (tC v) := by
  obtain ⟨u, e, r⟩ := h
  exact pe_glob hg e r hd
theorem pe_d (D : DefOk X.prog X.w X.K X.mg X.base x k ps sp) (hr : Room k X.A) (ha : PA X (e :: es) t) (hg : Gl X x := by rfl) (hdb : (x == ("__debug__" : Str)) = false := by decide)
    (he : starEach (e :: es) X.env = (false, eval e X.env) :: starEach es X.env := by rfl) (hpl : (backTo pos (starEach es X.env)).any (·.1) = false := by rfl) : PE X (.Call (.Name x p) (e :: es) [] pos) (tCall sp [] E0 t) := by
  obtain ⟨f, fd, hm, hk, F, hb⟩ := D.ex
  exact pe_call F hr hg hm hk hb .nil pass0 ha hdb he hpl
theorem pe_d0 (D : DefOk X.prog X.w X.K X.mg X.base x k ps sp) (hr : Room k X.A) (hg : Gl X x := by rfl) (hdb : (x == ("__debug__" : Str)) = false := by decide) : PE X (.Call (.Name x p) [] [] pos) (tCall sp [] E0 tNil) := by
  obtain ⟨f, fd, hm, hk, F, hb⟩ := D.ex
  exact pe_call0 F hr hg hm hk hb .nil pass0 hdb
theorem pe_m {pl : Sem Bool} (D : MetOk X.prog X.w X.K X.mg X.base C m k ps sp) (c : Cls X.K C) (hr : Room k X.A) (he : PE X o ta) (ha : PA X (e :: es) t)
    (hst : starEach (e :: es) X.env = (false, eval e X.env) :: starEach es X.env := by rfl) (hpl : (backTo pos (starEach es X.env)).any (·.1) = false := by rfl)
    (ht : eval (.Call (.Attribute o m apos) (e :: es) [] pos) X.env = (do
      let ov ← eval o X.env
      standAt apos.atName
      let (f, first) ← holding [ov] (getMethod ov m pl)
      callWith pos f first (backTo pos (starEach (e :: es) X.env)) (backToKw pos (keywordEach [] X.env))) := by rfl) :
    PE X (.Call (.Attribute o m apos) (e :: es) [] pos) (tMeth C m sp [] E0 ta t) := by
  obtain ⟨f, fd, hm, F, hb⟩ := D.ex
  exact pe_meth he c hm F hr hb .nil pass0 ha hst hpl ht
theorem pe_m0 {pl : Sem Bool} (D : MetOk X.prog X.w X.K X.mg X.base C m k ps sp) (c : Cls X.K C) (hr : Room k X.A) (he : PE X o ta)
    (ht : eval (.Call (.Attribute o m apos) [] [] pos) X.env = (do
      let ov ← eval o X.env
      standAt apos.atName
      let (f, first) ← holding [ov] (getMethod ov m pl)
      callWith pos f first (backTo pos (starEach [] X.env)) (backToKw pos (keywordEach [] X.env))) := by rfl) :
    PE X (.Call (.Attribute o m apos) [] [] pos) (tMeth C m sp [] E0 ta tNil) := by
  obtain ⟨f, fd, hm, F, hb⟩ := D.ex
  exact pe_meth0 he c hm F hr hb .nil pass0 ht
theorem pe_i (D : IniOk X.prog X.w X.K X.mg X.base C k ps sp) (hm : X.mg x = some (.ref C)) (hr : Room (k + 1) X.A) (ha : PA X (e :: es) t) (hg : Gl X x := by rfl) (hdb : (x == ("__debug__" : Str)) = false := by decide)
    (he : starEach (e :: es) X.env = (false, eval e X.env) :: starEach es X.env := by rfl) (hpl : (backTo pos (starEach es X.env)).any (·.1) = false := by rfl) : PE X (.Call (.Name x p) (e :: es) [] pos) (tMake C sp [] E0 t) := by
  obtain ⟨f, fd, M, F, hb⟩ := D.ex
  exact pe_make M F hr hg hm hb .nil pass0 ha hdb he hpl
theorem pe_i0 (D : IniOk X.prog X.w X.K X.mg X.base C k ps sp) (hm : X.mg x = some (.ref C)) (hr : Room (k + 1) X.A) (hg : Gl X x := by rfl) (hdb : (x == ("__debug__" : Str)) = false := by decide) :
    PE X (.Call (.Name x p) [] [] pos) (tMake C sp [] E0 tNil) := by
  obtain ⟨f, fd, M, F, hb⟩ := D.ex
  exact pe_make0 M F hr hg hm hb .nil pass0 hdb
end
/-- a new instance and its dict -/
theorem made {H : Hp} {x dx : Addr} {C : Addr} (hx : H x = none) (hd : H dx = none) : Keep No H (upd (upd H dx (.own x)) x (.ins C dx [])) := fun b u h _ => by
  rw [upd_ne (ne_of_none h hx), upd_ne (ne_of_none h hd)]
  exact h
/-- what the top has written -/
structure Txt (K : PySem.W.Frag) (mg : Str → Option Value) (C : Cs) : Prop where
  cL : Cls K C.L
  cO : Cls K C.O
  cR : Cls K C.R
  cW : Cls K C.W
  nL1 : NoAttr K C.L "copy_number"
  nL2 : NoAttr K C.L "key"
  nO1 : NoAttr K C.O "in_register"
  nO2 : NoAttr K C.O "pages"
  nO3 : NoAttr K C.O "script"
  nO4 : NoAttr K C.O "asked_count"
  nO5 : NoAttr K C.O "asked_numbers"
  nR1 : NoAttr K C.R "numbers"
  nR2 : NoAttr K C.R "place"
  nW1 : NoAttr K C.W "nodes"
  nW2 : NoAttr K C.W "links"
  nW3 : NoAttr K C.W "branches"
  nW4 : NoAttr K C.W "refusal"
  gL : mg "Link" = some (.ref C.L)
  gO : mg "Outside" = some (.ref C.O)
  gR : mg "Reader" = some (.ref C.R)
  gW : mg "Way" = some (.ref C.W)
  kKey : GV mg "KEY_SIZE" (.int 32)
  kPage : GV mg "PAGE_SIZE" (.int 96)
  kData : GV mg "DATA_SIZE" (.int 64)
  kReg : GV mg "REGISTER_SIZE" (.int 40)
  kLeft : GV mg "LEFT_COPY_PLACE" (.int 64)
  kRight : GV mg "RIGHT_COPY_PLACE" (.int 65)
  kRoot : GV mg "ROOT_KEY_PLACE" (.int 4)
  kLast : GV mg "LAST_SLOT" (.int 1023)
  kLeaf : GV mg "FIRST_LEAF" (.int 1024)
  kDeep : GV mg "LEAF_DEPTH" (.int 10)
  kClear : GV mg "CLEAR" (.int 0)
  kPut : GV mg "PUT" (.int 1)
  kGet : GV mg "GET" (.int 2)
  kForget : GV mg "FORGET" (.int 3)
  kLayR : GV mg "LAY_REGISTER" (.int 4)
  kLayP : GV mg "LAY_PAGE" (.int 5)
  bRange : mg "range" = none
  bLen : mg "len" = none
  bList : mg "list" = none
end My
/-! ### 4. The module nodes -/
namespace My
open PySem PySem.Spec PyProof.Rows L2
open Ks189 (Ref Node Dev Ev)
section
variable {P : Program} {w : World} {K : PySem.W.Frag} {mg : Str → Option Value} {base : Heap} {C : Cs}
abbrev sLinkI : Stmt := inClass (top 8) 0
theorem scLinkI : FnScope ["self", "copy_number", "key"] ["self", "copy_number", "key"] (defScope sLinkI) := ⟨rfl, rfl, rfl, by decide +kernel, rfl, by decide +kernel, by decide +kernel⟩
def spLinkI (C : Cs) : Sp := fun vs H Q _ => ∃ (p dx k : Addr) (c : Nat), vs = [.ref p, .int (c : Int), .ref k] ∧ H p = some (.ins C.L dx []) ∧
  ∀ H', H' p = some (.ins C.L dx (lF c k)) → Keep (fun b => b = p) H H' → Q .non H'
theorem ok_LinkI (T : Txt K mg C) (f : Addr) (fd : FuncData) (F : Fun K "__init__" "Link.__init__" sLinkI f fd) : FnOk P w K mg base CX0 1 f fd ["self", "copy_number", "key"] (spLinkI C) := by
  refine F.ok scLinkI (fun vs H Q E h => ?_) (fun cdv A outer s H vs Q E hr h => ?_)
  · obtain ⟨p, dx, k, c, rfl, _⟩ := h
    rfl
  · obtain ⟨p, dx, k, c, rfl, hp, q⟩ := h
    refine ⟨_, pss_cons (ps_fld (pv 0) (pv 1) rfl) (pss_one (ps_fld (pv 0) (pv 2) rfl)), ?_⟩
    refine ⟨_, rfl, _, rfl, p, C.L, dx, [], rfl, hp, T.cL, T.nL1, (by show 0 < 1000; decide), ?_⟩
    refine ⟨_, rfl, _, rfl, p, C.L, dx, _, rfl, upd_same, T.cL, T.nL2, (by show 1 < 1000; decide), ?_⟩
    refine q _ ?_ ?_
    · rw [upd_same, lF_mk]
    · exact Keep.at.trans Keep.at
abbrev sIsThere : Stmt := inClass (top 8) 1
theorem scIsThere : FnScope ["self"] ["self"] (defScope sIsThere) := ⟨rfl, rfl, rfl, by decide +kernel, rfl, by decide +kernel, by decide +kernel⟩
def spIsThere (C : Cs) : Sp := fun vs H Q _ => ∃ (p dx k : Addr) (c : Nat), vs = [.ref p] ∧ H p = some (.ins C.L dx (lF c k)) ∧ Q (.bl (!decide (c = 0))) H
theorem ok_IsThere (T : Txt K mg C) (f : Addr) (fd : FuncData) (F : Fun K "is_there" "Link.is_there" sIsThere f fd) : FnOk P w K mg base CX0 1 f fd ["self"] (spIsThere C) := by
  refine F.ok scIsThere (fun vs H Q E h => ?_) (fun cdv A outer s H vs Q E hr h => ?_)
  · obtain ⟨p, dx, k, c, rfl, _⟩ := h
    rfl
  · obtain ⟨p, dx, k, c, rfl, hp, q⟩ := h
    refine ⟨_, pss_one (ps_ret (pe_cmpR op_ne (pe_fld (pv 0) rfl) pe_int (nomark _))), ?_⟩
    refine ⟨_, rfl, p, C.L, dx, _, _, rfl, hp, T.cL, T.nL1, lF_c c k, rfl, ?_⟩
    have e : decide (V.int (c : Int) = V.int 0) = decide (c = 0) := by
      rw [decide_eq_decide]
      constructor
      · intro z
        injection z with z
        exact Int.ofNat.inj z
      · intro z
        rw [z]
        rfl
    show Q (.bl (!decide (V.int (c : Int) = V.int 0))) H
    rw [e]
    exact q
abbrev sIsGarbage : Stmt := inClass (top 8) 2
theorem scIsGarbage : FnScope ["self"] ["self"] (defScope sIsGarbage) := ⟨rfl, rfl, rfl, by decide +kernel, rfl, by decide +kernel, by decide +kernel⟩
def spIsGarbage (C : Cs) : Sp := fun vs H Q _ => ∃ (p dx k : Addr) (c : Nat), vs = [.ref p] ∧ H p = some (.ins C.L dx (lF c k)) ∧ Q (.bl (decide (2 < c))) H
theorem ok_IsGarbage (T : Txt K mg C) (f : Addr) (fd : FuncData) (F : Fun K "is_garbage" "Link.is_garbage" sIsGarbage f fd) : FnOk P w K mg base CX0 1 f fd ["self"] (spIsGarbage C) := by
  refine F.ok scIsGarbage (fun vs H Q E h => ?_) (fun cdv A outer s H vs Q E hr h => ?_)
  · obtain ⟨p, dx, k, c, rfl, _⟩ := h
    rfl
  · obtain ⟨p, dx, k, c, rfl, hp, q⟩ := h
    refine ⟨_, pss_one (ps_ret (pe_cmpR op_gt (pe_fld (pv 0) rfl) pe_int (nomark _))), ?_⟩
    refine ⟨_, rfl, p, C.L, dx, _, _, rfl, hp, T.cL, T.nL1, lF_c c k, _, _, rfl, rfl, ?_⟩
    have e : decide ((2 : Int) < (c : Int)) = decide (2 < c) := by
      rw [decide_eq_decide]
      omega
    show Q (.bl (decide ((2 : Int) < (c : Int)))) H
    rw [e]
    exact q
/-- a new link, by its number and its key's list -/
theorem mkLink {M : Own} {H : Hp} {k : Addr} {x : Ref} {Q : Addr → Hp → Prop} (t : Tr M H) (hk : LstAt M H k x.key) (hl : x.key.length = 32) (q : ∀ H' a, Keep No H H' → H a = none → LinkAt C M H' a x → Q a H') :
    ∀ a dx, H a = none → H dx = none → dx ≠ a → spLinkI C [.ref a, .int (x.copy : Int), .ref k] (upd (upd H dx (.own a)) a (.ins C.L dx [])) (fun v H2 => v = .non ∧ Q a H2) E0 := by
  intro a dx ha hd ne
  refine ⟨a, dx, k, x.copy, rfl, upd_same, fun H' h1 h2 => ⟨rfl, ?_⟩⟩
  have k0 : Keep No H H' := fun b u hb n => h2 b u (made ha hd b u hb n) (ne_of_none hb ha)
  exact q H' a k0 ha ⟨dx, k, h1, t.out ha, hk.keep0 k0, hl⟩
abbrev sNoLink : Stmt := top 9
theorem scNoLink : FnScope [] [] (defScope sNoLink) := ⟨rfl, rfl, rfl, by decide +kernel, rfl, by decide +kernel, by decide +kernel⟩
def spNoLink (C : Cs) : Sp := fun vs H Q _ => ∃ M, vs = [] ∧ Tr M H ∧ ∀ H' a, Keep No H H' → LinkAt C M H' a Ks189.none_ → Q (.ref a) H'
theorem ok_NoLink (T : Txt K mg C) (iL : IniOk P w K mg base C.L 1 ["self", "copy_number", "key"] (spLinkI C)) (f : Addr) (fd : FuncData) (F : Fun K "no_link" "no_link" sNoLink f fd) : FnOk P w K mg base CX0 3 f fd [] (spNoLink C) := by
  refine F.ok scNoLink (fun vs H Q E h => ?_) (fun cdv A outer s H vs Q E hr h => ?_)
  · obtain ⟨M, rfl, _⟩ := h
    rfl
  · obtain ⟨M, rfl, t, q⟩ := h
    refine ⟨_, pss_one (ps_ret (pe_i iL T.gL hr (pa_cons pe_int (pa_cons (pe_op op_rep (pe_lst (pa_cons pe_int pa_nil)) (pe_gv T.kKey)) pa_nil)))), ?_⟩
    refine ⟨by show 1 ≤ sizeLine; decide, fun l hl => ⟨l, 32, [.int 0], rfl, rfl, upd_same, by decide, by decide, by decide, fun k hk => ?_⟩⟩
    have k1 : Keep No H (upd (upd H l (.lst [.int 0])) k (.lst (List.replicate (32 : Int).toNat [V.int 0]).flatten)) := (Keep.new hl).trans (Keep.new hk)
    refine mkLink (x := Ks189.none_) (t.keep0 k1) ⟨upd_same.trans (by rw [rep_zeros]; rfl), t.out ((Keep.new hl).free0 hk)⟩ rfl fun H' a h1 h2 h3 => q H' a (k1.trans h1) h3
end
end My
namespace My
open PySem PySem.Spec PyProof.Rows L2
open Ks189 (Ref Node Dev Ev)
section
variable {P : Program} {w : World} {K : PySem.W.Frag} {mg : Str → Option Value} {base : Heap} {C : Cs}
abbrev sOther : Stmt := top 10
theorem scOther : FnScope ["copy_number"] ["copy_number"] (defScope sOther) := ⟨rfl, rfl, rfl, by decide +kernel, rfl, by decide +kernel, by decide +kernel⟩
def spOther : Sp := fun vs H Q _ => ∃ (c : Nat), vs = [.int (c : Int)] ∧ Q (.int ((Ks189.other c : Nat) : Int)) H
theorem ok_Other (f : Addr) (fd : FuncData) (F : Fun K "other_copy" "other_copy" sOther f fd) : FnOk P w K mg base CX0 1 f fd ["copy_number"] spOther := by
  refine F.ok scOther (fun vs H Q E h => ?_) (fun cdv A outer s H vs Q E hr h => ?_)
  · obtain ⟨c, rfl, _⟩ := h
    rfl
  · obtain ⟨c, rfl, q⟩ := h
    refine ⟨_, pss_cons (ps_if (pt_cmpR op_eq (pv 0) pe_int (nomark _)) (pss_one (ps_ret pe_int)) pss_nil) (pss_one (ps_ret pe_int)), ?_⟩
    refine ⟨_, rfl, rfl, _, rfl, ?_⟩
    by_cases e : c = 1
    · subst e
      exact q
    · have e1 : decide (V.int (c : Int) = V.int 1) = false := by
        refine decide_eq_false fun z => e ?_
        injection z with z
        exact Int.ofNat.inj z
      rw [e1]
      have e2 : Ks189.other c = 2 - 1 := if_neg e
      rw [e2] at q
      exact q
abbrev sPageOf : Stmt := top 11
theorem scPageOf : FnScope ["node", "copy_number"] ["node", "copy_number"] (defScope sPageOf) := ⟨rfl, rfl, rfl, by decide +kernel, rfl, by decide +kernel, by decide +kernel⟩
def spPageOf : Sp := fun vs H Q _ => ∃ (v c : Nat), vs = [.int (v : Int), .int (c : Int)] ∧ 1 ≤ 2 * v + c ∧ Q (.int ((Ks189.pageOf v c : Nat) : Int)) H
theorem ok_PageOf (f : Addr) (fd : FuncData) (F : Fun K "page_of" "page_of" sPageOf f fd) : FnOk P w K mg base CX0 1 f fd ["node", "copy_number"] spPageOf := by
  refine F.ok scPageOf (fun vs H Q E h => ?_) (fun cdv A outer s H vs Q E hr h => ?_)
  · obtain ⟨v, c, rfl, _⟩ := h
    rfl
  · obtain ⟨v, c, rfl, h1, q⟩ := h
    refine ⟨_, pss_one (ps_ret (pe_op op_sub (pe_op op_add (pe_op op_mul pe_int (pv 0)) (pv 1)) pe_int)), ?_⟩
    refine ⟨_, rfl, _, _, rfl, rfl, .inl ⟨by decide, by decide⟩, _, rfl, _, _, rfl, rfl, _, _, rfl, rfl, ?_⟩
    have e : ((Ks189.pageOf v c : Nat) : Int) = 2 * (v : Int) + (c : Int) - 1 := by
      unfold Ks189.pageOf
      omega
    rw [e] at q
    exact q
/-- the subscript of a list, within a comprehension, too -/
theorem ix_listK {X : Cx} {K : PySem.W.Frag} (h : X.K = K := by rfl) : IxR X (rIxL K) := by
  subst h
  exact ix_list
/-- a list that a comprehension over 96 places makes -/
theorem row_snoc (g : Nat → Nat) (i : Nat) : vs ((List.range i).map g) ++ [V.int ((g i : Nat) : Int)] = vs ((List.range (i + 1)).map g) := by
  rw [List.range_succ, List.map_append, vs_app]
  rfl
theorem row_len (g : Nat → Nat) (i : Nat) : (vs ((List.range i).map g)).length = i := by rw [vs_len, List.length_map, List.length_range]
abbrev sPad : Stmt := top 12
theorem scPad : FnScope ["key", "i"] ["key"] (defScope sPad) := ⟨rfl, rfl, rfl, by decide +kernel, rfl, by decide +kernel, by decide +kernel⟩
def spPad : Sp := fun vs H Q _ => ∃ (k : Addr) (key : List Nat), vs = [.ref k] ∧ H k = some (.lst (My.vs key)) ∧ key.length = 32 ∧
  ∀ H' p, Keep No H H' → H p = none → H' p = some (.lst (My.vs (Ks189Neutral.pad key))) → Q (.ref p) H'
theorem ok_Pad (T : Txt K mg C) (f : Addr) (fd : FuncData) (F : Fun K "pad_of" "pad_of" sPad f fd) : FnOk P w K mg base CX0 1 f fd ["key"] spPad := by
  refine F.ok scPad (fun vs H Q E h => ?_) (fun cdv A outer s H vs Q E hr h => ?_)
  · obtain ⟨k, key, rfl, _⟩ := h
    rfl
  · obtain ⟨k, key, rfl, hk, hl, q⟩ := h
    refine ⟨_, pss_one (ps_ret (pe_lc (own := [("i", 1)]) (g := gName 1) (tt := tYes) rfl scPad.nd (pi_range1 rfl T.bRange (pa_cons (pe_gv T.kPage) pa_nil))
      (blkOk_by (own := [("i", 1)]) (N := ["key", "i"]) (sc := defScope sPad) (by decide +kernel)) (fun _ _ _ _ _ => pg_name (i := 1) scPad.nd rfl (Or.inl rfl)) (fun _ _ _ _ _ => pts_nil)
      (fun _ _ _ _ _ => pe_op op_mod (pe_op op_add (pe_op op_mul (pe_ix (ix_listK (K := K)) (pv 0) (pe_op op_mod (pv 1) (pe_gv T.kKey)) (fun _ _ => rfl)) pe_int) (pv 1)) pe_int))), ?_⟩
    refine ⟨96, rfl, by decide, by decide, fun D hD => ?_⟩
    refine lc_range (lo := 0) (n := 96) (fun i H' => Keep No H H' ∧ H' D = some (.lst (My.vs ((List.range i).map fun i => (key.getD (i % 32) 0 * 5 + i) % 256)))) ⟨Keep.new hD, upd_same⟩ ?_ ?_
    · rintro i H1 hi ⟨k1, h1⟩
      refine ⟨rfl, ?_⟩
      refine ⟨_, rfl, _, rfl, _, _, rfl, rfl, (by show (0 : Int) < 32; decide), ?_⟩
      have e1 : (0 + (i : Int)) % 32 = ((i % 32 : Nat) : Int) := by omega
      refine ⟨k, _, _, _, rfl, rfl, SqL.of (k1.is hk), (by rw [e1]; exact vs_at (by rw [hl]; exact Nat.mod_lt _ (by decide))), ?_⟩
      refine ⟨_, _, rfl, rfl, .inr ⟨by decide, by decide⟩, _, rfl, _, _, rfl, rfl, _, _, rfl, rfl, (by show (0 : Int) < 256; decide), ?_⟩
      refine ⟨_, h1, (by rw [row_len]; exact Nat.lt_trans hi (by decide)), fun b u hb n => ?_, ?_⟩
      · rw [upd_ne (ne_of_none hb hD)]
        exact k1.is hb
      · rw [upd_same]
        refine congrArg (fun z => some (HO.lst z)) ?_
        rw [← row_snoc]
        refine congrArg (fun z => _ ++ [V.int z]) ?_
        omega
    · rintro H1 ⟨k1, h1⟩
      exact q H1 D k1 hD h1
theorem xor_nat (a b : Nat) : Builtin.bitXor (a : Int) (b : Int) = ((a ^^^ b : Nat) : Int) := Bits.bitXor_pp (Int.natCast_nonneg a) (Int.natCast_nonneg b)
theorem xor_row {a b : List Nat} (ha : a.length = 96) (hb : b.length = 96) : Ks189.xor a b = (List.range 96).map fun i => a.getD i 0 ^^^ b.getD i 0 := by
  apply List.ext_getElem?
  intro i
  unfold Ks189.xor
  by_cases h : i < 96
  · have h1 : i < a.length := by omega
    have h2 : i < b.length := by omega
    rw [List.getElem?_map, List.getElem?_range h, List.getElem?_zipWith, List.getElem?_eq_getElem h1, List.getElem?_eq_getElem h2]
    show some (a[i] ^^^ b[i]) = some (a.getD i 0 ^^^ b.getD i 0)
    rw [List.getD_eq_getElem?_getD, List.getD_eq_getElem?_getD, List.getElem?_eq_getElem h1, List.getElem?_eq_getElem h2]
    rfl
  · rw [List.getElem?_eq_none, List.getElem?_eq_none]
    · simp
      omega
    · simp
      omega
theorem xor_len {a b : List Nat} (ha : a.length = 96) (hb : b.length = 96) : (Ks189.xor a b).length = 96 := by
  rw [xor_row ha hb, List.length_map, List.length_range]
theorem pad_len (k : List Nat) : (Ks189Neutral.pad k).length = 96 := by
  unfold Ks189Neutral.pad
  rw [List.length_map, List.length_range]
abbrev sXor : Stmt := top 13
theorem scXor : FnScope ["content", "pad", "i"] ["content", "pad"] (defScope sXor) := ⟨rfl, rfl, rfl, by decide +kernel, rfl, by decide +kernel, by decide +kernel⟩
def spXor : Sp := fun vs H Q _ => ∃ (a b : Addr) (x y : List Nat), vs = [.ref a, .ref b] ∧ H a = some (.lst (My.vs x)) ∧ H b = some (.lst (My.vs y)) ∧ x.length = 96 ∧ y.length = 96 ∧
  ∀ H' p, Keep No H H' → H p = none → H' p = some (.lst (My.vs (Ks189.xor x y))) → Q (.ref p) H'
theorem ok_Xor (T : Txt K mg C) (f : Addr) (fd : FuncData) (F : Fun K "xor_bytes" "xor_bytes" sXor f fd) : FnOk P w K mg base CX0 1 f fd ["content", "pad"] spXor := by
  refine F.ok scXor (fun vs H Q E h => ?_) (fun cdv A outer s H vs Q E hr h => ?_)
  · obtain ⟨a, b, x, y, rfl, _⟩ := h
    rfl
  · obtain ⟨a, b, x, y, rfl, ha, hb, lx, ly, q⟩ := h
    refine ⟨_, pss_one (ps_ret (pe_lc (own := [("i", 2)]) (g := gName 2) (tt := tYes) rfl scXor.nd (pi_range1 rfl T.bRange (pa_cons (pe_gv T.kPage) pa_nil))
      (blkOk_by (own := [("i", 2)]) (N := ["content", "pad", "i"]) (sc := defScope sXor) (by decide +kernel)) (fun _ _ _ _ _ => pg_name (i := 2) scXor.nd rfl (Or.inl rfl)) (fun _ _ _ _ _ => pts_nil)
      (fun _ _ _ _ _ => pe_op op_xor (pe_ix (ix_listK (K := K)) (pv 0) (pv 2) (fun _ _ => rfl)) (pe_ix (ix_listK (K := K)) (pv 1) (pv 2) (fun _ _ => rfl))))), ?_⟩
    refine ⟨96, rfl, by decide, by decide, fun D hD => ?_⟩
    rw [xor_row lx ly] at q
    refine lc_range (lo := 0) (n := 96) (fun i H' => Keep No H H' ∧ H' D = some (.lst (My.vs ((List.range i).map fun i => x.getD i 0 ^^^ y.getD i 0)))) ⟨Keep.new hD, upd_same⟩ ?_ ?_
    · rintro i H1 hi ⟨k1, h1⟩
      refine ⟨rfl, ?_⟩
      have e1 : 0 + (i : Int) = (i : Int) := by omega
      refine ⟨_, rfl, _, rfl, a, _, _, _, rfl, rfl, SqL.of (k1.is ha), (by rw [e1]; exact vs_at (by rw [lx]; exact hi)), ?_⟩
      refine ⟨_, rfl, _, rfl, b, _, _, _, rfl, rfl, SqL.of (k1.is hb), (by rw [e1]; exact vs_at (by rw [ly]; exact hi)), ?_⟩
      refine ⟨_, _, rfl, rfl, ?_⟩
      refine ⟨_, h1, (by rw [row_len]; exact Nat.lt_trans hi (by decide)), fun b u hb n => ?_, ?_⟩
      · rw [upd_ne (ne_of_none hb hD)]
        exact k1.is hb
      · rw [upd_same]
        refine congrArg (fun z => some (HO.lst z)) ?_
        rw [← row_snoc]
        exact congrArg (fun z => _ ++ [V.int z]) (xor_nat _ _)
    · rintro H1 ⟨k1, h1⟩
      exact q H1 D k1 hD h1
end
end My
namespace My
open PySem PySem.Spec PyProof.Rows L2
open Ks189 (Ref Node Dev Ev)
section
variable {P : Program} {w : World} {K : PySem.W.Frag} {mg : Str → Option Value} {base : Heap} {C : Cs}
theorem ne_new {H : Hp} {a b : Addr} {u v : HO} (h : H a = some u) (n : H b = none) : upd H b v a = some u := by
  rw [upd_ne (ne_of_none h n)]
  exact h
abbrev sLeafC : Stmt := top 14
theorem scLeafC : FnScope ["data"] ["data"] (defScope sLeafC) := ⟨rfl, rfl, rfl, by decide +kernel, rfl, by decide +kernel, by decide +kernel⟩
def spLeafC : Sp := fun vs H Q _ => ∃ (a : Addr) (x : List Nat), vs = [.ref a] ∧ H a = some (.lst (My.vs x)) ∧ x.length ≤ 1000 ∧
  ∀ H' p, Keep No H H' → H p = none → H' p = some (.lst (My.vs (x ++ Ks189.zeros 32))) → Q (.ref p) H'
theorem ok_LeafC (T : Txt K mg C) (f : Addr) (fd : FuncData) (F : Fun K "leaf_content" "leaf_content" sLeafC f fd) : FnOk P w K mg base CX0 1 f fd ["data"] spLeafC := by
  refine F.ok scLeafC (fun vs H Q E h => ?_) (fun cdv A outer s H vs Q E hr h => ?_)
  · obtain ⟨a, x, rfl, _⟩ := h
    rfl
  · obtain ⟨a, x, rfl, ha, hl, q⟩ := h
    refine ⟨_, pss_one (ps_ret (pe_op op_cat (pv 0) (pe_op op_rep (pe_lst (pa_cons pe_int pa_nil)) (pe_op op_sub (pe_gv T.kPage) (pe_gv T.kData))))), ?_⟩
    refine ⟨_, rfl, by show 1 ≤ sizeLine; decide, fun l hl1 => ⟨_, _, rfl, rfl, l, 32, [.int 0], rfl, rfl, upd_same, by decide, by decide, by decide, fun z hz => ?_⟩⟩
    have k1 := (Keep.new (u := .lst [V.int 0]) hl1).trans (Keep.new (u := .lst (List.replicate (32 : Int).toNat [V.int 0]).flatten) hz)
    refine ⟨a, z, _, _, rfl, rfl, k1.is ha, upd_same, ?_, fun p hp => ?_⟩
    · rw [rep_zeros, vs_len, vs_len, zeros_len]
      exact Nat.le_trans (Nat.add_le_add_right hl _) (by decide)
    · refine q _ p (k1.trans (Keep.new hp)) (k1.free0 hp) ?_
      rw [upd_same, rep_zeros, vs_app]
      rfl
theorem raw_lens {b : List Nat} (h : b.length = 96) : (raw b).l.key.length = 32 ∧ (raw b).r.key.length = 32 := by
  constructor
  · show (b.take 32).length = 32
    rw [List.length_take]
    omega
  · show ((b.drop 32).take 32).length = 32
    rw [List.length_take, List.length_drop]
    omega
abbrev sBranchC : Stmt := top 15
theorem scBranchC : FnScope ["children", "left", "right", "told"] ["children"] (defScope sBranchC) := ⟨rfl, rfl, rfl, by decide +kernel, rfl, by decide +kernel, by decide +kernel⟩
def spBranchC (C : Cs) : Sp := fun vs H Q _ => ∃ (M : Own) (p : Addr) (n : Node), vs = [.ref p] ∧ KidsAt C M H p n ∧
  ∀ H' q, Keep No H H' → H q = none → H' q = some (.lst (My.vs n.bytes)) → Q (.ref q) H'
theorem node_len {n : Node} (hl : n.l.key.length = 32) (hr : n.r.key.length = 32) : n.bytes.length = 96 := by
  unfold Ks189.Node.bytes
  rw [List.length_append, List.length_append, List.length_append, hl, hr, zeros_len]
  rfl
theorem ok_BranchC (T : Txt K mg C) (f : Addr) (fd : FuncData) (F : Fun K "branch_content" "branch_content" sBranchC f fd) : FnOk P w K mg base CX0 1 f fd ["children"] (spBranchC C) := by
  refine F.ok scBranchC (fun vs H Q E h => ?_) (fun cdv A outer s H vs Q E hr h => ?_)
  · obtain ⟨M, p, n, rfl, _⟩ := h
    rfl
  · obtain ⟨M, p, n, rfl, ⟨a, b, hp, _, ⟨da, ka, ha, _, la, na⟩, ⟨db, kb, hb, _, lb, nb⟩⟩, q⟩ := h
    refine ⟨_, pss_cons (ps_set (i := 1) scBranchC.nd rfl (Or.inl rfl) (pe_ix ix_list (pv 0) pe_int (fun _ _ => rfl)))
      (pss_cons (ps_set (i := 2) scBranchC.nd rfl (Or.inl rfl) (pe_ix ix_list (pv 0) pe_int (fun _ _ => rfl)))
      (pss_cons (ps_set (i := 3) scBranchC.nd rfl (Or.inl rfl) (pe_op op_cat (pe_op op_cat (pe_fld (pv 1) rfl) (pe_fld (pv 2) rfl)) (pe_lst (pa_cons (pe_fld (pv 1) rfl) (pa_cons (pe_fld (pv 2) rfl) pa_nil)))))
      (pss_one (ps_ret (pe_op op_cat (pv 3) (pe_op op_rep (pe_lst (pa_cons pe_int pa_nil)) (pe_op op_sub (pe_gv T.kPage) (pe_callB call_len_seq (by rfl) T.bLen PySem.boot_len (pa_cons (pv 3) pa_nil))))))))), ?_⟩
    refine ⟨_, rfl, p, _, _, _, rfl, rfl, SqL.of hp, atI_nat (j := 0) rfl, ?_⟩
    refine ⟨_, rfl, p, _, _, _, rfl, rfl, SqL.of hp, atI_nat (j := 1) rfl, ?_⟩
    refine ⟨_, rfl, a, C.L, da, _, _, rfl, ha, T.cL, T.nL2, lF_k _ _, _, rfl, b, C.L, db, _, _, rfl, hb, T.cL, T.nL2, lF_k _ _, ?_⟩
    refine ⟨ka, kb, _, _, rfl, rfl, la.1, lb.1, by rw [vs_len, vs_len, na, nb]; decide, fun l1 h1 => ?_⟩
    refine ⟨_, rfl, a, C.L, da, _, _, rfl, ne_new ha h1, T.cL, T.nL1, lF_c _ _, _, rfl, b, C.L, db, _, _, rfl, ne_new hb h1, T.cL, T.nL1, lF_c _ _, by show 2 ≤ sizeLine; decide, fun l2 h2 => ?_⟩
    refine ⟨l1, l2, _, _, rfl, rfl, ne_new upd_same h2, upd_same, ?_, fun l3 h3 => ?_⟩
    · rw [List.length_append, vs_len, vs_len, na, nb]
      show 32 + 32 + 2 ≤ sizeLine
      decide
    refine ⟨_, rfl, by show 1 ≤ sizeLine; decide, fun l4 h4 => ?_⟩
    have tl : (My.vs n.l.key ++ My.vs n.r.key ++ [V.int (n.l.copy : Int), V.int (n.r.copy : Int)]).length = 66 := by
      rw [List.length_append, List.length_append, vs_len, vs_len, na, nb]
      rfl
    refine ⟨_, rfl, l3, _, rfl, .inl (SqL.of (ne_new upd_same h4)), _, _, rfl, rfl, l4, 30, [.int 0], rfl, ?_, upd_same, by decide, by decide, by decide, fun l5 h5 => ?_⟩
    · rw [tl]
      rfl
    refine ⟨l3, l5, _, _, rfl, rfl, ne_new (ne_new upd_same h4) h5, upd_same, ?_, fun l6 h6 => ?_⟩
    · rw [tl, rep_zeros, vs_len, zeros_len]
      decide
    have k1 := (((((Keep.new (u := .lst (My.vs n.l.key ++ My.vs n.r.key)) h1).trans (Keep.new h2)).trans (Keep.new h3)).trans (Keep.new h4)).trans (Keep.new (u := .lst (List.replicate (Int.toNat 30) [V.int 0]).flatten) h5))
    refine q _ l6 (k1.trans (Keep.new h6)) (k1.free0 h6) ?_
    rw [upd_same, rep_zeros]
    refine congrArg (fun z => some (HO.lst z)) ?_
    unfold Ks189.Node.bytes
    rw [vs_app, vs_app, vs_app]
    rfl
/-- a link of a number and a cut list -/
abbrev sKidsIn : Stmt := top 16
theorem scKidsIn : FnScope ["content", "left", "right"] ["content"] (defScope sKidsIn) := ⟨rfl, rfl, rfl, by decide +kernel, rfl, by decide +kernel, by decide +kernel⟩
def spKidsIn (C : Cs) : Sp := fun vs H Q _ => ∃ (M : Own) (a : Addr) (b : List Nat), vs = [.ref a] ∧ Tr M H ∧ H a = some (.lst (My.vs b)) ∧ b.length = 96 ∧
  ∀ H' p, Keep No H H' → H p = none → KidsAt C M H' p (raw b) → Q (.ref p) H'
theorem ok_KidsIn (T : Txt K mg C) (iL : IniOk P w K mg base C.L 1 ["self", "copy_number", "key"] (spLinkI C)) (f : Addr) (fd : FuncData) (F : Fun K "children_in" "children_in" sKidsIn f fd) : FnOk P w K mg base CX0 3 f fd ["content"] (spKidsIn C) := by
  refine F.ok scKidsIn (fun vs H Q E h => ?_) (fun cdv A outer s H vs Q E hr h => ?_)
  · obtain ⟨M, a, b, rfl, _⟩ := h
    rfl
  · obtain ⟨M, a, b, rfl, t, ha, lb, q⟩ := h
    refine ⟨_, pss_cons (ps_set (i := 1) scKidsIn.nd rfl (Or.inl rfl) (pe_i iL T.gL hr (pa_cons (pe_ix ix_list (pv 0) (pe_gv T.kLeft) (fun _ _ => rfl)) (pa_cons (pe_slice sl_list (pv 0) (po_some pe_int) (po_some (pe_gv T.kKey))) pa_nil))))
      (pss_cons (ps_set (i := 2) scKidsIn.nd rfl (Or.inl rfl) (pe_i iL T.gL hr (pa_cons (pe_ix ix_list (pv 0) (pe_gv T.kRight) (fun _ _ => rfl)) (pa_cons (pe_slice sl_list (pv 0) (po_some (pe_gv T.kKey)) (po_some (pe_op op_mul pe_int (pe_gv T.kKey)))) pa_nil))))
      (pss_one (ps_ret (pe_lst (pa_cons (pv 1) (pa_cons (pv 2) pa_nil)))))), ?_⟩
    have i1 : cutV (My.vs b) (some 0) (some 32) = My.vs (raw b).l.key := by
      refine (vs_cut (a := 0) (b := 32) (by decide) (by omega)).trans ?_
      rfl
    have i2 : cutV (My.vs b) (some 32) (some 64) = My.vs (raw b).r.key := (vs_cut (a := 32) (b := 64) (by decide) (by omega)).trans rfl
    refine ⟨_, rfl, a, _, _, _, rfl, rfl, SqL.of ha, vs_at (i := 64) (by omega), _, rfl, 0, rfl, 32, rfl, a, _, rfl, SqL.of ha, fun l1 h1 => ?_⟩
    have k1 := Keep.new (u := .lst (cutV (My.vs b) (some 0) (some 32))) h1
    refine mkLink (x := (raw b).l) (t.keep0 k1) ⟨upd_same.trans (by rw [i1]), t.out h1⟩ (raw_lens lb).1 fun H2 x k2 _ L2 => ?_
    have k3 := k1.trans k2
    refine ⟨_, rfl, a, _, _, _, rfl, rfl, SqL.of (k3.is ha), vs_at (i := 65) (by omega), _, rfl, 32, rfl, _, _, rfl, rfl, .inl ⟨by decide, by decide⟩, ?_⟩
    refine ⟨64, rfl, a, _, rfl, SqL.of (k3.is ha), fun l4 h4 => ?_⟩
    have k4 := k3.trans (Keep.new (u := .lst (cutV (My.vs b) (some 32) (some 64))) h4)
    refine mkLink (x := (raw b).r) (t.keep0 k4) ⟨upd_same.trans (by rw [i2]), t.out (k3.free0 h4)⟩ (raw_lens lb).2 fun H5 y k5 _ L5 => ?_
    refine ⟨_, rfl, _, rfl, by show 2 ≤ sizeLine; decide, fun p hp => ?_⟩
    have k6 := k4.trans k5
    have k7 := Keep.new (u := .lst [V.ref x, V.ref y]) hp
    refine q _ p (k6.trans k7) (k6.free0 hp) ⟨x, y, upd_same, t.out (k6.free0 hp), ?_, L5.keep0 k7⟩
    exact L2.keep0 (((Keep.new h4).trans k5).trans k7)
abbrev sRegC : Stmt := top 17
theorem scRegC : FnScope ["root", "told"] ["root"] (defScope sRegC) := ⟨rfl, rfl, rfl, by decide +kernel, rfl, by decide +kernel, by decide +kernel⟩
def spRegC (C : Cs) : Sp := fun vs H Q _ => ∃ (M : Own) (p : Addr) (x : Ref), vs = [.ref p] ∧ LinkAt C M H p x ∧
  ∀ H' q, Keep No H H' → H q = none → H' q = some (.lst (My.vs ([x.copy, 0, 0, 0] ++ x.key ++ Ks189.zeros 4))) → Q (.ref q) H'
theorem ok_RegC (T : Txt K mg C) (f : Addr) (fd : FuncData) (F : Fun K "register_content" "register_content" sRegC f fd) : FnOk P w K mg base CX0 1 f fd ["root"] (spRegC C) := by
  refine F.ok scRegC (fun vs H Q E h => ?_) (fun cdv A outer s H vs Q E hr h => ?_)
  · obtain ⟨M, p, x, rfl, _⟩ := h
    rfl
  · obtain ⟨M, p, x, rfl, ⟨d, k, hp, _, lk, nk⟩, q⟩ := h
    refine ⟨_, pss_cons (ps_set (i := 1) scRegC.nd rfl (Or.inl rfl) (pe_op op_cat (pe_lst (pa_cons (pe_fld (pv 0) rfl) (pa_cons pe_int (pa_cons pe_int (pa_cons pe_int pa_nil))))) (pe_fld (pv 0) rfl)))
      (pss_one (ps_ret (pe_op op_cat (pv 1) (pe_op op_rep (pe_lst (pa_cons pe_int pa_nil)) (pe_op op_sub (pe_gv T.kReg) (pe_callB call_len_seq (by rfl) T.bLen PySem.boot_len (pa_cons (pv 1) pa_nil))))))), ?_⟩
    refine ⟨_, rfl, p, C.L, d, _, _, rfl, hp, T.cL, T.nL1, lF_c _ _, by show 4 ≤ sizeLine; decide, fun l1 h1 => ?_⟩
    refine ⟨_, rfl, p, C.L, d, _, _, rfl, ne_new hp h1, T.cL, T.nL2, lF_k _ _, ?_⟩
    refine ⟨l1, k, _, _, rfl, rfl, upd_same, ne_new lk.1 h1, ?_, fun l2 h2 => ?_⟩
    · rw [vs_len, nk]
      show 4 + 32 ≤ sizeLine
      decide
    have tl : ([V.int (x.copy : Int), V.int 0, V.int 0, V.int 0] ++ My.vs x.key).length = 36 := by
      rw [List.length_append, vs_len, nk]
      rfl
    refine ⟨_, rfl, by show 1 ≤ sizeLine; decide, fun l3 h3 => ?_⟩
    refine ⟨_, rfl, l2, _, rfl, .inl (SqL.of (ne_new upd_same h3)), _, _, rfl, rfl, l3, 4, [.int 0], rfl, ?_, upd_same, by decide, by decide, by decide, fun l4 h4 => ?_⟩
    · rw [tl]
      rfl
    refine ⟨l2, l4, _, _, rfl, rfl, ne_new (ne_new upd_same h3) h4, upd_same, ?_, fun l5 h5 => ?_⟩
    · rw [tl, rep_zeros, vs_len, zeros_len]
      decide
    have k1 := ((((Keep.new (u := .lst [V.int (x.copy : Int), V.int 0, V.int 0, V.int 0]) h1).trans (Keep.new h2)).trans (Keep.new h3)).trans (Keep.new (u := .lst (List.replicate (Int.toNat 4) [V.int 0]).flatten) h4))
    refine q _ l5 (k1.trans (Keep.new h5)) (k1.free0 h5) ?_
    rw [upd_same, rep_zeros]
    refine congrArg (fun z => some (HO.lst z)) ?_
    rw [vs_app, vs_app]
    rfl
abbrev sRootIn : Stmt := top 18
theorem scRootIn : FnScope ["content"] ["content"] (defScope sRootIn) := ⟨rfl, rfl, rfl, by decide +kernel, rfl, by decide +kernel, by decide +kernel⟩
def spRootIn (C : Cs) : Sp := fun vs H Q _ => ∃ (M : Own) (a : Addr) (b : List Nat), vs = [.ref a] ∧ Tr M H ∧ H a = some (.lst (My.vs b)) ∧ b.length = 40 ∧
  ∀ H' p, Keep No H H' → H p = none → LinkAt C M H' p (Ks189.rootOf b) → Q (.ref p) H'
theorem ok_RootIn (T : Txt K mg C) (iL : IniOk P w K mg base C.L 1 ["self", "copy_number", "key"] (spLinkI C)) (f : Addr) (fd : FuncData) (F : Fun K "root_in" "root_in" sRootIn f fd) : FnOk P w K mg base CX0 3 f fd ["content"] (spRootIn C) := by
  refine F.ok scRootIn (fun vs H Q E h => ?_) (fun cdv A outer s H vs Q E hr h => ?_)
  · obtain ⟨M, a, b, rfl, _⟩ := h
    rfl
  · obtain ⟨M, a, b, rfl, t, ha, lb, q⟩ := h
    refine ⟨_, pss_one (ps_ret (pe_i iL T.gL hr (pa_cons (pe_ix ix_list (pv 0) pe_int (fun _ _ => rfl)) (pa_cons (pe_slice sl_list (pv 0) (po_some (pe_gv T.kRoot)) (po_some (pe_op op_add (pe_gv T.kRoot) (pe_gv T.kKey)))) pa_nil)))), ?_⟩
    have i1 : cutV (My.vs b) (some 4) (some 36) = My.vs (Ks189.rootOf b).key := (vs_cut (a := 4) (b := 36) (by decide) (by omega)).trans rfl
    have i2 : b.getD 0 0 = (Ks189.rootOf b).copy := by
      show b.getD 0 0 = b.headD 0
      cases b <;> rfl
    have i3 : (Ks189.rootOf b).key.length = 32 := by
      show ((b.drop 4).take 32).length = 32
      rw [List.length_take, List.length_drop]
      omega
    have i4 : atI (My.vs b) 0 = some (V.int ((Ks189.rootOf b).copy : Int)) := by
      rw [← i2]
      exact vs_at (i := 0) (by omega)
    refine ⟨_, rfl, a, _, _, _, rfl, rfl, SqL.of ha, i4, _, rfl, 4, rfl, _, _, rfl, rfl, 36, rfl, a, _, rfl, SqL.of ha, fun l1 h1 => ?_⟩
    have k1 := Keep.new (u := .lst (cutV (My.vs b) (some 4) (some 36))) h1
    refine mkLink (x := Ks189.rootOf b) (t.keep0 k1) ⟨upd_same.trans (by rw [i1]), t.out h1⟩ i3 fun H2 x k2 n2 L2 => ?_
    exact q H2 x (k1.trans k2) (k1.free0 n2) L2
end
end My
/-! ### 5. The module outside -/
namespace My
open PySem PySem.Spec PyProof.Rows L2
open Ks189 (Ref Node Dev Ev)
section
variable {C : Cs} {M : Own} {H H' : Hp} {o pd an : Addr} {s : S} {n : Nat}
/-- the numbers of events that are counted -/
def BIG : Nat := 150000
theorem OutAt.n1 (h : OutAt C M H o pd an s n) : an ≠ o := by
  obtain ⟨dx, r, sc, h1, _⟩ := h.ob
  exact ne_of h.nu h1 fun z => by cases z
theorem OutAt.n2 (h : OutAt C M H o pd an s n) : pd ≠ o := by
  obtain ⟨dx, r, sc, h1, _⟩ := h.ob
  obtain ⟨kvs, p1, _⟩ := h.pg
  exact ne_of p1 h1 fun z => by cases z
theorem OutAt.n3 (h : OutAt C M H o pd an s n) : pd ≠ an := by
  obtain ⟨kvs, p1, _⟩ := h.pg
  exact ne_of p1 h.nu fun z => by cases z
/-- what is changed of the three is told anew -/
theorem OutAt.next {s' : S} {n' : Nat} (h : OutAt C M H o pd an s n) (k : Keep (OL o pd an) H H') {dx r sc : Addr} (ho : H' o = some (.ins C.O dx (oF r pd sc s'.evs.length an))) (hr : LstAt M H' r s'.dev.reg) (hs : LstAt M H' sc s'.scr)
    (hp : PagesAt M H' pd s'.dev.page n') (hn : H' an = some (.lst (vs (encs s'.evs)))) (sz : (encs s'.evs).length ≤ 100 * n') (wf : Wf s'.dev) : OutAt C M H' o pd an s' n' := by
  refine ⟨h.tr.keep k fun b z => ?_, h.sub, ⟨dx, r, sc, ho, hr, hs⟩, hp, hn, sz, wf⟩
  rcases z with rfl | rfl | rfl
  · exact ⟨_, ho⟩
  · obtain ⟨kvs, p1, _⟩ := hp
    exact ⟨_, p1⟩
  · exact ⟨_, hn⟩
theorem keepO (k : Keep (fun b => b = o) H H') : Keep (OL o pd an) H H' := k.mono fun _ z => .inl z
theorem keep_o {u : HO} : Keep (OL o pd an) H (upd H o u) := keepO Keep.at
theorem keep_p {u : HO} : Keep (OL o pd an) H (upd H pd u) := Keep.at.mono fun _ z => .inr (.inl z)
theorem keep_n {u : HO} : Keep (OL o pd an) H (upd H an u) := Keep.at.mono fun _ z => .inr (.inr z)
theorem LstAt.out {l : List Nat} {p : Addr} (hp : LstAt M H p l) (h : OutAt C M H o pd an s n) (k : Keep (OL o pd an) H H') : LstAt M H' p l := hp.keep k h.sub
theorem enc_len (e : Ev) (h : (encEv e).length ≤ 100) {l : List Ev} (hl : (encs l).length ≤ 100 * n) : (encs (l ++ [e])).length ≤ 100 * (n + 1) := by
  rw [encs_snoc, List.length_append]
  omega
end
theorem oF_mk (r pd sc an : Addr) : putF "asked_numbers" (.ref an) (putF "asked_count" (.int 0) (putF "script" (.ref sc) (putF "pages" (.ref pd) (putF "in_register" (.ref r) [])))) = oF r pd sc 0 an := by
  have e1 : putF "in_register" (.ref r) ([] : List (Str × V)) = ([("in_register", .ref r)] : List (Str × V)) := rfl
  have e2 : putF "pages" (.ref pd) ([("in_register", .ref r)] : List (Str × V)) = ([("in_register", .ref r), ("pages", .ref pd)] : List (Str × V)) := put_end (ns := ["in_register"]) rfl (by decide +kernel)
  have e3 : putF "script" (.ref sc) ([("in_register", .ref r), ("pages", .ref pd)] : List (Str × V)) = ([("in_register", .ref r), ("pages", .ref pd), ("script", .ref sc)] : List (Str × V)) := put_end (ns := ["in_register", "pages"]) rfl (by decide +kernel)
  have e4 : putF "asked_count" (.int 0) ([("in_register", .ref r), ("pages", .ref pd), ("script", .ref sc)] : List (Str × V)) = ([("in_register", .ref r), ("pages", .ref pd), ("script", .ref sc), ("asked_count", .int 0)] : List (Str × V)) := put_end (ns := ["in_register", "pages", "script"]) rfl (by decide +kernel)
  rw [e1, e2, e3, e4]
  exact put_end (ns := ["in_register", "pages", "script", "asked_count"]) rfl (by decide +kernel)
section
variable {P : Program} {w : World} {K : PySem.W.Frag} {mg : Str → Option Value} {base : Heap} {C : Cs}
abbrev sOutI : Stmt := inClass (top 20) 0
theorem scOutI : FnScope ["self"] ["self"] (defScope sOutI) := ⟨rfl, rfl, rfl, by decide +kernel, rfl, by decide +kernel, by decide +kernel⟩
def spOutI (C : Cs) : Sp := fun vs H Q _ => ∃ (o dx : Addr), vs = [.ref o] ∧ H o = some (.ins C.O dx []) ∧
  ∀ H' r pd sc an, H' o = some (.ins C.O dx (oF r pd sc 0 an)) → H' r = some (.lst (My.vs (Ks189.zeros 40))) → H' pd = some (.dK []) → H' sc = some (.lst []) → H' an = some (.lst []) →
    H r = none → H pd = none → H sc = none → H an = none → r ≠ an → sc ≠ an → Keep (fun b => b = o) H H' → Q .non H'
theorem ok_OutI (T : Txt K mg C) (f : Addr) (fd : FuncData) (F : Fun K "__init__" "Outside.__init__" sOutI f fd) : FnOk P w K mg base CX0 1 f fd ["self"] (spOutI C) := by
  refine F.ok scOutI (fun vs H Q E h => ?_) (fun cdv A outer s H vs Q E hr h => ?_)
  · obtain ⟨o, dx, rfl, _⟩ := h
    rfl
  · obtain ⟨o, dx, rfl, ho, q⟩ := h
    refine ⟨_, pss_cons (ps_fld (pv 0) (pe_op op_rep (pe_lst (pa_cons pe_int pa_nil)) (pe_gv T.kReg)) rfl) (pss_cons (ps_fld (pv 0) pe_dnewK rfl) (pss_cons (ps_fld (pv 0) (pe_lst pa_nil) rfl)
      (pss_cons (ps_fld (pv 0) pe_int rfl) (pss_one (ps_fld (pv 0) (pe_lst pa_nil) rfl))))), ?_⟩
    refine ⟨by show 1 ≤ sizeLine; decide, fun l hl => ⟨_, 40, [.int 0], rfl, rfl, upd_same, by decide, by decide, by decide, fun r hr' => ?_⟩⟩
    refine ⟨_, rfl, o, C.O, dx, [], rfl, ne_new (ne_new ho hl) hr', T.cO, T.nO1, (by show 0 < 1000; decide), ?_⟩
    intro pd hpd
    refine ⟨_, rfl, o, C.O, dx, _, rfl, ne_new upd_same hpd, T.cO, T.nO2, (by show 1 < 1000; decide), ?_⟩
    refine ⟨by show 0 ≤ sizeLine; decide, fun sc hsc => ?_⟩
    refine ⟨_, rfl, o, C.O, dx, _, rfl, ne_new upd_same hsc, T.cO, T.nO3, (by show 2 < 1000; decide), ?_⟩
    refine ⟨_, rfl, o, C.O, dx, _, rfl, upd_same, T.cO, T.nO4, (by show 3 < 1000; decide), ?_⟩
    refine ⟨by show 0 ≤ sizeLine; decide, fun an han => ?_⟩
    refine ⟨_, rfl, o, C.O, dx, _, rfl, ne_new upd_same han, T.cO, T.nO5, (by show 4 < 1000; decide), ?_⟩
    -- the heaps, one behind the other
    generalize hH2 : upd (upd H l (.lst [V.int 0])) r (.lst (List.replicate (Int.toNat 40) [V.int 0]).flatten) = H2 at *
    have k2 : Keep No H H2 := by
      subst hH2
      exact (Keep.new hl).trans (Keep.new hr')
    have r2 : H2 r = some (.lst (My.vs (Ks189.zeros 40))) := by
      subst hH2
      rw [upd_same, rep_zeros]
      rfl
    have rn : H r = none := (Keep.new hl).free0 hr'
    generalize hH3 : upd H2 o (.ins C.O dx (putF "in_register" (.ref r) [])) = H3 at *
    have k3 : Keep (fun b => b = o) H H3 := by
      subst hH3
      exact k2.any.trans Keep.at
    have o3 : Tr (fun b => b = o) H3 := by
      subst hH3
      rintro b rfl
      exact ⟨_, upd_same⟩
    have ro : r ≠ o := fun z => by
      rw [z, k2.is ho] at r2
      cases r2
    have r3 : H3 r = some (.lst (My.vs (Ks189.zeros 40))) := by
      subst hH3
      rw [upd_ne ro]
      exact r2
    have pn : H pd = none := k3.free o3 hpd
    have pr : pd ≠ r := fun z => by
      rw [z, r3] at hpd
      cases hpd
    have po : pd ≠ o := fun z => by
      rw [z, ho] at pn
      cases pn
    generalize hH4 : upd (upd H3 pd (.dK [])) o (.ins C.O dx (putF "pages" (.ref pd) (putF "in_register" (.ref r) []))) = H4 at *
    have k4 : Keep (fun b => b = o) H H4 := by
      subst hH4
      exact (k3.trans (Keep.new hpd).any).trans Keep.at
    have o4 : Tr (fun b => b = o) H4 := by
      subst hH4
      rintro b rfl
      exact ⟨_, upd_same⟩
    have r4 : H4 r = some (.lst (My.vs (Ks189.zeros 40))) := by
      subst hH4
      rw [upd_ne ro, upd_ne pr.symm]
      exact r3
    have p4 : H4 pd = some (.dK []) := by
      subst hH4
      rw [upd_ne po, upd_same]
    have sn : H sc = none := k4.free o4 hsc
    have so : sc ≠ o := fun z => by
      rw [z, ho] at sn
      cases sn
    generalize hH5 : upd (upd (upd H4 sc (.lst [])) o (.ins C.O dx (putF "script" (.ref sc) (putF "pages" (.ref pd) (putF "in_register" (.ref r) []))))) o
      (.ins C.O dx (putF "asked_count" (.int 0) (putF "script" (.ref sc) (putF "pages" (.ref pd) (putF "in_register" (.ref r) []))))) = H5 at *
    have k5 : Keep (fun b => b = o) H H5 := by
      subst hH5
      exact ((k4.trans (Keep.new hsc).any).trans Keep.at).trans Keep.at
    have k45 : Keep (fun b => b = o) H4 H5 := by
      subst hH5
      exact ((Keep.new hsc).any.trans Keep.at).trans Keep.at
    have o5 : Tr (fun b => b = o) H5 := by
      subst hH5
      rintro b rfl
      exact ⟨_, upd_same⟩
    have s5 : H5 sc = some (.lst []) := by
      subst hH5
      rw [upd_ne so, upd_ne so, upd_same]
    have r5 := k45 r _ r4 ro
    have p5 := k45 pd _ p4 po
    have nn : H an = none := k5.free o5 han
    have no : an ≠ o := fun z => by
      rw [z, ho] at nn
      cases nn
    refine q _ r pd sc an ?_ ?_ ?_ ?_ ?_ rn pn sn nn (ne_of_none r5 han) (ne_of_none s5 han) ?_
    · rw [upd_same]
      refine congrArg (fun z => some (HO.ins C.O dx z)) ?_
      exact oF_mk r pd sc an
    · rw [upd_ne ro]
      exact ne_new r5 han
    · rw [upd_ne po]
      exact ne_new p5 han
    · rw [upd_ne so]
      exact ne_new s5 han
    · rw [upd_ne no, upd_same]
    · exact (k5.trans (Keep.new han).any).trans Keep.at
end
end My
namespace My
open PySem PySem.Spec PyProof.Rows L2
open Ks189 (Ref Node Dev Ev)
section
variable {P : Program} {w : World} {K : PySem.W.Frag} {mg : Str → Option Value} {base : Heap} {C : Cs}
abbrev sBegin : Stmt := inClass (top 20) 1
theorem scBegin : FnScope ["self"] ["self"] (defScope sBegin) := ⟨rfl, rfl, rfl, by decide +kernel, rfl, by decide +kernel, by decide +kernel⟩
theorem LstAt.grow2 {M N L : Own} {H H' : Hp} {p : Addr} {l : List Nat} (h : LstAt M H p l) (k : Keep L H H') (s : ∀ b, L b → M b) (n : ∀ b, N b → H b = none) : LstAt (fun b => M b ∨ N b) H' p l :=
  ⟨(h.keep k s).1, fun z => z.elim h.2 fun q => by
    have e := n p q
    rw [h.1] at e
    cases e⟩
theorem PagesAt.grow2 {M N L : Own} {H H' : Hp} {pd : Addr} {pg : Nat → List Nat} {n : Nat} (h : PagesAt M H pd pg n) (k : Keep L H H') (np : ¬ L pd) (s : ∀ b, L b → M b) (nn : ∀ b, N b → H b = none) : PagesAt (fun b => M b ∨ N b) H' pd pg n := by
  obtain ⟨kvs, h1, h2, h3, h4⟩ := h
  refine ⟨kvs, k pd _ h1 np, h2, h3, fun p v e => ?_⟩
  obtain ⟨a, e1, e2⟩ := h4 p v e
  exact ⟨a, e1, e2.grow2 k s nn⟩
def spBegin (C : Cs) : Sp := fun vs H Q _ => ∃ (M : Own) (o pd an : Addr) (s : S) (n : Nat), vs = [.ref o] ∧ OutAt C M H o pd an s n ∧
  ∀ H' an', H an' = none → OutAt C (fun b => M b ∨ b = an') H' o pd an' ⟨s.dev, [], []⟩ n → Keep (fun b => b = o) H H' → Q .non H'
theorem ok_Begin (T : Txt K mg C) (f : Addr) (fd : FuncData) (F : Fun K "begin_call" "Outside.begin_call" sBegin f fd) : FnOk P w K mg base CX0 1 f fd ["self"] (spBegin C) := by
  refine F.ok scBegin (fun vs H Q E h => ?_) (fun cdv A outer s H vs Q E hr h => ?_)
  · obtain ⟨M, o, pd, an, s, n, rfl, _⟩ := h
    rfl
  · obtain ⟨M, o, pd, an, s, n, rfl, h, q⟩ := h
    obtain ⟨dx, r, sc, ho, hR, hS⟩ := h.ob
    refine ⟨_, pss_cons (ps_fld (pv 0) (pe_lst pa_nil) rfl) (pss_cons (ps_fld (pv 0) pe_int rfl) (pss_one (ps_fld (pv 0) (pe_lst pa_nil) rfl))), ?_⟩
    refine ⟨by show 0 ≤ sizeLine; decide, fun sc' hsc => ?_⟩
    refine ⟨_, rfl, o, C.O, dx, _, rfl, ne_new ho hsc, T.cO, T.nO3, (by show 5 < 1000; decide), ?_⟩
    rw [oF_ps]
    refine ⟨_, rfl, o, C.O, dx, _, rfl, upd_same, T.cO, T.nO4, (by show 5 < 1000; decide), ?_⟩
    have e0 : putF "asked_count" (.int 0) (oF r pd sc' s.evs.length an) = oF r pd sc' 0 an := oF_pc r pd sc' _ an 0
    rw [e0]
    refine ⟨by show 0 ≤ sizeLine; decide, fun an' han => ?_⟩
    refine ⟨_, rfl, o, C.O, dx, _, rfl, ne_new upd_same han, T.cO, T.nO5, (by show 5 < 1000; decide), ?_⟩
    rw [oF_pn]
    generalize hH1 : upd H sc' (HO.lst []) = H1 at *
    have k1 : Keep No H H1 := by
      subst hH1
      exact Keep.new hsc
    have s1 : H1 sc' = some (.lst []) := by
      subst hH1
      exact upd_same
    have so : sc' ≠ o := fun z => by
      rw [z, ho] at hsc
      cases hsc
    generalize hH2 : upd (upd H1 o (HO.ins C.O dx (oF r pd sc' s.evs.length an))) o (HO.ins C.O dx (oF r pd sc' 0 an)) = H2 at *
    have k2 : Keep (fun b => b = o) H1 H2 := by
      subst hH2
      exact Keep.at.trans Keep.at
    have t2 : Tr (fun b => b = o) H2 := by
      subst hH2
      rintro b rfl
      exact ⟨_, upd_same⟩
    have k02 : Keep (fun b => b = o) H H2 := k1.any.trans k2
    have nn : H an' = none := k02.free t2 han
    have no : an' ≠ o := fun z => by
      rw [z, ho] at nn
      cases nn
    have k3 : Keep (fun b => b = o) H (upd (upd H2 an' (.lst [])) o (.ins C.O dx (oF r pd sc' 0 an'))) := (k02.trans (Keep.new han).any).trans Keep.at
    have sM : ∀ b, b = o → M b := fun b z => z ▸ h.mo
    have nN : ∀ b, b = an' → H b = none := fun b z => z ▸ nn
    refine q _ an' nn ⟨?_, ?_, ⟨dx, r, sc', upd_same, hR.grow2 k3 sM nN, ?_⟩, h.pg.grow2 k3 h.n2 sM nN, ?_, Nat.zero_le _, h.wf⟩ k3
    · rintro b (z | rfl)
      · exact h.tr.keep k3 (by rintro b rfl; exact ⟨_, upd_same⟩) b z
      · exact ⟨_, (upd_ne no).trans upd_same⟩
    · rintro b (rfl | rfl | rfl)
      · exact .inl h.mo
      · exact .inl h.mp
      · exact .inr rfl
    · refine ⟨?_, ?_⟩
      · rw [upd_ne so, upd_ne (ne_of_none (k2 sc' _ s1 so) han)]
        exact k2 sc' _ s1 so
      · rintro (z | z)
        · exact h.tr.out hsc z
        · exact ne_of_none (k2 sc' _ s1 so) han z
    · rw [upd_ne no, upd_same]
      rfl
abbrev sGive : Stmt := inClass (top 20) 2
theorem scGive : FnScope ["self", "script"] ["self", "script"] (defScope sGive) := ⟨rfl, rfl, rfl, by decide +kernel, rfl, by decide +kernel, by decide +kernel⟩
def spGive (C : Cs) : Sp := fun vs H Q _ => ∃ (M : Own) (o pd an : Addr) (s : S) (n : Nat) (a : Addr) (x : List Nat), vs = [.ref o, .ref a] ∧ OutAt C M H o pd an s n ∧ LstAt M H a x ∧
  ∀ H', OutAt C M H' o pd an ⟨s.dev, x, s.evs⟩ n → Keep (OL o pd an) H H' → Q .non H'
theorem ok_Give (T : Txt K mg C) (f : Addr) (fd : FuncData) (F : Fun K "give_script" "Outside.give_script" sGive f fd) : FnOk P w K mg base CX0 1 f fd ["self", "script"] (spGive C) := by
  refine F.ok scGive (fun vs H Q E h => ?_) (fun cdv A outer s H vs Q E hr h => ?_)
  · obtain ⟨M, o, pd, an, s, n, a, x, rfl, _⟩ := h
    rfl
  · obtain ⟨M, o, pd, an, s, n, a, x, rfl, h, hx, q⟩ := h
    obtain ⟨dx, r, sc, ho, hR, hS⟩ := h.ob
    refine ⟨_, pss_one (ps_fld (pv 0) (pv 1) rfl), ?_⟩
    refine ⟨_, rfl, _, rfl, o, C.O, dx, _, rfl, ho, T.cO, T.nO3, (by show 5 < 1000; decide), ?_⟩
    rw [oF_ps]
    refine q _ (h.next (s' := ⟨s.dev, x, s.evs⟩) keep_o upd_same (hR.out h keep_o) (hx.out h keep_o) (h.pg.keep Keep.at h.n2 fun b z => z ▸ h.mo) ?_ h.sz h.wf) keep_o
    rw [upd_ne h.n1]
    exact h.nu
abbrev sNote : Stmt := inClass (top 20) 3
theorem scNote : FnScope ["self", "numbers"] ["self", "numbers"] (defScope sNote) := ⟨rfl, rfl, rfl, by decide +kernel, rfl, by decide +kernel, by decide +kernel⟩
def spNote (C : Cs) : Sp := fun vs H Q _ => ∃ (M : Own) (o pd an : Addr) (s : S) (n : Nat) (a : Addr) (e : Ev), vs = [.ref o, .ref a] ∧ OutAt C M H o pd an s n ∧ H a = some (.lst (My.vs (encEv e))) ∧ ¬ M a ∧ (encEv e).length ≤ 100 ∧ n < BIG ∧
  ∀ H', OutAt C M H' o pd an ⟨s.dev, s.scr, s.evs ++ [e]⟩ (n + 1) → Keep (OL o pd an) H H' → Q .non H'
theorem ok_Note (T : Txt K mg C) (f : Addr) (fd : FuncData) (F : Fun K "note" "Outside.note" sNote f fd) : FnOk P w K mg base CX0 1 f fd ["self", "numbers"] (spNote C) := by
  refine F.ok scNote (fun vs H Q E h => ?_) (fun cdv A outer s H vs Q E hr h => ?_)
  · obtain ⟨M, o, pd, an, s, n, a, e, rfl, _⟩ := h
    rfl
  · obtain ⟨M, o, pd, an, s, n, a, e, rfl, h, ha, na, le, hn, q⟩ := h
    obtain ⟨dx, r, sc, ho, hR, hS⟩ := h.ob
    refine ⟨_, pss_cons (ps_fld (pv 0) (pe_op op_add (pe_fld (pv 0) rfl) pe_int) rfl)
      (pss_one (ps_expr (pe_bm PySem.F.plainAttrs_list PySem.F.slot_list_extend PySem.F.type_list_extend mt_extend (pe_fld (pv 0) rfl) (pa_cons (pv 1) pa_nil)))), ?_⟩
    refine ⟨_, rfl, o, C.O, dx, _, _, rfl, ho, T.cO, T.nO4, oF_c _ _ _ _ _, _, _, rfl, rfl, _, rfl, o, C.O, dx, _, rfl, ho, T.cO, T.nO4, (by show 5 < 1000; decide), ?_⟩
    have e0 : putF "asked_count" (.int ((s.evs.length : Int) + 1)) (oF r pd sc s.evs.length an) = oF r pd sc (s.evs ++ [e]).length an := by
      rw [List.length_append]
      exact oF_pc r pd sc _ an (s.evs.length + 1)
    rw [e0]
    have ao : a ≠ o := fun z => na (z ▸ h.mo)
    have aa : a ≠ an := fun z => na (z ▸ h.ma)
    have hn1 : upd H o (.ins C.O dx (oF r pd sc (s.evs ++ [e]).length an)) an = some (.lst (My.vs (encs s.evs))) := by
      rw [upd_ne h.n1]
      exact h.nu
    refine ⟨_, rfl, o, C.O, dx, _, _, rfl, upd_same, T.cO, T.nO5, oF_n _ _ _ _ _, .inl ⟨rfl, _, SqL.of hn1⟩, _, rfl, an, a, _, My.vs (encEv e), rfl, rfl, hn1, (upd_ne ao).trans ha, ?_⟩
    · refine ⟨?_, ?_⟩
      · rw [vs_len, vs_len]
        have h1 := h.sz
        have h2 : n < 150000 := hn
        show _ ≤ 16777216
        omega
      · have k1 : Keep (OL o pd an) H (upd (upd H o (.ins C.O dx (oF r pd sc (s.evs ++ [e]).length an))) an (.lst (My.vs (encs s.evs) ++ My.vs (encEv e)))) := keep_o.trans keep_n
        refine q _ (h.next (s' := ⟨s.dev, s.scr, s.evs ++ [e]⟩) (dx := dx) k1 ?_ (hR.out h k1) (hS.out h k1) ?_ ?_ (enc_len e le h.sz) h.wf) k1
        · rw [upd_ne h.n1.symm, upd_same]
        · refine PagesAt.up ?_ (Nat.le_succ n)
          refine h.pg.keep (L := fun b => b = o ∨ b = an) ((Keep.at.mono fun _ z => .inl z).trans (Keep.at.mono fun _ z => .inr z)) (fun z => z.elim h.n2 h.n3) fun b z => z.elim (fun y => y ▸ h.mo) fun y => y ▸ h.ma
        · rw [upd_same, encs_snoc, vs_app]
end
end My
namespace My
open PySem PySem.Spec PyProof.Rows L2
open Ks189 (Ref Node Dev Ev)
section
variable {P : Program} {w : World} {K : PySem.W.Frag} {mg : Str → Option Value} {base : Heap} {C : Cs}
/-- an event that leaves what lies outside as it is -/
def Quiet (d : Dev) (e : Ev) : Prop := d.on e = d
theorem tell_quiet {s : S} {e : Ev} (h : Quiet s.dev e) : (⟨s.dev, s.scr, s.evs ++ [e]⟩ : S) = s.tell e := by
  unfold S.tell
  rw [h]
abbrev sAskR : Stmt := inClass (top 20) 4
theorem scAskR : FnScope ["self"] ["self"] (defScope sAskR) := ⟨rfl, rfl, rfl, by decide +kernel, rfl, by decide +kernel, by decide +kernel⟩
theorem newLst {M : Own} {H : Hp} {p : Addr} (x : List Nat) (t : Tr M H) (n : H p = none) : LstAt M (upd H p (.lst (My.vs x))) p x := ⟨upd_same, t.out n⟩
def spAskR (C : Cs) : Sp := fun vs H Q _ => ∃ (M : Own) (o pd an : Addr) (s : S) (n : Nat), vs = [.ref o] ∧ OutAt C M H o pd an s n ∧ n < BIG ∧
  ∀ H' p, OutAt C M H' o pd an (s.tell (.know s.dev.reg)) (n + 1) → Keep (OL o pd an) H H' → LstAt M H' p s.dev.reg → Q (.ref p) H'
theorem ok_AskR (T : Txt K mg C) (mN : MetOk P w K mg base C.O "note" 1 ["self", "numbers"] (spNote C)) (f : Addr) (fd : FuncData) (F : Fun K "ask_register" "Outside.ask_register" sAskR f fd) : FnOk P w K mg base CX0 2 f fd ["self"] (spAskR C) := by
  refine F.ok scAskR (fun vs H Q E h => ?_) (fun cdv A outer s H vs Q E hr h => ?_)
  · obtain ⟨M, o, pd, an, s, n, rfl, _⟩ := h
    rfl
  · obtain ⟨M, o, pd, an, s, n, rfl, h, hn, q⟩ := h
    obtain ⟨dx, r, sc, ho, hR, hS⟩ := h.ob
    refine ⟨_, pss_cons (ps_expr (pe_m mN T.cO hr (pv 0) (pa_cons (pe_lst (pa_cons pe_int pa_nil)) pa_nil)))
      (pss_one (ps_ret (pe_callTy call_list_of (by rfl) T.bList (by decide +kernel) (pa_cons (pe_fld (pv 0) rfl) pa_nil)))), ?_⟩
    refine ⟨_, rfl, o, dx, _, rfl, ho, oF_no _ _ _ _ _ (by decide +kernel), by show 1 ≤ sizeLine; decide, fun l hl => ?_⟩
    refine ⟨M, o, pd, an, s, n, l, .know s.dev.reg, rfl, h.keep0 (Keep.new hl), upd_same, h.tr.out hl, by show 1 ≤ 100; decide, hn, fun H1 h1 k1 => ?_⟩
    obtain ⟨dx1, r1, sc1, ho1, hR1, hS1⟩ := h1.ob
    refine ⟨_, rfl, o, C.O, dx1, _, _, rfl, ho1, T.cO, T.nO1, oF_r _ _ _ _ _, ?_⟩
    refine ⟨_, My.vs s.dev.reg, rfl, .inl (SqL.of hR1.1), fun p np => ?_⟩
    have k2 := Keep.new (u := .lst (My.vs s.dev.reg)) np
    have hp := newLst s.dev.reg h1.tr np
    exact q _ p (h1.keep0 k2) (((Keep.new hl).any.trans k1).trans k2.any) hp
abbrev sLayR : Stmt := inClass (top 20) 6
theorem scLayR : FnScope ["self", "content"] ["self", "content"] (defScope sLayR) := ⟨rfl, rfl, rfl, by decide +kernel, rfl, by decide +kernel, by decide +kernel⟩
def spLayR (C : Cs) : Sp := fun vs H Q _ => ∃ (M : Own) (o pd an : Addr) (s : S) (n : Nat) (a : Addr) (x : List Nat), vs = [.ref o, .ref a] ∧ OutAt C M H o pd an s n ∧ LstAt M H a x ∧ x.length = 40 ∧
  ∀ H', OutAt C M H' o pd an ⟨s.dev.on (.keep x), s.scr, s.evs⟩ n → Keep (OL o pd an) H H' → Q .non H'
theorem ok_LayR (T : Txt K mg C) (f : Addr) (fd : FuncData) (F : Fun K "lay_register" "Outside.lay_register" sLayR f fd) : FnOk P w K mg base CX0 1 f fd ["self", "content"] (spLayR C) := by
  refine F.ok scLayR (fun vs H Q E h => ?_) (fun cdv A outer s H vs Q E hr h => ?_)
  · obtain ⟨M, o, pd, an, s, n, a, x, rfl, _⟩ := h
    rfl
  · obtain ⟨M, o, pd, an, s, n, a, x, rfl, h, hx, lx, q⟩ := h
    refine ⟨_, pss_one (ps_fld (pv 0) (pe_callTy call_list_of (by rfl) T.bList (by decide +kernel) (pa_cons (pv 1) pa_nil)) rfl), ?_⟩
    refine ⟨_, rfl, ?_⟩
    refine ⟨_, My.vs x, rfl, .inl (SqL.of hx.1), fun p np => ?_⟩
    have k2 := Keep.new (u := .lst (My.vs x)) np
    have hp := newLst x h.tr np
    have h2 := h.keep0 k2
    obtain ⟨dx, r, sc, ho, hR, hS⟩ := h2.ob
    refine ⟨_, rfl, o, C.O, dx, _, rfl, ho, T.cO, T.nO1, (by show 5 < 1000; decide), ?_⟩
    rw [oF_pr]
    refine q _ (h2.next (s' := ⟨s.dev.on (.keep x), s.scr, s.evs⟩) keep_o upd_same (hp.out h2 keep_o) (hS.out h2 keep_o) (h2.pg.keep Keep.at h2.n2 fun b z => z ▸ h2.mo) ?_ h2.sz ⟨lx, h2.wf.2⟩) (k2.any.trans keep_o)
    rw [upd_ne h2.n1]
    exact h2.nu
abbrev sPutR : Stmt := inClass (top 20) 5
theorem scPutR : FnScope ["self", "content"] ["self", "content"] (defScope sPutR) := ⟨rfl, rfl, rfl, by decide +kernel, rfl, by decide +kernel, by decide +kernel⟩
def spPutR (C : Cs) : Sp := fun vs H Q _ => ∃ (M : Own) (o pd an : Addr) (s : S) (n : Nat) (a : Addr) (x : List Nat), vs = [.ref o, .ref a] ∧ OutAt C M H o pd an s n ∧ n < BIG ∧ LstAt M H a x ∧ x.length = 40 ∧
  ∀ H', OutAt C M H' o pd an (s.tell (.keep x)) (n + 1) → Keep (OL o pd an) H H' → Q .non H'
theorem ok_PutR (T : Txt K mg C) (mN : MetOk P w K mg base C.O "note" 1 ["self", "numbers"] (spNote C)) (mL : MetOk P w K mg base C.O "lay_register" 1 ["self", "content"] (spLayR C)) (f : Addr) (fd : FuncData) (F : Fun K "put_register" "Outside.put_register" sPutR f fd) :
    FnOk P w K mg base CX0 2 f fd ["self", "content"] (spPutR C) := by
  refine F.ok scPutR (fun vs H Q E h => ?_) (fun cdv A outer s H vs Q E hr h => ?_)
  · obtain ⟨M, o, pd, an, s, n, a, x, rfl, _⟩ := h
    rfl
  · obtain ⟨M, o, pd, an, s, n, a, x, rfl, h, hn, hx, lx, q⟩ := h
    obtain ⟨dx, r, sc, ho, hR, hS⟩ := h.ob
    refine ⟨_, pss_cons (ps_expr (pe_m mN T.cO hr (pv 0) (pa_cons (pe_op op_cat (pe_lst (pa_cons pe_int pa_nil)) (pv 1)) pa_nil)))
      (pss_one (ps_expr (pe_m mL T.cO hr (pv 0) (pa_cons (pv 1) pa_nil)))), ?_⟩
    refine ⟨_, rfl, o, dx, _, rfl, ho, oF_no _ _ _ _ _ (by decide +kernel), by show 1 ≤ sizeLine; decide, fun l hl => ?_⟩
    refine ⟨_, rfl, l, a, _, _, rfl, rfl, upd_same, ne_new hx.1 hl, (by rw [vs_len, lx]; decide), fun l2 hl2 => ?_⟩
    have k1 := (Keep.new (u := .lst [V.int 2]) hl).trans (Keep.new (u := .lst ([V.int 2] ++ My.vs x)) hl2)
    refine ⟨M, o, pd, an, s, n, l2, .keep x, rfl, h.keep0 k1, upd_same, h.tr.out ((Keep.new hl).free0 hl2), ?_, hn, fun H1 h1 k2 => ?_⟩
    · show x.length + 1 ≤ 100
      omega
    obtain ⟨dx1, r1, sc1, ho1, hR1, hS1⟩ := h1.ob
    have hx1 : LstAt M H1 a x := (hx.keep0 k1).out (h.keep0 k1) k2
    refine ⟨_, rfl, o, dx1, _, rfl, ho1, oF_no _ _ _ _ _ (by decide +kernel), _, rfl, ?_⟩
    exact ⟨M, o, pd, an, _, n + 1, a, x, rfl, h1, hx1, lx, fun H2 h2 k3 => q H2 h2 ((k1.any.trans k2).trans k3)⟩
theorem putK_le {kvs : List (Key × V)} {k : Key} {v : V} : (putK kvs k v).length ≤ kvs.length + 1 := by
  unfold putK
  by_cases h : (kvs.any fun kv => decide (kv.1 = k)) = true
  · rw [if_pos h, List.length_map]
    exact Nat.le_succ _
  · rw [if_neg h, List.length_append]
    exact Nat.le_refl _
abbrev sReadP : Stmt := inClass (top 20) 7
theorem scReadP : FnScope ["self", "page"] ["self", "page"] (defScope sReadP) := ⟨rfl, rfl, rfl, by decide +kernel, rfl, by decide +kernel, by decide +kernel⟩
def spReadP (C : Cs) : Sp := fun vs H Q _ => ∃ (M : Own) (o pd an : Addr) (s : S) (n : Nat) (p : Nat), vs = [.ref o, .int (p : Int)] ∧ OutAt C M H o pd an s n ∧ n < BIG ∧
  ∀ H' a, OutAt C M H' o pd an (s.tell (.read p (s.dev.page p))) (n + 1) → Keep (OL o pd an) H H' → LstAt M H' a (s.dev.page p) → Q (.ref a) H'
theorem ok_ReadP (T : Txt K mg C) (mN : MetOk P w K mg base C.O "note" 1 ["self", "numbers"] (spNote C)) (f : Addr) (fd : FuncData) (F : Fun K "read_page" "Outside.read_page" sReadP f fd) : FnOk P w K mg base CX0 2 f fd ["self", "page"] (spReadP C) := by
  refine F.ok scReadP (fun vs H Q E h => ?_) (fun cdv A outer s H vs Q E hr h => ?_)
  · obtain ⟨M, o, pd, an, s, n, p, rfl, _⟩ := h
    rfl
  · obtain ⟨M, o, pd, an, s, n, p, rfl, h, hn, q⟩ := h
    have hu := hu_of hr
    obtain ⟨dx, r, sc, ho, hR, hS⟩ := h.ob
    refine ⟨_, pss_cons (ps_expr (pe_m mN T.cO hr (pv 0) (pa_cons (pe_lst (pa_cons pe_int (pa_cons (pv 1) pa_nil))) pa_nil)))
      (pss_cons (ps_if (pt_cmp (pc_dnotin hu (pv 1) (pe_fld (pv 0) rfl))) (pss_one (ps_ret (pe_op op_rep (pe_lst (pa_cons pe_int pa_nil)) (pe_gv T.kPage)))) pss_nil)
      (pss_one (ps_ret (pe_callTy call_list_of (by rfl) T.bList (by decide +kernel) (pa_cons (pe_dget hu (pe_fld (pv 0) rfl) (pv 1) (fun _ _ => rfl)) pa_nil))))), ?_⟩
    refine ⟨_, rfl, o, dx, _, rfl, ho, oF_no _ _ _ _ _ (by decide +kernel), _, rfl, by show 2 ≤ sizeLine; decide, fun l hl => ?_⟩
    refine ⟨M, o, pd, an, s, n, l, .read p (s.dev.page p), rfl, h.keep0 (Keep.new hl), upd_same, h.tr.out hl, by show 2 ≤ 100; decide, hn, fun H1 h1 k1 => ?_⟩
    have k01 : Keep (OL o pd an) H H1 := (Keep.new hl).any.trans k1
    obtain ⟨dx1, r1, sc1, ho1, hR1, hS1⟩ := h1.ob
    obtain ⟨kvs, p1, p2, p3, p4⟩ := h1.pg
    refine ⟨_, rfl, _, rfl, o, C.O, dx1, _, _, rfl, ho1, T.cO, T.nO2, oF_p _ _ _ _ _, pd, _, rfl, DGet.k (k := Sum.inl (p : Int)) p1, _, rfl, ?_⟩
    cases e : valV kvs (Sum.inl (p : Int)) with
    | none =>
      refine iteT ?_
      refine ⟨by show 1 ≤ sizeLine; decide, fun l1 h1' => ⟨l1, 96, [.int 0], rfl, rfl, upd_same, by decide, by decide, by decide, fun l2 h2' => ?_⟩⟩
      have k2 := (Keep.new (u := .lst [V.int 0]) h1').trans (Keep.new (u := .lst (List.replicate (96 : Int).toNat [V.int 0]).flatten) h2')
      refine q _ l2 (h1.keep0 k2) (k01.trans k2.any) ⟨?_, h1.tr.out ((Keep.new h1').free0 h2')⟩
      rw [upd_same, rep_zeros, p3 p e]
      rfl
    | some v =>
      refine iteF ?_
      obtain ⟨a, rfl, ha⟩ := p4 p v e
      refine ⟨_, rfl, o, C.O, dx1, _, _, rfl, ho1, T.cO, T.nO2, oF_p _ _ _ _ _, ?_⟩
      refine ⟨_, rfl, pd, .ref a, rfl, (by rw [← e]; exact DGet.k (k := Sum.inl (p : Int)) p1), ?_⟩
      refine ⟨_, My.vs (s.dev.page p), rfl, .inl (SqL.of ha.1), fun b nb => ?_⟩
      have k2 := Keep.new (u := .lst (My.vs (s.dev.page p))) nb
      have hb := newLst (s.dev.page p) h1.tr nb
      exact q _ b (h1.keep0 k2) (k01.trans k2.any) hb
abbrev sLayP : Stmt := inClass (top 20) 9
theorem scLayP : FnScope ["self", "page", "content"] ["self", "page", "content"] (defScope sLayP) := ⟨rfl, rfl, rfl, by decide +kernel, rfl, by decide +kernel, by decide +kernel⟩
def spLayP (C : Cs) : Sp := fun vs H Q _ => ∃ (M : Own) (o pd an : Addr) (s : S) (n : Nat) (p : Nat) (a : Addr) (x : List Nat), vs = [.ref o, .int (p : Int), .ref a] ∧ OutAt C M H o pd an s n ∧ n < BIG ∧ LstAt M H a x ∧ x.length = 96 ∧
  ∀ H', OutAt C M H' o pd an ⟨s.dev.on (.write p x), s.scr, s.evs⟩ (n + 1) → Keep (OL o pd an) H H' → Q .non H'
theorem ok_LayP (T : Txt K mg C) (f : Addr) (fd : FuncData) (F : Fun K "lay_page" "Outside.lay_page" sLayP f fd) : FnOk P w K mg base CX0 1 f fd ["self", "page", "content"] (spLayP C) := by
  refine F.ok scLayP (fun vs H Q E h => ?_) (fun cdv A outer s H vs Q E hr h => ?_)
  · obtain ⟨M, o, pd, an, s, n, p, a, x, rfl, _⟩ := h
    rfl
  · obtain ⟨M, o, pd, an, s, n, p, a, x, rfl, h, hn, hx, lx, q⟩ := h
    have hu := hu_of hr
    refine ⟨_, pss_one (ps_dput hu (pe_fld (pv 0) rfl) (pv 1) (pe_callTy call_list_of (by rfl) T.bList (by decide +kernel) (pa_cons (pv 2) pa_nil)) rfl), ?_⟩
    refine ⟨_, rfl, ?_⟩
    refine ⟨_, My.vs x, rfl, .inl (SqL.of hx.1), fun b nb => ?_⟩
    have k2 := Keep.new (u := .lst (My.vs x)) nb
    have hb := newLst x h.tr nb
    have h2 := h.keep0 k2
    obtain ⟨dx, r, sc, ho, hR, hS⟩ := h2.ob
    obtain ⟨kvs, p1, p2, p3, p4⟩ := h2.pg
    have hn2 : n < 150000 := hn
    have hl : kvs.length < sizeLine := by
      show _ < 16777216
      omega
    refine ⟨_, rfl, o, C.O, dx, _, _, rfl, ho, T.cO, T.nO2, oF_p _ _ _ _ _, _, rfl, pd, _, rfl, DPut.k (k := Sum.inl (p : Int)) p1 hl, ?_⟩
    refine q _ (h2.next (s' := ⟨s.dev.on (.write p x), s.scr, s.evs⟩) (dx := dx) keep_p ?_ (hR.out h2 keep_p) (hS.out h2 keep_p) ⟨_, upd_same, ?_, fun j e => ?_, fun j v e => ?_⟩ ?_ (Nat.le_trans h2.sz (Nat.mul_le_mul_left 100 (Nat.le_succ n))) ⟨h2.wf.1, fun j => ?_⟩) (k2.any.trans keep_p)
    · rw [upd_ne h2.n2.symm]
      exact ho
    · exact Nat.le_trans putK_le (Nat.succ_le_succ p2)
    · rw [valV_put] at e
      by_cases z : (Sum.inl (j : Int) : Key) = Sum.inl (p : Int)
      · rw [if_pos z] at e
        cases e
      · rw [if_neg z] at e
        have hz : ¬ j = p := fun y => z (by rw [y])
        show (if j = p then x else s.dev.page j) = _
        rw [if_neg hz]
        exact p3 j e
    · rw [valV_put] at e
      by_cases z : (Sum.inl (j : Int) : Key) = Sum.inl (p : Int)
      · rw [if_pos z] at e
        have hz : j = p := by
          injection z with z
          exact Int.ofNat.inj z
        cases e
        refine ⟨b, rfl, ?_⟩
        show LstAt M _ b (if j = p then x else s.dev.page j)
        rw [if_pos hz]
        exact hb.out h2 keep_p
      · rw [if_neg z] at e
        have hz : ¬ j = p := fun y => z (by rw [y])
        obtain ⟨c, e1, e2⟩ := p4 j v e
        refine ⟨c, e1, ?_⟩
        show LstAt M _ c (if j = p then x else s.dev.page j)
        rw [if_neg hz]
        exact e2.out h2 keep_p
    · rw [upd_ne h2.n3.symm]
      exact h2.nu
    · show (if j = p then x else s.dev.page j).length = 96
      by_cases hz : j = p
      · rw [if_pos hz]
        exact lx
      · rw [if_neg hz]
        exact h2.wf.2 j
abbrev sWriteP : Stmt := inClass (top 20) 8
theorem scWriteP : FnScope ["self", "page", "content"] ["self", "page", "content"] (defScope sWriteP) := ⟨rfl, rfl, rfl, by decide +kernel, rfl, by decide +kernel, by decide +kernel⟩
def spWriteP (C : Cs) : Sp := fun vs H Q _ => ∃ (M : Own) (o pd an : Addr) (s : S) (n : Nat) (p : Nat) (a : Addr) (x : List Nat), vs = [.ref o, .int (p : Int), .ref a] ∧ OutAt C M H o pd an s n ∧ n + 1 < BIG ∧ LstAt M H a x ∧ x.length = 96 ∧
  ∀ H', OutAt C M H' o pd an (s.tell (.write p x)) (n + 2) → Keep (OL o pd an) H H' → Q .non H'
theorem ok_WriteP (T : Txt K mg C) (mN : MetOk P w K mg base C.O "note" 1 ["self", "numbers"] (spNote C)) (mL : MetOk P w K mg base C.O "lay_page" 1 ["self", "page", "content"] (spLayP C)) (f : Addr) (fd : FuncData) (F : Fun K "write_page" "Outside.write_page" sWriteP f fd) :
    FnOk P w K mg base CX0 2 f fd ["self", "page", "content"] (spWriteP C) := by
  refine F.ok scWriteP (fun vs H Q E h => ?_) (fun cdv A outer s H vs Q E hr h => ?_)
  · obtain ⟨M, o, pd, an, s, n, p, a, x, rfl, _⟩ := h
    rfl
  · obtain ⟨M, o, pd, an, s, n, p, a, x, rfl, h, hn, hx, lx, q⟩ := h
    obtain ⟨dx, r, sc, ho, hR, hS⟩ := h.ob
    refine ⟨_, pss_cons (ps_expr (pe_m mN T.cO hr (pv 0) (pa_cons (pe_op op_cat (pe_lst (pa_cons pe_int (pa_cons (pv 1) pa_nil))) (pv 2)) pa_nil)))
      (pss_one (ps_expr (pe_m mL T.cO hr (pv 0) (pa_cons (pv 1) (pa_cons (pv 2) pa_nil))))), ?_⟩
    refine ⟨_, rfl, o, dx, _, rfl, ho, oF_no _ _ _ _ _ (by decide +kernel), _, rfl, by show 2 ≤ sizeLine; decide, fun l hl => ?_⟩
    refine ⟨_, rfl, l, a, _, _, rfl, rfl, upd_same, ne_new hx.1 hl, (by rw [vs_len, lx]; show 2 + 96 ≤ sizeLine; decide), fun l2 hl2 => ?_⟩
    have k1 := (Keep.new (u := .lst [V.int 4, V.int (p : Int)]) hl).trans (Keep.new (u := .lst ([V.int 4, V.int (p : Int)] ++ My.vs x)) hl2)
    refine ⟨M, o, pd, an, s, n, l2, .write p x, rfl, h.keep0 k1, upd_same, h.tr.out ((Keep.new hl).free0 hl2), ?_, Nat.lt_of_succ_lt hn, fun H1 h1 k2 => ?_⟩
    · show x.length + 1 + 1 ≤ 100
      omega
    obtain ⟨dx1, r1, sc1, ho1, hR1, hS1⟩ := h1.ob
    have hx1 : LstAt M H1 a x := (hx.keep0 k1).out (h.keep0 k1) k2
    refine ⟨_, rfl, o, dx1, _, rfl, ho1, oF_no _ _ _ _ _ (by decide +kernel), _, rfl, _, rfl, ?_⟩
    exact ⟨M, o, pd, an, _, n + 1, p, a, x, rfl, h1, hn, hx1, lx, fun H2 h2 k3 => q H2 h2 ((k1.any.trans k2).trans k3)⟩
end
end My
namespace My
open PySem PySem.Spec PyProof.Rows L2
open Ks189 (Ref Node Dev Ev)
def keyNo (scr : List Nat) (i : Nat) : List Nat := (scr.drop (32 * i)).take 32
def keysFrom (scr : List Nat) (m : Nat) : List (List Nat) := (List.range m).map (keyNo scr)
theorem keysFrom_succ (scr : List Nat) (m : Nat) : keysFrom scr (m + 1) = keysFrom scr m ++ [keyNo scr m] := by
  unfold keysFrom
  rw [List.range_succ, List.map_append]
  rfl
theorem keysFrom_len (scr : List Nat) (m : Nat) : (keysFrom scr m).length = m := by
  unfold keysFrom
  rw [List.length_map, List.length_range]
/-- a list of lists of 32 numbers -/
def KeysAt (M : Own) (H : Hp) (p : Addr) (ks : List (List Nat)) : Prop := ∃ as : List Addr, H p = some (.lst (as.map V.ref)) ∧ ¬ M p ∧ as.length = ks.length ∧
  ∀ (i : Nat) a k, as[i]? = some a → ks[i]? = some k → LstAt M H a k ∧ k.length = 32
theorem KeysAt.keep {M L : Own} {H H' : Hp} {p : Addr} {ks : List (List Nat)} (h : KeysAt M H p ks) (k : Keep L H H') (s : ∀ b, L b → M b) : KeysAt M H' p ks := by
  obtain ⟨as, h1, h2, h3, h4⟩ := h
  exact ⟨as, k p _ h1 fun z => h2 (s p z), h2, h3, fun i a y e1 e2 => ⟨(h4 i a y e1 e2).1.keep k s, (h4 i a y e1 e2).2⟩⟩
section
variable {P : Program} {w : World} {K : PySem.W.Frag} {mg : Str → Option Value} {base : Heap} {C : Cs}
abbrev sNewKey : Stmt := inClass (top 20) 11
theorem scNewKey : FnScope ["self", "key"] ["self"] (defScope sNewKey) := ⟨rfl, rfl, rfl, by decide +kernel, rfl, by decide +kernel, by decide +kernel⟩
def spNewKey (C : Cs) : Sp := fun vs H Q _ => ∃ (M : Own) (o pd an : Addr) (s : S) (n : Nat), vs = [.ref o] ∧ OutAt C M H o pd an s n ∧ n < BIG ∧ 32 ≤ s.scr.length ∧
  ∀ H' a, OutAt C M H' o pd an ⟨s.dev, s.scr.drop 32, s.evs ++ [.any (s.scr.take 32)]⟩ (n + 1) → Keep (OL o pd an) H H' → LstAt M H' a (s.scr.take 32) → Q (.ref a) H'
theorem ok_NewKey (T : Txt K mg C) (mN : MetOk P w K mg base C.O "note" 1 ["self", "numbers"] (spNote C)) (f : Addr) (fd : FuncData) (F : Fun K "ask_new_key" "Outside.ask_new_key" sNewKey f fd) : FnOk P w K mg base CX0 2 f fd ["self"] (spNewKey C) := by
  refine F.ok scNewKey (fun vs H Q E h => ?_) (fun cdv A outer s H vs Q E hr h => ?_)
  · obtain ⟨M, o, pd, an, s, n, rfl, _⟩ := h
    rfl
  · obtain ⟨M, o, pd, an, s, n, rfl, h, hn, ls, q⟩ := h
    obtain ⟨dx, r, sc, ho, hR, hS⟩ := h.ob
    refine ⟨_, pss_cons (ps_expr (pe_m mN T.cO hr (pv 0) (pa_cons (pe_lst (pa_cons pe_int pa_nil)) pa_nil)))
      (pss_cons (ps_set (i := 1) scNewKey.nd rfl (Or.inl rfl) (pe_slice sl_list (pe_fld (pv 0) rfl) (po_some pe_int) (po_some (pe_gv T.kKey))))
      (pss_cons (ps_fld (pv 0) (pe_slice sl_list (pe_fld (pv 0) rfl) (po_some (pe_gv T.kKey)) po_none) rfl)
      (pss_one (ps_ret (pv 1))))), ?_⟩
    refine ⟨_, rfl, o, dx, _, rfl, ho, oF_no _ _ _ _ _ (by decide +kernel), by show 1 ≤ sizeLine; decide, fun l hl => ?_⟩
    refine ⟨M, o, pd, an, s, n, l, .any (s.scr.take 32), rfl, h.keep0 (Keep.new hl), upd_same, h.tr.out hl, by show 1 ≤ 100; decide, hn, fun H1 h1 k1 => ?_⟩
    obtain ⟨dx1, r1, sc1, ho1, hR1, hS1⟩ := h1.ob
    have i1 : cutV (My.vs s.scr) (some 0) (some 32) = My.vs (s.scr.take 32) := (vs_cut (a := 0) (b := 32) (by decide) ls).trans rfl
    have i2 : cutV (My.vs s.scr) (some 32) none = My.vs (s.scr.drop 32) := vs_from ls
    refine ⟨_, rfl, o, C.O, dx1, _, _, rfl, ho1, T.cO, T.nO3, oF_s _ _ _ _ _, 0, rfl, 32, rfl, sc1, _, rfl, SqL.of hS1.1, fun b nb => ?_⟩
    rw [show cutV (My.vs _) (some 0) (some 32) = _ from i1]
    have k2 := Keep.new (u := .lst (My.vs (s.scr.take 32))) nb
    have hb := newLst (s.scr.take 32) h1.tr nb
    have h2 := h1.keep0 k2
    refine ⟨_, rfl, o, C.O, dx1, _, _, rfl, k2.is ho1, T.cO, T.nO3, oF_s _ _ _ _ _, 32, rfl, sc1, _, rfl, SqL.of (k2.is hS1.1), fun c nc => ?_⟩
    rw [show cutV (My.vs _) (some 32) none = _ from i2]
    have k3 := Keep.new (u := .lst (My.vs (s.scr.drop 32))) nc
    have hc := newLst (s.scr.drop 32) h2.tr nc
    have h3 := h2.keep0 k3
    refine ⟨_, rfl, o, C.O, dx1, _, rfl, k3.is (k2.is ho1), T.cO, T.nO3, (by show 5 < 1000; decide), ?_⟩
    rw [oF_ps]
    have k4 : Keep (OL o pd an) H1 _ := ((k2.trans k3).any).trans (keep_o (u := .ins C.O dx1 (oF r1 pd c (s.evs ++ [Ev.any (s.scr.take 32)]).length an)))
    refine ⟨_, rfl, ?_⟩
    refine q _ b (h3.next (s' := ⟨s.dev, s.scr.drop 32, s.evs ++ [.any (s.scr.take 32)]⟩) keep_o upd_same (((hR1.keep0 k2).keep0 k3).out h3 keep_o) (hc.out h3 keep_o) (h3.pg.keep Keep.at h3.n2 fun b z => z ▸ h3.mo) ?_ h3.sz h3.wf)
      (((Keep.new hl).any.trans k1).trans k4) ((hb.keep0 k3).out h3 keep_o)
    rw [upd_ne h3.n1]
    exact h3.nu
abbrev sNewKeys : Stmt := inClass (top 20) 10
theorem scNewKeys : FnScope ["self", "count", "turn"] ["self", "count"] (defScope sNewKeys) := ⟨rfl, rfl, rfl, by decide +kernel, rfl, by decide +kernel, by decide +kernel⟩
def spNewKeys (C : Cs) : Sp := fun vs H Q _ => ∃ (M : Own) (o pd an : Addr) (s : S) (n m : Nat), vs = [.ref o, .int (m : Int)] ∧ OutAt C M H o pd an s n ∧ n + m < BIG ∧ 32 * m ≤ s.scr.length ∧ m < 1000 ∧
  ∀ H' a, OutAt C M H' o pd an ⟨s.dev, s.scr.drop (32 * m), s.evs ++ (keysFrom s.scr m).map .any⟩ (n + m) → Keep (OL o pd an) H H' → KeysAt M H' a (keysFrom s.scr m) → Q (.ref a) H'
theorem ok_NewKeys (T : Txt K mg C) (mK : MetOk P w K mg base C.O "ask_new_key" 2 ["self"] (spNewKey C)) (f : Addr) (fd : FuncData) (F : Fun K "ask_new_keys" "Outside.ask_new_keys" sNewKeys f fd) : FnOk P w K mg base CX0 3 f fd ["self", "count"] (spNewKeys C) := by
  refine F.ok scNewKeys (fun vs H Q E h => ?_) (fun cdv A outer s H vs Q E hr h => ?_)
  · obtain ⟨M, o, pd, an, s, n, m, rfl, _⟩ := h
    rfl
  · obtain ⟨M, o, pd, an, s, n, m, rfl, h, hn, ls, hm, q⟩ := h
    refine ⟨_, pss_one (ps_ret (pe_lc (own := [("turn", 2)]) (g := gName 2) (tt := tYes) rfl scNewKeys.nd (pi_range1 rfl T.bRange (pa_cons (pv 1) pa_nil))
      (blkOk_by (own := [("turn", 2)]) (N := ["self", "count", "turn"]) (sc := defScope sNewKeys) (by decide +kernel)) (fun _ _ _ _ _ => pg_name (i := 2) scNewKeys.nd rfl (Or.inl rfl)) (fun _ _ _ _ _ => pts_nil)
      (fun _ _ _ _ _ => pe_m0 mK T.cO hr (pv 0)))), ?_⟩
    refine ⟨_, rfl, m, rfl, by omega, by omega, fun D hD => ?_⟩
    have kD := Keep.new (u := .lst []) hD
    have tD : Tr (fun b => b = D) (upd H D (.lst [])) := by
      rintro b rfl
      exact ⟨_, upd_same⟩
    have hG := h.grow (N := fun b => b = D) kD (fun b z => z ▸ hD) tD
    have nOD : ¬ OL o pd an D := fun z => h.tr.out hD (h.sub D z)
    refine lc_range (lo := 0) (n := m) (fun i H' => Keep (OL o pd an) H H' ∧ OutAt C (fun b => M b ∨ b = D) H' o pd an ⟨s.dev, s.scr.drop (32 * i), s.evs ++ (keysFrom s.scr i).map .any⟩ (n + i) ∧
      ∃ as : List Addr, H' D = some (.lst (as.map V.ref)) ∧ as.length = i ∧ ∀ (j : Nat) a, as[j]? = some a → LstAt (fun b => M b ∨ b = D) H' a (keyNo s.scr j)) ⟨kD.any, ?_, [], upd_same, rfl, fun j a e => ?_⟩ ?_ ?_
    · have e0 : s.evs ++ (keysFrom s.scr 0).map Ev.any = s.evs := List.append_nil _
      rw [e0]
      exact hG
    · cases e
    · rintro i H1 hi ⟨k1, h1, as, a1, a2, a3⟩
      obtain ⟨dx1, r1, sc1, ho1, _⟩ := h1.ob
      refine ⟨rfl, ?_⟩
      refine ⟨_, rfl, o, dx1, _, rfl, ho1, oF_no _ _ _ _ _ (by decide +kernel), ?_⟩
      have l1 : (s.scr.drop (32 * i)).length = s.scr.length - 32 * i := List.length_drop
      have l2 : 32 * (i + 1) ≤ 32 * m := Nat.mul_le_mul_left 32 hi
      refine ⟨_, o, pd, an, _, n + i, rfl, h1, by omega, by show 32 ≤ (s.scr.drop (32 * i)).length; omega, fun H2 a h2 k2 ha => ?_⟩
      have d2 : H2 D = some (.lst (as.map V.ref)) := k2 D _ a1 nOD
      refine ⟨_, d2, (by rw [List.length_map, a2]; exact Nat.lt_trans (Nat.lt_trans hi hm) (by decide)), ?_, ?_, as ++ [a], ?_, ?_, ?_⟩
      · refine fun b u hb nb => ?_
        rw [upd_ne (ne_of_none hb hD)]
        exact k2 b u (k1 b u hb nb) nb
      · have e1 : s.evs ++ (keysFrom s.scr (i + 1)).map Ev.any = (s.evs ++ (keysFrom s.scr i).map Ev.any) ++ [Ev.any ((s.scr.drop (32 * i)).take 32)] := by
          rw [keysFrom_succ, List.map_append, List.append_assoc]
          rfl
        have e2 : s.scr.drop (32 * (i + 1)) = (s.scr.drop (32 * i)).drop 32 := by
          rw [List.drop_drop]
          rfl
        rw [e1, e2]
        exact h2.frame (L := fun b => b = D) Keep.at (by rintro b rfl; exact ⟨.inr rfl, nOD⟩) (by rintro b rfl; exact ⟨_, upd_same⟩)
      · rw [upd_same, List.map_append]
        rfl
      · rw [List.length_append, a2]
        rfl
      · intro j b e
        by_cases hj : j < as.length
        · rw [List.getElem?_append_left hj] at e
          exact ((a3 j b e).keep k2 h1.sub).keep Keep.at fun c z => .inr z
        · rw [List.getElem?_append_right (Nat.le_of_not_lt hj)] at e
          have hj2 : j - as.length = 0 := by
            rcases Nat.eq_zero_or_pos (j - as.length) with z | z
            · exact z
            · rw [List.getElem?_eq_none (by show 1 ≤ _; exact z)] at e
              cases e
          rw [hj2] at e
          cases e
          have hj3 : j = i := by omega
          subst hj3
          exact ha.keep Keep.at fun c z => .inr z
    · rintro H1 ⟨k1, h1, as, a1, a2, a3⟩
      refine q H1 D (h1.less (fun b z => .inl z) h.sub) k1 ⟨as, a1, h.tr.out hD, by rw [a2, keysFrom_len], fun j a k e1 e2 => ?_⟩
      have hj : j < m := by
        have z := (List.getElem?_eq_some_iff.mp e1).1
        omega
      have e3 : k = keyNo s.scr j := by
        unfold keysFrom at e2
        rw [List.getElem?_map, List.getElem?_range hj] at e2
        exact (Option.some.inj e2).symm
      subst e3
      refine ⟨(a3 j a e1).less fun b z => .inl z, ?_⟩
      show ((s.scr.drop (32 * j)).take 32).length = 32
      have l2 : 32 * (j + 1) ≤ 32 * m := Nat.mul_le_mul_left 32 hj
      rw [List.length_take, List.length_drop]
      omega
abbrev sAskPad : Stmt := inClass (top 20) 12
theorem scAskPad : FnScope ["self", "key"] ["self", "key"] (defScope sAskPad) := ⟨rfl, rfl, rfl, by decide +kernel, rfl, by decide +kernel, by decide +kernel⟩
def spAskPad (C : Cs) : Sp := fun vs H Q _ => ∃ (M : Own) (o pd an : Addr) (s : S) (n : Nat) (a : Addr) (k : List Nat), vs = [.ref o, .ref a] ∧ OutAt C M H o pd an s n ∧ n < BIG ∧ LstAt M H a k ∧ k.length = 32 ∧
  ∀ H' p, OutAt C M H' o pd an (s.tell (.mix k (Ks189Neutral.pad k))) (n + 1) → Keep (OL o pd an) H H' → LstAt M H' p (Ks189Neutral.pad k) → Q (.ref p) H'
theorem ok_AskPad (T : Txt K mg C) (mN : MetOk P w K mg base C.O "note" 1 ["self", "numbers"] (spNote C)) (dP : DefOk P w K mg base "pad_of" 1 ["key"] spPad) (f : Addr) (fd : FuncData) (F : Fun K "ask_pad" "Outside.ask_pad" sAskPad f fd) :
    FnOk P w K mg base CX0 2 f fd ["self", "key"] (spAskPad C) := by
  refine F.ok scAskPad (fun vs H Q E h => ?_) (fun cdv A outer s H vs Q E hr h => ?_)
  · obtain ⟨M, o, pd, an, s, n, a, x, rfl, _⟩ := h
    rfl
  · obtain ⟨M, o, pd, an, s, n, a, x, rfl, h, hn, hx, lx, q⟩ := h
    obtain ⟨dx, r, sc, ho, hR, hS⟩ := h.ob
    refine ⟨_, pss_cons (ps_expr (pe_m mN T.cO hr (pv 0) (pa_cons (pe_op op_cat (pe_lst (pa_cons pe_int pa_nil)) (pv 1)) pa_nil)))
      (pss_one (ps_ret (pe_d dP hr (pa_cons (pv 1) pa_nil)))), ?_⟩
    refine ⟨_, rfl, o, dx, _, rfl, ho, oF_no _ _ _ _ _ (by decide +kernel), by show 1 ≤ sizeLine; decide, fun l hl => ?_⟩
    refine ⟨_, rfl, l, a, _, _, rfl, rfl, upd_same, ne_new hx.1 hl, (by rw [vs_len, lx]; decide), fun l2 hl2 => ?_⟩
    have k1 := (Keep.new (u := .lst [V.int 6]) hl).trans (Keep.new (u := .lst ([V.int 6] ++ My.vs x)) hl2)
    refine ⟨M, o, pd, an, s, n, l2, .mix x (Ks189Neutral.pad x), rfl, h.keep0 k1, upd_same, h.tr.out ((Keep.new hl).free0 hl2), ?_, hn, fun H1 h1 k2 => ?_⟩
    · show x.length + 1 ≤ 100
      omega
    have hx1 : LstAt M H1 a x := (hx.keep0 k1).out (h.keep0 k1) k2
    refine ⟨_, rfl, a, x, rfl, hx1.1, lx, fun H2 p k3 np hp => ?_⟩
    exact q H2 p (h1.keep0 k3) ((k1.any.trans k2).trans k3.any) (LstAt.new h1.tr np hp)
end
end My
/-! ### 6. The module reader -/
namespace My
open PySem PySem.Spec PyProof.Rows L2
open Ks189 (Ref Node Dev Ev)
def rN : List Str := ["numbers", "place"]
def rF (a : Addr) (k : Nat) : List (Str × V) := [("numbers", .ref a), ("place", .int (k : Int))]
theorem rF_a (a : Addr) (k : Nat) : (rF a k).lookup ("numbers" : Str) = some (.ref a) := lk_some (i := 0) (ns := rN) rfl (by decide +kernel) rfl
theorem rF_k (a : Addr) (k : Nat) : (rF a k).lookup ("place" : Str) = some (.int (k : Int)) := lk_some (i := 1) (ns := rN) rfl (by decide +kernel) rfl
theorem rF_no {m : Str} (a : Addr) (k : Nat) (h : rN.contains m = false) : (rF a k).lookup m = none := lk_none (ns := rN) rfl h
theorem rF_pk (a : Addr) (k j : Nat) : putF "place" (.int (j : Int)) (rF a k) = rF a j := put_at (i := 1) (ns := rN) rfl (by decide +kernel)
theorem rF_mk (a : Addr) : putF "place" (.int 0) (putF "numbers" (.ref a) []) = rF a 0 := put_end (fs := [("numbers", .ref a)]) (ns := ["numbers"]) rfl (by decide +kernel)
theorem seq_keep {K : PySem.W.Frag} {L : Own} {H H' : Hp} {a : Addr} {xs : List V} (h : SqL K H a xs) (k : Keep L H H') (n : ¬ L a) : SqL K H' a xs := by
  rcases h with (h | ⟨o, h⟩) | h
  · exact .inl (.inl (k _ _ h n))
  · exact .inl (.inr ⟨o, k _ _ h n⟩)
  · exact .inr h
/-- the request: a list that nobody changes, or one of the module -/
def Req (K : PySem.W.Frag) (M : Own) (H : Hp) (a : Addr) (ms : List Nat) : Prop := (Rd H a (.lst (vs ms)) ∧ ¬ M a) ∨ ∀ H', SqL K H' a (vs ms)
theorem Req.seq {K : PySem.W.Frag} {M : Own} {H : Hp} {a : Addr} {ms : List Nat} (h : Req K M H a ms) : SqL K H a (vs ms) := by
  rcases h with ⟨h, _⟩ | h
  · exact .inl h
  · exact h H
theorem Req.keep {K : PySem.W.Frag} {M L : Own} {H H' : Hp} {a : Addr} {ms : List Nat} (h : Req K M H a ms) (k : Keep L H H') (s : ∀ b, L b → M b) : Req K M H' a ms := by
  rcases h with ⟨(h | ⟨o, h⟩), n⟩ | h
  · exact .inl ⟨.inl (k _ _ h fun z => n (s a z)), n⟩
  · exact .inl ⟨.inr ⟨o, k _ _ h fun z => n (s a z)⟩, n⟩
  · exact .inr h
theorem Req.grow {K : PySem.W.Frag} {M L N : Own} {H H' : Hp} {a : Addr} {ms : List Nat} (h : Req K M H a ms) (k : Keep L H H') (s : ∀ b, L b → M b) (nn : ∀ b, N b → H b = none) : Req K (fun b => M b ∨ N b) H' a ms := by
  rcases h with ⟨(h | ⟨o, h⟩), n⟩ | h
  · refine .inl ⟨.inl (k _ _ h fun z => n (s a z)), fun z => z.elim n fun q => ?_⟩
    have e := nn a q
    rw [h] at e
    cases e
  · refine .inl ⟨.inr ⟨o, k _ _ h fun z => n (s a z)⟩, fun z => z.elim n fun q => ?_⟩
    have e := nn a q
    rw [h] at e
    cases e
  · exact .inr h
def RdAt (C : Cs) (K : PySem.W.Frag) (M : Own) (H : Hp) (rd a : Addr) (ms : List Nat) (k : Nat) : Prop := ∃ dx, H rd = some (.ins C.R dx (rF a k)) ∧ M rd ∧ Req K M H a ms
theorem RdAt.keep {C : Cs} {K : PySem.W.Frag} {M L : Own} {H H' : Hp} {rd a : Addr} {ms : List Nat} {k : Nat} (h : RdAt C K M H rd a ms k) (kp : Keep L H H') (s : ∀ b, L b → M b) (n : ¬ L rd) : RdAt C K M H' rd a ms k := by
  obtain ⟨dx, h1, h2, h3⟩ := h
  exact ⟨dx, kp _ _ h1 n, h2, h3.keep kp s⟩
section
variable {P : Program} {w : World} {K : PySem.W.Frag} {mg : Str → Option Value} {base : Heap} {C : Cs}
abbrev sRdI : Stmt := inClass (top 22) 0
theorem scRdI : FnScope ["self", "numbers"] ["self", "numbers"] (defScope sRdI) := ⟨rfl, rfl, rfl, by decide +kernel, rfl, by decide +kernel, by decide +kernel⟩
def spRdI (C : Cs) : Sp := fun vs H Q _ => ∃ (p dx a : Addr), vs = [.ref p, .ref a] ∧ H p = some (.ins C.R dx []) ∧
  ∀ H', H' p = some (.ins C.R dx (rF a 0)) → Keep (fun b => b = p) H H' → Q .non H'
theorem ok_RdI (T : Txt K mg C) (f : Addr) (fd : FuncData) (F : Fun K "__init__" "Reader.__init__" sRdI f fd) : FnOk P w K mg base CX0 1 f fd ["self", "numbers"] (spRdI C) := by
  refine F.ok scRdI (fun vs H Q E h => ?_) (fun cdv A outer s H vs Q E hr h => ?_)
  · obtain ⟨p, dx, a, rfl, _⟩ := h
    rfl
  · obtain ⟨p, dx, a, rfl, hp, q⟩ := h
    refine ⟨_, pss_cons (ps_fld (pv 0) (pv 1) rfl) (pss_one (ps_fld (pv 0) pe_int rfl)), ?_⟩
    refine ⟨_, rfl, _, rfl, p, C.R, dx, [], rfl, hp, T.cR, T.nR1, (by show 0 < 1000; decide), ?_⟩
    refine ⟨_, rfl, p, C.R, dx, _, rfl, upd_same, T.cR, T.nR2, (by show 1 < 1000; decide), ?_⟩
    refine q _ ?_ ?_
    · rw [upd_same, rF_mk]
    · exact Keep.at.trans Keep.at
abbrev sAtEnd : Stmt := inClass (top 22) 1
theorem scAtEnd : FnScope ["self"] ["self"] (defScope sAtEnd) := ⟨rfl, rfl, rfl, by decide +kernel, rfl, by decide +kernel, by decide +kernel⟩
def spAtEnd (C : Cs) (K : PySem.W.Frag) : Sp := fun vs H Q _ => ∃ (M : Own) (rd a : Addr) (ms : List Nat) (k : Nat), vs = [.ref rd] ∧ RdAt C K M H rd a ms k ∧ Q (.bl (decide (ms.length ≤ k))) H
theorem ok_AtEnd (T : Txt K mg C) (f : Addr) (fd : FuncData) (F : Fun K "at_end" "Reader.at_end" sAtEnd f fd) : FnOk P w K mg base CX0 1 f fd ["self"] (spAtEnd C K) := by
  refine F.ok scAtEnd (fun vs H Q E h => ?_) (fun cdv A outer s H vs Q E hr h => ?_)
  · obtain ⟨M, rd, a, ms, k, rfl, _⟩ := h
    rfl
  · obtain ⟨M, rd, a, ms, k, rfl, ⟨dx, h1, h2, h3⟩, q⟩ := h
    refine ⟨_, pss_one (ps_ret (pe_cmpR op_ge (pe_fld (pv 0) rfl) (pe_callB call_len_seq (by rfl) T.bLen PySem.boot_len (pa_cons (pe_fld (pv 0) rfl) pa_nil)) (nomark _))), ?_⟩
    refine ⟨_, rfl, rd, C.R, dx, _, _, rfl, h1, T.cR, T.nR2, rF_k _ _, _, rfl, rd, C.R, dx, _, _, rfl, h1, T.cR, T.nR1, rF_a _ _, a, _, rfl, .inl h3.seq, _, _, rfl, rfl, ?_⟩
    have e : decide (((vs ms).length : Int) ≤ (k : Int)) = decide (ms.length ≤ k) := by
      rw [decide_eq_decide, vs_len]
      omega
    show Q (.bl (decide (((My.vs ms).length : Int) ≤ (k : Int)))) H
    rw [e]
    exact q
abbrev sTakeN : Stmt := inClass (top 22) 2
theorem scTakeN : FnScope ["self", "number"] ["self"] (defScope sTakeN) := ⟨rfl, rfl, rfl, by decide +kernel, rfl, by decide +kernel, by decide +kernel⟩
def spTakeN (C : Cs) (K : PySem.W.Frag) : Sp := fun vs H Q _ => ∃ (M : Own) (rd a : Addr) (ms : List Nat) (k : Nat), vs = [.ref rd] ∧ RdAt C K M H rd a ms k ∧ k < ms.length ∧
  ∀ H', RdAt C K M H' rd a ms (k + 1) → Keep (fun b => b = rd) H H' → Q (.int ((ms.getD k 0 : Nat) : Int)) H'
theorem ok_TakeN (T : Txt K mg C) (f : Addr) (fd : FuncData) (F : Fun K "take_number" "Reader.take_number" sTakeN f fd) : FnOk P w K mg base CX0 1 f fd ["self"] (spTakeN C K) := by
  refine F.ok scTakeN (fun vs H Q E h => ?_) (fun cdv A outer s H vs Q E hr h => ?_)
  · obtain ⟨M, rd, a, ms, k, rfl, _⟩ := h
    rfl
  · obtain ⟨M, rd, a, ms, k, rfl, ⟨dx, h1, h2, h3⟩, hk, q⟩ := h
    refine ⟨_, pss_cons (ps_set (i := 1) scTakeN.nd rfl (Or.inl rfl) (pe_ix ix_list (pe_fld (pv 0) rfl) (pe_fld (pv 0) rfl) (fun _ _ => rfl)))
      (pss_cons (ps_fld (pv 0) (pe_op op_add (pe_fld (pv 0) rfl) pe_int) rfl) (pss_one (ps_ret (pv 1)))), ?_⟩
    refine ⟨_, rfl, rd, C.R, dx, _, _, rfl, h1, T.cR, T.nR1, rF_a _ _, _, rfl, rd, C.R, dx, _, _, rfl, h1, T.cR, T.nR2, rF_k _ _, a, _, _, _, rfl, rfl, h3.seq, vs_at hk, ?_⟩
    refine ⟨_, rfl, rd, C.R, dx, _, _, rfl, h1, T.cR, T.nR2, rF_k _ _, _, _, rfl, rfl, _, rfl, rd, C.R, dx, _, rfl, h1, T.cR, T.nR2, (by show 2 < 1000; decide), ?_⟩
    refine ⟨_, rfl, ?_⟩
    refine q _ ⟨dx, upd_same.trans (by rw [← rF_pk a k (k + 1)]; rfl), h2, h3.keep Keep.at fun b z => z ▸ h2⟩ Keep.at
abbrev sTakeR : Stmt := inClass (top 22) 3
theorem scTakeR : FnScope ["self", "length", "start"] ["self"] (defScope sTakeR) := ⟨rfl, rfl, rfl, by decide +kernel, rfl, by decide +kernel, by decide +kernel⟩
def spTakeR (C : Cs) (K : PySem.W.Frag) : Sp := fun vs H Q _ => ∃ (M : Own) (rd a : Addr) (ms : List Nat) (k m : Nat), vs = [.ref rd] ∧ RdAt C K M H rd a ms k ∧ k < ms.length ∧ ms.getD k 0 = m ∧ k + 1 + m ≤ ms.length ∧
  ∀ H' p, RdAt C K M H' rd a ms (k + 1 + m) → Keep (fun b => b = rd) H H' → H p = none → H' p = some (.lst (My.vs ((ms.drop (k + 1)).take m))) → Q (.ref p) H'
theorem ok_TakeR (T : Txt K mg C) (mT : MetOk P w K mg base C.R "take_number" 1 ["self"] (spTakeN C K)) (f : Addr) (fd : FuncData) (F : Fun K "take_row" "Reader.take_row" sTakeR f fd) : FnOk P w K mg base CX0 2 f fd ["self"] (spTakeR C K) := by
  refine F.ok scTakeR (fun vs H Q E h => ?_) (fun cdv A outer s H vs Q E hr h => ?_)
  · obtain ⟨M, rd, a, ms, k, m, rfl, _⟩ := h
    rfl
  · obtain ⟨M, rd, a, ms, k, m, rfl, h, hk, hm, hl, q⟩ := h
    obtain ⟨dx0, h10, h20, h30⟩ := h
    refine ⟨_, pss_cons (ps_set (i := 1) scTakeR.nd rfl (Or.inl rfl) (pe_m0 mT T.cR hr (pv 0)))
      (pss_cons (ps_set (i := 2) scTakeR.nd rfl (Or.inl rfl) (pe_fld (pv 0) rfl))
      (pss_cons (ps_fld (pv 0) (pe_op op_add (pv 2) (pv 1)) rfl)
      (pss_one (ps_ret (pe_slice sl_list (pe_fld (pv 0) rfl) (po_some (pv 2)) (po_some (pe_op op_add (pv 2) (pv 1)))))))), ?_⟩
    refine ⟨_, rfl, rd, dx0, _, rfl, h10, rF_no _ _ (by decide +kernel), M, rd, a, ms, k, rfl, ⟨dx0, h10, h20, h30⟩, hk, fun H1 ⟨dx, h1, h2, h3⟩ k1 => ?_⟩
    refine ⟨_, rfl, rd, C.R, dx, _, _, rfl, h1, T.cR, T.nR2, rF_k _ _, ?_⟩
    refine ⟨_, rfl, _, rfl, _, _, rfl, rfl, _, rfl, rd, C.R, dx, _, rfl, h1, T.cR, T.nR2, (by show 2 < 1000; decide), ?_⟩
    have e1 : putF "place" (.int (((k + 1 : Nat) : Int) + ((ms.getD k 0 : Nat) : Int))) (rF a (k + 1)) = rF a (k + 1 + m) := by
      rw [hm]
      exact rF_pk a (k + 1) (k + 1 + m)
    rw [e1]
    have h3' : Req K M (upd H1 rd (.ins C.R dx (rF a (k + 1 + m)))) a ms := h3.keep Keep.at fun b z => z ▸ h2
    refine ⟨_, rfl, rd, C.R, dx, _, _, rfl, upd_same, T.cR, T.nR1, rF_a _ _, _, rfl, _, rfl, _, rfl, _, rfl, _, _, rfl, rfl, _, rfl, a, _, rfl, h3'.seq, fun p hp => ?_⟩
    have k2 : Keep (fun b => b = rd) H1 (upd H1 rd (.ins C.R dx (rF a (k + 1 + m)))) := Keep.at
    have t2 : Tr (fun b => b = rd) (upd H1 rd (.ins C.R dx (rF a (k + 1 + m)))) := by
      rintro b rfl
      exact ⟨_, upd_same⟩
    have k3 := k1.trans k2
    have e2 : cutV (My.vs ms) (some ((k + 1 : Nat) : Int)) (some (((k + 1 : Nat) : Int) + ((ms.getD k 0 : Nat) : Int))) = My.vs ((ms.drop (k + 1)).take m) := by
      rw [hm]
      refine (vs_cut (l := ms) (a := k + 1) (b := k + 1 + m) (Nat.le_add_right _ _) hl).trans ?_
      rw [Nat.add_sub_cancel_left]
    refine q _ p ⟨dx, ne_new upd_same hp, h2, h3'.keep (Keep.new hp) fun _ z => z.elim⟩ (k3.trans (Keep.new hp).any) (k3.free t2 hp) ?_
    rw [upd_same]
    exact congrArg (fun z => some (HO.lst z)) e2
end
end My
/-! ### 7. The module way -/
namespace My
open PySem PySem.Spec PyProof.Rows L2
open Ks189 (Ref Node Dev Ev)
def wN : List Str := ["nodes", "links", "branches", "refusal"]
def wF (nl ll bl : Addr) (rf : Int) : List (Str × V) := [("nodes", .ref nl), ("links", .ref ll), ("branches", .ref bl), ("refusal", .int rf)]
section
variable (nl ll bl : Addr) (rf : Int)
theorem wF_n : (wF nl ll bl rf).lookup ("nodes" : Str) = some (.ref nl) := lk_some (i := 0) (ns := wN) rfl (by decide +kernel) rfl
theorem wF_l : (wF nl ll bl rf).lookup ("links" : Str) = some (.ref ll) := lk_some (i := 1) (ns := wN) rfl (by decide +kernel) rfl
theorem wF_b : (wF nl ll bl rf).lookup ("branches" : Str) = some (.ref bl) := lk_some (i := 2) (ns := wN) rfl (by decide +kernel) rfl
theorem wF_r : (wF nl ll bl rf).lookup ("refusal" : Str) = some (.int rf) := lk_some (i := 3) (ns := wN) rfl (by decide +kernel) rfl
theorem wF_no {m : Str} (h : wN.contains m = false) : (wF nl ll bl rf).lookup m = none := lk_none (ns := wN) rfl h
theorem wF_pr (x : Int) : putF "refusal" (.int x) (wF nl ll bl rf) = wF nl ll bl x := put_at (i := 3) (ns := wN) rfl (by decide +kernel)
theorem wF_mk : putF "refusal" (.int 0) (putF "branches" (.ref bl) (putF "links" (.ref ll) (putF "nodes" (.ref nl) []))) = wF nl ll bl 0 := by
  have e1 : putF "nodes" (.ref nl) [] = ([("nodes", .ref nl)] : List (Str × V)) := rfl
  have e2 : putF "links" (.ref ll) ([("nodes", .ref nl)] : List (Str × V)) = ([("nodes", .ref nl), ("links", .ref ll)] : List (Str × V)) := put_end (ns := ["nodes"]) rfl (by decide +kernel)
  have e3 : putF "branches" (.ref bl) ([("nodes", .ref nl), ("links", .ref ll)] : List (Str × V)) = ([("nodes", .ref nl), ("links", .ref ll), ("branches", .ref bl)] : List (Str × V)) := put_end (ns := ["nodes", "links"]) rfl (by decide +kernel)
  rw [e1, e2, e3]
  exact put_end (ns := ["nodes", "links", "branches"]) rfl (by decide +kernel)
end
def nodesOf (i : Nat) : List Nat := (List.range 11).map (Ks189.nodeAt i)
theorem nodesOf_len (i : Nat) : (nodesOf i).length = 11 := by
  unfold nodesOf
  rw [List.length_map, List.length_range]
theorem nodesOf_at {i d : Nat} (h : d ≤ 10) : (nodesOf i).getD d 0 = Ks189.nodeAt i d := by
  unfold nodesOf
  rw [List.getD_eq_getElem?_getD, List.getElem?_map, List.getElem?_range (by omega)]
  rfl
theorem nodes_at {i d : Nat} (h : d ≤ 10) : atI (vs (nodesOf i)) (d : Int) = some (.int ((Ks189.nodeAt i d : Nat) : Int)) := by
  rw [← nodesOf_at h]
  exact vs_at (by rw [nodesOf_len]; omega)
theorem shr_is (i d : Nat) (h : d ≤ 10) : ((1024 : Int) + (i : Int)) / 2 ^ ((10 - (0 + (d : Int))).toNat) = ((Ks189.nodeAt i d : Nat) : Int) := by
  have e : (10 - (0 + (d : Int))).toNat = 10 - d := by omega
  rw [e]
  show _ = (((1024 + i) / 2 ^ (10 - d) : Nat) : Int)
  rw [Int.natCast_ediv, Int.natCast_pow]
  rfl
theorem node_pos {i d : Nat} (hd : d ≤ 10) : 1 ≤ Ks189.nodeAt i d := by
  show 1 ≤ (1024 + i) / 2 ^ (10 - d)
  rw [Nat.le_div_iff_mul_le (Nat.two_pow_pos _)]
  have h2 : 2 ^ (10 - d) ≤ 2 ^ 10 := Nat.pow_le_pow_right (by decide) (by omega)
  omega
def RefsAt {α : Type} (A : Addr → α → Prop) (as : List Addr) (xs : List α) : Prop := as.length = xs.length ∧ ∀ (j : Nat) a x, as[j]? = some a → xs[j]? = some x → A a x
theorem RefsAt.imp {α : Type} {A B : Addr → α → Prop} {as : List Addr} {xs : List α} (h : RefsAt A as xs) (f : ∀ a x, A a x → B a x) : RefsAt B as xs := ⟨h.1, fun j a x e1 e2 => f a x (h.2 j a x e1 e2)⟩
theorem RefsAt.nil {α : Type} {A : Addr → α → Prop} : RefsAt A [] [] := ⟨rfl, fun j a x e => by cases e⟩
theorem RefsAt.snoc {α : Type} {A : Addr → α → Prop} {as : List Addr} {xs : List α} (h : RefsAt A as xs) {a : Addr} {x : α} (hx : A a x) : RefsAt A (as ++ [a]) (xs ++ [x]) := by
  refine ⟨by rw [List.length_append, List.length_append, h.1]; rfl, fun j b y e1 e2 => ?_⟩
  by_cases hj : j < as.length
  · rw [List.getElem?_append_left hj] at e1
    rw [List.getElem?_append_left (by rw [← h.1]; exact hj)] at e2
    exact h.2 j b y e1 e2
  · rw [List.getElem?_append_right (Nat.le_of_not_lt hj)] at e1
    rw [List.getElem?_append_right (by rw [← h.1]; exact Nat.le_of_not_lt hj), ← h.1] at e2
    have hj2 : j - as.length = 0 := by
      rcases Nat.eq_zero_or_pos (j - as.length) with z | z
      · exact z
      · rw [List.getElem?_eq_none (by show 1 ≤ _; exact z)] at e1
        cases e1
    rw [hj2] at e1 e2
    cases e1
    cases e2
    exact hx
theorem RefsAt.get {α : Type} {A : Addr → α → Prop} {as : List Addr} {xs : List α} (h : RefsAt A as xs) {j : Nat} (d : α) (hj : j < xs.length) : ∃ a, (as.map V.ref)[j]? = some (.ref a) ∧ A a (xs.getD j d) := by
  have hj2 : j < as.length := by rw [h.1]; exact hj
  refine ⟨as[j], ?_, h.2 j _ _ (List.getElem?_eq_getElem hj2) ?_⟩
  · rw [List.getElem?_map, List.getElem?_eq_getElem hj2]
    rfl
  · rw [List.getD_eq_getElem?_getD, List.getElem?_eq_getElem hj]
    rfl
structure WayAt (C : Cs) (M : Own) (H : Hp) (w nl ll bl : Addr) (i : Nat) (rf : Int) (links : List Ref) (nodes : List Node) : Prop where
  w : ∃ dx, H w = some (.ins C.W dx (wF nl ll bl rf))
  n : H nl = some (.lst (vs (nodesOf i)))
  l : ∃ as, H ll = some (.lst (as.map V.ref)) ∧ RefsAt (LinkAt C M H) as links
  b : ∃ as, H bl = some (.lst (as.map V.ref)) ∧ RefsAt (KidsAt C M H) as nodes
theorem WayAt.keep {C : Cs} {M L : Own} {H H' : Hp} {w nl ll bl : Addr} {i : Nat} {rf : Int} {links : List Ref} {nodes : List Node} (h : WayAt C M H w nl ll bl i rf links nodes) (k : Keep L H H') (s : ∀ b, L b → M b)
    (n1 : ¬ L w) (n2 : ¬ L nl) (n3 : ¬ L ll) (n4 : ¬ L bl) : WayAt C M H' w nl ll bl i rf links nodes := by
  obtain ⟨dx, hw⟩ := h.w
  obtain ⟨as, l1, l2⟩ := h.l
  obtain ⟨bs, b1, b2⟩ := h.b
  exact ⟨⟨dx, k _ _ hw n1⟩, k _ _ h.n n2, ⟨as, k _ _ l1 n3, l2.imp fun a x z => z.keep k s⟩, ⟨bs, k _ _ b1 n4, b2.imp fun a x z => z.keep k s⟩⟩
def WayFin (C : Cs) (M : Own) (H : Hp) (w : Addr) (i : Nat) (links : List Ref) (nodes : List Node) : Prop := ∃ nl ll bl, WayAt C M H w nl ll bl i 0 links nodes ∧ ¬ M w ∧ ¬ M nl ∧ ¬ M ll ∧ ¬ M bl
theorem WayFin.keep {C : Cs} {M L : Own} {H H' : Hp} {w : Addr} {i : Nat} {links : List Ref} {nodes : List Node} (h : WayFin C M H w i links nodes) (k : Keep L H H') (s : ∀ b, L b → M b) : WayFin C M H' w i links nodes := by
  obtain ⟨nl, ll, bl, h1, h2, h3, h4, h5⟩ := h
  exact ⟨nl, ll, bl, h1.keep k s (fun z => h2 (s _ z)) (fun z => h3 (s _ z)) (fun z => h4 (s _ z)) (fun z => h5 (s _ z)), h2, h3, h4, h5⟩
section
variable {P : Program} {w : World} {K : PySem.W.Frag} {mg : Str → Option Value} {base : Heap} {C : Cs}
abbrev sWayI : Stmt := inClass (top 27) 0
theorem scWayI : FnScope ["self", "slot", "leaf", "depth"] ["self", "slot"] (defScope sWayI) := ⟨rfl, rfl, rfl, by decide +kernel, rfl, by decide +kernel, by decide +kernel⟩
def spWayI (C : Cs) : Sp := fun vs H Q _ => ∃ (y dx : Addr) (i : Nat), vs = [.ref y, .int (i : Int)] ∧ H y = some (.ins C.W dx []) ∧
  ∀ H' nl ll bl, H' y = some (.ins C.W dx (wF nl ll bl 0)) → H' nl = some (.lst (My.vs (nodesOf i))) → H' ll = some (.lst []) → H' bl = some (.lst []) →
    H nl = none → H ll = none → H bl = none → nl ≠ ll → nl ≠ bl → ll ≠ bl → Keep (fun b => b = y) H H' → Q .non H'
theorem ok_WayI (T : Txt K mg C) (f : Addr) (fd : FuncData) (F : Fun K "__init__" "Way.__init__" sWayI f fd) : FnOk P w K mg base CX0 1 f fd ["self", "slot"] (spWayI C) := by
  refine F.ok scWayI (fun vs H Q E h => ?_) (fun cdv A outer s H vs Q E hr h => ?_)
  · obtain ⟨y, dx, i, rfl, _⟩ := h
    rfl
  · obtain ⟨y, dx, i, rfl, hy, q⟩ := h
    refine ⟨_, pss_cons (ps_set (i := 2) scWayI.nd rfl (Or.inr rfl) (pe_op op_add (pe_gv T.kLeaf) (pv 1)))
      (pss_cons (ps_fld (pv 0) (pe_lc (own := [("depth", 3)]) (g := gName 3) (tt := tYes) rfl scWayI.nd (pi_range1 rfl T.bRange (pa_cons (pe_op op_add (pe_gv T.kDeep) pe_int) pa_nil))
        (blkOk_by (own := [("depth", 3)]) (N := ["self", "slot", "leaf", "depth"]) (sc := defScope sWayI) (by decide +kernel)) (fun _ _ _ _ _ => pg_name (i := 3) scWayI.nd rfl (Or.inl rfl)) (fun _ _ _ _ _ => pts_nil)
        (fun _ _ _ _ _ => pe_op op_shr (pv 2) (pe_op op_sub (pe_gv T.kDeep) (pv 3)))) rfl)
      (pss_cons (ps_fld (pv 0) (pe_lst pa_nil) rfl) (pss_cons (ps_fld (pv 0) (pe_lst pa_nil) rfl) (pss_one (ps_fld (pv 0) pe_int rfl))))), ?_⟩
    refine ⟨_, rfl, _, _, rfl, rfl, ?_⟩
    refine ⟨_, _, rfl, rfl, 11, rfl, by decide, by decide, fun D hD => ?_⟩
    refine lc_range (lo := 0) (n := 11) (fun j H' => Keep No H H' ∧ H' D = some (.lst (My.vs ((List.range j).map (Ks189.nodeAt i))))) ⟨Keep.new hD, upd_same⟩ ?_ ?_
    · rintro j H1 hj ⟨k1, h1⟩
      refine ⟨rfl, ?_⟩
      refine ⟨_, rfl, _, rfl, _, _, rfl, rfl, _, _, rfl, rfl, (by show (0 : Int) ≤ 10 - (0 + (j : Int)); omega), ?_⟩
      refine ⟨_, h1, (by rw [row_len]; exact Nat.lt_trans hj (by decide)), fun b u hb n => ?_, ?_⟩
      · rw [upd_ne (ne_of_none hb hD)]
        exact k1.is hb
      · rw [upd_same]
        refine congrArg (fun z => some (HO.lst z)) ?_
        rw [← row_snoc]
        exact congrArg (fun z => _ ++ [V.int z]) (shr_is i j (by omega))
    · rintro H1 ⟨k1, h1⟩
      have hy1 := k1.is hy
      refine ⟨_, rfl, y, C.W, dx, [], rfl, hy1, T.cW, T.nW1, (by show 0 < 1000; decide), ?_⟩
      have Dy : D ≠ y := fun z => by
        rw [z, hy] at hD
        cases hD
      have k2 : Keep (fun b => b = y) H1 (upd H1 y (.ins C.W dx (putF "nodes" (.ref D) []))) := Keep.at
      have t2 : Tr (fun b => b = y) (upd H1 y (.ins C.W dx (putF "nodes" (.ref D) []))) := by
        rintro b rfl
        exact ⟨_, upd_same⟩
      have y2 : upd H1 y (.ins C.W dx (putF "nodes" (.ref D) [])) y = some (.ins C.W dx (putF "nodes" (.ref D) [])) := upd_same
      have d2 := k2 D _ h1 Dy
      have k02 := k1.any.trans k2
      refine ⟨by show 0 ≤ sizeLine; decide, fun ll hll => ?_⟩
      generalize upd H1 y (.ins C.W dx (putF "nodes" (.ref D) [])) = H2 at *
      have lln := k02.free t2 hll
      have lly : ll ≠ y := fun z => by
        rw [z, hy] at lln
        cases lln
      refine ⟨_, rfl, y, C.W, dx, _, rfl, ne_new y2 hll, T.cW, T.nW2, (by show 1 < 1000; decide), ?_⟩
      have k3 : Keep (fun b => b = y) H2 (upd (upd H2 ll (.lst [])) y (.ins C.W dx (putF "links" (.ref ll) (putF "nodes" (.ref D) [])))) := (Keep.new hll).any.trans Keep.at
      have t3 : Tr (fun b => b = y) (upd (upd H2 ll (.lst [])) y (.ins C.W dx (putF "links" (.ref ll) (putF "nodes" (.ref D) [])))) := by
        rintro b rfl
        exact ⟨_, upd_same⟩
      have y3 : upd (upd H2 ll (.lst [])) y (.ins C.W dx (putF "links" (.ref ll) (putF "nodes" (.ref D) []))) y = some (.ins C.W dx (putF "links" (.ref ll) (putF "nodes" (.ref D) []))) := upd_same
      have l3 : upd (upd H2 ll (.lst [])) y (.ins C.W dx (putF "links" (.ref ll) (putF "nodes" (.ref D) []))) ll = some (.lst []) := (upd_ne lly).trans upd_same
      have d3 := k3 D _ d2 Dy
      have k03 := k02.trans k3
      have Dll : D ≠ ll := ne_of_none d2 hll
      refine ⟨by show 0 ≤ sizeLine; decide, fun bl hbl => ?_⟩
      generalize upd (upd H2 ll (.lst [])) y (.ins C.W dx (putF "links" (.ref ll) (putF "nodes" (.ref D) []))) = H3 at *
      have bln := k03.free t3 hbl
      have bly : bl ≠ y := fun z => by
        rw [z, hy] at bln
        cases bln
      refine ⟨_, rfl, y, C.W, dx, _, rfl, ne_new y3 hbl, T.cW, T.nW3, (by show 2 < 1000; decide), ?_⟩
      refine ⟨_, rfl, y, C.W, dx, _, rfl, upd_same, T.cW, T.nW4, (by show 3 < 1000; decide), ?_⟩
      have kk : Keep (fun b => b = y) H3 (upd (upd (upd H3 bl (.lst [])) y (.ins C.W dx (putF "branches" (.ref bl) (putF "links" (.ref ll) (putF "nodes" (.ref D) []))))) y
        (.ins C.W dx (putF "refusal" (.int 0) (putF "branches" (.ref bl) (putF "links" (.ref ll) (putF "nodes" (.ref D) [])))))) := ((Keep.new hbl).any.trans Keep.at).trans Keep.at
      refine q _ D ll bl ?_ ?_ ?_ ?_ hD lln bln Dll (ne_of_none d3 hbl) (ne_of_none l3 hbl) (k03.trans kk)
      · rw [upd_same, wF_mk]
      · exact kk D _ d3 Dy
      · exact kk ll _ l3 lly
      · rw [upd_ne bly, upd_ne bly, upd_same]
abbrev sSide : Stmt := inClass (top 27) 1
theorem scSide : FnScope ["self", "depth"] ["self", "depth"] (defScope sSide) := ⟨rfl, rfl, rfl, by decide +kernel, rfl, by decide +kernel, by decide +kernel⟩
def spSide (C : Cs) : Sp := fun vs H Q _ => ∃ (y dx nl ll bl : Addr) (rf : Int) (i d : Nat), vs = [.ref y, .int (d : Int)] ∧ H y = some (.ins C.W dx (wF nl ll bl rf)) ∧ H nl = some (.lst (My.vs (nodesOf i))) ∧ d < 10 ∧
  Q (.int ((Ks189.nodeAt i (d + 1) % 2 : Nat) : Int)) H
theorem ok_Side (T : Txt K mg C) (f : Addr) (fd : FuncData) (F : Fun K "side_below" "Way.side_below" sSide f fd) : FnOk P w K mg base CX0 1 f fd ["self", "depth"] (spSide C) := by
  refine F.ok scSide (fun vs H Q E h => ?_) (fun cdv A outer s H vs Q E hr h => ?_)
  · obtain ⟨y, dx, nl, ll, bl, rf, i, d, rfl, _⟩ := h
    rfl
  · obtain ⟨y, dx, nl, ll, bl, rf, i, d, rfl, hy, hn, hd, q⟩ := h
    refine ⟨_, pss_one (ps_ret (pe_op op_mod (pe_ix ix_list (pe_fld (pv 0) rfl) (pe_op op_add (pv 1) pe_int) (fun _ _ => rfl)) pe_int)), ?_⟩
    refine ⟨_, rfl, y, C.W, dx, _, _, rfl, hy, T.cW, T.nW1, wF_n _ _ _ _, _, rfl, _, _, rfl, rfl, nl, _, _, _, rfl, rfl, SqL.of hn, nodes_at (d := d + 1) (by omega), _, _, rfl, rfl, (by show (0 : Int) < 2; decide), ?_⟩
    have e : ((Ks189.nodeAt i (d + 1) % 2 : Nat) : Int) = ((Ks189.nodeAt i (d + 1) : Nat) : Int) % 2 := by omega
    rw [e] at q
    exact q
/-- the other side's child -/
theorem side_is (i d : Nat) : Ks189.nodeAt i (d + 1) % 2 = if Ks189.right_ i d = true then 1 else 0 := by
  unfold Ks189.right_
  by_cases h : Ks189.nodeAt i (d + 1) % 2 = 1
  · rw [h]
    rfl
  · have e : Ks189.nodeAt i (d + 1) % 2 = 0 := by omega
    rw [e]
    rfl
abbrev sBeside : Stmt := inClass (top 27) 2
theorem scBeside : FnScope ["self", "depth"] ["self", "depth"] (defScope sBeside) := ⟨rfl, rfl, rfl, by decide +kernel, rfl, by decide +kernel, by decide +kernel⟩
def spBeside (C : Cs) : Sp := fun vs H Q _ => ∃ (M : Own) (y dx nl ll bl : Addr) (rf : Int) (i d : Nat) (bs : List Addr) (nodes : List Node), vs = [.ref y, .int (d : Int)] ∧ H y = some (.ins C.W dx (wF nl ll bl rf)) ∧ H nl = some (.lst (My.vs (nodesOf i))) ∧ d < 10 ∧
  H bl = some (.lst (bs.map V.ref)) ∧ RefsAt (KidsAt C M H) bs nodes ∧ d < nodes.length ∧ ∀ a, LinkAt C M H a ((nodes.getD d Ks189.empty).child (!Ks189.right_ i d)) → Q (.ref a) H
theorem ok_Beside (T : Txt K mg C) (mS : MetOk P w K mg base C.W "side_below" 1 ["self", "depth"] (spSide C)) (f : Addr) (fd : FuncData) (F : Fun K "child_beside" "Way.child_beside" sBeside f fd) : FnOk P w K mg base CX0 2 f fd ["self", "depth"] (spBeside C) := by
  refine F.ok scBeside (fun vs H Q E h => ?_) (fun cdv A outer s H vs Q E hr h => ?_)
  · obtain ⟨M, y, dx, nl, ll, bl, rf, i, d, bs, nodes, rfl, _⟩ := h
    rfl
  · obtain ⟨M, y, dx, nl, ll, bl, rf, i, d, bs, nodes, rfl, hy, hn, hd, hb, hB, hl, q⟩ := h
    refine ⟨_, pss_one (ps_ret (pe_ix ix_list (pe_ix ix_list (pe_fld (pv 0) rfl) (pv 1) (fun _ _ => rfl)) (pe_op op_sub pe_int (pe_m mS T.cW hr (pv 0) (pa_cons (pv 1) pa_nil))) (fun _ _ => rfl))), ?_⟩
    obtain ⟨p, e1, a, b, hp, _, hL, hR⟩ := hB.get Ks189.empty hl
    refine ⟨_, rfl, y, C.W, dx, _, _, rfl, hy, T.cW, T.nW3, wF_b _ _ _ _, _, rfl, bl, _, _, _, rfl, rfl, SqL.of hb, atI_nat e1, ?_⟩
    refine ⟨_, rfl, y, dx, _, rfl, hy, wF_no _ _ _ _ (by decide +kernel), _, rfl, y, dx, nl, ll, bl, rf, i, d, rfl, hy, hn, hd, ?_⟩
    refine ⟨_, _, rfl, rfl, ?_⟩
    rw [side_is]
    cases e : Ks189.right_ i d with
    | true =>
      rw [e] at q
      exact ⟨p, _, _, _, rfl, rfl, SqL.of hp, atI_nat (j := 0) rfl, q a hL⟩
    | false =>
      rw [e] at q
      exact ⟨p, _, _, _, rfl, rfl, SqL.of hp, atI_nat (j := 1) rfl, q b hR⟩
end
end My
namespace My
open PySem PySem.Spec PyProof.Rows L2
open Ks189 (Ref Node Dev Ev)
section
variable {P : Program} {w : World} {K : PySem.W.Frag} {mg : Str → Option Value} {base : Heap} {C : Cs}
abbrev padF : List Nat → List Nat := Ks189Neutral.pad
abbrev sReadC : Stmt := top 30
theorem scReadC : FnScope ["outside", "node", "link", "covered"] ["outside", "node", "link"] (defScope sReadC) := ⟨rfl, rfl, rfl, by decide +kernel, rfl, by decide +kernel, by decide +kernel⟩
def spReadC (C : Cs) : Sp := fun vs H Q _ => ∃ (M : Own) (o pd an : Addr) (s : S) (n v : Nat) (l : Addr) (x : Ref), vs = [.ref o, .int (v : Int), .ref l] ∧ OutAt C M H o pd an s n ∧ n + 1 < BIG ∧ LinkAt C M H l x ∧ 1 ≤ v ∧
  ∀ H' p, OutAt C M H' o pd an (s.tells (readEvs padF s.dev v x)) (n + 2) → Keep (OL o pd an) H H' → LstAt M H' p (Ks189.xor (s.dev.page (Ks189.pageOf v x.copy)) (padF x.key)) → Q (.ref p) H'
theorem ok_ReadC (T : Txt K mg C) (mR : MetOk P w K mg base C.O "read_page" 2 ["self", "page"] (spReadP C)) (mP : MetOk P w K mg base C.O "ask_pad" 2 ["self", "key"] (spAskPad C))
    (dO : DefOk P w K mg base "page_of" 1 ["node", "copy_number"] spPageOf) (dX : DefOk P w K mg base "xor_bytes" 1 ["content", "pad"] spXor) (f : Addr) (fd : FuncData) (F : Fun K "read_copy" "read_copy" sReadC f fd) :
    FnOk P w K mg base CX0 3 f fd ["outside", "node", "link"] (spReadC C) := by
  refine F.ok scReadC (fun vs H Q E h => ?_) (fun cdv A outer s H vs Q E hr h => ?_)
  · obtain ⟨M, o, pd, an, s, n, v, l, x, rfl, _⟩ := h
    rfl
  · obtain ⟨M, o, pd, an, s, n, v, l, x, rfl, h, hn, hl, hv, q⟩ := h
    have hr1 : Room 1 _ := hr.mono (by decide)
    refine ⟨_, pss_cons (ps_set (i := 3) scReadC.nd rfl (Or.inl rfl) (pe_m mR T.cO hr (pv 0) (pa_cons (pe_d dO hr1 (pa_cons (pv 1) (pa_cons (pe_fld (pv 2) rfl) pa_nil))) pa_nil)))
      (pss_one (ps_ret (pe_d dX hr1 (pa_cons (pv 3) (pa_cons (pe_m mP T.cO hr (pv 0) (pa_cons (pe_fld (pv 2) rfl) pa_nil)) pa_nil))))), ?_⟩
    obtain ⟨dx, r, sc, ho, hR, hS⟩ := h.ob
    obtain ⟨dl, kl, h1, h2, h3, h4⟩ := hl
    refine ⟨_, rfl, o, dx, _, rfl, ho, oF_no _ _ _ _ _ (by decide +kernel), _, rfl, _, rfl, l, C.L, dl, _, _, rfl, h1, T.cL, T.nL1, lF_c _ _, v, x.copy, rfl, by omega, ?_⟩
    refine ⟨M, o, pd, an, s, n, _, rfl, h, Nat.lt_of_succ_lt hn, fun H1 a g1 k1 ha => ?_⟩
    obtain ⟨dx1, r1, sc1, ho1, hR1, hS1⟩ := g1.ob
    have l1 := (LinkAt.keep ⟨dl, kl, h1, h2, h3, h4⟩ k1 h.sub : LinkAt C M H1 l x)
    obtain ⟨dl, kl, h1, h2, h3, h4⟩ := l1
    refine ⟨_, rfl, _, rfl, o, dx1, _, rfl, ho1, oF_no _ _ _ _ _ (by decide +kernel), _, rfl, l, C.L, dl, _, _, rfl, h1, T.cL, T.nL2, lF_k _ _, ?_⟩
    refine ⟨M, o, pd, an, _, n + 1, kl, x.key, rfl, g1, hn, h3, h4, fun H2 b g2 k2 hb => ?_⟩
    refine ⟨a, b, _, _, rfl, (ha.out g1 k2).1, hb.1, h.wf.2 _, pad_len _, fun H3 c k3 nc hc => ?_⟩
    refine q H3 c ?_ ((k1.trans k2).trans k3.any) (LstAt.new g2.tr nc hc)
    unfold readEvs
    rw [tells_cons, tell_one]
    exact g2.keep0 k3
abbrev sReadK : Stmt := top 29
theorem scReadK : FnScope ["outside", "node", "link"] ["outside", "node", "link"] (defScope sReadK) := ⟨rfl, rfl, rfl, by decide +kernel, rfl, by decide +kernel, by decide +kernel⟩
def spReadK (C : Cs) : Sp := fun vs H Q _ => ∃ (M : Own) (o pd an : Addr) (s : S) (n v : Nat) (l : Addr) (x : Ref), vs = [.ref o, .int (v : Int), .ref l] ∧ OutAt C M H o pd an s n ∧ n + 1 < BIG ∧ LinkAt C M H l x ∧ 1 ≤ v ∧
  ∀ H' p, OutAt C M H' o pd an (s.tells (kids padF s.dev v x).1) (n + 2) → Keep (OL o pd an) H H' → KidsAt C M H' p (kids padF s.dev v x).2 → Q (.ref p) H'
theorem ok_ReadK (T : Txt K mg C) (mT : MetOk P w K mg base C.L "is_there" 1 ["self"] (spIsThere C)) (dN : DefOk P w K mg base "no_link" 3 [] (spNoLink C)) (dI : DefOk P w K mg base "children_in" 3 ["content"] (spKidsIn C))
    (dR : DefOk P w K mg base "read_copy" 3 ["outside", "node", "link"] (spReadC C)) (f : Addr) (fd : FuncData) (F : Fun K "read_children" "read_children" sReadK f fd) : FnOk P w K mg base CX0 4 f fd ["outside", "node", "link"] (spReadK C) := by
  refine F.ok scReadK (fun vs H Q E h => ?_) (fun cdv A outer s H vs Q E hr h => ?_)
  · obtain ⟨M, o, pd, an, s, n, v, l, x, rfl, _⟩ := h
    rfl
  · obtain ⟨M, o, pd, an, s, n, v, l, x, rfl, h, hn, hl, hv, q⟩ := h
    have hr1 : Room 1 _ := hr.mono (by decide)
    refine ⟨_, pss_cons (ps_if (pt_not (pt_val (pe_m0 mT T.cL hr1 (pv 2)))) (pss_one (ps_ret (pe_lst (pa_cons (pe_d0 dN hr) (pa_cons (pe_d0 dN hr) pa_nil))))) pss_nil)
      (pss_one (ps_ret (pe_d dI hr (pa_cons (pe_d dR hr (pa_cons (pv 0) (pa_cons (pv 1) (pa_cons (pv 2) pa_nil)))) pa_nil)))), ?_⟩
    have hl0 := hl
    obtain ⟨dl, kl, h1, h2, h3, h4⟩ := hl
    refine ⟨_, rfl, l, dl, _, rfl, h1, lF_no _ _ (by decide +kernel), l, dl, kl, x.copy, rfl, h1, _, rfl, ?_⟩
    by_cases hx : x.copy = 0
    · rw [kids_absent hx] at q
      rw [decide_eq_true hx]
      refine iteT ?_
      refine ⟨M, rfl, h.tr, fun H1 a k1 ha => ?_⟩
      refine ⟨M, rfl, h.tr.keep0 k1, fun H2 b k2 hb => ?_⟩
      refine ⟨by show 2 ≤ sizeLine; decide, fun p hp => ?_⟩
      have k3 := Keep.new (u := .lst [V.ref a, V.ref b]) hp
      have k := (k1.trans k2).trans k3
      refine q _ p ?_ k.any ⟨a, b, upd_same, h.tr.out ((k1.trans k2).free0 hp), (ha.keep0 k2).keep0 k3, hb.keep0 k3⟩
      rw [tells_nil]
      exact (h.keep0 k).up (Nat.le_add_right n 2)
    · rw [kids_there hx] at q
      rw [decide_eq_false hx]
      refine iteF ?_
      refine ⟨_, rfl, _, rfl, _, rfl, M, o, pd, an, s, n, v, l, x, rfl, h, hn, hl0, hv, fun H1 p g1 k1 hp => ?_⟩
      refine ⟨M, p, _, rfl, g1.tr, hp.1, xor_len (h.wf.2 _) (pad_len _), fun H2 c k2 nc hc => ?_⟩
      exact q H2 c (g1.keep0 k2) (k1.trans k2.any) hc
abbrev sWriteC : Stmt := top 31
theorem scWriteC : FnScope ["outside", "node", "old_link", "key", "content", "pad", "link"] ["outside", "node", "old_link", "key", "content"] (defScope sWriteC) := ⟨rfl, rfl, rfl, by decide +kernel, rfl, by decide +kernel, by decide +kernel⟩
def spWriteC (C : Cs) : Sp := fun vs H Q _ => ∃ (M : Own) (o pd an : Addr) (s : S) (n v : Nat) (l : Addr) (x : Ref) (k c : Addr) (key b : List Nat), vs = [.ref o, .int (v : Int), .ref l, .ref k, .ref c] ∧ OutAt C M H o pd an s n ∧ n + 2 < BIG ∧ LinkAt C M H l x ∧
  LstAt M H k key ∧ key.length = 32 ∧ LstAt M H c b ∧ b.length = 96 ∧ 1 ≤ v ∧
  ∀ H' a, OutAt C M H' o pd an (s.tells (Ks189.Page.evs padF ⟨v, Ks189.other x.copy, key, b⟩)) (n + 3) → Keep (OL o pd an) H H' → LinkAt C M H' a ⟨Ks189.other x.copy, key⟩ → Q (.ref a) H'
theorem ok_WriteC (T : Txt K mg C) (iL : IniOk P w K mg base C.L 1 ["self", "copy_number", "key"] (spLinkI C)) (mW : MetOk P w K mg base C.O "write_page" 2 ["self", "page", "content"] (spWriteP C)) (mP : MetOk P w K mg base C.O "ask_pad" 2 ["self", "key"] (spAskPad C))
    (dC : DefOk P w K mg base "other_copy" 1 ["copy_number"] spOther) (dO : DefOk P w K mg base "page_of" 1 ["node", "copy_number"] spPageOf) (dX : DefOk P w K mg base "xor_bytes" 1 ["content", "pad"] spXor) (f : Addr) (fd : FuncData)
    (F : Fun K "write_copy" "write_copy" sWriteC f fd) : FnOk P w K mg base CX0 3 f fd ["outside", "node", "old_link", "key", "content"] (spWriteC C) := by
  refine F.ok scWriteC (fun vs H Q E h => ?_) (fun cdv A outer s H vs Q E hr h => ?_)
  · obtain ⟨M, o, pd, an, s, n, v, l, x, k, c, key, b, rfl, _⟩ := h
    rfl
  · obtain ⟨M, o, pd, an, s, n, v, l, x, k, c, key, b, rfl, h, hn, hl, hk, nk, hc, nc, hv, q⟩ := h
    have hr1 : Room 1 _ := hr.mono (by decide)
    refine ⟨_, pss_cons (ps_set (i := 5) scWriteC.nd rfl (Or.inl rfl) (pe_m mP T.cO hr (pv 0) (pa_cons (pv 3) pa_nil)))
      (pss_cons (ps_set (i := 6) scWriteC.nd rfl (Or.inl rfl) (pe_i iL T.gL hr (pa_cons (pe_d dC hr1 (pa_cons (pe_fld (pv 2) rfl) pa_nil)) (pa_cons (pv 3) pa_nil))))
      (pss_cons (ps_expr (pe_m mW T.cO hr (pv 0) (pa_cons (pe_d dO hr1 (pa_cons (pv 1) (pa_cons (pe_fld (pv 6) rfl) pa_nil))) (pa_cons (pe_d dX hr1 (pa_cons (pv 4) (pa_cons (pv 5) pa_nil))) pa_nil))))
      (pss_one (ps_ret (pv 6))))), ?_⟩
    obtain ⟨dx, r, sc, ho, hR, hS⟩ := h.ob
    refine ⟨_, rfl, o, dx, _, rfl, ho, oF_no _ _ _ _ _ (by decide +kernel), _, rfl, M, o, pd, an, s, n, k, key, rfl, h, by omega, hk, nk, fun H1 pa g1 k1 hpa => ?_⟩
    have l1 := hl.keep k1 h.sub
    have hk1 := hk.out h k1
    have hc1 := hc.out h k1
    obtain ⟨dl, kl, e1, e2, e3, e4⟩ := l1
    refine ⟨_, rfl, l, C.L, dl, _, _, rfl, e1, T.cL, T.nL1, lF_c _ _, x.copy, rfl, _, rfl, ?_⟩
    refine mkLink (x := ⟨Ks189.other x.copy, key⟩) g1.tr hk1 nk fun H2 a k2 na hA => ?_
    have g2 := g1.keep0 k2
    obtain ⟨dx2, r2, sc2, ho2, hR2, hS2⟩ := g2.ob
    have hA0 := hA
    obtain ⟨da, ka, f1, f2, f3, f4⟩ := hA
    refine ⟨_, rfl, o, dx2, _, rfl, ho2, oF_no _ _ _ _ _ (by decide +kernel), _, rfl, _, rfl, a, C.L, da, _, _, rfl, f1, T.cL, T.nL1, lF_c _ _, v, Ks189.other x.copy, rfl, by omega, ?_⟩
    refine ⟨_, rfl, _, rfl, c, pa, b, padF key, rfl, (hc1.keep0 k2).1, (hpa.keep0 k2).1, nc, pad_len _, fun H3 y k3 ny hy => ?_⟩
    refine ⟨M, o, pd, an, _, n + 1, _, y, _, rfl, g2.keep0 k3, hn, LstAt.new g2.tr ny hy, xor_len nc (pad_len _), fun H4 g4 k4 => ?_⟩
    refine ⟨_, rfl, ?_⟩
    refine q H4 a ?_ (((k1.trans k2.any).trans k3.any).trans k4) ((hA0.keep0 k3).keep k4 h.sub)
    unfold Ks189.Page.evs
    rw [tells_cons, tell_one]
    exact g4
end
end My
namespace My
open PySem PySem.Spec PyProof.Rows L2
open Ks189 (Ref Node Dev Ev)
/-- whether the child beside the way is there -/
def beside (i : Nat) (w : List (Nat × Node)) (d : Nat) : Bool := ((Ks189.had w d).2.child (!Ks189.right_ i d)).copy != 0
def stayTo (i : Nat) (w : List (Nat × Node)) (k : Nat) : Nat := ((List.range k).filter (beside i w)).foldl (fun _ d => d + 1) 0
theorem stay_is (i : Nat) (w : List (Nat × Node)) : Ks189.stay i w = stayTo i w 10 := rfl
theorem stayTo_succ (i : Nat) (w : List (Nat × Node)) (k : Nat) : stayTo i w (k + 1) = if beside i w k = true then k + 1 else stayTo i w k := by
  unfold stayTo
  rw [List.range_succ, List.filter_append, List.foldl_append]
  by_cases h : beside i w k = true
  · rw [if_pos h, List.filter_cons_of_pos h]
    rfl
  · rw [if_neg h, List.filter_cons_of_neg h]
    rfl
theorem stayTo_le (i : Nat) (w : List (Nat × Node)) : ∀ k, stayTo i w k ≤ k
  | 0 => Nat.le_refl _
  | k + 1 => by
    rw [stayTo_succ]
    by_cases h : beside i w k = true
    · rw [if_pos h]
      exact Nat.le_refl _
    · rw [if_neg h]
      exact Nat.le_succ_of_le (stayTo_le i w k)
theorem stay_le (i : Nat) (w : List (Nat × Node)) : Ks189.stay i w ≤ 10 := stayTo_le i w 10
/-- what the upward way ends at -/
def upEnd (i : Nat) (w : List (Nat × Node)) (keys : List (List Nat)) : Nat → Ref → Ref
  | 0, x => x
  | d + 1, _ => upEnd i w keys d ⟨Ks189.other (Ks189.had w d).1, keys.getD d []⟩
theorem upward_succ (i : Nat) (w : List (Nat × Node)) (keys : List (List Nat)) (d : Nat) (x : Ref) : Ks189.upward i w keys (d + 1) x =
    ⟨Ks189.nodeAt i d, Ks189.other (Ks189.had w d).1, keys.getD d [], ((Ks189.had w d).2.with_ (Ks189.right_ i d) x).bytes⟩ :: Ks189.upward i w keys d ⟨Ks189.other (Ks189.had w d).1, keys.getD d []⟩ := rfl
/-- a list of links and a list of nodes are the specification's way -/
structure Path (wy : List (Nat × Node)) (links : List Ref) (nodes : List Node) : Prop where
  ll : links.length = 11
  nl : nodes.length = 10
  at_ : ∀ j, j < 10 → Ks189.had wy j = ((links.getD j Ks189.none_).copy, nodes.getD j Ks189.empty)
section
variable {P : Program} {w : World} {K : PySem.W.Frag} {mg : Str → Option Value} {base : Heap} {C : Cs}
abbrev sStay : Stmt := top 32
theorem scStay : FnScope ["way", "depth"] ["way"] (defScope sStay) := ⟨rfl, rfl, rfl, by decide +kernel, rfl, by decide +kernel, by decide +kernel⟩
def spStay (C : Cs) : Sp := fun vs H Q _ => ∃ (M : Own) (y : Addr) (i : Nat) (links : List Ref) (nodes : List Node) (wy : List (Nat × Node)), vs = [.ref y] ∧ WayFin C M H y i links nodes ∧ Path wy links nodes ∧ Q (.int ((Ks189.stay i wy : Nat) : Int)) H
theorem ok_Stay (T : Txt K mg C) (mB : MetOk P w K mg base C.W "child_beside" 2 ["self", "depth"] (spBeside C)) (mT : MetOk P w K mg base C.L "is_there" 1 ["self"] (spIsThere C)) (f : Addr) (fd : FuncData) (F : Fun K "count_staying" "count_staying" sStay f fd) :
    FnOk P w K mg base CX0 3 f fd ["way"] (spStay C) := by
  refine F.ok scStay (fun vs H Q E h => ?_) (fun cdv A outer s H vs Q E hr h => ?_)
  · obtain ⟨M, y, i, links, nodes, wy, rfl, _⟩ := h
    rfl
  · obtain ⟨M, y, i, links, nodes, wy, rfl, hF, hP, q⟩ := h
    have hr1 : Room 1 _ := hr.mono (by decide)
    refine ⟨_, pss_cons (ps_for PassesOwn.never rfl (pi_range3 rfl T.bRange (pa_cons (pe_op op_sub (pe_gv T.kDeep) pe_int) (pa_cons (pe_un un_neg pe_int) (pa_cons (pe_un un_neg pe_int) pa_nil)))) (pg_name (i := 1) scStay.nd rfl (Or.inl rfl))
        (pss_one (ps_if (pt_val (pe_m0 mT T.cL hr1 (pe_m mB T.cW hr (pv 0) (pa_cons (pv 1) pa_nil)))) (pss_one (ps_ret (pe_op op_add (pv 1) pe_int))) pss_nil)))
      (pss_one (ps_ret pe_int)), ?_⟩
    refine ⟨_, _, rfl, rfl, _, rfl, _, rfl, 9, -1, -1, 10, rfl, RgC.neg (i := 9) (j := -1) (by decide) (by decide) (by decide) (by decide), ?_⟩
    obtain ⟨nl, ll, bl, ⟨⟨dx, hw⟩, hn, hl, ⟨bs, hb, hB⟩⟩, _⟩ := hF
    refine for_rangeC (lo := 9) (c := -1) (n := 10) (fun t σ H' => H' = H ∧ Ks189.stay i wy = stayTo i wy (10 - t) ∧ ∃ v, σ = [some (.ref y), v]) ⟨rfl, rfl, none, rfl⟩ ?_ ?_
    · rintro t σ H1 ht ⟨rfl, e, v, rfl⟩
      have e1 : (9 : Int) + ((t : Nat) : Int) * -1 = ((9 - t : Nat) : Int) := by omega
      rw [e1]
      refine ⟨_, rfl, y, dx, _, rfl, hw, wF_no _ _ _ _ (by decide +kernel), _, rfl, ?_⟩
      refine ⟨M, y, dx, nl, ll, bl, 0, i, 9 - t, bs, nodes, rfl, hw, hn, by omega, hb, hB, (by rw [hP.nl]; omega), fun a ha => ?_⟩
      obtain ⟨da, ka, f1, f2, f3, f4⟩ := ha
      refine ⟨a, da, _, rfl, f1, lF_no _ _ (by decide +kernel), a, da, ka, _, rfl, f1, _, rfl, ?_⟩
      have e2 : 10 - t = (9 - t) + 1 := by omega
      rw [e2, stayTo_succ] at e
      have e3 : (nodes.getD (9 - t) Ks189.empty) = (Ks189.had wy (9 - t)).2 := by rw [hP.at_ _ (by omega)]
      rw [e3]
      by_cases hc : ((Ks189.had wy (9 - t)).2.child (!Ks189.right_ i (9 - t))).copy = 0
      · rw [decide_eq_true hc]
        have hb0 : ¬ beside i wy (9 - t) = true := by
          unfold beside
          rw [hc]
          exact Bool.false_ne_true
        rw [if_neg hb0] at e
        refine iteF ?_
        exact ⟨rfl, by rw [show 10 - (t + 1) = 9 - t by omega]; exact e, _, rfl⟩
      · rw [decide_eq_false hc]
        have hb1 : beside i wy (9 - t) = true := by
          unfold beside
          exact bne_iff_ne.mpr hc
        rw [if_pos hb1] at e
        refine iteT ?_
        refine ⟨_, rfl, _, _, rfl, rfl, ?_⟩
        rw [e] at q
        exact q
    · rintro σ H1 ⟨rfl, e, v, rfl⟩
      rw [e] at q
      exact q
theorem with_eq (nd : Node) (b : Bool) (x : Ref) : nd.with_ b x = if b = true then { nd with r := x } else { nd with l := x } := rfl
abbrev sUp : Stmt := top 33
theorem scUp : FnScope ["outside", "way", "keys", "child", "link", "depth", "children", "content"] ["outside", "way", "keys", "child"] (defScope sUp) := ⟨rfl, rfl, rfl, by decide +kernel, rfl, by decide +kernel, by decide +kernel⟩
def spUp (C : Cs) : Sp := fun vs H Q _ => ∃ (M : Own) (o pd an : Addr) (s : S) (n : Nat) (y : Addr) (i : Nat) (links : List Ref) (nodes : List Node) (wy : List (Nat × Node)) (ks : Addr) (kl keys : List (List Nat)) (ch : Addr) (x : Ref), vs = [.ref o, .ref y, .ref ks, .ref ch] ∧
  OutAt C M H o pd an s n ∧ n + 40 < BIG ∧ WayFin C M H y i links nodes ∧ Path wy links nodes ∧ KeysAt M H ks kl ∧ kl.length ≤ 10 ∧ (∀ j, j < kl.length → kl.getD j [] = keys.getD j []) ∧ LinkAt C M H ch x ∧
  ∀ H' a, OutAt C M H' o pd an (s.tells ((Ks189.upward i wy keys kl.length x).flatMap (Ks189.Page.evs padF))) (n + 3 * kl.length) → Keep (OL o pd an) H H' → LinkAt C M H' a (upEnd i wy keys kl.length x) → Q (.ref a) H'
theorem ok_Up (T : Txt K mg C) (mS : MetOk P w K mg base C.W "side_below" 1 ["self", "depth"] (spSide C)) (dB : DefOk P w K mg base "branch_content" 1 ["children"] (spBranchC C))
    (dW : DefOk P w K mg base "write_copy" 3 ["outside", "node", "old_link", "key", "content"] (spWriteC C)) (f : Addr) (fd : FuncData) (F : Fun K "write_upwards" "write_upwards" sUp f fd) :
    FnOk P w K mg base CX0 4 f fd ["outside", "way", "keys", "child"] (spUp C) := by
  refine F.ok scUp (fun vs H Q E h => ?_) (fun cdv A outer s H vs Q E hr h => ?_)
  · obtain ⟨M, o, pd, an, s, n, y, i, links, nodes, wy, ks, kl, keys, ch, x, rfl, _⟩ := h
    rfl
  · obtain ⟨M, o, pd, an, s, n, y, i, links, nodes, wy, ks, kl, keys, ch, x, rfl, h, hn, hF, hP, hK, hm, hkl, hch, q⟩ := h
    have hr1 : Room 1 _ := hr.mono (by decide)
    refine ⟨_, pss_cons (ps_set (i := 4) scUp.nd rfl (Or.inl rfl) (pv 3))
      (pss_cons (ps_for PassesOwn.never rfl (pi_range3 rfl T.bRange (pa_cons (pe_op op_sub (pe_callB call_len_seq (by rfl) T.bLen PySem.boot_len (pa_cons (pv 2) pa_nil)) pe_int) (pa_cons (pe_un un_neg pe_int) (pa_cons (pe_un un_neg pe_int) pa_nil)))) (pg_name (i := 5) scUp.nd rfl (Or.inl rfl))
        (pss_cons (ps_set (i := 6) scUp.nd rfl (Or.inl rfl) (pe_callTy call_list_of (by rfl) T.bList (by decide +kernel) (pa_cons (pe_ix ix_list (pe_fld (pv 1) rfl) (pv 5) (fun _ _ => rfl)) pa_nil)))
        (pss_cons (ps_asg (pv 4) (pg_sub (pv 6) (pe_m mS T.cW hr1 (pv 1) (pa_cons (pv 5) pa_nil)) set_list))
        (pss_cons (ps_set (i := 7) scUp.nd rfl (Or.inl rfl) (pe_d dB hr1 (pa_cons (pv 6) pa_nil)))
        (pss_one (ps_set (i := 4) scUp.nd rfl (Or.inl rfl) (pe_d dW hr (pa_cons (pv 0) (pa_cons (pe_ix ix_list (pe_fld (pv 1) rfl) (pv 5) (fun _ _ => rfl)) (pa_cons (pe_ix ix_list (pe_fld (pv 1) rfl) (pv 5) (fun _ _ => rfl))
          (pa_cons (pe_ix ix_list (pv 2) (pv 5) (fun _ _ => rfl)) (pa_cons (pv 7) pa_nil))))))))))))
      (pss_one (ps_ret (pv 4)))), ?_⟩
    have hK0 := hK
    obtain ⟨kas, hk1, hk2, hk3, hk4⟩ := hK
    refine ⟨_, rfl, _, rfl, ks, _, rfl, .inl (SqL.of hk1), _, _, rfl, rfl, _, rfl, _, rfl, ((kl.length : Int) - 1), -1, -1, kl.length, ?_, ?_, ?_⟩
    · rw [List.length_map, hk3]
    · have e := RgC.neg (i := (kl.length : Int) - 1) (j := -1) (by omega) (by omega) (by decide) (by decide)
      have e2 : ((kl.length : Int) - 1 - -1).toNat = kl.length := by omega
      rw [e2] at e
      exact e
    refine for_rangeC (lo := (kl.length : Int) - 1) (c := -1) (n := kl.length) (fun t σ H' => Keep (OL o pd an) H H' ∧ ∃ (dn : List Ks189.Page) (cur : Ref) (a : Addr) (v5 v6 v7 : Option V), σ = [some (.ref o), some (.ref y), some (.ref ks), some (.ref ch), some (.ref a), v5, v6, v7] ∧
      LinkAt C M H' a cur ∧ OutAt C M H' o pd an (s.tells (dn.flatMap (Ks189.Page.evs padF))) (n + 3 * t) ∧ Ks189.upward i wy keys kl.length x = dn ++ Ks189.upward i wy keys (kl.length - t) cur ∧ upEnd i wy keys kl.length x = upEnd i wy keys (kl.length - t) cur)
      ⟨Keep.refl, [], x, ch, none, none, none, rfl, hch, (by rw [List.flatMap_nil, tells_nil]; exact h), rfl, rfl⟩ ?_ ?_
    · rintro t σ H1 ht ⟨k1, dn, cur, a, v5, v6, v7, rfl, hA, g1, u1, u2⟩
      obtain ⟨d, hd⟩ : ∃ d, kl.length - t = d + 1 := ⟨kl.length - t - 1, by omega⟩
      have e1 : (kl.length : Int) - 1 + ((t : Nat) : Int) * -1 = ((d : Nat) : Int) := by omega
      rw [e1]
      have hd10 : d < 10 := by omega
      have hF1 := hF.keep k1 h.sub
      obtain ⟨nl, ll, bl, ⟨⟨dx, hw⟩, hnl, ⟨las, hl, hL⟩, ⟨bs, hb, hB⟩⟩, m1, m2, m3, m4⟩ := hF1
      obtain ⟨p0, b1, pl, pr, hp0, _, hpl, hpr⟩ := hB.get Ks189.empty (j := d) (by rw [hP.nl]; exact hd10)
      refine ⟨_, rfl, y, C.W, dx, _, _, rfl, hw, T.cW, T.nW3, wF_b _ _ _ _, _, rfl, bl, _, _, _, rfl, rfl, SqL.of hb, atI_nat b1, ?_⟩
      refine ⟨p0, _, rfl, .inl (SqL.of hp0), fun p hp => ?_⟩
      have kp := Keep.new (u := .lst [V.ref pl, V.ref pr]) hp
      refine ⟨_, rfl, _, rfl, _, rfl, y, dx, _, rfl, kp.is hw, wF_no _ _ _ _ (by decide +kernel), _, rfl, y, dx, nl, ll, bl, 0, i, d, rfl, kp.is hw, kp.is hnl, hd10, ?_⟩
      rw [side_is]
      have hset : ∃ j, (if Ks189.right_ i d = true then (1 : Nat) else 0) = j ∧ j < 2 ∧ ∃ pl' pr', [V.ref pl, V.ref pr].set j (.ref a) = [.ref pl', .ref pr'] ∧
          LinkAt C M H1 pl' ((nodes.getD d Ks189.empty).with_ (Ks189.right_ i d) cur).l ∧ LinkAt C M H1 pr' ((nodes.getD d Ks189.empty).with_ (Ks189.right_ i d) cur).r := by
        cases e : Ks189.right_ i d with
        | true => exact ⟨1, rfl, by decide, pl, a, rfl, hpl, hA⟩
        | false => exact ⟨0, rfl, by decide, a, pr, rfl, hA, hpr⟩
      obtain ⟨j, ej, hj2, pl', pr', eset, hl', hr'⟩ := hset
      rw [ej]
      refine ⟨p, _, _, j, rfl, rfl, upd_same, ?_, ?_⟩
      · unfold ixN
        rw [if_pos (Int.natCast_nonneg j), if_pos (by show ((j : Nat) : Int) < ((2 : Nat) : Int); omega)]
        rfl
      rw [eset, upd_upd]
      have kq := Keep.new (u := .lst [V.ref pl', V.ref pr']) hp
      refine ⟨_, rfl, ?_⟩
      refine ⟨M, p, (nodes.getD d Ks189.empty).with_ (Ks189.right_ i d) cur, rfl, ⟨pl', pr', upd_same, g1.tr.out hp, hl'.keep0 kq, hr'.keep0 kq⟩, fun H2 c k2 nc hc => ?_⟩
      have k12 := kq.trans k2
      have g2 := g1.keep0 k12
      obtain ⟨la, l1, hla⟩ := hL.get Ks189.none_ (j := d) (by rw [hP.ll]; omega)
      have hdk : d < kas.length := by omega
      have hk5 := hk4 d kas[d] (kl.getD d []) (List.getElem?_eq_getElem hdk) (by rw [List.getD_eq_getElem?_getD, List.getElem?_eq_getElem (by omega : d < kl.length)]; rfl)
      have hkd := ((hk5.1.keep k1 h.sub).keep0 k12)
      have hks : H1 ks = some (.lst (kas.map V.ref)) := k1 ks _ hk1 fun z => hk2 (h.sub ks z)
      refine ⟨_, rfl, _, rfl, y, C.W, dx, _, _, rfl, k12.is hw, T.cW, T.nW1, wF_n _ _ _ _, _, rfl, nl, _, _, _, rfl, rfl, SqL.of (k12.is hnl), nodes_at (by omega), ?_⟩
      refine ⟨_, rfl, y, C.W, dx, _, _, rfl, k12.is hw, T.cW, T.nW2, wF_l _ _ _ _, _, rfl, ll, _, _, _, rfl, rfl, SqL.of (k12.is hl), atI_nat l1, ?_⟩
      refine ⟨_, rfl, _, rfl, ks, _, _, .ref kas[d], rfl, rfl, SqL.of (k12.is hks), atI_nat (by rw [List.getElem?_map, List.getElem?_eq_getElem hdk]; rfl), ?_⟩
      refine ⟨_, rfl, ?_⟩
      have lnd : ((nodes.getD d Ks189.empty).with_ (Ks189.right_ i d) cur).bytes.length = 96 := node_len (by obtain ⟨_, _, _, _, _, z⟩ := hl'; exact z) (by obtain ⟨_, _, _, _, _, z⟩ := hr'; exact z)
      refine ⟨M, o, pd, an, _, n + 3 * t, Ks189.nodeAt i d, la, _, _, c, kl.getD d [], _, rfl, g2, by omega, hla.keep0 k12, hkd, hk5.2, LstAt.new g1.tr (kq.free0 nc) hc, lnd, node_pos (by omega), fun H3 a3 g3 k3 hA3 => ?_⟩
      have had := hP.at_ d hd10
      refine ⟨(k1.trans k12.any).trans k3, dn ++ [⟨Ks189.nodeAt i d, Ks189.other (Ks189.had wy d).1, keys.getD d [], ((Ks189.had wy d).2.with_ (Ks189.right_ i d) cur).bytes⟩], ⟨Ks189.other (Ks189.had wy d).1, keys.getD d []⟩, a3, _, _, _, rfl, ?_, ?_, ?_, ?_⟩
      · rw [had, ← hkl d (by omega)]
        exact hA3
      · rw [List.flatMap_append, tells_append, had, ← hkl d (by omega), List.flatMap_singleton]
        exact g3
      · rw [u1, hd, upward_succ, List.append_assoc]
        have e4 : kl.length - (t + 1) = d := by omega
        rw [e4]
        rfl
      · rw [u2, hd]
        have e4 : kl.length - (t + 1) = d := by omega
        rw [e4]
        rfl
    · rintro σ H1 ⟨k1, dn, cur, a, v5, v6, v7, rfl, hA, g1, u1, u2⟩
      rw [Nat.sub_self] at u1 u2
      have u3 : Ks189.upward i wy keys 0 cur = [] := rfl
      rw [u3, List.append_nil] at u1
      refine ⟨_, rfl, q H1 a ?_ k1 ?_⟩
      · rw [u1]
        exact g1
      · rw [u2]
        exact hA
end
end My
namespace My
open PySem PySem.Spec PyProof.Rows L2
open Ks189 (Ref Node Dev Ev)
theorem Keep.hide {L N : Own} {H H' : Hp} (k : Keep (fun b => L b ∨ N b) H H') (nn : ∀ b, N b → H b = none) : Keep L H H' := fun b u h n => k b u h fun z => z.elim n fun q => by
  have e := nn b q
  rw [h] at e
  cases e
theorem kids_quiet (d d' : Dev) (v : Nat) (x : Ref) : d'.after (kids padF d v x).1 = d' := by
  by_cases h : x.copy = 0
  · rw [kids_absent h]
    rfl
  · rw [kids_there h]
    rfl
theorem after_app (d : Dev) (a b : List Ev) : d.after (a ++ b) = (d.after a).after b := by
  unfold Ks189.Dev.after
  rw [List.foldl_append]
section
variable {C : Cs} {M : Own} {H : Hp} {y nl ll bl : Addr} {i : Nat} {rf : Int} {links : List Ref} {nodes : List Node}
theorem WayAt.addLink (h : WayAt C M H y nl ll bl i rf links nodes) {a : Addr} {x : Ref} (hx : LinkAt C M H a x) (hl : M ll) (n1 : y ≠ ll) (n2 : nl ≠ ll) (n3 : bl ≠ ll) :
    ∃ as : List Addr, H ll = some (.lst (as.map V.ref)) ∧ as.length = links.length ∧ WayAt C M (upd H ll (.lst (as.map V.ref ++ [.ref a]))) y nl ll bl i rf (links ++ [x]) nodes := by
  obtain ⟨dx, hw⟩ := h.w
  obtain ⟨as, l1, l2⟩ := h.l
  obtain ⟨bs, b1, b2⟩ := h.b
  have s : ∀ b, b = ll → M b := fun b z => z ▸ hl
  refine ⟨as, l1, l2.1, ⟨dx, (upd_ne n1).trans hw⟩, (upd_ne n2).trans h.n, ⟨as ++ [a], ?_, (l2.imp fun c x z => z.keep Keep.at s).snoc (hx.keep Keep.at s)⟩, ⟨bs, (upd_ne n3).trans b1, b2.imp fun c x z => z.keep Keep.at s⟩⟩
  rw [upd_same, List.map_append]
  rfl
theorem WayAt.addNode (h : WayAt C M H y nl ll bl i rf links nodes) {a : Addr} {x : Node} (hx : KidsAt C M H a x) (hl : M bl) (n1 : y ≠ bl) (n2 : nl ≠ bl) (n3 : ll ≠ bl) :
    ∃ as : List Addr, H bl = some (.lst (as.map V.ref)) ∧ as.length = nodes.length ∧ WayAt C M (upd H bl (.lst (as.map V.ref ++ [.ref a]))) y nl ll bl i rf links (nodes ++ [x]) := by
  obtain ⟨dx, hw⟩ := h.w
  obtain ⟨as, l1, l2⟩ := h.l
  obtain ⟨bs, b1, b2⟩ := h.b
  have s : ∀ b, b = bl → M b := fun b z => z ▸ hl
  refine ⟨bs, b1, b2.1, ⟨dx, (upd_ne n1).trans hw⟩, (upd_ne n2).trans h.n, ⟨as, (upd_ne n3).trans l1, l2.imp fun c x z => z.keep Keep.at s⟩, ⟨bs ++ [a], ?_, (b2.imp fun c x z => z.keep Keep.at s).snoc (hx.keep Keep.at s)⟩⟩
  rw [upd_same, List.map_append]
  rfl
theorem WayAt.less {M' : Own} (h : WayAt C M' H y nl ll bl i rf links nodes) (s : ∀ b, M b → M' b) : WayAt C M H y nl ll bl i rf links nodes := by
  obtain ⟨as, l1, l2⟩ := h.l
  obtain ⟨bs, b1, b2⟩ := h.b
  exact ⟨h.w, h.n, ⟨as, l1, l2.imp fun c x z => z.less s⟩, ⟨bs, b1, b2.imp fun c x z => z.less s⟩⟩
end
/-- a way whose refusal is told -/
def WayNo (C : Cs) (H : Hp) (y : Addr) (rf : Int) : Prop := ∃ dx nl ll bl, H y = some (.ins C.W dx (wF nl ll bl rf))
/-- from the program's way to the specification's -/
theorem way_stop {d : Dev} {i : Nat} {e : List Ev} (hx : ¬ 2 < (Ks189.rootOf d.reg).copy) (h : walk padF d i 10 0 (Ks189.rootOf d.reg) = (e, none)) : Ks189.way padF d i = (.know d.reg :: e, none) := by
  have g : Ks189.way padF d i = (.know d.reg :: (Ks189.go padF d i 10 0 (Ks189.rootOf d.reg)).1, (Ks189.go padF d i 10 0 (Ks189.rootOf d.reg)).2) := if_neg hx
  rw [g]
  obtain ⟨w1, w2⟩ := go_walk (f := padF) (d := d) (i := i) 10 0 (Ks189.rootOf d.reg)
  generalize Ks189.go padF d i 10 0 (Ks189.rootOf d.reg) = r at w1 w2 ⊢
  obtain ⟨e', o⟩ := r
  cases o with
  | none =>
    have q := (w1 e' rfl).symm.trans h
    cases q
    rfl
  | some wy =>
    obtain ⟨w', y'⟩ := wy
    obtain ⟨ns, rs, e1, _⟩ := w2 e' w' y' rfl
    rw [e1] at h
    cases h
theorem way_goes {d : Dev} {i : Nat} {e : List Ev} {ns : List Node} {rs : List Ref} (hx : ¬ 2 < (Ks189.rootOf d.reg).copy) (h : walk padF d i 10 0 (Ks189.rootOf d.reg) = (e, some (ns, rs))) :
    ∃ wy, Ks189.way padF d i = (.know d.reg :: e, some wy) ∧ Path wy.1 (Ks189.rootOf d.reg :: rs) ns ∧ (Ks189.rootOf d.reg :: rs).getD 10 Ks189.none_ = Ks189.leafOf wy := by
  have g : Ks189.way padF d i = (.know d.reg :: (Ks189.go padF d i 10 0 (Ks189.rootOf d.reg)).1, (Ks189.go padF d i 10 0 (Ks189.rootOf d.reg)).2) := if_neg hx
  rw [g]
  obtain ⟨w1, w2⟩ := go_walk (f := padF) (d := d) (i := i) 10 0 (Ks189.rootOf d.reg)
  generalize Ks189.go padF d i 10 0 (Ks189.rootOf d.reg) = r at w1 w2 ⊢
  obtain ⟨e', o⟩ := r
  cases o with
  | none =>
    rw [w1 e' rfl] at h
    cases h
  | some wy =>
    obtain ⟨w', y'⟩ := wy
    obtain ⟨ns', rs', e1, l1, l2, hh, hl⟩ := w2 e' w' y' rfl
    rw [e1] at h
    cases h
    refine ⟨(w', y'), rfl, ⟨by rw [List.length_cons, l2], l1, hh⟩, ?_⟩
    rw [hl]
    rfl
section
variable {P : Program} {w : World} {K : PySem.W.Frag} {mg : Str → Option Value} {base : Heap} {C : Cs}
abbrev sGo : Stmt := top 28
theorem scGo : FnScope ["outside", "slot", "way", "root", "depth", "children"] ["outside", "slot"] (defScope sGo) := ⟨rfl, rfl, rfl, by decide +kernel, rfl, by decide +kernel, by decide +kernel⟩
def spGo (C : Cs) : Sp := fun vs H Q _ => ∃ (M : Own) (o pd an : Addr) (s : S) (n i : Nat), vs = [.ref o, .int (i : Int)] ∧ OutAt C M H o pd an s n ∧ n + 30 < BIG ∧
  (1024 ≤ i → ∀ H' y, OutAt C M H' o pd an s n → Keep (OL o pd an) H H' → WayNo C H' y (-22) → Q (.ref y) H') ∧
  (i < 1024 → ∀ e, Ks189.way padF s.dev i = (e, none) → ∀ H' y, OutAt C M H' o pd an (s.tells e) (n + 30) → Keep (OL o pd an) H H' → WayNo C H' y (-71) → Q (.ref y) H') ∧
  (i < 1024 → ∀ e wy, Ks189.way padF s.dev i = (e, some wy) → ∀ H' y links nodes, OutAt C M H' o pd an (s.tells e) (n + 30) → Keep (OL o pd an) H H' → WayFin C M H' y i links nodes → Path wy.1 links nodes →
    links.getD 10 Ks189.none_ = Ks189.leafOf wy → s.dev.after e = s.dev → Q (.ref y) H')
theorem ok_Go (T : Txt K mg C) (iW : IniOk P w K mg base C.W 1 ["self", "slot"] (spWayI C)) (mR : MetOk P w K mg base C.O "ask_register" 2 ["self"] (spAskR C)) (dR : DefOk P w K mg base "root_in" 3 ["content"] (spRootIn C))
    (mG : MetOk P w K mg base C.L "is_garbage" 1 ["self"] (spIsGarbage C)) (dK : DefOk P w K mg base "read_children" 4 ["outside", "node", "link"] (spReadK C)) (mS : MetOk P w K mg base C.W "side_below" 1 ["self", "depth"] (spSide C)) (f : Addr) (fd : FuncData)
    (F : Fun K "go_way" "go_way" sGo f fd) : FnOk P w K mg base CX0 5 f fd ["outside", "slot"] (spGo C) := by
  refine F.ok scGo (fun vs H Q E h => ?_) (fun cdv A outer s H vs Q E hr h => ?_)
  · obtain ⟨M, o, pd, an, s, n, i, rfl, _⟩ := h
    rfl
  · obtain ⟨M, o, pd, an, s, n, i, rfl, h, hn, q1, q2, q3⟩ := h
    have hr1 : Room 1 _ := hr.mono (by decide)
    have hr2 : Room 2 _ := hr.mono (by decide)
    have hr3 : Room 3 _ := hr.mono (by decide)
    refine ⟨_, pss_cons (ps_set (i := 2) scGo.nd rfl (Or.inl rfl) (pe_i iW T.gW hr2 (pa_cons (pv 1) pa_nil)))
      (pss_cons (ps_if (pt_cmpR op_gt (pv 1) (pe_gv T.kLast) (nomark _)) (pss_cons (ps_fld (pv 2) (pe_un un_neg pe_int) rfl) (pss_one (ps_ret (pv 2)))) pss_nil)
      (pss_cons (ps_set (i := 3) scGo.nd rfl (Or.inl rfl) (pe_d dR hr3 (pa_cons (pe_m0 mR T.cO hr2 (pv 0)) pa_nil)))
      (pss_cons (ps_if (pt_val (pe_m0 mG T.cL hr1 (pv 3))) (pss_cons (ps_fld (pv 2) (pe_un un_neg pe_int) rfl) (pss_one (ps_ret (pv 2)))) pss_nil)
      (pss_cons (ps_expr (pe_bm PySem.F.plainAttrs_list PySem.F.slot_list_append PySem.F.type_list_append mt_append (pe_fld (pv 2) rfl) (pa_cons (pv 3) pa_nil)))
      (pss_cons (ps_for PassesOwn.never rfl (pi_range1 rfl T.bRange (pa_cons (pe_gv T.kDeep) pa_nil)) (pg_name (i := 4) scGo.nd rfl (Or.inl rfl))
        (pss_cons (ps_set (i := 5) scGo.nd rfl (Or.inl rfl) (pe_d dK hr (pa_cons (pv 0) (pa_cons (pe_ix ix_list (pe_fld (pv 2) rfl) (pv 4) (fun _ _ => rfl)) (pa_cons (pe_ix ix_list (pe_fld (pv 2) rfl) (pv 4) (fun _ _ => rfl)) pa_nil)))))
        (pss_cons (ps_if (PW.pt (pw_or (pt_val (pe_m0 mG T.cL hr1 (pe_ix ix_list (pv 5) pe_int (fun _ _ => rfl)))) (pw_or1 (pt_val (pe_m0 mG T.cL hr1 (pe_ix ix_list (pv 5) pe_int (fun _ _ => rfl)))))))
          (pss_cons (ps_fld (pv 2) (pe_un un_neg pe_int) rfl) (pss_one (ps_ret (pv 2)))) pss_nil)
        (pss_cons (ps_expr (pe_bm PySem.F.plainAttrs_list PySem.F.slot_list_append PySem.F.type_list_append mt_append (pe_fld (pv 2) rfl) (pa_cons (pv 5) pa_nil)))
        (pss_one (ps_expr (pe_bm PySem.F.plainAttrs_list PySem.F.slot_list_append PySem.F.type_list_append mt_append (pe_fld (pv 2) rfl)
          (pa_cons (pe_ix ix_list (pv 5) (pe_m mS T.cW hr1 (pv 2) (pa_cons (pv 4) pa_nil)) (fun _ _ => rfl)) pa_nil))))))))
      (pss_one (ps_ret (pv 2)))))))), ?_⟩
    refine ⟨_, rfl, ?_⟩
    intro y dy hy hdy ney
    refine ⟨y, dy, i, rfl, upd_same, fun H1 nl ll bl w1 w2 w3 w4 z1 z2 z3 e1 e2 e3 k0 => ⟨rfl, ?_⟩⟩
    -- the way's own things are new
    have km := made (C := C.W) hy hdy
    have k1 : Keep No H H1 := fun b u hb nb => k0 b u (km b u hb nb) (ne_of_none hb hy)
    have z1' := km.free0 z1
    have z2' := km.free0 z2
    have z3' := km.free0 z3
    generalize hN : (fun b : Addr => b = y ∨ b = ll ∨ b = bl) = N
    have ny : N y := by rw [← hN]; exact .inl rfl
    have nll : N ll := by rw [← hN]; exact .inr (.inl rfl)
    have nbl : N bl := by rw [← hN]; exact .inr (.inr rfl)
    have nn : ∀ b, N b → H b = none := by
      rw [← hN]
      rintro b (rfl | rfl | rfl)
      · exact hy
      · exact z2'
      · exact z3'
    have nt : Tr N H1 := by
      rw [← hN]
      rintro b (rfl | rfl | rfl)
      · exact ⟨_, w1⟩
      · exact ⟨_, w3⟩
      · exact ⟨_, w4⟩
    have yn : y ≠ nl := ne_of w1 w2 fun z => by cases z
    have yl : y ≠ ll := ne_of w1 w3 fun z => by cases z
    have yb : y ≠ bl := ne_of w1 w4 fun z => by cases z
    have nlN : ¬ N nl := by
      rw [← hN]
      rintro (z | z | z)
      · exact yn z.symm
      · exact e1 z
      · exact e2 z
    have nO : ∀ b, N b → ¬ OL o pd an b := fun b nb z => h.tr.out (nn b nb) (h.sub b z)
    have g1 : OutAt C (fun b => M b ∨ N b) H1 o pd an s n := h.grow k1 nn nt
    have kk1 : Keep (fun b => OL o pd an b ∨ N b) H H1 := k1.any
    -- the ends with a refusal
    have fin : ∀ {Hx : Hp} {s' : S} {n' : Nat} {r : Int} {dx nl' ll' bl' : Addr}, OutAt C (fun b => M b ∨ N b) Hx o pd an s' n' → Keep (fun b => OL o pd an b ∨ N b) H Hx →
        OutAt C M (upd Hx y (.ins C.W dx (wF nl' ll' bl' r))) o pd an s' n' ∧ Keep (OL o pd an) H (upd Hx y (.ins C.W dx (wF nl' ll' bl' r))) ∧ WayNo C (upd Hx y (.ins C.W dx (wF nl' ll' bl' r))) y r := by
      intro Hx s' n' r dx nl' ll' bl' gx kx
      refine ⟨(gx.frame (L := fun b => b = y) Keep.at (by rintro b rfl; exact ⟨.inr ny, nO _ ny⟩) (by rintro b rfl; exact ⟨_, upd_same⟩)).less (fun b z => .inl z) h.sub, ?_, ⟨_, _, _, _, upd_same⟩⟩
      exact (kx.trans (Keep.at.mono (by rintro b rfl; exact .inr ny))).hide nn
    refine ⟨_, rfl, _, _, rfl, rfl, _, rfl, ?_⟩
    by_cases hi : 1024 ≤ i
    · rw [show decide ((1023 : Int) < (i : Int)) = true from decide_eq_true (by omega)]
      refine iteT ?_
      refine ⟨_, rfl, _, rfl, y, C.W, dy, _, rfl, w1, T.cW, T.nW4, (by show 4 < 1000; decide), ?_⟩
      rw [wF_pr]
      obtain ⟨f1, f2, f3⟩ := fin (r := -22) (dx := dy) (nl' := nl) (ll' := ll) (bl' := bl) g1 kk1
      exact ⟨_, rfl, q1 hi _ y f1 f2 f3⟩
    rw [show decide ((1023 : Int) < (i : Int)) = false from decide_eq_false (by omega)]
    refine iteF ?_
    have hi2 : i < 1024 := by omega
    -- the root
    obtain ⟨dx1, r1, sc1, ho1, hR1, hS1⟩ := g1.ob
    refine ⟨_, rfl, o, dx1, _, rfl, ho1, oF_no _ _ _ _ _ (by decide +kernel), _, o, pd, an, s, n, rfl, g1, by omega, fun H2 p g2 k2 hp => ?_⟩
    refine ⟨_, p, s.dev.reg, rfl, g2.tr, hp.1, h.wf.1, fun H3 rt k3 nrt hrt => ?_⟩
    have k13 : Keep (OL o pd an) H1 H3 := k2.trans k3.any
    have g3 := g2.keep0 k3
    have kk3 : Keep (fun b => OL o pd an b ∨ N b) H H3 := kk1.trans (k13.mono fun b z => .inl z)
    have w13 := k13 _ _ w1 (nO _ ny)
    have hrt0 := hrt
    obtain ⟨drt, krt, rt1, rt2, rt3, rt4⟩ := hrt
    refine ⟨_, rfl, rt, drt, _, rfl, rt1, lF_no _ _ (by decide +kernel), rt, drt, krt, _, rfl, rt1, _, rfl, ?_⟩
    by_cases hx : 2 < (Ks189.rootOf s.dev.reg).copy
    · rw [decide_eq_true hx]
      refine iteT ?_
      refine ⟨_, rfl, _, rfl, y, C.W, dy, _, rfl, w13, T.cW, T.nW4, (by show 4 < 1000; decide), ?_⟩
      rw [wF_pr]
      obtain ⟨f1, f2, f3⟩ := fin (r := -71) (dx := dy) (nl' := nl) (ll' := ll) (bl' := bl) g3 kk3
      have hw : Ks189.way padF s.dev i = ([.know s.dev.reg], none) := if_pos hx
      refine ⟨_, rfl, q2 hi2 _ hw _ y ?_ f2 f3⟩
      rw [tell_one]
      exact f1.up (by omega)
    rw [decide_eq_false hx]
    refine iteF ?_
    -- the way down
    have hW0 : WayAt C (fun b => M b ∨ N b) H3 y nl ll bl i 0 [] [] := ⟨⟨dy, w13⟩, k13 _ _ w2 (fun z => h.tr.out z1' (h.sub _ z)), ⟨[], k13 _ _ w3 (nO _ nll), RefsAt.nil⟩, ⟨[], k13 _ _ w4 (nO _ nbl), RefsAt.nil⟩⟩
    obtain ⟨as0, as1, as2, hW1⟩ := hW0.addLink hrt0 (.inr nll) yl e1 e3.symm
    refine ⟨_, rfl, y, C.W, dy, _, _, rfl, w13, T.cW, T.nW2, wF_l _ _ _ _, .inl ⟨rfl, _, SqL.of as1⟩, _, rfl, ll, _, _, rfl, rfl, as1, ?_, ?_⟩
    · rw [List.length_map, as2]
      decide
    have g4 := g3.frame (L := fun b => b = ll) (Keep.at (u := .lst (as0.map V.ref ++ [.ref rt]))) (by rintro b rfl; exact ⟨.inr nll, nO _ nll⟩) (by rintro b rfl; exact ⟨_, upd_same⟩)
    have kk4 := kk3.trans (Keep.at.mono (L' := fun b => OL o pd an b ∨ N b) (by rintro b rfl; exact .inr nll) : Keep _ H3 (upd H3 ll (.lst (as0.map V.ref ++ [.ref rt]))))
    refine ⟨10, rfl, by decide, by decide, ?_⟩
    refine for_range (lo := 0) (n := 10) (fun t σ H' => Keep (fun b => OL o pd an b ∨ N b) H H' ∧ ∃ (rs : List Ref) (nodes : List Node) (pre : List Ev) (v4 v5 : Option V), σ = [some (.ref o), some (.int (i : Int)), some (.ref y), some (.ref rt), v4, v5] ∧
      rs.length = t ∧ nodes.length = t ∧ WayAt C (fun b => M b ∨ N b) H' y nl ll bl i 0 (Ks189.rootOf s.dev.reg :: rs) nodes ∧ OutAt C (fun b => M b ∨ N b) H' o pd an (s.tells (.know s.dev.reg :: pre)) (n + 1 + 2 * t) ∧
      s.dev.after (.know s.dev.reg :: pre) = s.dev ∧
      walk padF s.dev i 10 0 (Ks189.rootOf s.dev.reg) = (pre ++ (walk padF s.dev i (10 - t) t ((Ks189.rootOf s.dev.reg :: rs).getD t Ks189.none_)).1, (walk padF s.dev i (10 - t) t ((Ks189.rootOf s.dev.reg :: rs).getD t Ks189.none_)).2.map fun z => (nodes ++ z.1, rs ++ z.2)))
      ⟨kk4, [], [], [], none, none, rfl, rfl, rfl, hW1, (by rw [tell_one]; exact g4), rfl, ?_⟩ ?_ ?_
    · show walk padF s.dev i 10 0 (Ks189.rootOf s.dev.reg) = ([] ++ (walk padF s.dev i 10 0 (Ks189.rootOf s.dev.reg)).1, (walk padF s.dev i 10 0 (Ks189.rootOf s.dev.reg)).2.map fun z => ([] ++ z.1, [] ++ z.2))
      generalize walk padF s.dev i 10 0 (Ks189.rootOf s.dev.reg) = r
      obtain ⟨a, b⟩ := r
      cases b <;> rfl
    · rintro t σ H5 ht ⟨k5, rs, nodes, pre, v4, v5, rfl, lr, ln, hW, g5, hq, hwk⟩
      have et : (0 : Int) + (t : Int) = ((t : Nat) : Int) := by omega
      rw [et]
      obtain ⟨dw, hw⟩ := hW.w
      obtain ⟨las, hl, hL⟩ := hW.l
      obtain ⟨la, l1, hla⟩ := hL.get Ks189.none_ (j := t) (by rw [List.length_cons, lr]; exact Nat.lt_succ_self t)
      refine ⟨_, rfl, _, rfl, y, C.W, dw, _, _, rfl, hw, T.cW, T.nW1, wF_n _ _ _ _, _, rfl, nl, _, _, _, rfl, rfl, SqL.of hW.n, nodes_at (by omega), ?_⟩
      refine ⟨_, rfl, y, C.W, dw, _, _, rfl, hw, T.cW, T.nW2, wF_l _ _ _ _, _, rfl, ll, _, _, _, rfl, rfl, SqL.of hl, atI_nat l1, ?_⟩
      generalize hcur : (Ks189.rootOf s.dev.reg :: rs).getD t Ks189.none_ = cur at hla hwk
      refine ⟨_, o, pd, an, _, n + 1 + 2 * t, Ks189.nodeAt i t, la, cur, rfl, g5, by omega, hla, node_pos (by omega), fun H6 p g6 k6 hp => ?_⟩
      have hdv : (s.tells (.know s.dev.reg :: pre)).dev = s.dev := hq
      rw [hdv] at g6 hp
      rw [← tells_append, List.cons_append] at g6
      have kk6 := k5.trans (k6.mono (L' := fun b => OL o pd an b ∨ N b) fun b z => .inl z)
      have hW6 := hW.keep k6 g5.sub (nO _ ny) (fun z => h.tr.out z1' (h.sub _ z)) (nO _ nll) (nO _ nbl)
      obtain ⟨dw6, hw6⟩ := hW6.w
      have hp0 := hp
      obtain ⟨pl, pr, hpp, hpm, hpl, hpr⟩ := hp
      have hpl0 := hpl
      have hpr0 := hpr
      obtain ⟨dpl, kpl, pl1, pl2, pl3, pl4⟩ := hpl
      obtain ⟨dpr, kpr, pr1, pr2, pr3, pr4⟩ := hpr
      have e10 : 10 - t = (10 - (t + 1)) + 1 := by omega
      -- garbage: the way is refused
      have stop : ¬ ((kids padF s.dev (Ks189.nodeAt i t) cur).2.l.copy ≤ 2 ∧ (kids padF s.dev (Ks189.nodeAt i t) cur).2.r.copy ≤ 2) →
          (tSeq (sFld K (tVar 2) (tUn (rU fun i => .int (-i)) (tC (.int 71))) "refusal") (tRet (tVar 2))) { nx := fun _ _ => True, rt := Q } [some (.ref o), some (.int (i : Int)), some (.ref y), some (.ref rt), some (.int ((t : Nat) : Int)), some (.ref p)] H6 := by
        intro hc
        rw [e10, walk_stop hc] at hwk
        refine ⟨_, rfl, _, rfl, y, C.W, dw6, _, rfl, hw6, T.cW, T.nW4, (by show 4 < 1000; decide), ?_⟩
        rw [wF_pr]
        obtain ⟨f1, f2, f3⟩ := fin (r := -71) (dx := dw6) (nl' := nl) (ll' := ll) (bl' := bl) g6 kk6
        refine ⟨_, rfl, q2 hi2 _ (way_stop hx hwk) _ y (f1.up (by omega)) f2 f3⟩
      refine ⟨_, rfl, p, _, _, _, rfl, rfl, SqL.of hpp, atI_nat (j := 0) rfl, pl, dpl, _, rfl, pl1, lF_no _ _ (by decide +kernel), pl, dpl, kpl, _, rfl, pl1, _, rfl, ?_⟩
      by_cases c1 : 2 < (kids padF s.dev (Ks189.nodeAt i t) cur).2.l.copy
      · rw [decide_eq_true c1]
        refine iteT ?_
        refine iteT ?_
        exact stop fun z => by omega
      rw [decide_eq_false c1]
      refine iteF ?_
      refine ⟨_, rfl, p, _, _, _, rfl, rfl, SqL.of hpp, atI_nat (j := 1) rfl, pr, dpr, _, rfl, pr1, lF_no _ _ (by decide +kernel), pr, dpr, kpr, _, rfl, pr1, _, rfl, ?_⟩
      by_cases c2 : 2 < (kids padF s.dev (Ks189.nodeAt i t) cur).2.r.copy
      · rw [decide_eq_true c2]
        refine iteT ?_
        exact stop fun z => by omega
      rw [decide_eq_false c2]
      refine iteF ?_
      -- one depth further
      obtain ⟨bas, b1, b2, hW7⟩ := hW6.addNode hp0 (.inr nbl) yb e2 e3
      refine ⟨_, rfl, y, C.W, dw6, _, _, rfl, hw6, T.cW, T.nW3, wF_b _ _ _ _, .inl ⟨rfl, _, SqL.of b1⟩, _, rfl, bl, _, _, rfl, rfl, b1, ?_, ?_⟩
      · rw [List.length_map, b2, ln]
        exact Nat.lt_trans ht (by decide)
      have sb : ∀ b, b = bl → (M b ∨ N b) := by
        rintro b rfl
        exact .inr nbl
      have kbl : Keep (fun b => b = bl) H6 (upd H6 bl (.lst (bas.map V.ref ++ [.ref p]))) := Keep.at
      have g7 := g6.frame (L := fun b => b = bl) kbl (by rintro b rfl; exact ⟨.inr nbl, nO _ nbl⟩) (by rintro b rfl; exact ⟨_, upd_same⟩)
      have kk7 := kk6.trans (kbl.mono (L' := fun b => OL o pd an b ∨ N b) (by rintro b rfl; exact .inr nbl))
      have hpp7 := kbl p _ hpp (fun z => hpm (sb p z))
      have hpl7 := hpl0.keep kbl sb
      have hpr7 := hpr0.keep kbl sb
      generalize upd H6 bl (.lst (bas.map V.ref ++ [.ref p])) = H7 at hW7 g7 kk7 hpp7 hpl7 hpr7 ⊢
      clear kbl
      obtain ⟨dw7, hw7⟩ := hW7.w
      have hch : ∃ j c, Ks189.nodeAt i (t + 1) % 2 = j ∧ [V.ref pl, V.ref pr][j]? = some (.ref c) ∧ LinkAt C (fun b => M b ∨ N b) H7 c ((kids padF s.dev (Ks189.nodeAt i t) cur).2.child (Ks189.right_ i t)) := by
        rw [side_is]
        cases e : Ks189.right_ i t with
        | true => exact ⟨1, pr, rfl, rfl, hpr7⟩
        | false => exact ⟨0, pl, rfl, rfl, hpl7⟩
      obtain ⟨j, c, hj, hjc, hc⟩ := hch
      obtain ⟨las7, m1, m2, hW8⟩ := hW7.addLink hc (.inr nll) yl e1 e3.symm
      refine ⟨_, rfl, y, C.W, dw7, _, _, rfl, hw7, T.cW, T.nW2, wF_l _ _ _ _, .inl ⟨rfl, _, SqL.of m1⟩, ?_⟩
      refine ⟨_, rfl, _, rfl, y, dw7, _, rfl, hw7, wF_no _ _ _ _ (by decide +kernel), _, rfl, y, dw7, nl, ll, bl, 0, i, t, rfl, hw7, hW7.n, ht, ?_⟩
      rw [hj]
      refine ⟨p, _, _, _, rfl, rfl, SqL.of hpp7, atI_nat hjc, ?_⟩
      refine ⟨ll, _, _, rfl, rfl, m1, ?_, ?_⟩
      · rw [List.length_map, m2, List.length_cons, lr]
        exact Nat.lt_of_le_of_lt (Nat.succ_le_of_lt ht) (by decide)
      have kll : Keep (fun b => b = ll) H7 (upd H7 ll (.lst (las7.map V.ref ++ [.ref c]))) := Keep.at
      have g8 := g7.frame (L := fun b => b = ll) kll (by rintro b rfl; exact ⟨.inr nll, nO _ nll⟩) (by rintro b rfl; exact ⟨_, upd_same⟩)
      refine ⟨kk7.trans (kll.mono (L' := fun b => OL o pd an b ∨ N b) (by rintro b rfl; exact .inr nll)), rs ++ [(kids padF s.dev (Ks189.nodeAt i t) cur).2.child (Ks189.right_ i t)], nodes ++ [(kids padF s.dev (Ks189.nodeAt i t) cur).2], pre ++ (kids padF s.dev (Ks189.nodeAt i t) cur).1, _, _, rfl, ?_, ?_, ?_, ?_, ?_, ?_⟩
      · rw [List.length_append, lr]
        rfl
      · rw [List.length_append, ln]
        rfl
      · exact hW8
      · exact g8
      · rw [← List.cons_append, after_app, hq, kids_quiet]
      · have hcx : (Ks189.rootOf s.dev.reg :: (rs ++ [(kids padF s.dev (Ks189.nodeAt i t) cur).2.child (Ks189.right_ i t)])).getD (t + 1) Ks189.none_ = (kids padF s.dev (Ks189.nodeAt i t) cur).2.child (Ks189.right_ i t) := by
          rw [List.getD_cons_succ, List.getD_eq_getElem?_getD, List.getElem?_append_right (by omega), lr, Nat.sub_self]
          rfl
        rw [hcx, hwk, e10, walk_step ⟨by omega, by omega⟩]
        generalize walk padF s.dev i (10 - (t + 1)) (t + 1) ((kids padF s.dev (Ks189.nodeAt i t) cur).2.child (Ks189.right_ i t)) = r
        obtain ⟨ra, rb⟩ := r
        cases rb with
        | none => simp only [List.append_assoc, Option.map_none]
        | some z => simp only [List.append_assoc, Option.map_some, List.singleton_append]
    · rintro σ H5 ⟨k5, rs, nodes, pre, v4, v5, rfl, lr, ln, hW, g5, hq, hwk⟩
      have e0 : walk padF s.dev i (10 - 10) 10 ((Ks189.rootOf s.dev.reg :: rs).getD 10 Ks189.none_) = ([], some ([], [])) := rfl
      rw [e0] at hwk
      simp only [List.append_nil, Option.map_some] at hwk
      obtain ⟨wy, y1, y2, y3⟩ := way_goes hx hwk
      refine ⟨_, rfl, q3 hi2 _ wy y1 H5 y _ nodes ((g5.less (fun b z => .inl z) h.sub).up (by omega)) (k5.hide nn) ⟨nl, ll, bl, hW.less fun b z => .inl z, ?_, ?_, ?_, ?_⟩ y2 y3 hq⟩
      · exact h.tr.out hy
      · exact h.tr.out z1'
      · exact h.tr.out z2'
      · exact h.tr.out z3'
end
end My
/-! ### 8. The module slots: a call each, beside the specification's act -/
namespace My
open PySem PySem.Spec PyProof.Rows L2
open Ks189 (Ref Node Dev Ev)
def ansV (a : Ks189.Ans) : List V := V.int a.ret :: vs a.out
/-- what a call comes to -/
def Done (C : Cs) (M : Own) (H : Hp) (o pd an : Addr) (s : S) (n : Nat) (r : List Ev × Ks189.Ans) (Q : VK) : Prop := ∀ H' p s', OutAt C M H' o pd an s' (n + 80) → s'.dev = s.dev.after r.1 → s'.evs = s.evs ++ r.1 → Keep (OL o pd an) H H' →
  H' p = some (.lst (ansV r.2)) → Q (.ref p) H'
theorem leaf_node (i : Nat) : Ks189.nodeAt i 10 = 1024 + i := by
  show (1024 + i) / 2 ^ (10 - 10) = 1024 + i
  rw [Nat.sub_self, Nat.pow_zero, Nat.div_one]
theorem after_any (d : Dev) : ∀ l : List (List Nat), d.after (l.map Ev.any) = d
  | [] => rfl
  | _ :: l => after_any d l
section
variable {d : Dev} {i : Nat} {keys : List (List Nat)} {x : List Nat} {e : List Ev} {wy : List (Nat × Node) × Ref}
theorem get_far (h : 1024 ≤ i) : Ks189.act padF d keys (.get i) = ([], Ks189.say (-22)) := if_pos h
theorem get_bad (h : ¬ 1024 ≤ i) (hw : Ks189.way padF d i = (e, none)) : Ks189.act padF d keys (.get i) = (e, Ks189.say (-71)) := by
  refine (if_neg h).trans ?_
  rw [hw]
theorem get_none (h : ¬ 1024 ≤ i) (hw : Ks189.way padF d i = (e, some wy)) (hl : (Ks189.leafOf wy).copy = 0) : Ks189.act padF d keys (.get i) = (e, Ks189.say (-2)) := by
  refine (if_neg h).trans ?_
  rw [hw]
  exact if_pos hl
theorem get_some (h : ¬ 1024 ≤ i) (hw : Ks189.way padF d i = (e, some wy)) (hl : ¬ (Ks189.leafOf wy).copy = 0) : Ks189.act padF d keys (.get i) =
    (e ++ readEvs padF d (1024 + i) (Ks189.leafOf wy), { ret := 0, out := (Ks189.xor (d.page (Ks189.pageOf (1024 + i) (Ks189.leafOf wy).copy)) (padF (Ks189.leafOf wy).key)).take 64 }) := by
  refine (if_neg h).trans ?_
  rw [hw]
  exact if_neg hl
theorem put_far (h : 1024 ≤ i) : Ks189.act padF d keys (.put i x) = ([], Ks189.say (-22)) := if_pos h
theorem put_bad (h : ¬ 1024 ≤ i) (hw : Ks189.way padF d i = (e, none)) : Ks189.act padF d keys (.put i x) = (e, Ks189.say (-71)) := by
  refine (if_neg h).trans ?_
  rw [hw]
theorem put_some (h : ¬ 1024 ≤ i) (hw : Ks189.way padF d i = (e, some wy)) : Ks189.act padF d keys (.put i x) = (e ++ Ks189.wrote padF keys (Ks189.pagesPut i wy keys x), Ks189.say 0) := by
  refine (if_neg h).trans ?_
  rw [hw]
theorem forget_far (h : 1024 ≤ i) : Ks189.act padF d keys (.forget i) = ([], Ks189.say (-22)) := if_pos h
theorem forget_bad (h : ¬ 1024 ≤ i) (hw : Ks189.way padF d i = (e, none)) : Ks189.act padF d keys (.forget i) = (e, Ks189.say (-71)) := by
  refine (if_neg h).trans ?_
  rw [hw]
theorem forget_none (h : ¬ 1024 ≤ i) (hw : Ks189.way padF d i = (e, some wy)) (hl : (Ks189.leafOf wy).copy = 0) : Ks189.act padF d keys (.forget i) = (e, Ks189.say (-2)) := by
  refine (if_neg h).trans ?_
  rw [hw]
  exact if_pos hl
theorem forget_some (h : ¬ 1024 ≤ i) (hw : Ks189.way padF d i = (e, some wy)) (hl : ¬ (Ks189.leafOf wy).copy = 0) : Ks189.act padF d keys (.forget i) = (e ++ Ks189.wrote padF keys (Ks189.pagesForget i wy keys), Ks189.say 0) := by
  refine (if_neg h).trans ?_
  rw [hw]
  exact if_neg hl
theorem needs_put (h : ¬ 1024 ≤ i) (hw : Ks189.way padF d i = (e, some wy)) : Ks189.needs padF d (.put i x) = 11 := by
  refine (if_pos ?_).trans rfl
  rw [hw]
  exact ⟨Nat.lt_of_not_le h, rfl⟩
theorem needs_forget (h : ¬ 1024 ≤ i) (hw : Ks189.way padF d i = (e, some wy)) (hl : ¬ (Ks189.leafOf wy).copy = 0) : Ks189.needs padF d (.forget i) = Ks189.stay i wy.1 := by
  refine (if_pos (Nat.lt_of_not_le h)).trans ?_
  rw [hw]
  exact if_neg hl
/-- the register behind the pages -/
theorem last_up (i : Nat) (w : List (Nat × Node)) (keys : List (List Nat)) : ∀ (m : Nat) (p : Ks189.Page), Ks189.last (p :: Ks189.upward i w keys m ⟨p.copy, p.key⟩) = Ks189.regOf (upEnd i w keys m ⟨p.copy, p.key⟩)
  | 0, p => rfl
  | m + 1, p => by
    rw [upward_succ]
    have ih := last_up i w keys m ⟨Ks189.nodeAt i m, Ks189.other (Ks189.had w m).1, keys.getD m [], ((Ks189.had w m).2.with_ (Ks189.right_ i m) ⟨p.copy, p.key⟩).bytes⟩
    refine Eq.trans ?_ ih
    unfold Ks189.last
    rw [List.getLast?_cons_cons]
theorem other_there (c : Nat) : Ks189.other c ≠ 0 := by
  unfold Ks189.other
  by_cases h : c = 1
  · rw [if_pos h]
    decide
  · rw [if_neg h]
    decide
theorem up_there (i : Nat) (w : List (Nat × Node)) (keys : List (List Nat)) : ∀ (m : Nat) (x : Ref), x.copy ≠ 0 → (upEnd i w keys m x).copy ≠ 0
  | 0, _, h => h
  | m + 1, _, _ => up_there i w keys m _ (other_there _)
theorem reg_of {r : Ref} (h : r.copy ≠ 0) : Ks189.regOf r = [r.copy, 0, 0, 0] ++ r.key ++ Ks189.zeros 4 := if_neg h
theorem last_put (i : Nat) (w : List (Nat × Node)) (keys : List (List Nat)) (m : Nat) (v c : Nat) (k b : List Nat) (hc : c ≠ 0) :
    Ks189.last (⟨v, c, k, b⟩ :: Ks189.upward i w keys m ⟨c, k⟩) = [(upEnd i w keys m ⟨c, k⟩).copy, 0, 0, 0] ++ (upEnd i w keys m ⟨c, k⟩).key ++ Ks189.zeros 4 := by
  rw [last_up i w keys m ⟨v, c, k, b⟩]
  exact reg_of (up_there i w keys m _ hc)
theorem last_forget (i : Nat) (w : List (Nat × Node)) (keys : List (List Nat)) : ∀ m : Nat, Ks189.last (Ks189.upward i w keys m Ks189.none_) = [(upEnd i w keys m Ks189.none_).copy, 0, 0, 0] ++ (upEnd i w keys m Ks189.none_).key ++ Ks189.zeros 4
  | 0 => rfl
  | m + 1 => by
    rw [upward_succ]
    exact last_put i w keys m _ _ _ _ (other_there _)
end
section
variable {P : Program} {w : World} {K : PySem.W.Frag} {mg : Str → Option Value} {base : Heap} {C : Cs}
abbrev sClear : Stmt := top 35
theorem scClear : FnScope ["outside"] ["outside"] (defScope sClear) := ⟨rfl, rfl, rfl, by decide +kernel, rfl, by decide +kernel, by decide +kernel⟩
def spClear (C : Cs) : Sp := fun vs H Q _ => ∃ (M : Own) (o pd an : Addr) (s : S) (n : Nat), vs = [.ref o] ∧ OutAt C M H o pd an s n ∧ n + 100 < BIG ∧ Done C M H o pd an s n (Ks189.act padF s.dev [] .clear) Q
theorem ok_Clear (T : Txt K mg C) (mP : MetOk P w K mg base C.O "put_register" 2 ["self", "content"] (spPutR C)) (f : Addr) (fd : FuncData) (F : Fun K "clear_all" "clear_all" sClear f fd) : FnOk P w K mg base CX0 3 f fd ["outside"] (spClear C) := by
  refine F.ok scClear (fun vs H Q E h => ?_) (fun cdv A outer s H vs Q E hr h => ?_)
  · obtain ⟨M, o, pd, an, s, n, rfl, _⟩ := h
    rfl
  · obtain ⟨M, o, pd, an, s, n, rfl, h, hn, q⟩ := h
    refine ⟨_, pss_cons (ps_expr (pe_m mP T.cO hr (pv 0) (pa_cons (pe_op op_rep (pe_lst (pa_cons pe_int pa_nil)) (pe_gv T.kReg)) pa_nil))) (pss_one (ps_ret (pe_lst (pa_cons pe_int pa_nil)))), ?_⟩
    obtain ⟨dx, r, sc, ho, hR, hS⟩ := h.ob
    refine ⟨_, rfl, o, dx, _, rfl, ho, oF_no _ _ _ _ _ (by decide +kernel), by show 1 ≤ sizeLine; decide, fun l hl => ⟨l, 40, [.int 0], rfl, rfl, upd_same, by decide, by decide, by decide, fun z hz => ?_⟩⟩
    have k1 := (Keep.new (u := .lst [V.int 0]) hl).trans (Keep.new (u := .lst (List.replicate (40 : Int).toNat [V.int 0]).flatten) hz)
    refine ⟨M, o, pd, an, s, n, z, Ks189.zeros 40, rfl, h.keep0 k1, by omega, ⟨upd_same.trans (by rw [rep_zeros]; rfl), h.tr.out ((Keep.new hl).free0 hz)⟩, rfl, fun H1 g1 k2 => ?_⟩
    refine ⟨by show 1 ≤ sizeLine; decide, fun p hp => ?_⟩
    have k3 := Keep.new (u := .lst [V.int 0]) hp
    exact q _ p (s.tell (.keep (Ks189.zeros 40))) ((g1.keep0 k3).up (by omega)) rfl rfl ((k1.any.trans k2).trans k3.any) upd_same
abbrev sGet : Stmt := top 36
theorem scGet : FnScope ["outside", "slot", "way", "link", "content"] ["outside", "slot"] (defScope sGet) := ⟨rfl, rfl, rfl, by decide +kernel, rfl, by decide +kernel, by decide +kernel⟩
def spGet (C : Cs) : Sp := fun vs H Q _ => ∃ (M : Own) (o pd an : Addr) (s : S) (n i : Nat), vs = [.ref o, .int (i : Int)] ∧ OutAt C M H o pd an s n ∧ n + 100 < BIG ∧ Done C M H o pd an s n (Ks189.act padF s.dev [] (.get i)) Q
theorem ok_Get (T : Txt K mg C) (dG : DefOk P w K mg base "go_way" 5 ["outside", "slot"] (spGo C)) (mT : MetOk P w K mg base C.L "is_there" 1 ["self"] (spIsThere C)) (dR : DefOk P w K mg base "read_copy" 3 ["outside", "node", "link"] (spReadC C))
    (f : Addr) (fd : FuncData) (F : Fun K "get_slot" "get_slot" sGet f fd) : FnOk P w K mg base CX0 6 f fd ["outside", "slot"] (spGet C) := by
  refine F.ok scGet (fun vs H Q E h => ?_) (fun cdv A outer s H vs Q E hr h => ?_)
  · obtain ⟨M, o, pd, an, s, n, i, rfl, _⟩ := h
    rfl
  · obtain ⟨M, o, pd, an, s, n, i, rfl, h, hn, q⟩ := h
    have hr1 : Room 1 _ := hr.mono (by decide)
    have hr3 : Room 3 _ := hr.mono (by decide)
    refine ⟨_, pss_cons (ps_set (i := 2) scGet.nd rfl (Or.inl rfl) (pe_d dG hr (pa_cons (pv 0) (pa_cons (pv 1) pa_nil))))
      (pss_cons (ps_if (pt_cmpR op_ne (pe_fld (pv 2) rfl) pe_int (nomark _)) (pss_one (ps_ret (pe_lst (pa_cons (pe_fld (pv 2) rfl) pa_nil)))) pss_nil)
      (pss_cons (ps_set (i := 3) scGet.nd rfl (Or.inl rfl) (pe_ix ix_list (pe_fld (pv 2) rfl) (pe_gv T.kDeep) (fun _ _ => rfl)))
      (pss_cons (ps_if (pt_not (pt_val (pe_m0 mT T.cL hr1 (pv 3)))) (pss_one (ps_ret (pe_lst (pa_cons (pe_un un_neg pe_int) pa_nil)))) pss_nil)
      (pss_cons (ps_set (i := 4) scGet.nd rfl (Or.inl rfl) (pe_d dR hr3 (pa_cons (pv 0) (pa_cons (pe_ix ix_list (pe_fld (pv 2) rfl) (pe_gv T.kDeep) (fun _ _ => rfl)) (pa_cons (pv 3) pa_nil)))))
      (pss_one (ps_ret (pe_op op_cat (pe_lst (pa_cons pe_int pa_nil)) (pe_slice sl_list (pv 4) (po_some pe_int) (po_some (pe_gv T.kData)))))))))), ?_⟩
    refine ⟨_, rfl, _, rfl, M, o, pd, an, s, n, i, rfl, h, by omega, fun hi H1 y g1 k1 hw => ?_, fun hi e he H1 y g1 k1 hw => ?_, fun hi e wy he H1 y links nodes g1 k1 hF hP hl hdv => ?_⟩
    · obtain ⟨dw, nl, ll, bl, w1⟩ := hw
      refine ⟨_, rfl, y, C.W, dw, _, _, rfl, w1, T.cW, T.nW4, wF_r _ _ _ _, rfl, _, rfl, ?_⟩
      refine iteT ?_
      refine ⟨_, rfl, y, C.W, dw, _, _, rfl, w1, T.cW, T.nW4, wF_r _ _ _ _, by show 1 ≤ sizeLine; decide, fun p hp => ?_⟩
      have k2 := Keep.new (u := .lst [V.int (-22)]) hp
      rw [get_far hi] at q
      refine q _ p s ((g1.keep0 k2).up (by omega)) rfl (List.append_nil _).symm (k1.trans k2.any) upd_same
    · obtain ⟨dw, nl, ll, bl, w1⟩ := hw
      refine ⟨_, rfl, y, C.W, dw, _, _, rfl, w1, T.cW, T.nW4, wF_r _ _ _ _, rfl, _, rfl, ?_⟩
      refine iteT ?_
      refine ⟨_, rfl, y, C.W, dw, _, _, rfl, w1, T.cW, T.nW4, wF_r _ _ _ _, by show 1 ≤ sizeLine; decide, fun p hp => ?_⟩
      have k2 := Keep.new (u := .lst [V.int (-71)]) hp
      rw [get_bad (by omega) he] at q
      exact q _ p _ ((g1.keep0 k2).up (by omega)) rfl rfl (k1.trans k2.any) upd_same
    · obtain ⟨nl, ll, bl, ⟨⟨dw, w1⟩, hnl, ⟨las, l1, l2⟩, _⟩, _⟩ := hF
      obtain ⟨la, m1, m2⟩ := l2.get Ks189.none_ (j := 10) (by rw [hP.ll]; decide)
      rw [hl] at m2
      refine ⟨_, rfl, y, C.W, dw, _, _, rfl, w1, T.cW, T.nW4, wF_r _ _ _ _, rfl, _, rfl, ?_⟩
      refine iteF ?_
      refine ⟨_, rfl, y, C.W, dw, _, _, rfl, w1, T.cW, T.nW2, wF_l _ _ _ _, ll, _, _, _, rfl, rfl, SqL.of l1, atI_nat (j := 10) m1, ?_⟩
      have m20 := m2
      obtain ⟨dl, kl, e1, e2, e3, e4⟩ := m2
      refine ⟨_, rfl, la, dl, _, rfl, e1, lF_no _ _ (by decide +kernel), la, dl, kl, _, rfl, e1, _, rfl, ?_⟩
      by_cases hc : (Ks189.leafOf wy).copy = 0
      · rw [decide_eq_true hc]
        refine iteT ?_
        refine ⟨_, rfl, by show 1 ≤ sizeLine; decide, fun p hp => ?_⟩
        have k2 := Keep.new (u := .lst [V.int (-2)]) hp
        rw [get_none (by omega) he hc] at q
        exact q _ p _ ((g1.keep0 k2).up (by omega)) rfl rfl (k1.trans k2.any) upd_same
      · rw [decide_eq_false hc]
        refine iteF ?_
        rw [get_some (by omega) he hc] at q
        refine ⟨_, rfl, _, rfl, y, C.W, dw, _, _, rfl, w1, T.cW, T.nW1, wF_n _ _ _ _, nl, _, _, _, rfl, rfl, SqL.of hnl, nodes_at (d := 10) (Nat.le_refl _), ?_⟩
        refine ⟨_, rfl, M, o, pd, an, _, n + 30, Ks189.nodeAt i 10, la, _, rfl, g1, by omega, m20, node_pos (Nat.le_refl _), fun H2 c g2 k2 hcc => ?_⟩
        have hd1 : (s.tells e).dev = s.dev := hdv
        rw [hd1, leaf_node] at g2 hcc
        have lx : (Ks189.xor (s.dev.page (Ks189.pageOf (1024 + i) (Ks189.leafOf wy).copy)) (padF (Ks189.leafOf wy).key)).length = 96 := xor_len (h.wf.2 _) (pad_len _)
        refine ⟨by show 1 ≤ sizeLine; decide, fun z hz => ?_⟩
        refine ⟨_, rfl, 0, rfl, 64, rfl, c, _, rfl, SqL.of (ne_new hcc.1 hz), fun b nb => ?_⟩
        have i1 : cutV (My.vs (Ks189.xor (s.dev.page (Ks189.pageOf (1024 + i) (Ks189.leafOf wy).copy)) (padF (Ks189.leafOf wy).key))) (some 0) (some 64) = My.vs ((Ks189.xor (s.dev.page (Ks189.pageOf (1024 + i) (Ks189.leafOf wy).copy)) (padF (Ks189.leafOf wy).key)).take 64) :=
          (vs_cut (a := 0) (b := 64) (by decide) (by omega)).trans rfl
        rw [i1]
        refine ⟨z, b, _, _, rfl, rfl, ne_new upd_same nb, upd_same, ?_, fun p hp => ?_⟩
        · rw [vs_len, List.length_take, lx]
          decide
        have k3 := ((Keep.new (u := .lst [V.int 0]) hz).trans (Keep.new (u := .lst (My.vs ((Ks189.xor (s.dev.page (Ks189.pageOf (1024 + i) (Ks189.leafOf wy).copy)) (padF (Ks189.leafOf wy).key)).take 64))) nb)).trans
          (Keep.new (u := .lst ([V.int 0] ++ My.vs ((Ks189.xor (s.dev.page (Ks189.pageOf (1024 + i) (Ks189.leafOf wy).copy)) (padF (Ks189.leafOf wy).key)).take 64))) hp)
        rw [← tells_append] at g2
        exact q _ p _ ((g2.keep0 k3).up (by omega)) rfl rfl ((k1.trans k2).trans k3.any) upd_same
end
end My
namespace My
open PySem PySem.Spec PyProof.Rows L2
open Ks189 (Ref Node Dev Ev)
theorem cut_front (xs : List V) {b : Nat} (hb : b ≤ xs.length) : cutV xs (some 0) (some (b : Int)) = xs.take b := by
  unfold cutV
  have e0 : HT.sIx xs.length 0 (some 0) = 0 := (HT.sIx_nat xs.length 0 0).trans (Nat.zero_min _)
  rw [HT.sIx_nat, e0, Nat.min_eq_left hb]
  rfl
theorem KeysAt.get {M : Own} {H : Hp} {p : Addr} {ks : List (List Nat)} (h : KeysAt M H p ks) {j : Nat} (hj : j < ks.length) : ∃ xs a, H p = some (.lst xs) ∧ xs[j]? = some (V.ref a) ∧ LstAt M H a (ks.getD j []) ∧ (ks.getD j []).length = 32 := by
  obtain ⟨as, h1, h2, h3, h4⟩ := h
  have hj2 : j < as.length := by omega
  have e := h4 j as[j] (ks.getD j []) (List.getElem?_eq_getElem hj2) (by rw [List.getD_eq_getElem?_getD, List.getElem?_eq_getElem hj]; rfl)
  exact ⟨_, as[j], h1, by rw [List.getElem?_map, List.getElem?_eq_getElem hj2]; rfl, e.1, e.2⟩
theorem KeysAt.cut {M : Own} {H : Hp} {p : Addr} {ks : List (List Nat)} (h : KeysAt M H p ks) {b : Nat} (hb : b ≤ ks.length) (t : Tr M H) : ∃ xs, H p = some (.lst xs) ∧ b ≤ xs.length ∧ ∀ q, H q = none → KeysAt M (upd H q (.lst (xs.take b))) q (ks.take b) := by
  obtain ⟨as, h1, h2, h3, h4⟩ := h
  refine ⟨_, h1, by rw [List.length_map]; omega, fun q hq => ⟨as.take b, by rw [upd_same, List.map_take], t.out hq, by rw [List.length_take, List.length_take, h3], fun j a k e1 e2 => ?_⟩⟩
  rw [List.getElem?_take] at e1 e2
  by_cases hj : j < b
  · rw [if_pos hj] at e1 e2
    exact ⟨(h4 j a k e1 e2).1.keep0 (Keep.new hq), (h4 j a k e1 e2).2⟩
  · rw [if_neg hj] at e1
    cases e1
theorem KeysAt.keep0 {M : Own} {H H' : Hp} {p : Addr} {ks : List (List Nat)} (h : KeysAt M H p ks) (k : Keep No H H') : KeysAt M H' p ks := h.keep k fun _ z => z.elim
theorem WayFin.keep0 {C : Cs} {M : Own} {H H' : Hp} {w : Addr} {i : Nat} {links : List Ref} {nodes : List Node} (h : WayFin C M H w i links nodes) (k : Keep No H H') : WayFin C M H' w i links nodes := h.keep k fun _ z => z.elim
section
variable {P : Program} {w : World} {K : PySem.W.Frag} {mg : Str → Option Value} {base : Heap} {C : Cs}
abbrev sPut : Stmt := top 37
theorem scPut : FnScope ["outside", "slot", "data", "way", "keys", "node", "leaf", "root"] ["outside", "slot", "data"] (defScope sPut) := ⟨rfl, rfl, rfl, by decide +kernel, rfl, by decide +kernel, by decide +kernel⟩
def spPut (C : Cs) : Sp := fun vs H Q _ => ∃ (M : Own) (o pd an : Addr) (s : S) (n i : Nat) (a : Addr) (x : List Nat), vs = [.ref o, .int (i : Int), .ref a] ∧ OutAt C M H o pd an s n ∧ n + 100 < BIG ∧ LstAt M H a x ∧ x.length = 64 ∧
  s.scr.length = 32 * Ks189.needs padF s.dev (.put i x) ∧ Done C M H o pd an s n (Ks189.act padF s.dev (keysFrom s.scr (s.scr.length / 32)) (.put i x)) Q
theorem ok_Put (T : Txt K mg C) (dG : DefOk P w K mg base "go_way" 5 ["outside", "slot"] (spGo C)) (mK : MetOk P w K mg base C.O "ask_new_keys" 3 ["self", "count"] (spNewKeys C)) (dW : DefOk P w K mg base "write_copy" 3 ["outside", "node", "old_link", "key", "content"] (spWriteC C))
    (dL : DefOk P w K mg base "leaf_content" 1 ["data"] spLeafC) (dU : DefOk P w K mg base "write_upwards" 4 ["outside", "way", "keys", "child"] (spUp C)) (mP : MetOk P w K mg base C.O "put_register" 2 ["self", "content"] (spPutR C))
    (dR : DefOk P w K mg base "register_content" 1 ["root"] (spRegC C)) (f : Addr) (fd : FuncData) (F : Fun K "put_slot" "put_slot" sPut f fd) : FnOk P w K mg base CX0 6 f fd ["outside", "slot", "data"] (spPut C) := by
  refine F.ok scPut (fun vs H Q E h => ?_) (fun cdv A outer s H vs Q E hr h => ?_)
  · obtain ⟨M, o, pd, an, s, n, i, a, x, rfl, _⟩ := h
    rfl
  · obtain ⟨M, o, pd, an, s, n, i, a, x, rfl, h, hn, hx, lx, hscr, q⟩ := h
    have hr1 : Room 1 _ := hr.mono (by decide)
    have hr2 : Room 2 _ := hr.mono (by decide)
    have hr3 : Room 3 _ := hr.mono (by decide)
    have hr4 : Room 4 _ := hr.mono (by decide)
    refine ⟨_, pss_cons (ps_set (i := 3) scPut.nd rfl (Or.inl rfl) (pe_d dG hr (pa_cons (pv 0) (pa_cons (pv 1) pa_nil))))
      (pss_cons (ps_if (pt_cmpR op_ne (pe_fld (pv 3) rfl) pe_int (nomark _)) (pss_one (ps_ret (pe_lst (pa_cons (pe_fld (pv 3) rfl) pa_nil)))) pss_nil)
      (pss_cons (ps_set (i := 4) scPut.nd rfl (Or.inl rfl) (pe_m mK T.cO hr3 (pv 0) (pa_cons (pe_op op_add (pe_gv T.kDeep) pe_int) pa_nil)))
      (pss_cons (ps_set (i := 5) scPut.nd rfl (Or.inl rfl) (pe_ix ix_list (pe_fld (pv 3) rfl) (pe_gv T.kDeep) (fun _ _ => rfl)))
      (pss_cons (ps_set (i := 6) scPut.nd rfl (Or.inl rfl) (pe_d dW hr3 (pa_cons (pv 0) (pa_cons (pv 5) (pa_cons (pe_ix ix_list (pe_fld (pv 3) rfl) (pe_gv T.kDeep) (fun _ _ => rfl)) (pa_cons (pe_ix ix_list (pv 4) (pe_gv T.kDeep) (fun _ _ => rfl))
        (pa_cons (pe_d dL hr1 (pa_cons (pv 2) pa_nil)) pa_nil)))))))
      (pss_cons (ps_set (i := 7) scPut.nd rfl (Or.inl rfl) (pe_d dU hr4 (pa_cons (pv 0) (pa_cons (pv 3) (pa_cons (pe_slice sl_list (pv 4) (po_some pe_int) (po_some (pe_gv T.kDeep))) (pa_cons (pv 6) pa_nil))))))
      (pss_cons (ps_expr (pe_m mP T.cO hr2 (pv 0) (pa_cons (pe_d dR hr1 (pa_cons (pv 7) pa_nil)) pa_nil)))
      (pss_one (ps_ret (pe_lst (pa_cons pe_int pa_nil)))))))))), ?_⟩
    refine ⟨_, rfl, _, rfl, M, o, pd, an, s, n, i, rfl, h, by omega, fun hi H1 y g1 k1 hw => ?_, fun hi e he H1 y g1 k1 hw => ?_, fun hi e wy he H1 y links nodes g1 k1 hF hP hl hdv => ?_⟩
    · obtain ⟨dw, nl, ll, bl, w1⟩ := hw
      refine ⟨_, rfl, y, C.W, dw, _, _, rfl, w1, T.cW, T.nW4, wF_r _ _ _ _, rfl, _, rfl, ?_⟩
      refine iteT ?_
      refine ⟨_, rfl, y, C.W, dw, _, _, rfl, w1, T.cW, T.nW4, wF_r _ _ _ _, by show 1 ≤ sizeLine; decide, fun p hp => ?_⟩
      have k2 := Keep.new (u := .lst [V.int (-22)]) hp
      rw [put_far hi] at q
      exact q _ p s ((g1.keep0 k2).up (by omega)) rfl (List.append_nil _).symm (k1.trans k2.any) upd_same
    · obtain ⟨dw, nl, ll, bl, w1⟩ := hw
      refine ⟨_, rfl, y, C.W, dw, _, _, rfl, w1, T.cW, T.nW4, wF_r _ _ _ _, rfl, _, rfl, ?_⟩
      refine iteT ?_
      refine ⟨_, rfl, y, C.W, dw, _, _, rfl, w1, T.cW, T.nW4, wF_r _ _ _ _, by show 1 ≤ sizeLine; decide, fun p hp => ?_⟩
      have k2 := Keep.new (u := .lst [V.int (-71)]) hp
      rw [put_bad (by omega) he] at q
      exact q _ p _ ((g1.keep0 k2).up (by omega)) rfl rfl (k1.trans k2.any) upd_same
    · have hi2 : ¬ 1024 ≤ i := by omega
      rw [needs_put hi2 he] at hscr
      rw [put_some hi2 he, hscr, show 32 * 11 / 32 = 11 from rfl] at q
      have hF0 := hF
      obtain ⟨nl, ll, bl, ⟨⟨dw, w1⟩, hnl, ⟨las, l1, l2⟩, _⟩, nw1, nw2, nw3, nw4⟩ := hF
      obtain ⟨dx1, r1, sc1, ho1, hR1, hS1⟩ := g1.ob
      refine ⟨_, rfl, y, C.W, dw, _, _, rfl, w1, T.cW, T.nW4, wF_r _ _ _ _, rfl, _, rfl, ?_⟩
      refine iteF ?_
      refine ⟨_, rfl, o, dx1, _, rfl, ho1, oF_no _ _ _ _ _ (by decide +kernel), _, _, rfl, rfl, M, o, pd, an, _, n + 30, 11, rfl, g1, by omega, ?_, by decide, fun H2 ks g2 k2 hks => ?_⟩
      · show 32 * 11 ≤ s.scr.length
        omega
      have hks : KeysAt M H2 ks (keysFrom s.scr 11) := hks
      have hF2 := hF0.keep k2 h.sub
      have hF20 := hF2
      obtain ⟨nl, ll, bl, ⟨⟨dw, w1⟩, hnl, ⟨las, l1, l2⟩, _⟩, nw1, nw2, nw3, nw4⟩ := hF2
      obtain ⟨la, m1, m2⟩ := l2.get Ks189.none_ (j := 10) (by rw [hP.ll]; decide)
      rw [hl] at m2
      refine ⟨_, rfl, y, C.W, dw, _, _, rfl, w1, T.cW, T.nW1, wF_n _ _ _ _, nl, _, _, _, rfl, rfl, SqL.of hnl, nodes_at (d := 10) (Nat.le_refl _), ?_⟩
      have kl11 : (keysFrom s.scr 11).length = 11 := keysFrom_len _ _
      obtain ⟨kxs, ka, kx1, kx2, kx3, kx4⟩ := hks.get (j := 10) (by show 10 < (keysFrom s.scr 11).length; omega)
      refine ⟨_, rfl, _, rfl, _, rfl, y, C.W, dw, _, _, rfl, w1, T.cW, T.nW2, wF_l _ _ _ _, ll, _, _, _, rfl, rfl, SqL.of l1, atI_nat (j := 10) m1, ?_⟩
      refine ⟨_, rfl, ks, _, _, _, rfl, rfl, SqL.of kx1, atI_nat (j := 10) kx2, ?_⟩
      have hx2 := (hx.out h k1).out g1 k2
      refine ⟨_, rfl, a, x, rfl, hx2.1, by omega, fun H3 lc k3 nlc hlc => ?_⟩
      have g3 := g2.keep0 k3
      refine ⟨M, o, pd, an, _, n + 30 + 11, Ks189.nodeAt i 10, la, Ks189.leafOf wy, ka, lc, _, _, rfl, g3, by omega, m2.keep0 k3, kx3.keep0 k3, kx4, LstAt.new g2.tr nlc hlc, ?_, node_pos (Nat.le_refl _), fun H4 lf g4 k4 hlf => ?_⟩
      · rw [List.length_append, lx, zeros_len]
      have hks4 := (hks.keep0 k3).keep k4 h.sub
      obtain ⟨kys, ky1, ky2, ky3⟩ := hks4.cut (b := 10) (by show 10 ≤ (keysFrom s.scr 11).length; omega) g4.tr
      refine ⟨_, rfl, _, rfl, _, rfl, 0, rfl, 10, rfl, ks, kys, rfl, SqL.of ky1, fun kc hkc => ?_⟩
      rw [show cutV kys (some 0) (some 10) = kys.take 10 from cut_front kys ky2]
      have k5 := Keep.new (u := .lst (kys.take 10)) hkc
      have hF5 := ((hF20.keep0 k3).keep k4 h.sub).keep0 k5
      have lt10 : ((keysFrom s.scr 11).take 10).length = 10 := by
        rw [List.length_take, kl11]
        rfl
      refine ⟨_, rfl, M, o, pd, an, _, n + 30 + 11 + 3, y, i, links, nodes, wy.1, kc, (keysFrom s.scr 11).take 10, keysFrom s.scr 11, lf, _, rfl, g4.keep0 k5, by omega, hF5, hP, ky3 kc hkc, Nat.le_of_eq lt10, fun j hj => ?_, hlf.keep0 k5, fun H6 rt g6 k6 hrt => ?_⟩
      · rw [List.getD_eq_getElem?_getD, List.getD_eq_getElem?_getD, List.getElem?_take, if_pos (by omega)]
      rw [lt10] at g6 hrt
      obtain ⟨dx6, r6, sc6, ho6, hR6, hS6⟩ := g6.ob
      refine ⟨_, rfl, o, dx6, _, rfl, ho6, oF_no _ _ _ _ _ (by decide +kernel), _, rfl, M, rt, _, rfl, hrt, fun H7 rc k7 nrc hrc => ?_⟩
      have lrk : (upEnd i wy.1 (keysFrom s.scr 11) 10 ⟨Ks189.other (Ks189.leafOf wy).copy, (keysFrom s.scr 11).getD 10 []⟩).key.length = 32 := by
        obtain ⟨_, _, _, _, _, z⟩ := hrt
        exact z
      refine ⟨M, o, pd, an, _, n + 30 + 11 + 3 + 3 * 10, rc, _, rfl, g6.keep0 k7, by omega, LstAt.new g6.tr nrc hrc, ?_, fun H8 g8 k8 => ?_⟩
      · rw [List.length_append, List.length_append, lrk]
        rfl
      refine ⟨by show 1 ≤ sizeLine; decide, fun p hp => ?_⟩
      have k9 := Keep.new (u := .lst [V.int 0]) hp
      have eP : Ks189.pagesPut i wy (keysFrom s.scr 11) x = ⟨1024 + i, Ks189.other (Ks189.leafOf wy).copy, (keysFrom s.scr 11).getD 10 [], x ++ Ks189.zeros 32⟩ ::
        Ks189.upward i wy.1 (keysFrom s.scr 11) 10 ⟨Ks189.other (Ks189.leafOf wy).copy, (keysFrom s.scr 11).getD 10 []⟩ := rfl
      have eW : Ks189.wrote padF (keysFrom s.scr 11) (Ks189.pagesPut i wy (keysFrom s.scr 11) x) = (keysFrom s.scr 11).map Ev.any ++
          (Ks189.Page.evs padF ⟨1024 + i, Ks189.other (Ks189.leafOf wy).copy, (keysFrom s.scr 11).getD 10 [], x ++ Ks189.zeros 32⟩ ++
            (Ks189.upward i wy.1 (keysFrom s.scr 11) 10 ⟨Ks189.other (Ks189.leafOf wy).copy, (keysFrom s.scr 11).getD 10 []⟩).flatMap (Ks189.Page.evs padF)) ++ [Ev.keep (Ks189.last (Ks189.pagesPut i wy (keysFrom s.scr 11) x))] := rfl
      rw [eW, eP, last_put _ _ _ _ _ _ _ _ (other_there _)] at q
      rw [leaf_node, ← tell_one, ← tells_append, ← tells_append] at g8
      refine q _ p _ ((g8.keep0 k9).up (by omega)) ?_ ?_ ((((((k1.trans k2).trans k3.any).trans k4).trans k5.any).trans k6).trans ((k7.any.trans k8).trans k9.any)) upd_same
      · show Dev.after (Dev.after s.dev e) _ = Dev.after s.dev _
        simp only [List.append_assoc, after_app, after_any]
      · show (s.evs ++ e) ++ (keysFrom s.scr 11).map Ev.any ++ _ = s.evs ++ (e ++ _)
        simp only [List.append_assoc]
abbrev sForget : Stmt := top 38
theorem scForget : FnScope ["outside", "slot", "way", "keys", "root"] ["outside", "slot"] (defScope sForget) := ⟨rfl, rfl, rfl, by decide +kernel, rfl, by decide +kernel, by decide +kernel⟩
def spForget (C : Cs) : Sp := fun vs H Q _ => ∃ (M : Own) (o pd an : Addr) (s : S) (n i : Nat), vs = [.ref o, .int (i : Int)] ∧ OutAt C M H o pd an s n ∧ n + 100 < BIG ∧
  s.scr.length = 32 * Ks189.needs padF s.dev (.forget i) ∧ Done C M H o pd an s n (Ks189.act padF s.dev (keysFrom s.scr (s.scr.length / 32)) (.forget i)) Q
theorem ok_Forget (T : Txt K mg C) (dG : DefOk P w K mg base "go_way" 5 ["outside", "slot"] (spGo C)) (mT : MetOk P w K mg base C.L "is_there" 1 ["self"] (spIsThere C)) (mK : MetOk P w K mg base C.O "ask_new_keys" 3 ["self", "count"] (spNewKeys C))
    (dS : DefOk P w K mg base "count_staying" 3 ["way"] (spStay C)) (dN : DefOk P w K mg base "no_link" 3 [] (spNoLink C)) (dU : DefOk P w K mg base "write_upwards" 4 ["outside", "way", "keys", "child"] (spUp C)) (mP : MetOk P w K mg base C.O "put_register" 2 ["self", "content"] (spPutR C))
    (dR : DefOk P w K mg base "register_content" 1 ["root"] (spRegC C)) (f : Addr) (fd : FuncData) (F : Fun K "forget_slot" "forget_slot" sForget f fd) : FnOk P w K mg base CX0 6 f fd ["outside", "slot"] (spForget C) := by
  refine F.ok scForget (fun vs H Q E h => ?_) (fun cdv A outer s H vs Q E hr h => ?_)
  · obtain ⟨M, o, pd, an, s, n, i, rfl, _⟩ := h
    rfl
  · obtain ⟨M, o, pd, an, s, n, i, rfl, h, hn, hscr, q⟩ := h
    have hr1 : Room 1 _ := hr.mono (by decide)
    have hr2 : Room 2 _ := hr.mono (by decide)
    have hr3 : Room 3 _ := hr.mono (by decide)
    have hr4 : Room 4 _ := hr.mono (by decide)
    refine ⟨_, pss_cons (ps_set (i := 2) scForget.nd rfl (Or.inl rfl) (pe_d dG hr (pa_cons (pv 0) (pa_cons (pv 1) pa_nil))))
      (pss_cons (ps_if (pt_cmpR op_ne (pe_fld (pv 2) rfl) pe_int (nomark _)) (pss_one (ps_ret (pe_lst (pa_cons (pe_fld (pv 2) rfl) pa_nil)))) pss_nil)
      (pss_cons (ps_if (pt_not (pt_val (pe_m0 mT T.cL hr1 (pe_ix ix_list (pe_fld (pv 2) rfl) (pe_gv T.kDeep) (fun _ _ => rfl))))) (pss_one (ps_ret (pe_lst (pa_cons (pe_un un_neg pe_int) pa_nil)))) pss_nil)
      (pss_cons (ps_set (i := 3) scForget.nd rfl (Or.inl rfl) (pe_m mK T.cO hr3 (pv 0) (pa_cons (pe_d dS hr3 (pa_cons (pv 2) pa_nil)) pa_nil)))
      (pss_cons (ps_set (i := 4) scForget.nd rfl (Or.inl rfl) (pe_d dU hr4 (pa_cons (pv 0) (pa_cons (pv 2) (pa_cons (pv 3) (pa_cons (pe_d0 dN hr3) pa_nil))))))
      (pss_cons (ps_expr (pe_m mP T.cO hr2 (pv 0) (pa_cons (pe_d dR hr1 (pa_cons (pv 4) pa_nil)) pa_nil)))
      (pss_one (ps_ret (pe_lst (pa_cons pe_int pa_nil))))))))), ?_⟩
    refine ⟨_, rfl, _, rfl, M, o, pd, an, s, n, i, rfl, h, by omega, fun hi H1 y g1 k1 hw => ?_, fun hi e he H1 y g1 k1 hw => ?_, fun hi e wy he H1 y links nodes g1 k1 hF hP hl hdv => ?_⟩
    · obtain ⟨dw, nl, ll, bl, w1⟩ := hw
      refine ⟨_, rfl, y, C.W, dw, _, _, rfl, w1, T.cW, T.nW4, wF_r _ _ _ _, rfl, _, rfl, ?_⟩
      refine iteT ?_
      refine ⟨_, rfl, y, C.W, dw, _, _, rfl, w1, T.cW, T.nW4, wF_r _ _ _ _, by show 1 ≤ sizeLine; decide, fun p hp => ?_⟩
      have k2 := Keep.new (u := .lst [V.int (-22)]) hp
      rw [forget_far hi] at q
      exact q _ p s ((g1.keep0 k2).up (by omega)) rfl (List.append_nil _).symm (k1.trans k2.any) upd_same
    · obtain ⟨dw, nl, ll, bl, w1⟩ := hw
      refine ⟨_, rfl, y, C.W, dw, _, _, rfl, w1, T.cW, T.nW4, wF_r _ _ _ _, rfl, _, rfl, ?_⟩
      refine iteT ?_
      refine ⟨_, rfl, y, C.W, dw, _, _, rfl, w1, T.cW, T.nW4, wF_r _ _ _ _, by show 1 ≤ sizeLine; decide, fun p hp => ?_⟩
      have k2 := Keep.new (u := .lst [V.int (-71)]) hp
      rw [forget_bad (by omega) he] at q
      exact q _ p _ ((g1.keep0 k2).up (by omega)) rfl rfl (k1.trans k2.any) upd_same
    · have hi2 : ¬ 1024 ≤ i := by omega
      have hF0 := hF
      obtain ⟨nl, ll, bl, ⟨⟨dw, w1⟩, hnl, ⟨las, l1, l2⟩, _⟩, nw1, nw2, nw3, nw4⟩ := hF
      obtain ⟨dx1, r1, sc1, ho1, hR1, hS1⟩ := g1.ob
      obtain ⟨la, m1, m2⟩ := l2.get Ks189.none_ (j := 10) (by rw [hP.ll]; decide)
      rw [hl] at m2
      refine ⟨_, rfl, y, C.W, dw, _, _, rfl, w1, T.cW, T.nW4, wF_r _ _ _ _, rfl, _, rfl, ?_⟩
      refine iteF ?_
      obtain ⟨dl, kl, e1, e2, e3, e4⟩ := m2
      refine ⟨_, rfl, y, C.W, dw, _, _, rfl, w1, T.cW, T.nW2, wF_l _ _ _ _, ll, _, _, _, rfl, rfl, SqL.of l1, atI_nat (j := 10) m1, ?_⟩
      refine ⟨la, dl, _, rfl, e1, lF_no _ _ (by decide +kernel), la, dl, kl, _, rfl, e1, _, rfl, ?_⟩
      by_cases hc : (Ks189.leafOf wy).copy = 0
      · rw [decide_eq_true hc]
        refine iteT ?_
        refine ⟨_, rfl, by show 1 ≤ sizeLine; decide, fun p hp => ?_⟩
        have k2 := Keep.new (u := .lst [V.int (-2)]) hp
        rw [forget_none hi2 he hc] at q
        exact q _ p _ ((g1.keep0 k2).up (by omega)) rfl rfl (k1.trans k2.any) upd_same
      · rw [decide_eq_false hc]
        refine iteF ?_
        rw [needs_forget hi2 he hc] at hscr
        rw [forget_some hi2 he hc, hscr, Nat.mul_div_cancel_left _ (by decide)] at q
        have hm := stay_le i wy.1
        generalize hst : Ks189.stay i wy.1 = m at hscr q hm
        refine ⟨_, rfl, o, dx1, _, rfl, ho1, oF_no _ _ _ _ _ (by decide +kernel), _, rfl, M, y, i, links, nodes, wy.1, rfl, hF0, hP, ?_⟩
        rw [hst]
        refine ⟨M, o, pd, an, _, n + 30, m, rfl, g1, by omega, ?_, by omega, fun H2 ks g2 k2 hks => ?_⟩
        · show 32 * m ≤ s.scr.length
          omega
        have hks : KeysAt M H2 ks (keysFrom s.scr m) := hks
        have hF2 := hF0.keep k2 h.sub
        have klm : (keysFrom s.scr m).length = m := keysFrom_len _ _
        refine ⟨_, rfl, _, rfl, _, rfl, M, rfl, g2.tr, fun H3 nk k3 hnk => ?_⟩
        have g3 := g2.keep0 k3
        refine ⟨M, o, pd, an, _, n + 30 + m, y, i, links, nodes, wy.1, ks, keysFrom s.scr m, keysFrom s.scr m, nk, _, rfl, g3, by omega, hF2.keep0 k3, hP, hks.keep0 k3, by omega, fun j hj => rfl, hnk, fun H6 rt g6 k6 hrt => ?_⟩
        rw [klm] at g6 hrt
        obtain ⟨dx6, r6, sc6, ho6, hR6, hS6⟩ := g6.ob
        refine ⟨_, rfl, o, dx6, _, rfl, ho6, oF_no _ _ _ _ _ (by decide +kernel), _, rfl, M, rt, _, rfl, hrt, fun H7 rc k7 nrc hrc => ?_⟩
        have lrk : (upEnd i wy.1 (keysFrom s.scr m) m Ks189.none_).key.length = 32 := by
          obtain ⟨_, _, _, _, _, z⟩ := hrt
          exact z
        refine ⟨M, o, pd, an, _, n + 30 + m + 3 * m, rc, _, rfl, g6.keep0 k7, by omega, LstAt.new g6.tr nrc hrc, ?_, fun H8 g8 k8 => ?_⟩
        · rw [List.length_append, List.length_append, lrk]
          rfl
        refine ⟨by show 1 ≤ sizeLine; decide, fun p hp => ?_⟩
        have k9 := Keep.new (u := .lst [V.int 0]) hp
        have eP : Ks189.pagesForget i wy (keysFrom s.scr m) = Ks189.upward i wy.1 (keysFrom s.scr m) m Ks189.none_ := by
          unfold Ks189.pagesForget
          rw [hst]
        have eW : Ks189.wrote padF (keysFrom s.scr m) (Ks189.pagesForget i wy (keysFrom s.scr m)) = (keysFrom s.scr m).map Ev.any ++
            (Ks189.upward i wy.1 (keysFrom s.scr m) m Ks189.none_).flatMap (Ks189.Page.evs padF) ++ [Ev.keep ([(upEnd i wy.1 (keysFrom s.scr m) m Ks189.none_).copy, 0, 0, 0] ++ (upEnd i wy.1 (keysFrom s.scr m) m Ks189.none_).key ++ Ks189.zeros 4)] := by
          unfold Ks189.wrote
          rw [eP, last_forget]
        rw [eW] at q
        rw [← tell_one, ← tells_append] at g8
        refine q _ p _ ((g8.keep0 k9).up (by omega)) ?_ ?_ ((((k1.trans k2).trans k3.any).trans k6).trans ((k7.any.trans k8).trans k9.any)) upd_same
        · show Dev.after (Dev.after s.dev e) _ = Dev.after s.dev _
          simp only [List.append_assoc, after_app, after_any]
        · show (s.evs ++ e) ++ (keysFrom s.scr m).map Ev.any ++ _ = s.evs ++ (e ++ _)
          simp only [List.append_assoc]
end
end My
/-! ### 9. The module vault: what is still to be read; a call; all calls -/
namespace My
open PySem PySem.Spec PyProof.Rows L2
open Ks189 (Ref Node Dev Ev)
/-- a call as numbers -/
inductive NC where
  | clear
  | put (i : Nat) (x y : List Nat)
  | get (i : Nat)
  | forget (i : Nat) (y : List Nat)
  | layR (x : List Nat)
  | layP (p : Nat) (x : List Nat)
def NC.code : NC → Nat
  | .clear => 0
  | .put _ _ _ => 1
  | .get _ => 2
  | .forget _ _ => 3
  | .layR _ => 4
  | .layP _ _ => 5
def NC.body (rest : List Nat) : NC → List Nat
  | .clear => rest
  | .put i x y => i :: x.length :: (x ++ (y.length :: (y ++ rest)))
  | .get i => i :: rest
  | .forget i y => i :: y.length :: (y ++ rest)
  | .layR x => x.length :: (x ++ rest)
  | .layP p x => p :: x.length :: (x ++ rest)
def flatAll : List NC → List Nat
  | [] => []
  | c :: r => c.code :: c.body (flatAll r)
def NC.ok : NC → Prop
  | .put _ x _ => x.length = 64
  | .layR x => x.length = 40
  | .layP _ x => x.length = 96
  | _ => True
def NC.scripted (d : Dev) : NC → Prop
  | .put i x y => y.length = 32 * Ks189.needs padF d (.put i x)
  | .forget i y => y.length = 32 * Ks189.needs padF d (.forget i)
  | _ => True
def NC.act (d : Dev) : NC → List Ev × Ks189.Ans
  | .clear => Ks189.act padF d [] .clear
  | .put i x y => Ks189.act padF d (keysFrom y (y.length / 32)) (.put i x)
  | .get i => Ks189.act padF d [] (.get i)
  | .forget i y => Ks189.act padF d (keysFrom y (y.length / 32)) (.forget i)
  | _ => ([], Ks189.say 0)
def callAns (r : List Ev × Ks189.Ans) : List V := ansV r.2 ++ [V.int (r.1.length : Int)] ++ vs (encs r.1)
/-- one call: what lies outside behind it, what is answered -/
def NC.step (d : Dev) : NC → Dev × List V
  | .layR x => (d.on (.keep x), [V.int 0])
  | .layP p x => (d.on (.write p x), [V.int 0])
  | c => (d.after (c.act d).1, callAns (c.act d))
/-- what is still to be read -/
def Left (C : Cs) (K : PySem.W.Frag) (M : Own) (H : Hp) (rd a : Addr) (rest : List Nat) : Prop := ∃ ms k, RdAt C K M H rd a ms k ∧ ms.drop k = rest
theorem Left.keep {C : Cs} {K : PySem.W.Frag} {M L : Own} {H H' : Hp} {rd a : Addr} {rest : List Nat} (h : Left C K M H rd a rest) (kp : Keep L H H') (s : ∀ b, L b → M b) (n : ¬ L rd) : Left C K M H' rd a rest := by
  obtain ⟨ms, k, h1, h2⟩ := h
  exact ⟨ms, k, h1.keep kp s n, h2⟩
theorem Left.keep0 {C : Cs} {K : PySem.W.Frag} {M : Own} {H H' : Hp} {rd a : Addr} {rest : List Nat} (h : Left C K M H rd a rest) (kp : Keep No H H') : Left C K M H' rd a rest := h.keep kp (fun _ z => z.elim) fun z => z
theorem Left.at {C : Cs} {K : PySem.W.Frag} {M : Own} {H : Hp} {rd a : Addr} {rest : List Nat} (h : Left C K M H rd a rest) : M rd ∧ ∃ dx k, H rd = some (.ins C.R dx (rF a k)) := by
  obtain ⟨ms, k, ⟨dx, h1, h2, _⟩, _⟩ := h
  exact ⟨h2, dx, k, h1⟩
theorem Left.grow {C : Cs} {K : PySem.W.Frag} {M L N : Own} {H H' : Hp} {rd a : Addr} {rest : List Nat} (h : Left C K M H rd a rest) (kp : Keep L H H') (s : ∀ b, L b → M b) (n : ¬ L rd) (nn : ∀ b, N b → H b = none) : Left C K (fun b => M b ∨ N b) H' rd a rest := by
  obtain ⟨ms, k, ⟨dx, h1, h2, h3⟩, e⟩ := h
  exact ⟨ms, k, ⟨dx, kp _ _ h1 n, .inl h2, h3.grow kp s nn⟩, e⟩
theorem drop_next {ms : List Nat} {k c : Nat} {rest : List Nat} (h : ms.drop k = c :: rest) : k < ms.length ∧ ms.getD k 0 = c ∧ ms.drop (k + 1) = rest := by
  have hk : k < ms.length := by
    rcases Nat.lt_or_ge k ms.length with z | z
    · exact z
    · rw [List.drop_eq_nil_of_le z] at h
      cases h
  rw [List.drop_eq_getElem_cons hk] at h
  injection h with h1 h2
  refine ⟨hk, ?_, h2⟩
  rw [List.getD_eq_getElem?_getD, List.getElem?_eq_getElem hk]
  exact h1
theorem drop_row {ms : List Nat} {k : Nat} {x rest : List Nat} (h : ms.drop k = x.length :: (x ++ rest)) : k < ms.length ∧ ms.getD k 0 = x.length ∧ k + 1 + x.length ≤ ms.length ∧ (ms.drop (k + 1)).take x.length = x ∧ ms.drop (k + 1 + x.length) = rest := by
  obtain ⟨h1, h2, h3⟩ := drop_next h
  refine ⟨h1, h2, ?_, ?_, ?_⟩
  · have e := congrArg List.length h3
    rw [List.length_drop, List.length_append] at e
    omega
  · rw [h3, List.take_left' rfl]
  · rw [← List.drop_drop, h3, List.drop_left' rfl]
section
variable {C : Cs} {K : PySem.W.Frag} {M : Own} {H H' : Hp} {o pd an rd a : Addr} {s : S} {n : Nat} {rest : List Nat}
theorem Left.next {c : Nat} (h : Left C K M H rd a (c :: rest)) : ∃ ms k, RdAt C K M H rd a ms k ∧ k < ms.length ∧ ms.getD k 0 = c ∧ ∀ H', RdAt C K M H' rd a ms (k + 1) → Left C K M H' rd a rest := by
  obtain ⟨ms, k, h1, h2⟩ := h
  obtain ⟨d1, d2, d3⟩ := drop_next h2
  exact ⟨ms, k, h1, d1, d2, fun H1 g1 => ⟨ms, k + 1, g1, d3⟩⟩
theorem Left.row {x : List Nat} (h : Left C K M H rd a (x.length :: (x ++ rest))) : ∃ ms k, RdAt C K M H rd a ms k ∧ k < ms.length ∧ ms.getD k 0 = x.length ∧ k + 1 + x.length ≤ ms.length ∧ (ms.drop (k + 1)).take x.length = x ∧
    ∀ H', RdAt C K M H' rd a ms (k + 1 + x.length) → Left C K M H' rd a rest := by
  obtain ⟨ms, k, h1, h2⟩ := h
  obtain ⟨d1, d2, d3, d4, d5⟩ := drop_row h2
  exact ⟨ms, k, h1, d1, d2, d3, d4, fun H1 g1 => ⟨ms, k + 1 + x.length, g1, d5⟩⟩
theorem OutAt.nrd (h : OutAt C M H o pd an s n) (l : Left C K M H rd a rest) : ¬ OL o pd an rd := by
  obtain ⟨_, dx, k, h1⟩ := l.at
  rintro (rfl | rfl | rfl)
  · obtain ⟨dy, r, sc, ho, _⟩ := h.ob
    rw [h1] at ho
    injection ho with ho
    injection ho with _ _ ho
    cases ho
  · obtain ⟨kvs, p1, _⟩ := h.pg
    rw [h1] at p1
    cases p1
  · have e := h.nu
    rw [h1] at e
    cases e
theorem OutAt.read (h : OutAt C M H o pd an s n) (l : Left C K M H rd a rest) {rest' : List Nat} (l' : Left C K M H' rd a rest') (k : Keep (fun b => b = rd) H H') : OutAt C M H' o pd an s n := by
  refine h.frame (L := fun b => b = rd) k ?_ ?_
  · rintro b rfl
    exact ⟨l.at.1, h.nrd l⟩
  · rintro b rfl
    obtain ⟨_, dx, j, e⟩ := l'.at
    exact ⟨_, e⟩
theorem LstAt.read {x : List Nat} {p : Addr} (hp : LstAt M H p x) (l : Left C K M H rd a rest) (k : Keep (fun b => b = rd) H H') : LstAt M H' p x := hp.keep k (by rintro b rfl; exact l.at.1)
/-- the reader and the object -/
abbrev OR (o pd an rd : Addr) : Own := fun b => OL o pd an b ∨ b = rd
theorem keepR (k : Keep (fun b => b = rd) H H') : Keep (OR o pd an rd) H H' := k.mono fun _ z => .inr z
theorem keepO2 (k : Keep (OL o pd an) H H') : Keep (OR o pd an rd) H H' := k.mono fun _ z => .inl z
end
/-- what a call comes to, with what is read of it -/
def Done2 (C : Cs) (K : PySem.W.Frag) (M : Own) (H : Hp) (o pd an rd a : Addr) (s : S) (n : Nat) (r : List Ev × Ks189.Ans) (rest : List Nat) (Q : VK) : Prop := ∀ H' p s', OutAt C M H' o pd an s' (n + 80) → s'.dev = s.dev.after r.1 → s'.evs = s.evs ++ r.1 →
  Keep (OR o pd an rd) H H' → Left C K M H' rd a rest → H' p = some (.lst (ansV r.2)) → Q (.ref p) H'
section
variable {P : Program} {w : World} {K : PySem.W.Frag} {mg : Str → Option Value} {base : Heap} {C : Cs}
abbrev sDoPut : Stmt := top 49
theorem scDoPut : FnScope ["reader", "outside", "slot", "data"] ["reader", "outside"] (defScope sDoPut) := ⟨rfl, rfl, rfl, by decide +kernel, rfl, by decide +kernel, by decide +kernel⟩
def spDoPut (C : Cs) (K : PySem.W.Frag) : Sp := fun vs H Q _ => ∃ (M : Own) (o pd an : Addr) (s : S) (n : Nat) (rd a : Addr) (i : Nat) (x y rest : List Nat), vs = [.ref rd, .ref o] ∧ OutAt C M H o pd an s n ∧ n + 100 < BIG ∧
  Left C K M H rd a (i :: x.length :: (x ++ (y.length :: (y ++ rest)))) ∧ x.length = 64 ∧ y.length = 32 * Ks189.needs padF s.dev (.put i x) ∧ Done2 C K M H o pd an rd a s n (Ks189.act padF s.dev (keysFrom y (y.length / 32)) (.put i x)) rest Q
theorem ok_DoPut (T : Txt K mg C) (mN : MetOk P w K mg base C.R "take_number" 1 ["self"] (spTakeN C K)) (mR : MetOk P w K mg base C.R "take_row" 2 ["self"] (spTakeR C K)) (mG : MetOk P w K mg base C.O "give_script" 1 ["self", "script"] (spGive C))
    (dP : DefOk P w K mg base "put_slot" 6 ["outside", "slot", "data"] (spPut C)) (f : Addr) (fd : FuncData) (F : Fun K "do_put" "do_put" sDoPut f fd) : FnOk P w K mg base CX0 7 f fd ["reader", "outside"] (spDoPut C K) := by
  refine F.ok scDoPut (fun vs H Q E h => ?_) (fun cdv A outer s H vs Q E hr h => ?_)
  · obtain ⟨M, o, pd, an, s, n, rd, a, i, x, y, rest, rfl, _⟩ := h
    rfl
  · obtain ⟨M, o, pd, an, s, n, rd, a, i, x, y, rest, rfl, h, hn, hL, lx, ly, q⟩ := h
    have hr1 : Room 1 _ := hr.mono (by decide)
    have hr2 : Room 2 _ := hr.mono (by decide)
    refine ⟨_, pss_cons (ps_set (i := 2) scDoPut.nd rfl (Or.inl rfl) (pe_m0 mN T.cR hr1 (pv 0)))
      (pss_cons (ps_set (i := 3) scDoPut.nd rfl (Or.inl rfl) (pe_m0 mR T.cR hr2 (pv 0)))
      (pss_cons (ps_expr (pe_m mG T.cO hr1 (pv 1) (pa_cons (pe_m0 mR T.cR hr2 (pv 0)) pa_nil)))
      (pss_one (ps_ret (pe_d dP hr (pa_cons (pv 1) (pa_cons (pv 2) (pa_cons (pv 3) pa_nil)))))))), ?_⟩
    obtain ⟨_, dr, kr, r1⟩ := hL.at
    obtain ⟨msL1, jL1, a1L1, a2L1, a3L1, a4L1⟩ := hL.next
    refine ⟨_, rfl, rd, dr, _, rfl, r1, rF_no _ _ (by decide +kernel), M, rd, a, msL1, jL1, rfl, a1L1, a2L1, fun H1 gL1 k1 => ?_⟩
    rw [a3L1]
    have L1 := a4L1 H1 gL1
    have h1 := h.read hL L1 k1
    obtain ⟨_, dr, kr, r1⟩ := L1.at
    obtain ⟨msL2, jL2, b1L2, b2L2, b3L2, b4L2, b5L2, b6L2⟩ := L1.row
    refine ⟨_, rfl, rd, dr, _, rfl, r1, rF_no _ _ (by decide +kernel), M, rd, a, msL2, jL2, _, rfl, b1L2, b2L2, b3L2, b4L2, fun H2 pa gL2 k2 na ha => ?_⟩
    rw [b5L2] at ha
    have L2 := b6L2 H2 gL2
    have h2 := h1.read L1 L2 k2
    have ha2 : LstAt M H2 pa x := LstAt.new h1.tr na ha
    obtain ⟨dx, ro, so, ho, _⟩ := h2.ob
    obtain ⟨_, dr, kr, r1⟩ := L2.at
    obtain ⟨msL3, jL3, b1L3, b2L3, b3L3, b4L3, b5L3, b6L3⟩ := L2.row
    refine ⟨_, rfl, o, dx, _, rfl, ho, oF_no _ _ _ _ _ (by decide +kernel), _, rfl, rd, dr, _, rfl, r1, rF_no _ _ (by decide +kernel), M, rd, a, msL3, jL3, _, rfl, b1L3, b2L3, b3L3, b4L3, fun H3 pb gL3 k3 nb hb => ?_⟩
    rw [b5L3] at hb
    have L3 := b6L3 H3 gL3
    have h3 := h2.read L2 L3 k3
    have hb3 : LstAt M H3 pb y := LstAt.new h2.tr nb hb
    refine ⟨M, o, pd, an, s, n, pb, y, rfl, h3, hb3, fun H4 h4 k4 => ?_⟩
    have L4 := L3.keep k4 h3.sub (h3.nrd L3)
    have ha4 := (ha2.read L2 k3).out h3 k4
    refine ⟨_, rfl, _, rfl, _, rfl, M, o, pd, an, _, n, i, pa, x, rfl, h4, hn, ha4, lx, ly, fun H5 p s' h5 e1 e2 k5 hp => ?_⟩
    have L5 := L4.keep k5 h4.sub (h4.nrd L4)
    exact q H5 p s' h5 e1 e2 (((((keepR k1).trans (keepR k2)).trans (keepR k3)).trans (keepO2 k4)).trans (keepO2 k5)) L5 hp
abbrev sDoForget : Stmt := top 50
theorem scDoForget : FnScope ["reader", "outside", "slot"] ["reader", "outside"] (defScope sDoForget) := ⟨rfl, rfl, rfl, by decide +kernel, rfl, by decide +kernel, by decide +kernel⟩
def spDoForget (C : Cs) (K : PySem.W.Frag) : Sp := fun vs H Q _ => ∃ (M : Own) (o pd an : Addr) (s : S) (n : Nat) (rd a : Addr) (i : Nat) (y rest : List Nat), vs = [.ref rd, .ref o] ∧ OutAt C M H o pd an s n ∧ n + 100 < BIG ∧
  Left C K M H rd a (i :: y.length :: (y ++ rest)) ∧ y.length = 32 * Ks189.needs padF s.dev (.forget i) ∧ Done2 C K M H o pd an rd a s n (Ks189.act padF s.dev (keysFrom y (y.length / 32)) (.forget i)) rest Q
theorem ok_DoForget (T : Txt K mg C) (mN : MetOk P w K mg base C.R "take_number" 1 ["self"] (spTakeN C K)) (mR : MetOk P w K mg base C.R "take_row" 2 ["self"] (spTakeR C K)) (mG : MetOk P w K mg base C.O "give_script" 1 ["self", "script"] (spGive C))
    (dP : DefOk P w K mg base "forget_slot" 6 ["outside", "slot"] (spForget C)) (f : Addr) (fd : FuncData) (F : Fun K "do_forget" "do_forget" sDoForget f fd) : FnOk P w K mg base CX0 7 f fd ["reader", "outside"] (spDoForget C K) := by
  refine F.ok scDoForget (fun vs H Q E h => ?_) (fun cdv A outer s H vs Q E hr h => ?_)
  · obtain ⟨M, o, pd, an, s, n, rd, a, i, y, rest, rfl, _⟩ := h
    rfl
  · obtain ⟨M, o, pd, an, s, n, rd, a, i, y, rest, rfl, h, hn, hL, ly, q⟩ := h
    have hr1 : Room 1 _ := hr.mono (by decide)
    have hr2 : Room 2 _ := hr.mono (by decide)
    refine ⟨_, pss_cons (ps_set (i := 2) scDoForget.nd rfl (Or.inl rfl) (pe_m0 mN T.cR hr1 (pv 0)))
      (pss_cons (ps_expr (pe_m mG T.cO hr1 (pv 1) (pa_cons (pe_m0 mR T.cR hr2 (pv 0)) pa_nil)))
      (pss_one (ps_ret (pe_d dP hr (pa_cons (pv 1) (pa_cons (pv 2) pa_nil)))))), ?_⟩
    obtain ⟨_, dr, kr, r1⟩ := hL.at
    obtain ⟨msL1, jL1, a1L1, a2L1, a3L1, a4L1⟩ := hL.next
    refine ⟨_, rfl, rd, dr, _, rfl, r1, rF_no _ _ (by decide +kernel), M, rd, a, msL1, jL1, rfl, a1L1, a2L1, fun H1 gL1 k1 => ?_⟩
    rw [a3L1]
    have L1 := a4L1 H1 gL1
    have h1 := h.read hL L1 k1
    obtain ⟨dx, ro, so, ho, _⟩ := h1.ob
    obtain ⟨_, dr, kr, r1⟩ := L1.at
    obtain ⟨msL3, jL3, b1L3, b2L3, b3L3, b4L3, b5L3, b6L3⟩ := L1.row
    refine ⟨_, rfl, o, dx, _, rfl, ho, oF_no _ _ _ _ _ (by decide +kernel), _, rfl, rd, dr, _, rfl, r1, rF_no _ _ (by decide +kernel), M, rd, a, msL3, jL3, _, rfl, b1L3, b2L3, b3L3, b4L3, fun H3 pb gL3 k3 nb hb => ?_⟩
    rw [b5L3] at hb
    have L3 := b6L3 H3 gL3
    have h3 := h1.read L1 L3 k3
    have hb3 : LstAt M H3 pb y := LstAt.new h1.tr nb hb
    refine ⟨M, o, pd, an, s, n, pb, y, rfl, h3, hb3, fun H4 h4 k4 => ?_⟩
    have L4 := L3.keep k4 h3.sub (h3.nrd L3)
    refine ⟨_, rfl, _, rfl, M, o, pd, an, _, n, i, rfl, h4, hn, ly, fun H5 p s' h5 e1 e2 k5 hp => ?_⟩
    have L5 := L4.keep k5 h4.sub (h4.nrd L4)
    exact q H5 p s' h5 e1 e2 ((((keepR k1).trans (keepR k3)).trans (keepO2 k4)).trans (keepO2 k5)) L5 hp
abbrev sDoCall : Stmt := top 48
theorem scDoCall : FnScope ["call", "reader", "outside"] ["call", "reader", "outside"] (defScope sDoCall) := ⟨rfl, rfl, rfl, by decide +kernel, rfl, by decide +kernel, by decide +kernel⟩
def spDoCall (C : Cs) (K : PySem.W.Frag) : Sp := fun vs H Q _ => ∃ (M : Own) (o pd an : Addr) (s : S) (n : Nat) (rd a : Addr) (c : NC) (rest : List Nat), vs = [.int (c.code : Int), .ref rd, .ref o] ∧ c.code < 4 ∧ OutAt C M H o pd an s n ∧ n + 100 < BIG ∧
  Left C K M H rd a (c.body rest) ∧ c.ok ∧ c.scripted s.dev ∧ Done2 C K M H o pd an rd a s n (c.act s.dev) rest Q
theorem ok_DoCall (T : Txt K mg C) (dC : DefOk P w K mg base "clear_all" 3 ["outside"] (spClear C)) (dP : DefOk P w K mg base "do_put" 7 ["reader", "outside"] (spDoPut C K)) (dG : DefOk P w K mg base "get_slot" 6 ["outside", "slot"] (spGet C))
    (mN : MetOk P w K mg base C.R "take_number" 1 ["self"] (spTakeN C K)) (dF : DefOk P w K mg base "do_forget" 7 ["reader", "outside"] (spDoForget C K)) (f : Addr) (fd : FuncData) (F : Fun K "do_call" "do_call" sDoCall f fd) :
    FnOk P w K mg base CX0 8 f fd ["call", "reader", "outside"] (spDoCall C K) := by
  refine F.ok scDoCall (fun vs H Q E h => ?_) (fun cdv A outer s H vs Q E hr h => ?_)
  · obtain ⟨M, o, pd, an, s, n, rd, a, c, rest, rfl, _⟩ := h
    rfl
  · obtain ⟨M, o, pd, an, s, n, rd, a, c, rest, rfl, hc, h, hn, hL, hok, hsc, q⟩ := h
    have hr1 : Room 1 _ := hr.mono (by decide)
    have hr3 : Room 3 _ := hr.mono (by decide)
    have hr6 : Room 6 _ := hr.mono (by decide)
    refine ⟨_, pss_cons (ps_if (pt_cmpR op_eq (pv 0) (pe_gv T.kClear) (nomark _)) (pss_one (ps_ret (pe_d dC hr3 (pa_cons (pv 2) pa_nil)))) pss_nil)
      (pss_cons (ps_if (pt_cmpR op_eq (pv 0) (pe_gv T.kPut) (nomark _)) (pss_one (ps_ret (pe_d dP hr (pa_cons (pv 1) (pa_cons (pv 2) pa_nil))))) pss_nil)
      (pss_cons (ps_if (pt_cmpR op_eq (pv 0) (pe_gv T.kGet) (nomark _)) (pss_one (ps_ret (pe_d dG hr6 (pa_cons (pv 2) (pa_cons (pe_m0 mN T.cR hr1 (pv 1)) pa_nil))))) pss_nil)
      (pss_cons (ps_if (pt_cmpR op_eq (pv 0) (pe_gv T.kForget) (nomark _)) (pss_one (ps_ret (pe_d dF hr (pa_cons (pv 1) (pa_cons (pv 2) pa_nil))))) pss_nil)
      (pss_one ps_never)))), ?_⟩
    cases c with
    | clear =>
      refine ⟨_, rfl, rfl, _, rfl, ?_⟩
      refine iteT ?_
      refine ⟨_, rfl, M, o, pd, an, s, n, rfl, h, hn, fun H5 p s' h5 e1 e2 k5 hp => ?_⟩
      exact q H5 p s' h5 e1 e2 (keepO2 k5) (hL.keep k5 h.sub (h.nrd hL)) hp
    | put i x y =>
      refine ⟨_, rfl, rfl, _, rfl, ?_⟩
      refine iteF ?_
      refine ⟨_, rfl, rfl, _, rfl, ?_⟩
      refine iteT ?_
      exact ⟨_, rfl, _, rfl, M, o, pd, an, s, n, rd, a, i, x, y, rest, rfl, h, hn, hL, hok, hsc, q⟩
    | get i =>
      refine ⟨_, rfl, rfl, _, rfl, ?_⟩
      refine iteF ?_
      refine ⟨_, rfl, rfl, _, rfl, ?_⟩
      refine iteF ?_
      refine ⟨_, rfl, rfl, _, rfl, ?_⟩
      refine iteT ?_
      obtain ⟨_, dr, kr, r1⟩ := hL.at
      obtain ⟨msL1, jL1, a1L1, a2L1, a3L1, a4L1⟩ := hL.next
      refine ⟨_, rfl, _, rfl, rd, dr, _, rfl, r1, rF_no _ _ (by decide +kernel), M, rd, a, msL1, jL1, rfl, a1L1, a2L1, fun H1 gL1 k1 => ?_⟩
      rw [a3L1]
      have L1 := a4L1 H1 gL1
      have h1 := h.read hL L1 k1
      refine ⟨M, o, pd, an, s, n, i, rfl, h1, hn, fun H5 p s' h5 e1 e2 k5 hp => ?_⟩
      exact q H5 p s' h5 e1 e2 ((keepR k1).trans (keepO2 k5)) (L1.keep k5 h1.sub (h1.nrd L1)) hp
    | forget i y =>
      refine ⟨_, rfl, rfl, _, rfl, ?_⟩
      refine iteF ?_
      refine ⟨_, rfl, rfl, _, rfl, ?_⟩
      refine iteF ?_
      refine ⟨_, rfl, rfl, _, rfl, ?_⟩
      refine iteF ?_
      refine ⟨_, rfl, rfl, _, rfl, ?_⟩
      refine iteT ?_
      exact ⟨_, rfl, _, rfl, M, o, pd, an, s, n, rd, a, i, y, rest, rfl, h, hn, hL, hsc, q⟩
    | layR x => exact absurd hc (by show ¬ 4 < 4; decide)
    | layP p x => exact absurd hc (by show ¬ 5 < 4; decide)
end
end My
namespace My
open PySem PySem.Spec PyProof.Rows L2
open Ks189 (Ref Node Dev Ev)
theorem out_act (d : Dev) (keys : List (List Nat)) (c : Ks189.Call) : (Ks189.act padF d keys c).2.out.length ≤ 64 := by
  cases c with
  | clear => exact Nat.zero_le _
  | put i x =>
    by_cases h : 1024 ≤ i
    · rw [put_far h]
      exact Nat.zero_le _
    · cases hw : Ks189.way padF d i with
      | mk e r =>
        cases r with
        | none =>
          rw [put_bad h hw]
          exact Nat.zero_le _
        | some wy =>
          rw [put_some h hw]
          exact Nat.zero_le _
  | get i =>
    by_cases h : 1024 ≤ i
    · rw [get_far h]
      exact Nat.zero_le _
    · cases hw : Ks189.way padF d i with
      | mk e r =>
        cases r with
        | none =>
          rw [get_bad h hw]
          exact Nat.zero_le _
        | some wy =>
          by_cases hl : (Ks189.leafOf wy).copy = 0
          · rw [get_none h hw hl]
            exact Nat.zero_le _
          · rw [get_some h hw hl]
            show (List.take 64 _).length ≤ 64
            rw [List.length_take]
            omega
  | forget i =>
    by_cases h : 1024 ≤ i
    · rw [forget_far h]
      exact Nat.zero_le _
    · cases hw : Ks189.way padF d i with
      | mk e r =>
        cases r with
        | none =>
          rw [forget_bad h hw]
          exact Nat.zero_le _
        | some wy =>
          by_cases hl : (Ks189.leafOf wy).copy = 0
          · rw [forget_none h hw hl]
            exact Nat.zero_le _
          · rw [forget_some h hw hl]
            exact Nat.zero_le _
theorem NC.out_len (c : NC) (d : Dev) : (c.act d).2.out.length ≤ 64 := by
  cases c with
  | clear => exact out_act _ _ _
  | put i x y => exact out_act _ _ _
  | get i => exact out_act _ _ _
  | forget i y => exact out_act _ _ _
  | layR x => exact Nat.zero_le _
  | layP p x => exact Nat.zero_le _
def toldAll (d : Dev) : List NC → List V
  | [] => []
  | c :: r => V.int ((c.step d).2.length : Int) :: ((c.step d).2 ++ toldAll (c.step d).1 r)
def AllOk (d : Dev) : List NC → Prop
  | [] => True
  | c :: r => c.ok ∧ c.scripted d ∧ AllOk (c.step d).1 r
section
variable {P : Program} {w : World} {K : PySem.W.Frag} {mg : Str → Option Value} {base : Heap} {C : Cs}
abbrev sDoLayR : Stmt := top 51
theorem scDoLayR : FnScope ["reader", "outside"] ["reader", "outside"] (defScope sDoLayR) := ⟨rfl, rfl, rfl, by decide +kernel, rfl, by decide +kernel, by decide +kernel⟩
def spDoLayR (C : Cs) (K : PySem.W.Frag) : Sp := fun vs H Q _ => ∃ (M : Own) (o pd an : Addr) (s : S) (n : Nat) (rd a : Addr) (x rest : List Nat), vs = [.ref rd, .ref o] ∧ OutAt C M H o pd an s n ∧ n + 100 < BIG ∧
  Left C K M H rd a (x.length :: (x ++ rest)) ∧ x.length = 40 ∧ ∀ H' p, OutAt C M H' o pd an ⟨s.dev.on (.keep x), s.scr, s.evs⟩ (n + 80) → Keep (OR o pd an rd) H H' → Left C K M H' rd a rest → ¬ M p → H' p = some (.lst [.int 0]) → Q (.ref p) H'
theorem ok_DoLayR (T : Txt K mg C) (mR : MetOk P w K mg base C.R "take_row" 2 ["self"] (spTakeR C K)) (mL : MetOk P w K mg base C.O "lay_register" 1 ["self", "content"] (spLayR C)) (f : Addr) (fd : FuncData) (F : Fun K "do_lay_register" "do_lay_register" sDoLayR f fd) :
    FnOk P w K mg base CX0 3 f fd ["reader", "outside"] (spDoLayR C K) := by
  refine F.ok scDoLayR (fun vs H Q E h => ?_) (fun cdv A outer s H vs Q E hr h => ?_)
  · obtain ⟨M, o, pd, an, s, n, rd, a, x, rest, rfl, _⟩ := h
    rfl
  · obtain ⟨M, o, pd, an, s, n, rd, a, x, rest, rfl, h, hn, hL, lx, q⟩ := h
    have hr1 : Room 1 _ := hr.mono (by decide)
    refine ⟨_, pss_cons (ps_expr (pe_m mL T.cO hr1 (pv 1) (pa_cons (pe_m0 mR T.cR hr (pv 0)) pa_nil))) (pss_one (ps_ret (pe_lst (pa_cons pe_int pa_nil)))), ?_⟩
    obtain ⟨dx, ro, so, ho, _⟩ := h.ob
    obtain ⟨_, dr, kr, r1⟩ := hL.at
    obtain ⟨ms, j, b1, b2, b3, b4, b5, b6⟩ := hL.row
    refine ⟨_, rfl, o, dx, _, rfl, ho, oF_no _ _ _ _ _ (by decide +kernel), _, rfl, rd, dr, _, rfl, r1, rF_no _ _ (by decide +kernel), M, rd, a, ms, j, _, rfl, b1, b2, b3, b4, fun H1 p g1 k1 np hp => ?_⟩
    rw [b5] at hp
    have L1 := b6 H1 g1
    have h1 := h.read hL L1 k1
    refine ⟨M, o, pd, an, s, n, p, x, rfl, h1, LstAt.new h.tr np hp, lx, fun H2 h2 k2 => ?_⟩
    have L2 := L1.keep k2 h1.sub (h1.nrd L1)
    refine ⟨by show 1 ≤ sizeLine; decide, fun z hz => ?_⟩
    have k3 := Keep.new (u := .lst [V.int 0]) hz
    exact q _ z ((h2.keep0 k3).up (by omega)) (((keepR k1).trans (keepO2 k2)).trans k3.any) (L2.keep0 k3) (h2.tr.out hz) upd_same
abbrev sDoLayP : Stmt := top 52
theorem scDoLayP : FnScope ["reader", "outside", "page"] ["reader", "outside"] (defScope sDoLayP) := ⟨rfl, rfl, rfl, by decide +kernel, rfl, by decide +kernel, by decide +kernel⟩
def spDoLayP (C : Cs) (K : PySem.W.Frag) : Sp := fun vs H Q _ => ∃ (M : Own) (o pd an : Addr) (s : S) (n : Nat) (rd a : Addr) (g : Nat) (x rest : List Nat), vs = [.ref rd, .ref o] ∧ OutAt C M H o pd an s n ∧ n + 100 < BIG ∧
  Left C K M H rd a (g :: x.length :: (x ++ rest)) ∧ x.length = 96 ∧ ∀ H' p, OutAt C M H' o pd an ⟨s.dev.on (.write g x), s.scr, s.evs⟩ (n + 80) → Keep (OR o pd an rd) H H' → Left C K M H' rd a rest → ¬ M p → H' p = some (.lst [.int 0]) → Q (.ref p) H'
theorem ok_DoLayP (T : Txt K mg C) (mN : MetOk P w K mg base C.R "take_number" 1 ["self"] (spTakeN C K)) (mR : MetOk P w K mg base C.R "take_row" 2 ["self"] (spTakeR C K)) (mL : MetOk P w K mg base C.O "lay_page" 1 ["self", "page", "content"] (spLayP C))
    (f : Addr) (fd : FuncData) (F : Fun K "do_lay_page" "do_lay_page" sDoLayP f fd) : FnOk P w K mg base CX0 3 f fd ["reader", "outside"] (spDoLayP C K) := by
  refine F.ok scDoLayP (fun vs H Q E h => ?_) (fun cdv A outer s H vs Q E hr h => ?_)
  · obtain ⟨M, o, pd, an, s, n, rd, a, g, x, rest, rfl, _⟩ := h
    rfl
  · obtain ⟨M, o, pd, an, s, n, rd, a, g, x, rest, rfl, h, hn, hL, lx, q⟩ := h
    have hr1 : Room 1 _ := hr.mono (by decide)
    refine ⟨_, pss_cons (ps_set (i := 2) scDoLayP.nd rfl (Or.inl rfl) (pe_m0 mN T.cR hr1 (pv 0)))
      (pss_cons (ps_expr (pe_m mL T.cO hr1 (pv 1) (pa_cons (pv 2) (pa_cons (pe_m0 mR T.cR hr (pv 0)) pa_nil)))) (pss_one (ps_ret (pe_lst (pa_cons pe_int pa_nil))))), ?_⟩
    obtain ⟨_, dr, kr, r1⟩ := hL.at
    obtain ⟨ms0, j0, a1, a2, a3, a4⟩ := hL.next
    refine ⟨_, rfl, rd, dr, _, rfl, r1, rF_no _ _ (by decide +kernel), M, rd, a, ms0, j0, rfl, a1, a2, fun H0 g0 k0 => ?_⟩
    rw [a3]
    have L0 := a4 H0 g0
    have h0 := h.read hL L0 k0
    obtain ⟨dx, ro, so, ho, _⟩ := h0.ob
    obtain ⟨_, dr, kr, r1⟩ := L0.at
    obtain ⟨ms, j, b1, b2, b3, b4, b5, b6⟩ := L0.row
    refine ⟨_, rfl, o, dx, _, rfl, ho, oF_no _ _ _ _ _ (by decide +kernel), _, rfl, _, rfl, rd, dr, _, rfl, r1, rF_no _ _ (by decide +kernel), M, rd, a, ms, j, _, rfl, b1, b2, b3, b4, fun H1 p g1 k1 np hp => ?_⟩
    rw [b5] at hp
    have L1 := b6 H1 g1
    have h1 := h0.read L0 L1 k1
    refine ⟨M, o, pd, an, s, n, g, p, x, rfl, h1, by omega, LstAt.new h0.tr np hp, lx, fun H2 h2 k2 => ?_⟩
    have L2 := L1.keep k2 h1.sub (h1.nrd L1)
    refine ⟨by show 1 ≤ sizeLine; decide, fun z hz => ?_⟩
    have k3 := Keep.new (u := .lst [V.int 0]) hz
    exact q _ z ((h2.keep0 k3).up (by omega)) ((((keepR k0).trans (keepR k1)).trans (keepO2 k2)).trans k3.any) (L2.keep0 k3) (h2.tr.out hz) upd_same
abbrev sNext : Stmt := top 47
theorem scNext : FnScope ["reader", "outside", "call", "told"] ["reader", "outside"] (defScope sNext) := ⟨rfl, rfl, rfl, by decide +kernel, rfl, by decide +kernel, by decide +kernel⟩
def spNext (C : Cs) (K : PySem.W.Frag) : Sp := fun vs H Q _ => ∃ (M : Own) (o pd an : Addr) (s : S) (n : Nat) (rd a : Addr) (c : NC) (rest : List Nat), vs = [.ref rd, .ref o] ∧ OutAt C M H o pd an s n ∧ n + 100 < BIG ∧
  Left C K M H rd a (c.code :: c.body rest) ∧ c.ok ∧ c.scripted s.dev ∧
  ∀ (H' : Hp) (p : Addr) (M' : Own) (an' : Addr) (s' : S), (∀ b, M b → M' b) → (an' = an ∨ H an' = none) → OutAt C M' H' o pd an' s' (n + 80) → s'.dev = (c.step s.dev).1 → Keep (OR o pd an rd) H H' → Left C K M' H' rd a rest → ¬ M' p →
    H' p = some (.lst (c.step s.dev).2) → Q (.ref p) H'
theorem ok_Next (T : Txt K mg C) (mN : MetOk P w K mg base C.R "take_number" 1 ["self"] (spTakeN C K)) (dR : DefOk P w K mg base "do_lay_register" 3 ["reader", "outside"] (spDoLayR C K)) (dP : DefOk P w K mg base "do_lay_page" 3 ["reader", "outside"] (spDoLayP C K))
    (mB : MetOk P w K mg base C.O "begin_call" 1 ["self"] (spBegin C)) (dC : DefOk P w K mg base "do_call" 8 ["call", "reader", "outside"] (spDoCall C K)) (f : Addr) (fd : FuncData) (F : Fun K "answer_next" "answer_next" sNext f fd) :
    FnOk P w K mg base CX0 9 f fd ["reader", "outside"] (spNext C K) := by
  refine F.ok scNext (fun vs H Q E h => ?_) (fun cdv A outer s H vs Q E hr h => ?_)
  · obtain ⟨M, o, pd, an, s, n, rd, a, c, rest, rfl, _⟩ := h
    rfl
  · obtain ⟨M, o, pd, an, s, n, rd, a, c, rest, rfl, h, hn, hL, hok, hsc, q⟩ := h
    have hr1 : Room 1 _ := hr.mono (by decide)
    have hr3 : Room 3 _ := hr.mono (by decide)
    refine ⟨_, pss_cons (ps_set (i := 2) scNext.nd rfl (Or.inl rfl) (pe_m0 mN T.cR hr1 (pv 0)))
      (pss_cons (ps_if (pt_cmpR op_eq (pv 2) (pe_gv T.kLayR) (nomark _)) (pss_one (ps_ret (pe_d dR hr3 (pa_cons (pv 0) (pa_cons (pv 1) pa_nil))))) pss_nil)
      (pss_cons (ps_if (pt_cmpR op_eq (pv 2) (pe_gv T.kLayP) (nomark _)) (pss_one (ps_ret (pe_d dP hr3 (pa_cons (pv 0) (pa_cons (pv 1) pa_nil))))) pss_nil)
      (pss_cons (ps_expr (pe_m0 mB T.cO hr1 (pv 1)))
      (pss_cons (ps_set (i := 3) scNext.nd rfl (Or.inl rfl) (pe_d dC hr (pa_cons (pv 2) (pa_cons (pv 0) (pa_cons (pv 1) pa_nil)))))
      (pss_one (ps_ret (pe_op op_cat (pe_op op_cat (pv 3) (pe_lst (pa_cons (pe_fld (pv 1) rfl) pa_nil))) (pe_fld (pv 1) rfl)))))))), ?_⟩
    obtain ⟨_, dr, kr, r1⟩ := hL.at
    obtain ⟨ms0, j0, a1, a2, a3, a4⟩ := hL.next
    refine ⟨_, rfl, rd, dr, _, rfl, r1, rF_no _ _ (by decide +kernel), M, rd, a, ms0, j0, rfl, a1, a2, fun H1 g1 k1 => ?_⟩
    rw [a3]
    have L1 := a4 H1 g1
    have h1 := h.read hL L1 k1
    -- the calls that are no laying
    have main : c.code < 4 → c.step s.dev = (s.dev.after (c.act s.dev).1, callAns (c.act s.dev)) → (tSeq (tDrop (tMeth C.O "begin_call" (spBegin C) [] E0 (tVar 1) tNil)) (tSeq (tAsg (tCall (spDoCall C K) [] E0 (tCons (tVar 2) (tCons (tVar 0) (tCons (tVar 1) tNil)))) (gName 3))
        (tRet (tOp rCat (tOp rCat (tVar 3) (tLst (tCons (tFld K (tVar 1) "asked_count") tNil))) (tFld K (tVar 1) "asked_numbers"))))) { nx := fun _ H' => Q .non H', rt := Q } [some (.ref rd), some (.ref o), some (.int (c.code : Int)), none] H1 := by
      intro hc hst
      rw [hst] at q
      obtain ⟨dx, ro, so, ho, _⟩ := h1.ob
      refine ⟨_, rfl, o, dx, _, rfl, ho, oF_no _ _ _ _ _ (by decide +kernel), M, o, pd, an, s, n, rfl, h1, fun H2 an' ha h2 k2 => ?_⟩
      have hro : ¬ rd = o := fun z => h1.nrd L1 (z ▸ .inl rfl)
      have L2 := L1.grow (N := fun b => b = an') k2 (by rintro b rfl; exact h1.mo) hro (by rintro b rfl; exact ha)
      have k12 : Keep (OR o pd an rd) H H2 := (keepR k1).trans (k2.mono fun b z => .inl (.inl z))
      have t1 : Tr (fun b => b = rd) H1 := by
        rintro b rfl
        obtain ⟨_, dx, j, e⟩ := L1.at
        exact ⟨_, e⟩
      have han : H an' = none := k1.free t1 ha
      refine ⟨_, rfl, _, rfl, _, rfl, _, o, pd, an', _, n, rd, a, c, rest, rfl, hc, h2, hn, L2, hok, hsc, fun H3 p s' h3 e1 e2 k3 L3 hp => ?_⟩
      have e3 : s'.evs = (c.act s.dev).1 := e2.trans (List.nil_append _)
      obtain ⟨dx3, ro3, so3, ho3, _⟩ := h3.ob
      refine ⟨_, rfl, _, rfl, o, C.O, dx3, _, _, rfl, ho3, T.cO, T.nO4, oF_c _ _ _ _ _, by show 1 ≤ sizeLine; decide, fun l1 hl1 => ?_⟩
      have lo := c.out_len s.dev
      have la : (ansV (c.act s.dev).2).length ≤ 65 := by
        show (My.vs (c.act s.dev).2.out).length + 1 ≤ 65
        rw [vs_len]
        omega
      refine ⟨p, l1, _, _, rfl, rfl, ne_new hp hl1, upd_same, Nat.le_trans (Nat.add_le_add_right la _) (by show 66 ≤ sizeLine; decide), fun l2 hl2 => ?_⟩
      have kA := (Keep.new (u := .lst [V.int (s'.evs.length : Int)]) hl1).trans (Keep.new (u := .lst (ansV (c.act s.dev).2 ++ [V.int (s'.evs.length : Int)])) hl2)
      refine ⟨_, rfl, o, C.O, dx3, _, _, rfl, kA.is ho3, T.cO, T.nO5, oF_n _ _ _ _ _, l2, an', _, _, rfl, rfl, upd_same, kA.is h3.nu, ?_, fun z hz => ?_⟩
      · rw [List.length_append, vs_len]
        have sz := h3.sz
        have hn2 : n + 100 < 150000 := hn
        show (ansV (c.act s.dev).2).length + 1 + _ ≤ 16777216
        omega
      have kB := kA.trans (Keep.new (u := .lst (ansV (c.act s.dev).2 ++ [V.int (s'.evs.length : Int)] ++ My.vs (encs s'.evs))) hz)
      have kC : Keep (fun b => OR o pd an rd b ∨ b = an') H _ := ((k12.mono fun b z => .inl z).trans (k3.mono (L' := fun b => OR o pd an rd b ∨ b = an') (by
        rintro b ((y | y | y) | y)
        · exact .inl (.inl (.inl y))
        · exact .inl (.inl (.inr (.inl y)))
        · exact .inr y
        · exact .inl (.inr y)))).trans kB.any
      refine q _ z _ an' s' (fun b z => .inl z) (.inr han) (h3.keep0 kB) e1 (kC.hide (by rintro b rfl; exact han)) (L3.keep0 kB) (h3.tr.out (kA.free0 hz)) ?_
      rw [upd_same, e3]
      rfl
    cases c with
    | clear =>
      refine ⟨_, rfl, rfl, _, rfl, ?_⟩
      refine iteF ?_
      refine ⟨_, rfl, rfl, _, rfl, ?_⟩
      refine iteF ?_
      exact main (by show (_ : Nat) < 4; simp [NC.code]) rfl
    | put i x y =>
      refine ⟨_, rfl, rfl, _, rfl, ?_⟩
      refine iteF ?_
      refine ⟨_, rfl, rfl, _, rfl, ?_⟩
      refine iteF ?_
      exact main (by show (_ : Nat) < 4; simp [NC.code]) rfl
    | get i =>
      refine ⟨_, rfl, rfl, _, rfl, ?_⟩
      refine iteF ?_
      refine ⟨_, rfl, rfl, _, rfl, ?_⟩
      refine iteF ?_
      exact main (by show (_ : Nat) < 4; simp [NC.code]) rfl
    | forget i y =>
      refine ⟨_, rfl, rfl, _, rfl, ?_⟩
      refine iteF ?_
      refine ⟨_, rfl, rfl, _, rfl, ?_⟩
      refine iteF ?_
      exact main (by show (_ : Nat) < 4; simp [NC.code]) rfl
    | layR x =>
      refine ⟨_, rfl, rfl, _, rfl, ?_⟩
      refine iteT ?_
      refine ⟨_, rfl, _, rfl, M, o, pd, an, s, n, rd, a, x, rest, rfl, h1, hn, L1, hok, fun H2 p h2 k2 L2 np hp => ?_⟩
      exact q H2 p M an _ (fun b z => z) (.inl rfl) h2 rfl ((keepR k1).trans k2) L2 np hp
    | layP g x =>
      refine ⟨_, rfl, rfl, _, rfl, ?_⟩
      refine iteF ?_
      refine ⟨_, rfl, rfl, _, rfl, ?_⟩
      refine iteT ?_
      refine ⟨_, rfl, _, rfl, M, o, pd, an, s, n, rd, a, g, x, rest, rfl, h1, hn, L1, hok, fun H2 p h2 k2 L2 np hp => ?_⟩
      exact q H2 p M an _ (fun b z => z) (.inl rfl) h2 rfl ((keepR k1).trans k2) L2 np hp
end
end My
namespace My
open PySem PySem.Spec PyProof.Rows L2
open Ks189 (Ref Node Dev Ev)
theorem ins_ne {C C' dx dx' : Addr} {fs fs' : List (Str × V)} (h : fs.length ≠ fs'.length) : HO.ins C dx fs ≠ HO.ins C' dx' fs' := fun z => by
  injection z with _ _ z
  exact h (congrArg List.length z)
theorem drop_end {ms rest : List Nat} {k : Nat} (h : ms.drop k = rest) : decide (ms.length ≤ k) = rest.isEmpty := by
  cases rest with
  | nil => exact decide_eq_true (List.drop_eq_nil_iff.mp h)
  | cons c r => exact decide_eq_false (Nat.not_le_of_lt (drop_next h).1)
section
variable {P : Program} {w : World} {K : PySem.W.Frag} {mg : Str → Option Value} {base : Heap} {C : Cs}
abbrev sAnswers : Stmt := top 46
theorem scAnswers : FnScope ["calls", "reader", "outside", "given", "answer"] ["calls"] (defScope sAnswers) := ⟨rfl, rfl, rfl, by decide +kernel, rfl, by decide +kernel, by decide +kernel⟩
def startDev : Dev := { reg := Ks189.zeros 40, page := fun _ => Ks189.zeros 96 }
def spAnswers (K : PySem.W.Frag) : Sp := fun vs H Q _ => ∃ (a : Addr) (cs : List NC), vs = [.ref a] ∧ Req K No H a (flatAll cs) ∧ cs.length ≤ 1000 ∧ AllOk startDev cs ∧ (toldAll startDev cs).length ≤ 10000000 ∧
  ∀ H' p, H' p = some (.lst (toldAll startDev cs)) → Q (.ref p) H'
theorem ok_Answers (T : Txt K mg C) (iR : IniOk P w K mg base C.R 1 ["self", "numbers"] (spRdI C)) (iO : IniOk P w K mg base C.O 1 ["self"] (spOutI C)) (mE : MetOk P w K mg base C.R "at_end" 1 ["self"] (spAtEnd C K))
    (dN : DefOk P w K mg base "answer_next" 9 ["reader", "outside"] (spNext C K)) (f : Addr) (fd : FuncData) (F : Fun K "answers" "answers" sAnswers f fd) : FnOk P w K mg base CX0 10 f fd ["calls"] (spAnswers K) := by
  refine F.ok scAnswers (fun vs H Q E h => ?_) (fun cdv A outer s H vs Q E hr h => ?_)
  · obtain ⟨a, cs, rfl, _⟩ := h
    rfl
  · obtain ⟨a, cs, rfl, hq, hcs, hok, hsz, q⟩ := h
    have hr1 : Room 1 _ := hr.mono (by decide)
    have hr2 : Room 2 _ := hr.mono (by decide)
    refine ⟨_, pss_cons (ps_set (i := 1) scAnswers.nd rfl (Or.inl rfl) (pe_i iR T.gR hr2 (pa_cons (pv 0) pa_nil)))
      (pss_cons (ps_set (i := 2) scAnswers.nd rfl (Or.inl rfl) (pe_i0 iO T.gO hr2))
      (pss_cons (ps_set (i := 3) scAnswers.nd rfl (Or.inl rfl) (pe_lst pa_nil))
      (pss_cons (ps_while PassesOwn.never (pt_not (pt_val (pe_m0 mE T.cR hr1 (pv 1))))
        (pss_cons (ps_set (i := 4) scAnswers.nd rfl (Or.inl rfl) (pe_d dN hr (pa_cons (pv 1) (pa_cons (pv 2) pa_nil))))
        (pss_cons (ps_expr (pe_bm PySem.F.plainAttrs_list PySem.F.slot_list_append PySem.F.type_list_append mt_append (pv 3) (pa_cons (pe_callB call_len_seq (by rfl) T.bLen PySem.boot_len (pa_cons (pv 4) pa_nil)) pa_nil)))
        (pss_one (ps_expr (pe_bm PySem.F.plainAttrs_list PySem.F.slot_list_extend PySem.F.type_list_extend mt_extend (pv 3) (pa_cons (pv 4) pa_nil)))))))
      (pss_one (ps_ret (pv 3)))))), ?_⟩
    -- the three things
    refine ⟨_, rfl, ?_⟩
    intro rd dr hrd hdr ner
    refine ⟨rd, dr, a, rfl, upd_same, fun H1 r1 kr => ⟨rfl, ?_⟩⟩
    have k1 : Keep No H H1 := fun b u hb nb => kr b u (made hrd hdr b u hb nb) (ne_of_none hb hrd)
    intro o do_ ho hdo neo
    refine ⟨o, do_, rfl, upd_same, fun H2 r pd sc an o2 r2 p2 s2 a2 nr np ns na ra sa ko => ⟨rfl, ?_⟩⟩
    have km := made (C := C.O) ho hdo
    have k2 : Keep No H1 H2 := fun b u hb nb => ko b u (km b u hb nb) (ne_of_none hb ho)
    refine ⟨by show 0 ≤ sizeLine; decide, fun g hg => ?_⟩
    have k3 := Keep.new (u := .lst []) hg
    have k02 := k1.trans k2
    have k03 := k02.trans k3
    have hN : ∀ b, (b = rd ∨ b = o ∨ b = pd ∨ b = an ∨ b = g) → H b = none := by
      rintro b (rfl | rfl | rfl | rfl | rfl)
      · exact hrd
      · exact k1.free0 ho
      · exact k1.free0 (km.free0 np)
      · exact k1.free0 (km.free0 na)
      · exact k02.free0 hg
    have hR := hq.grow (L := No) (N := fun b => b = rd ∨ b = o ∨ b = pd ∨ b = an ∨ b = g) k03 (fun _ z => z.elim) hN
    generalize hM : (fun b : Addr => No b ∨ (b = rd ∨ b = o ∨ b = pd ∨ b = an ∨ b = g)) = M at hR
    have mM : ∀ b, M b ↔ (b = rd ∨ b = o ∨ b = pd ∨ b = an ∨ b = g) := by
      rw [← hM]
      exact fun b => ⟨fun z => z.elim (fun y => y.elim) fun y => y, fun z => .inr z⟩
    have rd3 : upd H2 g (.lst []) rd = some (.ins C.R dr (rF a 0)) := k3.is (k2.is r1)
    have o3 := k3.is o2
    have r3 := k3.is r2
    have p3 := k3.is p2
    have s3 := k3.is s2
    have a3 := k3.is a2
    have g3 : upd H2 g (.lst []) g = some (.lst []) := upd_same
    have nM : ∀ (b : Addr) (x : List Nat), upd H2 g (.lst []) b = some (.lst (My.vs x)) → b ≠ an → b ≠ g → ¬ M b := by
      intro b x hb n1 n2 z
      rcases (mM b).mp z with e | e | e | e | e
      · rw [e, rd3] at hb
        cases hb
      · rw [e, o3] at hb
        cases hb
      · rw [e, p3] at hb
        cases hb
      · exact n1 e
      · exact n2 e
    have h3 : OutAt C M (upd H2 g (.lst [])) o pd an ⟨startDev, [], []⟩ 0 := by
      refine ⟨fun b z => ?_, fun b z => (mM b).mpr ?_, ⟨do_, r, sc, o3, ⟨r3, nM r _ r3 ra (ne_of_none r2 hg)⟩, ⟨s3, nM sc [] s3 sa (ne_of_none s2 hg)⟩⟩, ⟨[], p3, Nat.le_refl _, fun p _ => rfl, fun p v e => by cases e⟩, a3, Nat.le_refl _, ⟨rfl, fun p => rfl⟩⟩
      · rcases (mM b).mp z with rfl | rfl | rfl | rfl | rfl
        · exact ⟨_, rd3⟩
        · exact ⟨_, o3⟩
        · exact ⟨_, p3⟩
        · exact ⟨_, a3⟩
        · exact ⟨_, g3⟩
      · rcases z with z | z | z
        · exact .inr (.inl z)
        · exact .inr (.inr (.inl z))
        · exact .inr (.inr (.inr (.inl z)))
    have L3 : Left C K M (upd H2 g (.lst [])) rd a (flatAll cs) := ⟨flatAll cs, 0, ⟨dr, rd3, (mM rd).mpr (.inl rfl), hR⟩, rfl⟩
    have ng : ¬ OR o pd an rd g := by
      rintro ((z | z | z) | z)
      · exact ne_of o3 g3 (fun y => by cases y) z.symm
      · exact ne_of p3 g3 (fun y => by cases y) z.symm
      · exact ne_of_none a2 hg z.symm
      · exact ne_of rd3 g3 (fun y => by cases y) z.symm
    clear hR nM
    generalize upd H2 g (.lst []) = H3 at *
    refine ⟨fun m σ H' => ∃ (M : Own) (an : Addr) (s : S) (n : Nat) (cs' : List NC) (done : List V) (v4 : Option V), σ = [some (.ref a), some (.ref rd), some (.ref o), some (.ref g), v4] ∧ OutAt C M H' o pd an s n ∧ Left C K M H' rd a (flatAll cs') ∧
      m = cs'.length ∧ n + 80 * cs'.length ≤ 80000 ∧ AllOk s.dev cs' ∧ M g ∧ ¬ OR o pd an rd g ∧ H' g = some (.lst done) ∧ done ++ toldAll s.dev cs' = toldAll startDev cs,
      ⟨cs.length, M, an, ⟨startDev, [], []⟩, 0, cs, [], none, rfl, h3, L3, rfl, by omega, hok, (mM g).mpr (.inr (.inr (.inr (.inr rfl)))), ng, g3, rfl⟩, ?_⟩
    rintro m σ H4 ⟨M, an, s, n, cs', done, v4, rfl, h4, L4, rfl, hn, hok, mg_, ng, g4, ht⟩
    obtain ⟨_, dr, kr', r4⟩ := L4.at
    have L40 := L4
    obtain ⟨ms, k, hrd4, hdrop⟩ := L4
    refine ⟨_, rfl, rd, dr, _, rfl, r4, rF_no _ _ (by decide +kernel), M, rd, a, ms, k, rfl, hrd4, _, rfl, ?_⟩
    rw [drop_end hdrop]
    cases cs' with
    | nil =>
      refine iteF ?_
      refine ⟨_, rfl, q H4 g ?_⟩
      rw [← ht]
      show H4 g = some (.lst (done ++ []))
      rw [List.append_nil]
      exact g4
    | cons c cs' =>
      refine iteT ?_
      obtain ⟨ok1, ok2, ok3⟩ := hok
      rw [List.length_cons] at hn
      refine ⟨fun σ' H' => ∃ (M : Own) (an : Addr) (s' : S) (n : Nat) (done : List V) (v4 : Option V), σ' = [some (.ref a), some (.ref rd), some (.ref o), some (.ref g), v4] ∧ OutAt C M H' o pd an s' n ∧ Left C K M H' rd a (flatAll cs') ∧
        n + 80 * cs'.length ≤ 80000 ∧ AllOk s'.dev cs' ∧ M g ∧ ¬ OR o pd an rd g ∧ H' g = some (.lst done) ∧ done ++ toldAll s'.dev cs' = toldAll startDev cs, ?_, ?_⟩
      · rintro σ' H' ⟨M, an, s', n, done, v4, e1, e2, e3, e4, e5, e6, e7, e8, e9⟩
        exact ⟨cs'.length, Nat.lt_succ_self _, M, an, s', n, cs', done, v4, e1, e2, e3, rfl, e4, e5, e6, e7, e8, e9⟩
      · refine ⟨_, rfl, _, rfl, M, o, pd, an, s, n, rd, a, c, flatAll cs', rfl, h4, by show n + 100 < 150000; omega, L40, ok1, ok2, fun H5 p M' an' s' mm ea h5 ed k5 L5 mp hp => ?_⟩
        have g5 : H5 g = some (.lst done) := k5 g _ g4 ng
        have ng5 : ¬ OR o pd an' rd g := by
          rintro ((z | z | z) | z)
          · exact ng (.inl (.inl z))
          · exact ng (.inl (.inr (.inl z)))
          · rcases ea with e | e
            · exact ng (.inl (.inr (.inr (z.trans e))))
            · rw [← z, g4] at e
              cases e
          · exact ng (.inr z)
        have mg5 := mm g mg_
        have pg : p ≠ g := fun z => mp (z ▸ mg5)
        have hlen : done.length + ((c.step s.dev).2.length + 1) ≤ 10000000 := by
          have e := congrArg List.length ht
          rw [List.length_append] at e
          have e2 : (toldAll s.dev (c :: cs')).length = ((c.step s.dev).2 ++ toldAll (c.step s.dev).1 cs').length + 1 := rfl
          rw [e2, List.length_append] at e
          omega
        refine ⟨_, rfl, .inl ⟨rfl, _, SqL.of g5⟩, ?_⟩
        refine ⟨_, rfl, p, _, rfl, .inl (SqL.of hp), g, _, _, rfl, rfl, g5, ?_, ?_⟩
        · show _ < 16777216
          omega
        have kg1 : Keep (fun b => b = g) H5 (upd H5 g (.lst (done ++ [V.int ((c.step s.dev).2.length : Int)]))) := Keep.at
        have hp6 := kg1 p _ hp pg
        refine ⟨_, rfl, .inl ⟨rfl, _, SqL.of upd_same⟩, _, rfl, g, p, _, _, rfl, rfl, upd_same, hp6, ?_, ?_⟩
        · rw [List.length_append]
          show done.length + 1 + _ ≤ 16777216
          omega
        have kg : Keep (fun b => b = g) H5 (upd (upd H5 g (.lst (done ++ [V.int ((c.step s.dev).2.length : Int)]))) g (.lst (done ++ [V.int ((c.step s.dev).2.length : Int)] ++ (c.step s.dev).2))) := kg1.trans Keep.at
        have sg : ∀ b, b = g → M' b := by
          rintro b rfl
          exact mg5
        refine ⟨M', an', s', n + 80, done ++ [V.int ((c.step s.dev).2.length : Int)] ++ (c.step s.dev).2, _, rfl, ?_, ?_, by omega, ?_, mg5, ng5, upd_same, ?_⟩
        · refine h5.frame (L := fun b => b = g) kg ?_ ?_
          · rintro b rfl
            exact ⟨mg5, fun z => ng5 (.inl z)⟩
          · rintro b rfl
            exact ⟨_, upd_same⟩
        · exact L5.keep kg sg fun z => ng5 (.inr z.symm)
        · rw [ed]
          exact ok3
        · rw [← ht, ed, List.append_assoc, List.append_assoc]
          rfl
end
end My
/-! ### 10. The specification's calls are these -/
namespace My
open PySem PySem.Spec PyProof.Rows L2
open Ks189 (Ref Node Dev Ev)
abbrev zs : List Nat → List Int := Ks189Neutral.ints
abbrev nz : List Int → List Nat := Ks189Neutral.nats
def NC.int : NC → List (List Int)
  | .clear => [[0]]
  | .put i x y => [[1, (i : Int)], zs x, zs y]
  | .get i => [[2, (i : Int)]]
  | .forget i y => [[3, (i : Int)], zs y]
  | .layR x => [[4], zs x]
  | .layP p x => [[5, (p : Int)], zs x]
theorem nats_ints : ∀ x : List Nat, nz (zs x) = x
  | [] => rfl
  | a :: x => by
    show ((a : Int)).toNat :: nz (zs x) = a :: x
    rw [nats_ints x]
    rfl
theorem ints_nats : ∀ {l : List Int}, (l.all fun z => Ks189Neutral.natural z 8) = true → l = zs (nz l)
  | [], _ => rfl
  | a :: l, h => by
    rw [List.all_cons, Bool.and_eq_true] at h
    have h1 : decide (0 ≤ a) = true := (Bool.and_eq_true _ _ ▸ h.1 : _ ∧ _).1
    have h2 := of_decide_eq_true h1
    show a :: l = ((a.toNat : Nat) : Int) :: zs (nz l)
    rw [Int.toNat_of_nonneg h2, ← ints_nats h.2]
theorem ints_vs (x : List Nat) : (zs x).map V.int = vs x := by
  unfold zs Ks189Neutral.ints vs
  rw [List.map_map]
  rfl
theorem ints_len (x : List Nat) : (zs x).length = x.length := List.length_map _
theorem nat_of {a : Int} {b : Nat} (h : Ks189Neutral.natural a b = true) : a = ((a.toNat : Nat) : Int) := by
  have h1 : decide (0 ≤ a) = true := (Bool.and_eq_true _ _ ▸ h : _ ∧ _).1
  rw [Int.toNat_of_nonneg (of_decide_eq_true h1)]
theorem asked1_nc {c : List (List Int)} (h : Ks189Neutral.asked1 c = true) : ∃ nc : NC, c = nc.int := by
  unfold Ks189Neutral.asked1 at h
  split at h
  · exact ⟨.clear, rfl⟩
  · rename_i a b d
    rw [Bool.and_eq_true, Bool.and_eq_true] at h
    refine ⟨.put a.toNat (nz b) (nz d), ?_⟩
    show [[1, a], b, d] = [[1, ((a.toNat : Nat) : Int)], zs (nz b), zs (nz d)]
    rw [← nat_of h.1.1, ← ints_nats h.1.2, ← ints_nats h.2]
  · rename_i a
    refine ⟨.get a.toNat, ?_⟩
    show [[2, a]] = [[2, ((a.toNat : Nat) : Int)]]
    rw [← nat_of h]
  · rename_i a b
    rw [Bool.and_eq_true] at h
    refine ⟨.forget a.toNat (nz b), ?_⟩
    show [[3, a], b] = [[3, ((a.toNat : Nat) : Int)], zs (nz b)]
    rw [← nat_of h.1, ← ints_nats h.2]
  · rename_i a
    refine ⟨.layR (nz a), ?_⟩
    show [[4], a] = [[4], zs (nz a)]
    rw [← ints_nats h]
  · rename_i a b
    rw [Bool.and_eq_true] at h
    refine ⟨.layP a.toNat (nz b), ?_⟩
    show [[5, a], b] = [[5, ((a.toNat : Nat) : Int)], zs (nz b)]
    rw [← nat_of h.1, ← ints_nats h.2]
  · cases h
theorem all_nc : ∀ {l : List (List (List Int))}, l.all Ks189Neutral.asked1 = true → ∃ cs : List NC, l = cs.map NC.int
  | [], _ => ⟨[], rfl⟩
  | c :: l, h => by
    rw [List.all_cons, Bool.and_eq_true] at h
    obtain ⟨nc, e⟩ := asked1_nc h.1
    obtain ⟨cs, e2⟩ := all_nc h.2
    exact ⟨nc :: cs, by rw [e, e2]; rfl⟩
theorem whole_id (c : List (List Int)) : PyKs189.whole c = c := by
  unfold PyKs189.whole
  split <;> rfl
theorem put_flat : ∀ cs : List NC, PyFlat.put (cs.map NC.int) = (flatAll cs).map Int.ofNat
  | [] => rfl
  | c :: cs => by
    show PyFlat.put1 c.int ++ PyFlat.put (cs.map NC.int) = _
    rw [put_flat cs]
    cases c with
    | clear => rfl
    | get i => rfl
    | put i x y =>
      show (1 : Int) :: (i : Int) :: (((zs x).length : Int) :: zs x ++ (((zs y).length : Int) :: zs y ++ [])) ++ (flatAll cs).map Int.ofNat = _
      rw [ints_len, ints_len]
      simp [flatAll, NC.code, NC.body, zs, Ks189Neutral.ints]
    | forget i y =>
      show (3 : Int) :: (i : Int) :: (((zs y).length : Int) :: zs y ++ []) ++ (flatAll cs).map Int.ofNat = _
      rw [ints_len]
      simp [flatAll, NC.code, NC.body, zs, Ks189Neutral.ints]
    | layR x =>
      show (4 : Int) :: (((zs x).length : Int) :: zs x ++ []) ++ (flatAll cs).map Int.ofNat = _
      rw [ints_len]
      simp [flatAll, NC.code, NC.body, zs, Ks189Neutral.ints]
    | layP p x =>
      show (5 : Int) :: (p : Int) :: (((zs x).length : Int) :: zs x ++ []) ++ (flatAll cs).map Int.ofNat = _
      rw [ints_len]
      simp [flatAll, NC.code, NC.body, zs, Ks189Neutral.ints]
theorem inside_ok {c : NC} (h : PyInside.call PyKs189.bound c.int = true) : c.ok := by
  cases c with
  | clear => trivial
  | get i => trivial
  | forget i y => trivial
  | put i x y =>
    have h1 : (PyInside.each [(0, 4294967295)] [(i : Int)] && PyInside.lists [(0, 255, 64, 64), (0, 255, 0, 352)] [zs x, zs y]) = true := h
    rw [Bool.and_eq_true] at h1
    have h2 : (decide (64 ≤ (zs x).length) && decide ((zs x).length ≤ 64) && (zs x).all (PyInside.within 0 255) && PyInside.lists [(0, 255, 0, 352)] [zs y]) = true := h1.2
    simp only [Bool.and_eq_true, decide_eq_true_eq, ints_len] at h2
    show x.length = 64
    omega
  | layR x =>
    have h1 : (PyInside.each [] [] && PyInside.lists [(0, 255, 40, 40)] [zs x]) = true := h
    rw [Bool.and_eq_true] at h1
    have h2 : (decide (40 ≤ (zs x).length) && decide ((zs x).length ≤ 40) && (zs x).all (PyInside.within 0 255) && PyInside.lists [] []) = true := h1.2
    simp only [Bool.and_eq_true, decide_eq_true_eq, ints_len] at h2
    show x.length = 40
    omega
  | layP p x =>
    have h1 : (PyInside.each [(0, 4095)] [(p : Int)] && PyInside.lists [(0, 255, 96, 96)] [zs x]) = true := h
    rw [Bool.and_eq_true] at h1
    have h2 : (decide (96 ≤ (zs x).length) && decide ((zs x).length ≤ 96) && (zs x).all (PyInside.within 0 255) && PyInside.lists [] []) = true := h1.2
    simp only [Bool.and_eq_true, decide_eq_true_eq, ints_len] at h2
    show x.length = 96
    omega
theorem scripted_nc {c : NC} {d : Dev} (h : Ks189Neutral.scripted d c.int = true) : c.scripted d := by
  cases c with
  | clear => trivial
  | get i => trivial
  | layR x => trivial
  | layP p x => trivial
  | put i x y =>
    have h1 : ((nz (zs y)).length == 32 * Ks189.needs padF d (.put i (nz (zs x)))) = true := h
    rw [nats_ints, nats_ints] at h1
    exact eq_of_beq h1
  | forget i y =>
    have h1 : ((nz (zs y)).length == 32 * Ks189.needs padF d (.forget i)) = true := h
    rw [nats_ints] at h1
    exact eq_of_beq h1
/-- an event's numbers, as the specification tells them -/
def encI (e : Ev) : List Int := match e with | .know _ => [(1 : Int)] | .keep r => (2 : Int) :: zs r | .read p _ => [(3 : Int), (p : Int)] | .write p b => (4 : Int) :: (p : Int) :: zs b | .any _ => [(5 : Int)] | .mix k _ => (6 : Int) :: zs k
theorem encI_is (e : Ev) : encI e = zs (encEv e) := by cases e <;> rfl
theorem encI_all : ∀ l : List Ev, l.flatMap encI = zs (encs l)
  | [] => rfl
  | e :: l => by
    rw [List.flatMap_cons, encI_all l, encI_is]
    show zs (encEv e) ++ zs (encs l) = zs (encEv e ++ encs l)
    unfold zs Ks189Neutral.ints
    rw [List.map_append]
def ansI (r : List Ev × Ks189.Ans) : List Int := r.2.ret :: (zs r.2.out ++ ((r.1.length : Int) :: r.1.flatMap encI))
theorem ansI_vs (r : List Ev × Ks189.Ans) : (ansI r).map V.int = callAns r := by
  unfold ansI callAns ansV
  rw [encI_all, List.map_cons, List.map_append, List.map_cons, ints_vs, ints_vs]
  simp
theorem step_nc (d : Dev) (c : NC) : (Ks189Neutral.step d c.int).1 = (c.step d).1 ∧ (Ks189Neutral.step d c.int).2.map V.int = (c.step d).2 := by
  cases c with
  | clear =>
    have e : Ks189Neutral.step d NC.clear.int = (d.after (NC.act d .clear).1, ansI (NC.act d .clear)) := rfl
    rw [e]
    exact ⟨rfl, ansI_vs _⟩
  | get i =>
    have e : Ks189Neutral.step d (NC.get i).int = (d.after (NC.act d (.get i)).1, ansI (NC.act d (.get i))) := rfl
    rw [e]
    exact ⟨rfl, ansI_vs _⟩
  | put i x y =>
    have e : Ks189Neutral.step d (NC.put i x y).int = (d.after (NC.act d (.put i (nz (zs x)) (nz (zs y)))).1, ansI (NC.act d (.put i (nz (zs x)) (nz (zs y))))) := rfl
    rw [e, nats_ints, nats_ints]
    exact ⟨rfl, ansI_vs _⟩
  | forget i y =>
    have e : Ks189Neutral.step d (NC.forget i y).int = (d.after (NC.act d (.forget i (nz (zs y)))).1, ansI (NC.act d (.forget i (nz (zs y))))) := rfl
    rw [e, nats_ints]
    exact ⟨rfl, ansI_vs _⟩
  | layR x =>
    have e : Ks189Neutral.step d (NC.layR x).int = (d.on (.keep (nz (zs x))), [0]) := rfl
    rw [e, nats_ints]
    exact ⟨rfl, rfl⟩
  | layP p x =>
    have e : Ks189Neutral.step d (NC.layP p x).int = (d.on (.write p (nz (zs x))), [0]) := rfl
    rw [e, nats_ints]
    exact ⟨rfl, rfl⟩
theorem told_nc : ∀ (cs : List NC) (d : Dev), (PyFlat.told (PyFlat.played Ks189Neutral.step d (cs.map NC.int))).map V.int = toldAll d cs
  | [], _ => rfl
  | c :: cs, d => by
    obtain ⟨e1, e2⟩ := step_nc d c
    have ih := told_nc cs (c.step d).1
    show (PyFlat.told ((Ks189Neutral.step d c.int).2 :: PyFlat.played Ks189Neutral.step (Ks189Neutral.step d c.int).1 (cs.map NC.int))).map V.int = _
    rw [e1]
    show ((((Ks189Neutral.step d c.int).2.length : Int) :: (Ks189Neutral.step d c.int).2) ++ PyFlat.told (PyFlat.played Ks189Neutral.step (c.step d).1 (cs.map NC.int))).map V.int = V.int ((c.step d).2.length : Int) :: ((c.step d).2 ++ toldAll (c.step d).1 cs)
    rw [List.map_append, List.map_cons, e2, ih, ← e2, List.length_map]
    rfl
theorem goes_nc : ∀ (cs : List NC) (d : Dev), Ks189Neutral.goes d (cs.map NC.int) = true → (cs.map NC.int).all (PyInside.call PyKs189.bound) = true → AllOk d cs
  | [], _, _, _ => trivial
  | c :: cs, d, h, hi => by
    have h1 : (Ks189Neutral.form c.int && Ks189Neutral.scripted d c.int && Ks189Neutral.goes (Ks189Neutral.step d c.int).1 (cs.map NC.int)) = true := h
    rw [Bool.and_eq_true, Bool.and_eq_true] at h1
    have h2 : (PyInside.call PyKs189.bound c.int && (cs.map NC.int).all (PyInside.call PyKs189.bound)) = true := hi
    rw [Bool.and_eq_true] at h2
    have e := (step_nc d c).1
    exact ⟨inside_ok h2.1, scripted_nc h1.1.2, goes_nc cs _ (e ▸ h1.2) h2.2⟩
theorem asked_nc {l : List Int} (h : PyKs189.answers_asked l = true) : ∃ cs : List NC, l = (flatAll cs).map Int.ofNat ∧ cs.length ≤ 1000 ∧ AllOk startDev cs ∧ (PyKs189.answers l).map V.int = toldAll startDev cs ∧ (toldAll startDev cs).length ≤ 10000000 := by
  unfold PyKs189.answers_asked at h
  cases e : PyFlat.calls PyKs189.shape l.length l with
  | none =>
    rw [e] at h
    cases h
  | some raw =>
    rw [e] at h
    have hw : raw.map PyKs189.whole = raw := by
      rw [show PyKs189.whole = id from funext whole_id, List.map_id]
    simp only [hw, Bool.and_eq_true] at h
    obtain ⟨⟨⟨⟨_, h1⟩, h2⟩, h3⟩, h4⟩ := h
    have ha : PyKs189.answers l = PyFlat.told (PyFlat.played Ks189Neutral.step Ks189Neutral.start raw) := by
      unfold PyKs189.answers PyKs189.calls
      rw [e]
      show PyFlat.told (PyFlat.played Ks189Neutral.step Ks189Neutral.start (raw.map PyKs189.whole)) = _
      rw [hw]
    have h5 : (raw.all Ks189Neutral.asked1 && decide (1 ≤ raw.length) && decide (raw.length ≤ 5000) && Ks189Neutral.orderly raw && decide (((Ks189Neutral.f raw).map List.length).foldl (· + ·) 0 < 1000000)) = true := h3
    simp only [Bool.and_eq_true] at h5
    obtain ⟨⟨⟨⟨h6, _⟩, _⟩, h7⟩, _⟩ := h5
    obtain ⟨cs, rfl⟩ := all_nc h6
    have ht : (PyKs189.answers l).map V.int = toldAll startDev cs := by
      rw [ha]
      exact told_nc cs startDev
    refine ⟨cs, ?_, ?_, goes_nc cs startDev h7 h2, ht, ?_⟩
    · rw [(PyFlat.put_calls _ _ _ e).1]
      exact put_flat cs
    · have z := of_decide_eq_true h1
      rw [List.length_map] at z
      exact z
    · rw [← ht, List.length_map]
      exact of_decide_eq_true h4
end My
/-! ### 11. All of it together -/
namespace My
open PySem PySem.Spec PyProof.Rows L2
section
variable {K : PySem.W.Frag} {h : Heap} {mg : Str → Option Value} {x m qual : Str} {st : Stmt} {ps : List Str} {f C : Addr} {oc : Value} {od an : Option Addr} {osl : Array (Option Value)} {kV doc pm cdv ct : Value}
theorem defT_mk (X : K.In h) (G : h.Ns mainGlobals mg) (a : PySem.W.nsIn K mainGlobals x = some (some (.ref f)))
    (l : K.lookup f = some ⟨oc, od, .func (PySem.W.fnOf x x (defArgs st) (defBody st) (defScope st) .none kV doc pm an cdv ct), osl⟩) (c : PySem.W.codeIn K cdv x = true) (k : PySem.W.keepIn K (.ref f) = true)
    (b : ∀ (kV doc pm : Value) (an : Option Addr) (cdv ct : Value) (us : List Value), us.length = ps.length → bindArgs (PySem.W.fnOf x x (defArgs st) (defBody st) (defScope st) .none kV doc pm an cdv ct) ⟨us, []⟩ = pure (ps.zip us)) : DefT K mg x st ps := by
  have F := fun_mk (st := st) l c k
  exact ⟨f, _, PySem.W.mg_of X G a, F, F.binds b⟩
theorem metT_mk (a : PySem.W.findIn K (.ref C) m = some (some (.ref f))) (i : PySem.W.isFn K (.ref f) = true)
    (l : K.lookup f = some ⟨oc, od, .func (PySem.W.fnOf m qual (defArgs st) (defBody st) (defScope st) .none kV doc pm an cdv ct), osl⟩) (c : PySem.W.codeIn K cdv qual = true) (k : PySem.W.keepIn K (.ref f) = true)
    (b : ∀ (kV doc pm : Value) (an : Option Addr) (cdv ct : Value) (us : List Value), us.length = ps.length → bindArgs (PySem.W.fnOf m qual (defArgs st) (defBody st) (defScope st) .none kV doc pm an cdv ct) ⟨us, []⟩ = pure (ps.zip us)) : MetT K C m qual st ps := by
  have F := fun_mk (st := st) l c k
  exact ⟨f, _, ⟨a, i, k⟩, F, F.binds b⟩
theorem iniT_mk (mk : PySem.W.makesIn K C = true) (kc : PySem.W.keepIn K (.ref C) = true) (a : PySem.W.findIn K (.ref C) "__init__" = some (some (.ref f))) (i : PySem.W.isFn K (.ref f) = true)
    (l : K.lookup f = some ⟨oc, od, .func (PySem.W.fnOf "__init__" qual (defArgs st) (defBody st) (defScope st) .none kV doc pm an cdv ct), osl⟩) (c : PySem.W.codeIn K cdv qual = true) (k : PySem.W.keepIn K (.ref f) = true)
    (b : ∀ (kV doc pm : Value) (an : Option Addr) (cdv ct : Value) (us : List Value), us.length = ps.length → bindArgs (PySem.W.fnOf "__init__" qual (defArgs st) (defBody st) (defScope st) .none kV doc pm an cdv ct) ⟨us, []⟩ = pure (ps.zip us)) : IniT K C qual st ps := by
  have F := fun_mk (st := st) l c k
  exact ⟨f, _, ⟨mk, a, i, kc⟩, F, F.binds b⟩
theorem gv_mk {u : Value} {v : V} (X : K.In h) (G : h.Ns mainGlobals mg) (a : PySem.W.nsIn K mainGlobals x = some (some u)) (r : RelV v u) : GV mg x v := ⟨u, PySem.W.mg_of X G a, r⟩
end
theorem all_ok {P : Program} {w : World} {K : PySem.W.Frag} {mg : Str → Option Value} {base : Heap} {C : Cs} (T : Txt K mg C)
    (tiL : IniT K C.L "Link.__init__" sLinkI ["self", "copy_number", "key"])
    (tmT : MetT K C.L "is_there" "Link.is_there" sIsThere ["self"])
    (tmG : MetT K C.L "is_garbage" "Link.is_garbage" sIsGarbage ["self"])
    (tdNo : DefT K mg "no_link" sNoLink [])
    (tdOt : DefT K mg "other_copy" sOther ["copy_number"])
    (tdPg : DefT K mg "page_of" sPageOf ["node", "copy_number"])
    (tdPad : DefT K mg "pad_of" sPad ["key"])
    (tdX : DefT K mg "xor_bytes" sXor ["content", "pad"])
    (tdLf : DefT K mg "leaf_content" sLeafC ["data"])
    (tdBr : DefT K mg "branch_content" sBranchC ["children"])
    (tdKi : DefT K mg "children_in" sKidsIn ["content"])
    (tdRg : DefT K mg "register_content" sRegC ["root"])
    (tdRo : DefT K mg "root_in" sRootIn ["content"])
    (tiO : IniT K C.O "Outside.__init__" sOutI ["self"])
    (tmBe : MetT K C.O "begin_call" "Outside.begin_call" sBegin ["self"])
    (tmGi : MetT K C.O "give_script" "Outside.give_script" sGive ["self", "script"])
    (tmN : MetT K C.O "note" "Outside.note" sNote ["self", "numbers"])
    (tmAR : MetT K C.O "ask_register" "Outside.ask_register" sAskR ["self"])
    (tmLR : MetT K C.O "lay_register" "Outside.lay_register" sLayR ["self", "content"])
    (tmPR : MetT K C.O "put_register" "Outside.put_register" sPutR ["self", "content"])
    (tmRP : MetT K C.O "read_page" "Outside.read_page" sReadP ["self", "page"])
    (tmLP : MetT K C.O "lay_page" "Outside.lay_page" sLayP ["self", "page", "content"])
    (tmWP : MetT K C.O "write_page" "Outside.write_page" sWriteP ["self", "page", "content"])
    (tmNK : MetT K C.O "ask_new_key" "Outside.ask_new_key" sNewKey ["self"])
    (tmNKs : MetT K C.O "ask_new_keys" "Outside.ask_new_keys" sNewKeys ["self", "count"])
    (tmAP : MetT K C.O "ask_pad" "Outside.ask_pad" sAskPad ["self", "key"])
    (tiR : IniT K C.R "Reader.__init__" sRdI ["self", "numbers"])
    (tmAE : MetT K C.R "at_end" "Reader.at_end" sAtEnd ["self"])
    (tmTN : MetT K C.R "take_number" "Reader.take_number" sTakeN ["self"])
    (tmTR : MetT K C.R "take_row" "Reader.take_row" sTakeR ["self"])
    (tiW : IniT K C.W "Way.__init__" sWayI ["self", "slot"])
    (tmSi : MetT K C.W "side_below" "Way.side_below" sSide ["self", "depth"])
    (tmCB : MetT K C.W "child_beside" "Way.child_beside" sBeside ["self", "depth"])
    (tdRC : DefT K mg "read_copy" sReadC ["outside", "node", "link"])
    (tdRK : DefT K mg "read_children" sReadK ["outside", "node", "link"])
    (tdWC : DefT K mg "write_copy" sWriteC ["outside", "node", "old_link", "key", "content"])
    (tdSt : DefT K mg "count_staying" sStay ["way"])
    (tdUp : DefT K mg "write_upwards" sUp ["outside", "way", "keys", "child"])
    (tdGo : DefT K mg "go_way" sGo ["outside", "slot"])
    (tdCl : DefT K mg "clear_all" sClear ["outside"])
    (tdGe : DefT K mg "get_slot" sGet ["outside", "slot"])
    (tdPu : DefT K mg "put_slot" sPut ["outside", "slot", "data"])
    (tdFo : DefT K mg "forget_slot" sForget ["outside", "slot"])
    (tdDP : DefT K mg "do_put" sDoPut ["reader", "outside"])
    (tdDF : DefT K mg "do_forget" sDoForget ["reader", "outside"])
    (tdDC : DefT K mg "do_call" sDoCall ["call", "reader", "outside"])
    (tdDR : DefT K mg "do_lay_register" sDoLayR ["reader", "outside"])
    (tdDPg : DefT K mg "do_lay_page" sDoLayP ["reader", "outside"])
    (tdNx : DefT K mg "answer_next" sNext ["reader", "outside"])
    (f : Addr) (fd : FuncData) (F : Fun K "answers" "answers" sAnswers f fd) : FnOk P w K mg base CX0 10 f fd ["calls"] (spAnswers K) := by
  have iL : IniOk P w K mg base C.L 1 ["self", "copy_number", "key"] (spLinkI C) := tiL.ok (ok_LinkI T)
  have mT : MetOk P w K mg base C.L "is_there" 1 ["self"] (spIsThere C) := tmT.ok (ok_IsThere T)
  have mG : MetOk P w K mg base C.L "is_garbage" 1 ["self"] (spIsGarbage C) := tmG.ok (ok_IsGarbage T)
  have dNo : DefOk P w K mg base "no_link" 3 [] (spNoLink C) := tdNo.ok (ok_NoLink T iL)
  have dOt : DefOk P w K mg base "other_copy" 1 ["copy_number"] spOther := tdOt.ok (ok_Other)
  have dPg : DefOk P w K mg base "page_of" 1 ["node", "copy_number"] spPageOf := tdPg.ok (ok_PageOf)
  have dPad : DefOk P w K mg base "pad_of" 1 ["key"] spPad := tdPad.ok (ok_Pad T)
  have dX : DefOk P w K mg base "xor_bytes" 1 ["content", "pad"] spXor := tdX.ok (ok_Xor T)
  have dLf : DefOk P w K mg base "leaf_content" 1 ["data"] spLeafC := tdLf.ok (ok_LeafC T)
  have dBr : DefOk P w K mg base "branch_content" 1 ["children"] (spBranchC C) := tdBr.ok (ok_BranchC T)
  have dKi : DefOk P w K mg base "children_in" 3 ["content"] (spKidsIn C) := tdKi.ok (ok_KidsIn T iL)
  have dRg : DefOk P w K mg base "register_content" 1 ["root"] (spRegC C) := tdRg.ok (ok_RegC T)
  have dRo : DefOk P w K mg base "root_in" 3 ["content"] (spRootIn C) := tdRo.ok (ok_RootIn T iL)
  have iO : IniOk P w K mg base C.O 1 ["self"] (spOutI C) := tiO.ok (ok_OutI T)
  have mBe : MetOk P w K mg base C.O "begin_call" 1 ["self"] (spBegin C) := tmBe.ok (ok_Begin T)
  have mGi : MetOk P w K mg base C.O "give_script" 1 ["self", "script"] (spGive C) := tmGi.ok (ok_Give T)
  have mN : MetOk P w K mg base C.O "note" 1 ["self", "numbers"] (spNote C) := tmN.ok (ok_Note T)
  have mAR : MetOk P w K mg base C.O "ask_register" 2 ["self"] (spAskR C) := tmAR.ok (ok_AskR T mN)
  have mLR : MetOk P w K mg base C.O "lay_register" 1 ["self", "content"] (spLayR C) := tmLR.ok (ok_LayR T)
  have mPR : MetOk P w K mg base C.O "put_register" 2 ["self", "content"] (spPutR C) := tmPR.ok (ok_PutR T mN mLR)
  have mRP : MetOk P w K mg base C.O "read_page" 2 ["self", "page"] (spReadP C) := tmRP.ok (ok_ReadP T mN)
  have mLP : MetOk P w K mg base C.O "lay_page" 1 ["self", "page", "content"] (spLayP C) := tmLP.ok (ok_LayP T)
  have mWP : MetOk P w K mg base C.O "write_page" 2 ["self", "page", "content"] (spWriteP C) := tmWP.ok (ok_WriteP T mN mLP)
  have mNK : MetOk P w K mg base C.O "ask_new_key" 2 ["self"] (spNewKey C) := tmNK.ok (ok_NewKey T mN)
  have mNKs : MetOk P w K mg base C.O "ask_new_keys" 3 ["self", "count"] (spNewKeys C) := tmNKs.ok (ok_NewKeys T mNK)
  have mAP : MetOk P w K mg base C.O "ask_pad" 2 ["self", "key"] (spAskPad C) := tmAP.ok (ok_AskPad T mN dPad)
  have iR : IniOk P w K mg base C.R 1 ["self", "numbers"] (spRdI C) := tiR.ok (ok_RdI T)
  have mAE : MetOk P w K mg base C.R "at_end" 1 ["self"] (spAtEnd C K) := tmAE.ok (ok_AtEnd T)
  have mTN : MetOk P w K mg base C.R "take_number" 1 ["self"] (spTakeN C K) := tmTN.ok (ok_TakeN T)
  have mTR : MetOk P w K mg base C.R "take_row" 2 ["self"] (spTakeR C K) := tmTR.ok (ok_TakeR T mTN)
  have iW : IniOk P w K mg base C.W 1 ["self", "slot"] (spWayI C) := tiW.ok (ok_WayI T)
  have mSi : MetOk P w K mg base C.W "side_below" 1 ["self", "depth"] (spSide C) := tmSi.ok (ok_Side T)
  have mCB : MetOk P w K mg base C.W "child_beside" 2 ["self", "depth"] (spBeside C) := tmCB.ok (ok_Beside T mSi)
  have dRC : DefOk P w K mg base "read_copy" 3 ["outside", "node", "link"] (spReadC C) := tdRC.ok (ok_ReadC T mRP mAP dPg dX)
  have dRK : DefOk P w K mg base "read_children" 4 ["outside", "node", "link"] (spReadK C) := tdRK.ok (ok_ReadK T mT dNo dKi dRC)
  have dWC : DefOk P w K mg base "write_copy" 3 ["outside", "node", "old_link", "key", "content"] (spWriteC C) := tdWC.ok (ok_WriteC T iL mWP mAP dOt dPg dX)
  have dSt : DefOk P w K mg base "count_staying" 3 ["way"] (spStay C) := tdSt.ok (ok_Stay T mCB mT)
  have dUp : DefOk P w K mg base "write_upwards" 4 ["outside", "way", "keys", "child"] (spUp C) := tdUp.ok (ok_Up T mSi dBr dWC)
  have dGo : DefOk P w K mg base "go_way" 5 ["outside", "slot"] (spGo C) := tdGo.ok (ok_Go T iW mAR dRo mG dRK mSi)
  have dCl : DefOk P w K mg base "clear_all" 3 ["outside"] (spClear C) := tdCl.ok (ok_Clear T mPR)
  have dGe : DefOk P w K mg base "get_slot" 6 ["outside", "slot"] (spGet C) := tdGe.ok (ok_Get T dGo mT dRC)
  have dPu : DefOk P w K mg base "put_slot" 6 ["outside", "slot", "data"] (spPut C) := tdPu.ok (ok_Put T dGo mNKs dWC dLf dUp mPR dRg)
  have dFo : DefOk P w K mg base "forget_slot" 6 ["outside", "slot"] (spForget C) := tdFo.ok (ok_Forget T dGo mT mNKs dSt dNo dUp mPR dRg)
  have dDP : DefOk P w K mg base "do_put" 7 ["reader", "outside"] (spDoPut C K) := tdDP.ok (ok_DoPut T mTN mTR mGi dPu)
  have dDF : DefOk P w K mg base "do_forget" 7 ["reader", "outside"] (spDoForget C K) := tdDF.ok (ok_DoForget T mTN mTR mGi dFo)
  have dDC : DefOk P w K mg base "do_call" 8 ["call", "reader", "outside"] (spDoCall C K) := tdDC.ok (ok_DoCall T dCl dDP dGe mTN dDF)
  have dDR : DefOk P w K mg base "do_lay_register" 3 ["reader", "outside"] (spDoLayR C K) := tdDR.ok (ok_DoLayR T mTR mLR)
  have dDPg : DefOk P w K mg base "do_lay_page" 3 ["reader", "outside"] (spDoLayP C K) := tdDPg.ok (ok_DoLayP T mTN mTR mLP)
  have dNx : DefOk P w K mg base "answer_next" 9 ["reader", "outside"] (spNext C K) := tdNx.ok (ok_Next T mTN dDR dDPg mBe dDC)
  exact ok_Answers T iR iO mAE dNx f fd F
theorem txt_mk {K : PySem.W.Frag} {h : Heap} {mg : Str → Option Value} {L O R W : Addr} {ukKey : Value} {ukPage : Value} {ukData : Value} {ukReg : Value} {ukLeft : Value} {ukRight : Value} {ukRoot : Value} {ukLast : Value} {ukLeaf : Value} {ukDeep : Value} {ukClear : Value} {ukPut : Value} {ukGet : Value} {ukForget : Value} {ukLayR : Value} {ukLayP : Value} (X : K.In h) (G : h.Ns mainGlobals mg)
    (gL : PySem.W.nsIn K mainGlobals "Link" = some (some (.ref L)))
    (gO : PySem.W.nsIn K mainGlobals "Outside" = some (some (.ref O)))
    (gR : PySem.W.nsIn K mainGlobals "Reader" = some (some (.ref R)))
    (gW : PySem.W.nsIn K mainGlobals "Way" = some (some (.ref W)))
    (cLpg : PySem.W.plainGet K L Str.empty = true)
    (cLhd : PySem.W.hasDictIn K L = true)
    (cLpo : PySem.W.plainOver K L = true)
    (cLsa : PySem.W.findIn K (.ref L) "__setattr__" = some (some (.builtin "object.__setattr__")))
    (cOpg : PySem.W.plainGet K O Str.empty = true)
    (cOhd : PySem.W.hasDictIn K O = true)
    (cOpo : PySem.W.plainOver K O = true)
    (cOsa : PySem.W.findIn K (.ref O) "__setattr__" = some (some (.builtin "object.__setattr__")))
    (cRpg : PySem.W.plainGet K R Str.empty = true)
    (cRhd : PySem.W.hasDictIn K R = true)
    (cRpo : PySem.W.plainOver K R = true)
    (cRsa : PySem.W.findIn K (.ref R) "__setattr__" = some (some (.builtin "object.__setattr__")))
    (cWpg : PySem.W.plainGet K W Str.empty = true)
    (cWhd : PySem.W.hasDictIn K W = true)
    (cWpo : PySem.W.plainOver K W = true)
    (cWsa : PySem.W.findIn K (.ref W) "__setattr__" = some (some (.builtin "object.__setattr__")))
    (nL1 : PySem.W.findIn K (.ref L) "copy_number" = some none)
    (nL2 : PySem.W.findIn K (.ref L) "key" = some none)
    (nO1 : PySem.W.findIn K (.ref O) "in_register" = some none)
    (nO2 : PySem.W.findIn K (.ref O) "pages" = some none)
    (nO3 : PySem.W.findIn K (.ref O) "script" = some none)
    (nO4 : PySem.W.findIn K (.ref O) "asked_count" = some none)
    (nO5 : PySem.W.findIn K (.ref O) "asked_numbers" = some none)
    (nR1 : PySem.W.findIn K (.ref R) "numbers" = some none)
    (nR2 : PySem.W.findIn K (.ref R) "place" = some none)
    (nW1 : PySem.W.findIn K (.ref W) "nodes" = some none)
    (nW2 : PySem.W.findIn K (.ref W) "links" = some none)
    (nW3 : PySem.W.findIn K (.ref W) "branches" = some none)
    (nW4 : PySem.W.findIn K (.ref W) "refusal" = some none)
    (kKey : PySem.W.nsIn K mainGlobals "KEY_SIZE" = some (some ukKey))
    (kPage : PySem.W.nsIn K mainGlobals "PAGE_SIZE" = some (some ukPage))
    (kData : PySem.W.nsIn K mainGlobals "DATA_SIZE" = some (some ukData))
    (kReg : PySem.W.nsIn K mainGlobals "REGISTER_SIZE" = some (some ukReg))
    (kLeft : PySem.W.nsIn K mainGlobals "LEFT_COPY_PLACE" = some (some ukLeft))
    (kRight : PySem.W.nsIn K mainGlobals "RIGHT_COPY_PLACE" = some (some ukRight))
    (kRoot : PySem.W.nsIn K mainGlobals "ROOT_KEY_PLACE" = some (some ukRoot))
    (kLast : PySem.W.nsIn K mainGlobals "LAST_SLOT" = some (some ukLast))
    (kLeaf : PySem.W.nsIn K mainGlobals "FIRST_LEAF" = some (some ukLeaf))
    (kDeep : PySem.W.nsIn K mainGlobals "LEAF_DEPTH" = some (some ukDeep))
    (kClear : PySem.W.nsIn K mainGlobals "CLEAR" = some (some ukClear))
    (kPut : PySem.W.nsIn K mainGlobals "PUT" = some (some ukPut))
    (kGet : PySem.W.nsIn K mainGlobals "GET" = some (some ukGet))
    (kForget : PySem.W.nsIn K mainGlobals "FORGET" = some (some ukForget))
    (kLayR : PySem.W.nsIn K mainGlobals "LAY_REGISTER" = some (some ukLayR))
    (kLayP : PySem.W.nsIn K mainGlobals "LAY_PAGE" = some (some ukLayP))
    (rkKey : RelV (.int 32) ukKey)
    (rkPage : RelV (.int 96) ukPage)
    (rkData : RelV (.int 64) ukData)
    (rkReg : RelV (.int 40) ukReg)
    (rkLeft : RelV (.int 64) ukLeft)
    (rkRight : RelV (.int 65) ukRight)
    (rkRoot : RelV (.int 4) ukRoot)
    (rkLast : RelV (.int 1023) ukLast)
    (rkLeaf : RelV (.int 1024) ukLeaf)
    (rkDeep : RelV (.int 10) ukDeep)
    (rkClear : RelV (.int 0) ukClear)
    (rkPut : RelV (.int 1) ukPut)
    (rkGet : RelV (.int 2) ukGet)
    (rkForget : RelV (.int 3) ukForget)
    (rkLayR : RelV (.int 4) ukLayR)
    (rkLayP : RelV (.int 5) ukLayP)
    (bR : PySem.W.nsIn K mainGlobals "range" = some none)
    (bL : PySem.W.nsIn K mainGlobals "len" = some none)
    (bT : PySem.W.nsIn K mainGlobals "list" = some none)
    : Txt K mg ⟨L, O, R, W⟩ := { cL := ⟨cLpg, cLhd, cLpo, cLsa⟩, gL := PySem.W.mg_of X G gL, cO := ⟨cOpg, cOhd, cOpo, cOsa⟩, gO := PySem.W.mg_of X G gO, cR := ⟨cRpg, cRhd, cRpo, cRsa⟩, gR := PySem.W.mg_of X G gR, cW := ⟨cWpg, cWhd, cWpo, cWsa⟩, gW := PySem.W.mg_of X G gW, nL1 := nL1, nL2 := nL2, nO1 := nO1, nO2 := nO2, nO3 := nO3, nO4 := nO4, nO5 := nO5, nR1 := nR1, nR2 := nR2, nW1 := nW1, nW2 := nW2, nW3 := nW3, nW4 := nW4, kKey := gv_mk X G kKey rkKey, kPage := gv_mk X G kPage rkPage, kData := gv_mk X G kData rkData, kReg := gv_mk X G kReg rkReg, kLeft := gv_mk X G kLeft rkLeft, kRight := gv_mk X G kRight rkRight, kRoot := gv_mk X G kRoot rkRoot, kLast := gv_mk X G kLast rkLast, kLeaf := gv_mk X G kLeaf rkLeaf, kDeep := gv_mk X G kDeep rkDeep, kClear := gv_mk X G kClear rkClear, kPut := gv_mk X G kPut rkPut, kGet := gv_mk X G kGet rkGet, kForget := gv_mk X G kForget rkForget, kLayR := gv_mk X G kLayR rkLayR, kLayP := gv_mk X G kLayP rkLayP, bRange := PySem.W.mg_none_of X G bR, bLen := PySem.W.mg_none_of X G bL, bList := PySem.W.mg_none_of X G bT }
theorem all_ok2 {P : Program} {w : World} {K : PySem.W.Frag} {mg : Str → Option Value} {L O R W : Addr}
    (_ : PySem.W.nsIn K mainGlobals "Link" = some (some (.ref L)))
    (_ : PySem.W.nsIn K mainGlobals "Outside" = some (some (.ref O)))
    (_ : PySem.W.nsIn K mainGlobals "Reader" = some (some (.ref R)))
    (_ : PySem.W.nsIn K mainGlobals "Way" = some (some (.ref W)))
    (T : Txt K mg ⟨L, O, R, W⟩)
    (tiL : IniT K L "Link.__init__" sLinkI ["self", "copy_number", "key"])
    (tmT : MetT K L "is_there" "Link.is_there" sIsThere ["self"])
    (tmG : MetT K L "is_garbage" "Link.is_garbage" sIsGarbage ["self"])
    (tdNo : DefT K mg "no_link" sNoLink [])
    (tdOt : DefT K mg "other_copy" sOther ["copy_number"])
    (tdPg : DefT K mg "page_of" sPageOf ["node", "copy_number"])
    (tdPad : DefT K mg "pad_of" sPad ["key"])
    (tdX : DefT K mg "xor_bytes" sXor ["content", "pad"])
    (tdLf : DefT K mg "leaf_content" sLeafC ["data"])
    (tdBr : DefT K mg "branch_content" sBranchC ["children"])
    (tdKi : DefT K mg "children_in" sKidsIn ["content"])
    (tdRg : DefT K mg "register_content" sRegC ["root"])
    (tdRo : DefT K mg "root_in" sRootIn ["content"])
    (tiO : IniT K O "Outside.__init__" sOutI ["self"])
    (tmBe : MetT K O "begin_call" "Outside.begin_call" sBegin ["self"])
    (tmGi : MetT K O "give_script" "Outside.give_script" sGive ["self", "script"])
    (tmN : MetT K O "note" "Outside.note" sNote ["self", "numbers"])
    (tmAR : MetT K O "ask_register" "Outside.ask_register" sAskR ["self"])
    (tmLR : MetT K O "lay_register" "Outside.lay_register" sLayR ["self", "content"])
    (tmPR : MetT K O "put_register" "Outside.put_register" sPutR ["self", "content"])
    (tmRP : MetT K O "read_page" "Outside.read_page" sReadP ["self", "page"])
    (tmLP : MetT K O "lay_page" "Outside.lay_page" sLayP ["self", "page", "content"])
    (tmWP : MetT K O "write_page" "Outside.write_page" sWriteP ["self", "page", "content"])
    (tmNK : MetT K O "ask_new_key" "Outside.ask_new_key" sNewKey ["self"])
    (tmNKs : MetT K O "ask_new_keys" "Outside.ask_new_keys" sNewKeys ["self", "count"])
    (tmAP : MetT K O "ask_pad" "Outside.ask_pad" sAskPad ["self", "key"])
    (tiR : IniT K R "Reader.__init__" sRdI ["self", "numbers"])
    (tmAE : MetT K R "at_end" "Reader.at_end" sAtEnd ["self"])
    (tmTN : MetT K R "take_number" "Reader.take_number" sTakeN ["self"])
    (tmTR : MetT K R "take_row" "Reader.take_row" sTakeR ["self"])
    (tiW : IniT K W "Way.__init__" sWayI ["self", "slot"])
    (tmSi : MetT K W "side_below" "Way.side_below" sSide ["self", "depth"])
    (tmCB : MetT K W "child_beside" "Way.child_beside" sBeside ["self", "depth"])
    (tdRC : DefT K mg "read_copy" sReadC ["outside", "node", "link"])
    (tdRK : DefT K mg "read_children" sReadK ["outside", "node", "link"])
    (tdWC : DefT K mg "write_copy" sWriteC ["outside", "node", "old_link", "key", "content"])
    (tdSt : DefT K mg "count_staying" sStay ["way"])
    (tdUp : DefT K mg "write_upwards" sUp ["outside", "way", "keys", "child"])
    (tdGo : DefT K mg "go_way" sGo ["outside", "slot"])
    (tdCl : DefT K mg "clear_all" sClear ["outside"])
    (tdGe : DefT K mg "get_slot" sGet ["outside", "slot"])
    (tdPu : DefT K mg "put_slot" sPut ["outside", "slot", "data"])
    (tdFo : DefT K mg "forget_slot" sForget ["outside", "slot"])
    (tdDP : DefT K mg "do_put" sDoPut ["reader", "outside"])
    (tdDF : DefT K mg "do_forget" sDoForget ["reader", "outside"])
    (tdDC : DefT K mg "do_call" sDoCall ["call", "reader", "outside"])
    (tdDR : DefT K mg "do_lay_register" sDoLayR ["reader", "outside"])
    (tdDPg : DefT K mg "do_lay_page" sDoLayP ["reader", "outside"])
    (tdNx : DefT K mg "answer_next" sNext ["reader", "outside"])
    (base : Heap) (f : Addr) (fd : FuncData) (F : Fun K "answers" "answers" sAnswers f fd) : FnOk P w K mg base CX0 10 f fd ["calls"] (spAnswers K) :=
  all_ok T tiL tmT tmG tdNo tdOt tdPg tdPad tdX tdLf tdBr tdKi tdRg tdRo tiO tmBe tmGi tmN tmAR tmLR tmPR tmRP tmLP tmWP tmNK tmNKs tmAP tiR tmAE tmTN tmTR tiW tmSi tmCB tdRC tdRK tdWC tdSt tdUp tdGo tdCl tdGe tdPu tdFo tdDP tdDF tdDC tdDR tdDPg tdNx f fd F
theorem with_cls {K : PySem.W.Frag} {h : Heap} {L O R W : Addr} {G : Prop} (_ : K.In h) (aL : PySem.W.nsIn K mainGlobals "Link" = some (some (.ref L))) (aO : PySem.W.nsIn K mainGlobals "Outside" = some (some (.ref O)))
    (aR : PySem.W.nsIn K mainGlobals "Reader" = some (some (.ref R))) (aW : PySem.W.nsIn K mainGlobals "Way" = some (some (.ref W)))
    (k : PySem.W.nsIn K mainGlobals "Link" = some (some (.ref L)) → PySem.W.nsIn K mainGlobals "Outside" = some (some (.ref O)) → PySem.W.nsIn K mainGlobals "Reader" = some (some (.ref R)) → PySem.W.nsIn K mainGlobals "Way" = some (some (.ref W)) → G) : G := k aL aO aR aW
theorem req_of {K : PySem.W.Frag} {H : Hp} {p : Addr} {ms : List Nat} {l : List Int} (e : l = ms.map Int.ofNat) (hs : SqL K H p (l.map V.int)) : Req K No H p ms := by
  have e2 : l.map V.int = vs ms := by
    rw [e]
    exact ints_vs ms
  rw [e2] at hs
  rcases hs with hs | hs
  · exact .inl ⟨hs, fun z => z⟩
  · exact .inr fun _ => .inr hs
theorem ans_mk {P : Program} {w : World} {K : PySem.W.Frag} {h : Heap} {mg : Str → Option Value} {fa : Addr} (hfa : mg "answers" = some (.ref fa)) (A : DefT K mg "answers" sAnswers ["calls"])
    (ok : ∀ (base : Heap) (f : Addr) (fd : FuncData), Fun K "answers" "answers" sAnswers f fd → FnOk P w K mg base CX0 10 f fd ["calls"] (spAnswers K)) :
    ∃ fd : FuncData, (∀ (s : Shared) (us : List Value), us.length = (["calls"] : List Str).length → BindsTo s fd ⟨us, []⟩ ((["calls"] : List Str).zip us)) ∧ ∀ base : Heap, K.In base → base.Ns mainGlobals mg → FnOk P w K mg base CX0 10 fa fd ["calls"] (spAnswers K) := by
  obtain ⟨f, fd, e, F, b⟩ := A
  have e2 := e.symm.trans hfa
  cases e2
  refine ⟨fd, fun s us hu => ?_, fun base _ _ => ok base _ _ F⟩
  obtain ⟨oc, od, kV, doc, pm, an, cdv, ct, osl, rfl, lk, hcd⟩ := F.ex
  exact match us, hu with | [_], _ => .of_eq rfl
end My
open PySem PySem.W PyProof.Rows
set_option maxRecDepth 100000 in
set_option maxHeartbeats 16000000 in
theorem PySem.Challenge.cw_surelyforgotten_s01_answers_holds : PySem.Challenge.rw_surelyforgotten_s01_answers.Holds := by
  w_on; k_headS; (case hw => exact ⟨[.list [.int 0]], by decide +kernel, by decide +kernel⟩)
  k_fillS
  refine L2.walk_specK (r := PySem.Challenge.rw_surelyforgotten_s01_answers) (k := 10) (CX := L2.CX0) (ps := ["calls"]) (sp := My.spAnswers) (by decide +kernel) rfl rfl ⟨rfl, by decide, by decide⟩ (fun w h Y => PySem.W.kIn_of Y) ?F ?S (fun _ _ _ _ z => z)
  case F =>
    intro w mg fa h Y KX G hmg
    refine' My.with_cls KX ?aL ?aO ?aR ?aW ?rest
    (case aL => k_is); (case aO => k_is); (case aR => k_is); (case aW => k_is)
    intro hL hO hR hW
    refine My.ans_mk (h := h) hmg ?A (My.all_ok2 hL hO hR hW ?T ?tiL ?tmT ?tmG ?tdNo ?tdOt ?tdPg ?tdPad ?tdX ?tdLf ?tdBr ?tdKi ?tdRg ?tdRo ?tiO ?tmBe ?tmGi ?tmN ?tmAR ?tmLR ?tmPR ?tmRP ?tmLP ?tmWP ?tmNK ?tmNKs ?tmAP ?tiR ?tmAE ?tmTN ?tmTR ?tiW ?tmSi ?tmCB ?tdRC ?tdRK ?tdWC ?tdSt ?tdUp ?tdGo ?tdCl ?tdGe ?tdPu ?tdFo ?tdDP ?tdDF ?tdDC ?tdDR ?tdDPg ?tdNx)
    case A => refine' My.defT_mk KX G ?zaA ?zlA ?zcA ?zkA ?zbA; (case zaA => k_is); (case zlA => k_is); (case zcA => k_is); (case zkA => k_is); (case zbA => exact fun _ _ _ _ _ _ us hl => match us, hl with | [_], _ => rfl)
    case T =>
      refine' My.txt_mk KX G hL hO hR hW ?cLpg ?cLhd ?cLpo ?cLsa ?cOpg ?cOhd ?cOpo ?cOsa ?cRpg ?cRhd ?cRpo ?cRsa ?cWpg ?cWhd ?cWpo ?cWsa ?nL1 ?nL2 ?nO1 ?nO2 ?nO3 ?nO4 ?nO5 ?nR1 ?nR2 ?nW1 ?nW2 ?nW3 ?nW4 ?kKey ?kPage ?kData ?kReg ?kLeft ?kRight ?kRoot ?kLast ?kLeaf ?kDeep ?kClear ?kPut ?kGet ?kForget ?kLayR ?kLayP ?rkKey ?rkPage ?rkData ?rkReg ?rkLeft ?rkRight ?rkRoot ?rkLast ?rkLeaf ?rkDeep ?rkClear ?rkPut ?rkGet ?rkForget ?rkLayR ?rkLayP ?bR ?bL ?bT
      (case cLpg => k_is)
      (case cLhd => k_is)
      (case cLpo => k_is)
      (case cLsa => k_is)
      (case cOpg => k_is)
      (case cOhd => k_is)
      (case cOpo => k_is)
      (case cOsa => k_is)
      (case cRpg => k_is)
      (case cRhd => k_is)
      (case cRpo => k_is)
      (case cRsa => k_is)
      (case cWpg => k_is)
      (case cWhd => k_is)
      (case cWpo => k_is)
      (case cWsa => k_is)
      (case nL1 => k_is)
      (case nL2 => k_is)
      (case nO1 => k_is)
      (case nO2 => k_is)
      (case nO3 => k_is)
      (case nO4 => k_is)
      (case nO5 => k_is)
      (case nR1 => k_is)
      (case nR2 => k_is)
      (case nW1 => k_is)
      (case nW2 => k_is)
      (case nW3 => k_is)
      (case nW4 => k_is)
      (case kKey => k_is)
      (case kPage => k_is)
      (case kData => k_is)
      (case kReg => k_is)
      (case kLeft => k_is)
      (case kRight => k_is)
      (case kRoot => k_is)
      (case kLast => k_is)
      (case kLeaf => k_is)
      (case kDeep => k_is)
      (case kClear => k_is)
      (case kPut => k_is)
      (case kGet => k_is)
      (case kForget => k_is)
      (case kLayR => k_is)
      (case kLayP => k_is)
      (case bR => k_is)
      (case bL => k_is)
      (case bT => k_is)
      (case rkKey => exact ⟨_, rfl⟩)
      (case rkPage => exact ⟨_, rfl⟩)
      (case rkData => exact ⟨_, rfl⟩)
      (case rkReg => exact ⟨_, rfl⟩)
      (case rkLeft => exact ⟨_, rfl⟩)
      (case rkRight => exact ⟨_, rfl⟩)
      (case rkRoot => exact ⟨_, rfl⟩)
      (case rkLast => exact ⟨_, rfl⟩)
      (case rkLeaf => exact ⟨_, rfl⟩)
      (case rkDeep => exact ⟨_, rfl⟩)
      (case rkClear => exact ⟨_, rfl⟩)
      (case rkPut => exact ⟨_, rfl⟩)
      (case rkGet => exact ⟨_, rfl⟩)
      (case rkForget => exact ⟨_, rfl⟩)
      (case rkLayR => exact ⟨_, rfl⟩)
      (case rkLayP => exact ⟨_, rfl⟩)
    case tiL => refine' My.iniT_mk ?zmiL ?zeiL ?zaiL ?ziiL ?zliL ?zciL ?zkiL ?zbiL; (case zmiL => k_is); (case zeiL => k_is); (case zaiL => k_is); (case ziiL => k_is); (case zliL => k_is); (case zciL => k_is); (case zkiL => k_is); (case zbiL => exact fun _ _ _ _ _ _ us hl => match us, hl with | [_, _, _], _ => rfl)
    case tmT => refine' My.metT_mk ?zamT ?zimT ?zlmT ?zcmT ?zkmT ?zbmT; (case zamT => k_is); (case zimT => k_is); (case zlmT => k_is); (case zcmT => k_is); (case zkmT => k_is); (case zbmT => exact fun _ _ _ _ _ _ us hl => match us, hl with | [_], _ => rfl)
    case tmG => refine' My.metT_mk ?zamG ?zimG ?zlmG ?zcmG ?zkmG ?zbmG; (case zamG => k_is); (case zimG => k_is); (case zlmG => k_is); (case zcmG => k_is); (case zkmG => k_is); (case zbmG => exact fun _ _ _ _ _ _ us hl => match us, hl with | [_], _ => rfl)
    case tdNo => refine' My.defT_mk KX G ?zadNo ?zldNo ?zcdNo ?zkdNo ?zbdNo; (case zadNo => k_is); (case zldNo => k_is); (case zcdNo => k_is); (case zkdNo => k_is); (case zbdNo => exact fun _ _ _ _ _ _ us hl => match us, hl with | [], _ => rfl)
    case tdOt => refine' My.defT_mk KX G ?zadOt ?zldOt ?zcdOt ?zkdOt ?zbdOt; (case zadOt => k_is); (case zldOt => k_is); (case zcdOt => k_is); (case zkdOt => k_is); (case zbdOt => exact fun _ _ _ _ _ _ us hl => match us, hl with | [_], _ => rfl)
    case tdPg => refine' My.defT_mk KX G ?zadPg ?zldPg ?zcdPg ?zkdPg ?zbdPg; (case zadPg => k_is); (case zldPg => k_is); (case zcdPg => k_is); (case zkdPg => k_is); (case zbdPg => exact fun _ _ _ _ _ _ us hl => match us, hl with | [_, _], _ => rfl)
    case tdPad => refine' My.defT_mk KX G ?zadPad ?zldPad ?zcdPad ?zkdPad ?zbdPad; (case zadPad => k_is); (case zldPad => k_is); (case zcdPad => k_is); (case zkdPad => k_is); (case zbdPad => exact fun _ _ _ _ _ _ us hl => match us, hl with | [_], _ => rfl)
    case tdX => refine' My.defT_mk KX G ?zadX ?zldX ?zcdX ?zkdX ?zbdX; (case zadX => k_is); (case zldX => k_is); (case zcdX => k_is); (case zkdX => k_is); (case zbdX => exact fun _ _ _ _ _ _ us hl => match us, hl with | [_, _], _ => rfl)
    case tdLf => refine' My.defT_mk KX G ?zadLf ?zldLf ?zcdLf ?zkdLf ?zbdLf; (case zadLf => k_is); (case zldLf => k_is); (case zcdLf => k_is); (case zkdLf => k_is); (case zbdLf => exact fun _ _ _ _ _ _ us hl => match us, hl with | [_], _ => rfl)
    case tdBr => refine' My.defT_mk KX G ?zadBr ?zldBr ?zcdBr ?zkdBr ?zbdBr; (case zadBr => k_is); (case zldBr => k_is); (case zcdBr => k_is); (case zkdBr => k_is); (case zbdBr => exact fun _ _ _ _ _ _ us hl => match us, hl with | [_], _ => rfl)
    case tdKi => refine' My.defT_mk KX G ?zadKi ?zldKi ?zcdKi ?zkdKi ?zbdKi; (case zadKi => k_is); (case zldKi => k_is); (case zcdKi => k_is); (case zkdKi => k_is); (case zbdKi => exact fun _ _ _ _ _ _ us hl => match us, hl with | [_], _ => rfl)
    case tdRg => refine' My.defT_mk KX G ?zadRg ?zldRg ?zcdRg ?zkdRg ?zbdRg; (case zadRg => k_is); (case zldRg => k_is); (case zcdRg => k_is); (case zkdRg => k_is); (case zbdRg => exact fun _ _ _ _ _ _ us hl => match us, hl with | [_], _ => rfl)
    case tdRo => refine' My.defT_mk KX G ?zadRo ?zldRo ?zcdRo ?zkdRo ?zbdRo; (case zadRo => k_is); (case zldRo => k_is); (case zcdRo => k_is); (case zkdRo => k_is); (case zbdRo => exact fun _ _ _ _ _ _ us hl => match us, hl with | [_], _ => rfl)
    case tiO => refine' My.iniT_mk ?zmiO ?zeiO ?zaiO ?ziiO ?zliO ?zciO ?zkiO ?zbiO; (case zmiO => k_is); (case zeiO => k_is); (case zaiO => k_is); (case ziiO => k_is); (case zliO => k_is); (case zciO => k_is); (case zkiO => k_is); (case zbiO => exact fun _ _ _ _ _ _ us hl => match us, hl with | [_], _ => rfl)
    case tmBe => refine' My.metT_mk ?zamBe ?zimBe ?zlmBe ?zcmBe ?zkmBe ?zbmBe; (case zamBe => k_is); (case zimBe => k_is); (case zlmBe => k_is); (case zcmBe => k_is); (case zkmBe => k_is); (case zbmBe => exact fun _ _ _ _ _ _ us hl => match us, hl with | [_], _ => rfl)
    case tmGi => refine' My.metT_mk ?zamGi ?zimGi ?zlmGi ?zcmGi ?zkmGi ?zbmGi; (case zamGi => k_is); (case zimGi => k_is); (case zlmGi => k_is); (case zcmGi => k_is); (case zkmGi => k_is); (case zbmGi => exact fun _ _ _ _ _ _ us hl => match us, hl with | [_, _], _ => rfl)
    case tmN => refine' My.metT_mk ?zamN ?zimN ?zlmN ?zcmN ?zkmN ?zbmN; (case zamN => k_is); (case zimN => k_is); (case zlmN => k_is); (case zcmN => k_is); (case zkmN => k_is); (case zbmN => exact fun _ _ _ _ _ _ us hl => match us, hl with | [_, _], _ => rfl)
    case tmAR => refine' My.metT_mk ?zamAR ?zimAR ?zlmAR ?zcmAR ?zkmAR ?zbmAR; (case zamAR => k_is); (case zimAR => k_is); (case zlmAR => k_is); (case zcmAR => k_is); (case zkmAR => k_is); (case zbmAR => exact fun _ _ _ _ _ _ us hl => match us, hl with | [_], _ => rfl)
    case tmLR => refine' My.metT_mk ?zamLR ?zimLR ?zlmLR ?zcmLR ?zkmLR ?zbmLR; (case zamLR => k_is); (case zimLR => k_is); (case zlmLR => k_is); (case zcmLR => k_is); (case zkmLR => k_is); (case zbmLR => exact fun _ _ _ _ _ _ us hl => match us, hl with | [_, _], _ => rfl)
    case tmPR => refine' My.metT_mk ?zamPR ?zimPR ?zlmPR ?zcmPR ?zkmPR ?zbmPR; (case zamPR => k_is); (case zimPR => k_is); (case zlmPR => k_is); (case zcmPR => k_is); (case zkmPR => k_is); (case zbmPR => exact fun _ _ _ _ _ _ us hl => match us, hl with | [_, _], _ => rfl)
    case tmRP => refine' My.metT_mk ?zamRP ?zimRP ?zlmRP ?zcmRP ?zkmRP ?zbmRP; (case zamRP => k_is); (case zimRP => k_is); (case zlmRP => k_is); (case zcmRP => k_is); (case zkmRP => k_is); (case zbmRP => exact fun _ _ _ _ _ _ us hl => match us, hl with | [_, _], _ => rfl)
    case tmLP => refine' My.metT_mk ?zamLP ?zimLP ?zlmLP ?zcmLP ?zkmLP ?zbmLP; (case zamLP => k_is); (case zimLP => k_is); (case zlmLP => k_is); (case zcmLP => k_is); (case zkmLP => k_is); (case zbmLP => exact fun _ _ _ _ _ _ us hl => match us, hl with | [_, _, _], _ => rfl)
    case tmWP => refine' My.metT_mk ?zamWP ?zimWP ?zlmWP ?zcmWP ?zkmWP ?zbmWP; (case zamWP => k_is); (case zimWP => k_is); (case zlmWP => k_is); (case zcmWP => k_is); (case zkmWP => k_is); (case zbmWP => exact fun _ _ _ _ _ _ us hl => match us, hl with | [_, _, _], _ => rfl)
    case tmNK => refine' My.metT_mk ?zamNK ?zimNK ?zlmNK ?zcmNK ?zkmNK ?zbmNK; (case zamNK => k_is); (case zimNK => k_is); (case zlmNK => k_is); (case zcmNK => k_is); (case zkmNK => k_is); (case zbmNK => exact fun _ _ _ _ _ _ us hl => match us, hl with | [_], _ => rfl)
    case tmNKs => refine' My.metT_mk ?zamNKs ?zimNKs ?zlmNKs ?zcmNKs ?zkmNKs ?zbmNKs; (case zamNKs => k_is); (case zimNKs => k_is); (case zlmNKs => k_is); (case zcmNKs => k_is); (case zkmNKs => k_is); (case zbmNKs => exact fun _ _ _ _ _ _ us hl => match us, hl with | [_, _], _ => rfl)
    case tmAP => refine' My.metT_mk ?zamAP ?zimAP ?zlmAP ?zcmAP ?zkmAP ?zbmAP; (case zamAP => k_is); (case zimAP => k_is); (case zlmAP => k_is); (case zcmAP => k_is); (case zkmAP => k_is); (case zbmAP => exact fun _ _ _ _ _ _ us hl => match us, hl with | [_, _], _ => rfl)
    case tiR => refine' My.iniT_mk ?zmiR ?zeiR ?zaiR ?ziiR ?zliR ?zciR ?zkiR ?zbiR; (case zmiR => k_is); (case zeiR => k_is); (case zaiR => k_is); (case ziiR => k_is); (case zliR => k_is); (case zciR => k_is); (case zkiR => k_is); (case zbiR => exact fun _ _ _ _ _ _ us hl => match us, hl with | [_, _], _ => rfl)
    case tmAE => refine' My.metT_mk ?zamAE ?zimAE ?zlmAE ?zcmAE ?zkmAE ?zbmAE; (case zamAE => k_is); (case zimAE => k_is); (case zlmAE => k_is); (case zcmAE => k_is); (case zkmAE => k_is); (case zbmAE => exact fun _ _ _ _ _ _ us hl => match us, hl with | [_], _ => rfl)
    case tmTN => refine' My.metT_mk ?zamTN ?zimTN ?zlmTN ?zcmTN ?zkmTN ?zbmTN; (case zamTN => k_is); (case zimTN => k_is); (case zlmTN => k_is); (case zcmTN => k_is); (case zkmTN => k_is); (case zbmTN => exact fun _ _ _ _ _ _ us hl => match us, hl with | [_], _ => rfl)
    case tmTR => refine' My.metT_mk ?zamTR ?zimTR ?zlmTR ?zcmTR ?zkmTR ?zbmTR; (case zamTR => k_is); (case zimTR => k_is); (case zlmTR => k_is); (case zcmTR => k_is); (case zkmTR => k_is); (case zbmTR => exact fun _ _ _ _ _ _ us hl => match us, hl with | [_], _ => rfl)
    case tiW => refine' My.iniT_mk ?zmiW ?zeiW ?zaiW ?ziiW ?zliW ?zciW ?zkiW ?zbiW; (case zmiW => k_is); (case zeiW => k_is); (case zaiW => k_is); (case ziiW => k_is); (case zliW => k_is); (case zciW => k_is); (case zkiW => k_is); (case zbiW => exact fun _ _ _ _ _ _ us hl => match us, hl with | [_, _], _ => rfl)
    case tmSi => refine' My.metT_mk ?zamSi ?zimSi ?zlmSi ?zcmSi ?zkmSi ?zbmSi; (case zamSi => k_is); (case zimSi => k_is); (case zlmSi => k_is); (case zcmSi => k_is); (case zkmSi => k_is); (case zbmSi => exact fun _ _ _ _ _ _ us hl => match us, hl with | [_, _], _ => rfl)
    case tmCB => refine' My.metT_mk ?zamCB ?zimCB ?zlmCB ?zcmCB ?zkmCB ?zbmCB; (case zamCB => k_is); (case zimCB => k_is); (case zlmCB => k_is); (case zcmCB => k_is); (case zkmCB => k_is); (case zbmCB => exact fun _ _ _ _ _ _ us hl => match us, hl with | [_, _], _ => rfl)
    case tdRC => refine' My.defT_mk KX G ?zadRC ?zldRC ?zcdRC ?zkdRC ?zbdRC; (case zadRC => k_is); (case zldRC => k_is); (case zcdRC => k_is); (case zkdRC => k_is); (case zbdRC => exact fun _ _ _ _ _ _ us hl => match us, hl with | [_, _, _], _ => rfl)
    case tdRK => refine' My.defT_mk KX G ?zadRK ?zldRK ?zcdRK ?zkdRK ?zbdRK; (case zadRK => k_is); (case zldRK => k_is); (case zcdRK => k_is); (case zkdRK => k_is); (case zbdRK => exact fun _ _ _ _ _ _ us hl => match us, hl with | [_, _, _], _ => rfl)
    case tdWC => refine' My.defT_mk KX G ?zadWC ?zldWC ?zcdWC ?zkdWC ?zbdWC; (case zadWC => k_is); (case zldWC => k_is); (case zcdWC => k_is); (case zkdWC => k_is); (case zbdWC => exact fun _ _ _ _ _ _ us hl => match us, hl with | [_, _, _, _, _], _ => rfl)
    case tdSt => refine' My.defT_mk KX G ?zadSt ?zldSt ?zcdSt ?zkdSt ?zbdSt; (case zadSt => k_is); (case zldSt => k_is); (case zcdSt => k_is); (case zkdSt => k_is); (case zbdSt => exact fun _ _ _ _ _ _ us hl => match us, hl with | [_], _ => rfl)
    case tdUp => refine' My.defT_mk KX G ?zadUp ?zldUp ?zcdUp ?zkdUp ?zbdUp; (case zadUp => k_is); (case zldUp => k_is); (case zcdUp => k_is); (case zkdUp => k_is); (case zbdUp => exact fun _ _ _ _ _ _ us hl => match us, hl with | [_, _, _, _], _ => rfl)
    case tdGo => refine' My.defT_mk KX G ?zadGo ?zldGo ?zcdGo ?zkdGo ?zbdGo; (case zadGo => k_is); (case zldGo => k_is); (case zcdGo => k_is); (case zkdGo => k_is); (case zbdGo => exact fun _ _ _ _ _ _ us hl => match us, hl with | [_, _], _ => rfl)
    case tdCl => refine' My.defT_mk KX G ?zadCl ?zldCl ?zcdCl ?zkdCl ?zbdCl; (case zadCl => k_is); (case zldCl => k_is); (case zcdCl => k_is); (case zkdCl => k_is); (case zbdCl => exact fun _ _ _ _ _ _ us hl => match us, hl with | [_], _ => rfl)
    case tdGe => refine' My.defT_mk KX G ?zadGe ?zldGe ?zcdGe ?zkdGe ?zbdGe; (case zadGe => k_is); (case zldGe => k_is); (case zcdGe => k_is); (case zkdGe => k_is); (case zbdGe => exact fun _ _ _ _ _ _ us hl => match us, hl with | [_, _], _ => rfl)
    case tdPu => refine' My.defT_mk KX G ?zadPu ?zldPu ?zcdPu ?zkdPu ?zbdPu; (case zadPu => k_is); (case zldPu => k_is); (case zcdPu => k_is); (case zkdPu => k_is); (case zbdPu => exact fun _ _ _ _ _ _ us hl => match us, hl with | [_, _, _], _ => rfl)
    case tdFo => refine' My.defT_mk KX G ?zadFo ?zldFo ?zcdFo ?zkdFo ?zbdFo; (case zadFo => k_is); (case zldFo => k_is); (case zcdFo => k_is); (case zkdFo => k_is); (case zbdFo => exact fun _ _ _ _ _ _ us hl => match us, hl with | [_, _], _ => rfl)
    case tdDP => refine' My.defT_mk KX G ?zadDP ?zldDP ?zcdDP ?zkdDP ?zbdDP; (case zadDP => k_is); (case zldDP => k_is); (case zcdDP => k_is); (case zkdDP => k_is); (case zbdDP => exact fun _ _ _ _ _ _ us hl => match us, hl with | [_, _], _ => rfl)
    case tdDF => refine' My.defT_mk KX G ?zadDF ?zldDF ?zcdDF ?zkdDF ?zbdDF; (case zadDF => k_is); (case zldDF => k_is); (case zcdDF => k_is); (case zkdDF => k_is); (case zbdDF => exact fun _ _ _ _ _ _ us hl => match us, hl with | [_, _], _ => rfl)
    case tdDC => refine' My.defT_mk KX G ?zadDC ?zldDC ?zcdDC ?zkdDC ?zbdDC; (case zadDC => k_is); (case zldDC => k_is); (case zcdDC => k_is); (case zkdDC => k_is); (case zbdDC => exact fun _ _ _ _ _ _ us hl => match us, hl with | [_, _, _], _ => rfl)
    case tdDR => refine' My.defT_mk KX G ?zadDR ?zldDR ?zcdDR ?zkdDR ?zbdDR; (case zadDR => k_is); (case zldDR => k_is); (case zcdDR => k_is); (case zkdDR => k_is); (case zbdDR => exact fun _ _ _ _ _ _ us hl => match us, hl with | [_, _], _ => rfl)
    case tdDPg => refine' My.defT_mk KX G ?zadDPg ?zldDPg ?zcdDPg ?zkdDPg ?zbdDPg; (case zadDPg => k_is); (case zldDPg => k_is); (case zcdDPg => k_is); (case zkdDPg => k_is); (case zbdDPg => exact fun _ _ _ _ _ _ us hl => match us, hl with | [_, _], _ => rfl)
    case tdNx => refine' My.defT_mk KX G ?zadNx ?zldNx ?zcdNx ?zkdNx ?zbdNx; (case zadNx => k_is); (case zldNx => k_is); (case zcdNx => k_is); (case zkdNx => k_is); (case zbdNx => exact fun _ _ _ _ _ _ us hl => match us, hl with | [_, _], _ => rfl)
  case S =>
    intro K H xs a hO hwi hask hx
    cases hx with
    | cons h1 h2 =>
      cases h2
      cases h1 with
      | lst hs ha =>
        have e := L2.ints_dw a.1 _ ha
        subst e
        obtain ⟨cs, e1, e2, e3, e4, e5⟩ := My.asked_nc (l := a.1) hask
        refine ⟨_, cs, rfl, My.req_of e1 hs, e2, e3, e5, fun H' p hp => ?_⟩
        rw [← e4] at hp
        exact .lst (L2.SqL.of hp) (L2.dw_ints _)
