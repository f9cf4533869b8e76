import PyProof.Rows.All
import Wide.All
import OpenK.AllK
import Wide.FinOn
import HandS.ForMost
import HandS.ForExc
import HandS.TupMul
import HandS.TupAny
import HandS.Deep
import HandS.IsInst
import HandS.Flow
import HandS.Walk
import HandS.Zip
import HandS.Conv
import KE.LtData
import KE.SortData
import KE.OsSortAny
import KE.DataEq
import HandS.ExcInit
import HandS.Small
import KE.KExcInit
import HandS.Style
import HandS.TupSets
import KE.KeyNested
import PyProof.WalksMore
import PyProof.FactsAll.subtypes_4
import HandS.Strs
import HandS.SetFor
import KE.GoesEnum
import HandS.TryMany
import HandS.Exc
import HandS.ExcField
import HandS.ExcIs
import KE.KExcIs
import PyProof.InstStoreFacts
import PySem.Challenge.RW_blendworlds_k08_free_puzzles
set_option Elab.async false
set_option maxRecDepth 100000
set_option maxHeartbeats 1000000
/-! A layer of plain data over the hand layer: what an expression is worth as data, whatever the heap. -/
namespace DL
open PySem PySem.Spec PyProof.Rows L2

abbrev Dt := PyData

/-! ### data in the part of the heap that never changes -/
mutual
inductive Rp (G : Hp) : V → PyData → Prop
  | non : Rp G .non .none
  | bl (b : Bool) : Rp G (.bl b) (.bool b)
  | int (i : Int) : Rp G (.int i) (.int i)
  | str (x : Str) : Rp G (.str x) (.str x)
  | lst {a : Addr} {xs : List V} {ds : List PyData} : G a = some (.lst xs) → xs.length ≤ sizeLine → RpAll G xs ds → Rp G (.ref a) (.list ds)
  | tup {a : Addr} {xs : List V} {ds : List PyData} : G a = some (.tup xs) → xs.length ≤ sizeLine → RpAll G xs ds → Rp G (.ref a) (.tuple ds)
inductive RpAll (G : Hp) : List V → List PyData → Prop
  | nil : RpAll G [] []
  | cons {v : V} {vs : List V} {d : PyData} {ds : List PyData} : Rp G v d → RpAll G vs ds → RpAll G (v :: vs) (d :: ds)
end

mutual
theorem Rp.mono {G G' : Hp} (s : Same G G') : ∀ {v : V} {d : PyData}, Rp G v d → Rp G' v d
  | _, _, .non => .non
  | _, _, .bl b => .bl b
  | _, _, .int i => .int i
  | _, _, .str x => .str x
  | _, _, .lst h l a => .lst (s _ _ h) l (RpAll.mono s a)
  | _, _, .tup h l a => .tup (s _ _ h) l (RpAll.mono s a)
theorem RpAll.mono {G G' : Hp} (s : Same G G') : ∀ {vs : List V} {ds : List PyData}, RpAll G vs ds → RpAll G' vs ds
  | _, _, .nil => .nil
  | _, _, .cons h t => .cons (Rp.mono s h) (RpAll.mono s t)
end
mutual
theorem Rp.dp {K : PySem.W.Frag} {G H : Hp} (s : Same G H) : ∀ {v : V} {d : PyData}, Rp G v d → Dp K H v d
  | _, _, .non => .non
  | _, _, .bl b => .bl b
  | _, _, .int i => .int i
  | _, _, .str x => .str x
  | _, _, .lst h _ a => .lst (SqL.of (s _ _ h)) (RpAll.dp s a)
  | _, _, .tup h _ a => .tup (SqT.of (s _ _ h)) (RpAll.dp s a)
theorem RpAll.dp {K : PySem.W.Frag} {G H : Hp} (s : Same G H) : ∀ {vs : List V} {ds : List PyData}, RpAll G vs ds → DpAll K H vs ds
  | _, _, .nil => .nil
  | _, _, .cons h t => .cons (Rp.dp s h) (RpAll.dp s t)
end
theorem RpAll.length {G : Hp} : ∀ {vs : List V} {ds : List PyData}, RpAll G vs ds → vs.length = ds.length
  | _, _, .nil => rfl
  | _, _, .cons _ t => by simp [RpAll.length t]
theorem RpAll.get {G : Hp} : ∀ {vs : List V} {ds : List PyData} {i : Nat} {v : V}, RpAll G vs ds → vs[i]? = some v → ∃ d, ds[i]? = some d ∧ Rp G v d
  | _, _, _, _, .nil, e => by simp at e
  | _, _, 0, _, .cons h t, e => by simp at e; subst e; exact ⟨_, by simp, h⟩
  | _, _, i + 1, v, .cons h t, e => by
    obtain ⟨d, h1, h2⟩ := RpAll.get (i := i) (v := v) t (by simpa using e)
    exact ⟨d, by simpa using h1, h2⟩
theorem RpAll.getD {G : Hp} : ∀ {vs : List V} {ds : List PyData} {i : Nat} {d : PyData}, RpAll G vs ds → ds[i]? = some d → ∃ v, vs[i]? = some v ∧ Rp G v d
  | _, _, _, _, .nil, e => by simp at e
  | _, _, 0, _, .cons h t, e => by simp at e; subst e; exact ⟨_, by simp, h⟩
  | _, _, i + 1, d, .cons h t, e => by
    obtain ⟨v, h1, h2⟩ := RpAll.getD (i := i) (d := d) t (by simpa using e)
    exact ⟨v, by simpa using h1, h2⟩
theorem RpAll.append {G : Hp} : ∀ {vs ws : List V} {ds es : List PyData}, RpAll G vs ds → RpAll G ws es → RpAll G (vs ++ ws) (ds ++ es)
  | _, _, _, _, .nil, s => s
  | _, _, _, _, .cons r t, s => .cons r (RpAll.append t s)
theorem RpAll.take {G : Hp} : ∀ {vs : List V} {ds : List PyData} (n : Nat), RpAll G vs ds → RpAll G (vs.take n) (ds.take n)
  | _, _, 0, _ => by simpa using RpAll.nil
  | _, _, _ + 1, .nil => by simpa using RpAll.nil
  | _, _, n + 1, .cons r t => by simpa using RpAll.cons r (RpAll.take n t)
theorem RpAll.drop {G : Hp} : ∀ {vs : List V} {ds : List PyData} (n : Nat), RpAll G vs ds → RpAll G (vs.drop n) (ds.drop n)
  | _, _, 0, r => by simpa using r
  | _, _, _ + 1, .nil => by simpa using RpAll.nil
  | _, _, n + 1, .cons _ t => by simpa using RpAll.drop n t
theorem RpAll.eraseIdx {G : Hp} : ∀ {vs : List V} {ds : List PyData} (i : Nat), RpAll G vs ds → RpAll G (vs.eraseIdx i) (ds.eraseIdx i)
  | _, _, _, .nil => by simpa using RpAll.nil
  | _, _, 0, .cons _ t => by simpa using t
  | _, _, i + 1, .cons r t => by simpa using RpAll.cons r (RpAll.eraseIdx i t)
theorem RpAll.inv_cons {G : Hp} {vs : List V} {d : PyData} {ds : List PyData} (h : RpAll G vs (d :: ds)) : ∃ v ws, vs = v :: ws ∧ Rp G v d ∧ RpAll G ws ds := by
  cases h with
  | cons a b => exact ⟨_, _, rfl, a, b⟩
theorem RpAll.inv_nil {G : Hp} {vs : List V} (h : RpAll G vs []) : vs = [] := by cases h; rfl
theorem Rp.inv_int {G : Hp} {v : V} {i : Int} (h : Rp G v (.int i)) : v = .int i := by cases h; rfl
theorem Rp.inv_bool {G : Hp} {v : V} {i : Bool} (h : Rp G v (.bool i)) : v = .bl i := by cases h; rfl
theorem Rp.inv_str {G : Hp} {v : V} {i : Str} (h : Rp G v (.str i)) : v = .str i := by cases h; rfl
theorem Rp.inv_none {G : Hp} {v : V} (h : Rp G v .none) : v = .non := by cases h; rfl
theorem Rp.inv_list {G : Hp} {v : V} {ds : List PyData} (h : Rp G v (.list ds)) : ∃ a xs, v = .ref a ∧ G a = some (.lst xs) ∧ xs.length ≤ sizeLine ∧ RpAll G xs ds := by
  cases h with
  | lst h l a => exact ⟨_, _, rfl, h, l, a⟩
theorem Rp.inv_tup {G : Hp} {v : V} {ds : List PyData} (h : Rp G v (.tuple ds)) : ∃ a xs, v = .ref a ∧ G a = some (.tup xs) ∧ xs.length ≤ sizeLine ∧ RpAll G xs ds := by
  cases h with
  | tup h l a => exact ⟨_, _, rfl, h, l, a⟩
theorem RpAll.ints {G : Hp} : ∀ {vs : List V} {ns : List Int}, RpAll G vs (ns.map PyData.int) → vs = ns.map V.int
  | _, [], h => by have := RpAll.inv_nil h; simpa using this
  | _, n :: ns, h => by
    obtain ⟨v, ws, rfl, h1, h2⟩ := RpAll.inv_cons (by simpa using h)
    rw [Rp.inv_int h1, RpAll.ints h2]; rfl
theorem RpAll.bls {G : Hp} : ∀ {vs : List V} {ns : List Bool}, RpAll G vs (ns.map PyData.bool) → vs = ns.map V.bl
  | _, [], h => by have := RpAll.inv_nil h; simpa using this
  | _, n :: ns, h => by
    obtain ⟨v, ws, rfl, h1, h2⟩ := RpAll.inv_cons (by simpa using h)
    rw [Rp.inv_bool h1, RpAll.bls h2]; rfl
theorem RpAll.of_ints {G : Hp} : ∀ (ns : List Int), RpAll G (ns.map V.int) (ns.map PyData.int)
  | [] => by simpa using RpAll.nil
  | n :: ns => by simpa using RpAll.cons (.int n) (RpAll.of_ints ns)

/-! ### the state -/
/-- the source of draws -/
structure Bx where
  a : Int
  b : Int
  c : Int
/-- what is raised: the class's name, its one field -/
structure Ex where
  cls : Str
  val : Option (Str × Dt)
inductive Sl where
  | d (x : Dt)
  | box
  | scr (K : PySem.W.Frag) (ns : List Int)
abbrev EnvD := List (Option Sl)
inductive Fl where
  | nx | rt (d : Dt) | bk | ct

def BoxAt (B : Option Addr) (H G : Hp) (b : Bx) : Prop := ∀ a, B = some a → H a = some (.lst [.int b.a, .int b.b, .int b.c]) ∧ G a = none
/-- from H, G to H', G': what was tracked stands, but the box; G grows by new objects alone -/
structure Stp (B : Option Addr) (H G H' G' : Hp) (b' : Bx) : Prop where
  keep : ∀ a o, H a = some o → B ≠ some a → H' a = some o
  grow : Same G G'
  sub : Same G' H'
  new : ∀ a o, H a = some o → G a = none → G' a = none
  box : BoxAt B H' G' b'
theorem Stp.trans {B : Option Addr} {H G H1 G1 H2 G2 : Hp} {b1 b2 : Bx} (x : Stp B H G H1 G1 b1) (y : Stp B H1 G1 H2 G2 b2) : Stp B H G H2 G2 b2 where
  keep := fun a o e n => y.keep a o (x.keep a o e n) n
  grow := x.grow.trans y.grow
  sub := y.sub
  new := fun a o e n => by
    by_cases hb : B = some a
    · exact (y.box a hb).2
    · exact y.new a o (x.keep a o e hb) (x.new a o e n)
  box := y.box
theorem Stp.refl {B : Option Addr} {H G : Hp} {b : Bx} (s : Same G H) (x : BoxAt B H G b) : Stp B H G H G b := ⟨fun _ _ e _ => e, Same.refl _, s, fun _ _ _ n => n, x⟩
theorem Stp.again {B : Option Addr} {H G H' G' : Hp} {b' : Bx} (x : Stp B H G H' G' b') : Stp B H' G' H' G' b' := .refl x.sub x.box
/-- a new object of data -/
theorem Stp.add {B : Option Addr} {H G : Hp} {b : Bx} {p : Addr} {o : HO} (s : Same G H) (x : BoxAt B H G b) (hp : H p = none) : Stp B H G (upd H p o) (upd G p o) b where
  keep := fun a u e _ => by rw [upd_ne (ne_of_none e hp)]; exact e
  grow := fun a u e => by rw [upd_ne (ne_of_none (s a u e) hp)]; exact e
  sub := fun a u e => by
    by_cases h : a = p
    · subst h; rw [upd_same] at e ⊢; exact e
    · rw [upd_ne h] at e ⊢; exact s a u e
  new := fun a u e n => by rw [upd_ne (ne_of_none e hp)]; exact n
  box := fun a e => by
    obtain ⟨h1, h2⟩ := x a e
    exact ⟨by rw [upd_ne (ne_of_none h1 hp)]; exact h1, by rw [upd_ne (ne_of_none h1 hp)]; exact h2⟩
/-- a new object that is not data -/
theorem Stp.addH {B : Option Addr} {H G : Hp} {b : Bx} {p : Addr} {o : HO} (s : Same G H) (x : BoxAt B H G b) (hp : H p = none) : Stp B H G (upd H p o) G b where
  keep := fun a u e _ => by rw [upd_ne (ne_of_none e hp)]; exact e
  grow := Same.refl _
  sub := fun a u e => by rw [upd_ne (ne_of_none (s a u e) hp)]; exact s a u e
  new := fun a u e n => n
  box := fun a e => by
    obtain ⟨h1, h2⟩ := x a e
    exact ⟨by rw [upd_ne (ne_of_none h1 hp)]; exact h1, h2⟩
def SlOk (B : Option Addr) (G : Hp) (v : V) : Sl → Prop
  | .d x => Rp G v x
  | .box => ∃ a, B = some a ∧ v = .ref a
  | .scr K ns => ∃ a, v = .ref a ∧ SqL K G a (ns.map V.int)
theorem SlOk.mono {B : Option Addr} {G G' : Hp} {v : V} {x : Sl} (s : Same G G') (h : SlOk B G v x) : SlOk B G' v x := by
  cases x with
  | d x => exact Rp.mono s h
  | box => exact h
  | scr K ns =>
    obtain ⟨a, h1, h2⟩ := h
    exact ⟨a, h1, s.seq h2⟩
structure StOk (B : Option Addr) (O : List Nat) (H0 G0 : Hp) (σ : L2.St) (H G : Hp) (ρ : EnvD) (b : Bx) : Prop where
  stp : Stp B H0 G0 H G b
  len : ρ.length = σ.length
  sl : ∀ i s, i ∉ O → ρ[i]? = some (some s) → ∃ v, σ[i]? = some (some v) ∧ SlOk B G v s
  ow : ∀ i s, i ∈ O → ρ[i]? = some (some s) → ∃ a ds vs, s = .d (.list ds) ∧ σ[i]? = some (some (.ref a)) ∧ H a = some (.lst vs) ∧ G a = none ∧ H0 a = none ∧ B ≠ some a ∧ RpAll G vs ds ∧ vs.length ≤ sizeLine
  ap : ∀ i j a s s', i ∈ O → j ∈ O → i ≠ j → ρ[i]? = some (some s) → ρ[j]? = some (some s') → σ[i]? = some (some (.ref a)) → σ[j]? ≠ some (some (.ref a))
section
variable {B : Option Addr} {O : List Nat} {H0 G0 H G H1 G1 : Hp} {σ : L2.St} {ρ : EnvD} {b b1 : Bx}
theorem StOk.step (I : StOk B O H0 G0 σ H G ρ b) (x : Stp B H G H1 G1 b1) : StOk B O H0 G0 σ H1 G1 ρ b1 where
  stp := I.stp.trans x
  len := I.len
  sl := fun i s hi e => by
    obtain ⟨v, h1, h2⟩ := I.sl i s hi e
    exact ⟨v, h1, h2.mono x.grow⟩
  ow := fun i s hi e => by
    obtain ⟨a, ds, vs, h1, h2, h3, h4, h5, h6, h7, h8⟩ := I.ow i s hi e
    exact ⟨a, ds, vs, h1, h2, x.keep a _ h3 h6, x.new a _ h3 h4, h5, h6, h7.mono x.grow, h8⟩
  ap := I.ap
theorem StOk.sub (I : StOk B O H0 G0 σ H G ρ b) : Same G H := I.stp.sub
theorem StOk.box (I : StOk B O H0 G0 σ H G ρ b) : BoxAt B H G b := I.stp.box
theorem StOk.refl (I : StOk B O H0 G0 σ H G ρ b) : Stp B H G H G b := I.stp.again
/-- an owned list is data from now on -/
theorem StOk.freeze {i : Nat} (I : StOk B (i :: O) H0 G0 σ H G ρ b) (hi : i ∉ O) : ∃ G1, Same G G1 ∧ StOk B O H0 G0 σ H G1 ρ b := by
  by_cases hs : ∃ s, ρ[i]? = some (some s)
  · obtain ⟨s, hs⟩ := hs
    obtain ⟨a, ds, vs, h1, h2, h3, h4, h5, h6, h7, h8⟩ := I.ow i s (List.mem_cons_self) hs
    have sg : Same G (upd G a (.lst vs)) := fun c o e => by rw [upd_ne (ne_of_none e h4)]; exact e
    refine ⟨upd G a (.lst vs), sg, ⟨I.stp.keep, I.stp.grow.trans sg, fun c o e => ?_, fun c o e n => ?_, fun c e => ?_⟩, I.len, fun j s' hj e => ?_, fun j s' hj e => ?_, fun j k c s' s'' hj hk => I.ap j k c s' s'' (List.mem_cons_of_mem _ hj) (List.mem_cons_of_mem _ hk)⟩
    · by_cases hc : c = a
      · subst hc; rw [upd_same] at e; rw [h3]; exact e
      · rw [upd_ne hc] at e; exact I.stp.sub c o e
    · have hc : c ≠ a := ne_of_none e h5
      rw [upd_ne hc]; exact I.stp.new c o e n
    · obtain ⟨q1, q2⟩ := I.stp.box c e
      have hc : c ≠ a := fun z => h6 (z ▸ e)
      exact ⟨q1, by rw [upd_ne hc]; exact q2⟩
    · by_cases hji : j = i
      · subst hji
        rw [hs] at e; cases e
        subst h1
        exact ⟨_, h2, .lst upd_same h8 (h7.mono sg)⟩
      · obtain ⟨v, q1, q2⟩ := I.sl j s' (by simp [hji, hj]) e
        exact ⟨v, q1, q2.mono sg⟩
    · obtain ⟨a', ds', vs', q1, q2, q3, q4, q5, q6, q7, q8⟩ := I.ow j s' (List.mem_cons_of_mem _ hj) e
      have hji : i ≠ j := fun z => hi (z ▸ hj)
      have hne : a' ≠ a := fun z => by
        subst z
        exact I.ap i j a' s s' List.mem_cons_self (List.mem_cons_of_mem _ hj) hji hs e h2 q2
      exact ⟨a', ds', vs', q1, q2, q3, by rw [upd_ne hne]; exact q4, q5, q6, q7.mono sg, q8⟩
  · refine ⟨G, Same.refl _, I.stp, I.len, fun j s' hj e => ?_, fun j s' hj e => I.ow j s' (List.mem_cons_of_mem _ hj) e, fun j k c s' s'' hj hk => I.ap j k c s' s'' (List.mem_cons_of_mem _ hj) (List.mem_cons_of_mem _ hk)⟩
    by_cases hji : j = i
    · subst hji; exact absurd ⟨s', e⟩ hs
    · exact I.sl j s' (by simp [hji, hj]) e
/-- only which slots are owned matters -/
theorem StOk.same {O' : List Nat} (I : StOk B O H0 G0 σ H G ρ b) (h : ∀ i, i ∈ O' ↔ i ∈ O) : StOk B O' H0 G0 σ H G ρ b :=
  ⟨I.stp, I.len, fun i s hi => I.sl i s (fun z => hi ((h i).mpr z)), fun i s hi => I.ow i s ((h i).mp hi), fun i j a s s' hi hj => I.ap i j a s s' ((h i).mp hi) ((h j).mp hj)⟩
theorem StOk.less {O' : List Nat} (I : StOk B O H0 G0 σ H G ρ b) (h : ∀ i, i ∈ O' → i ∈ O) : ∃ G1, Same G G1 ∧ StOk B O' H0 G0 σ H G1 ρ b := by
  induction O generalizing G with
  | nil => exact ⟨G, Same.refl _, I.same fun i => ⟨fun z => h i z, fun z => absurd z (by simp)⟩⟩
  | cons i O ih =>
    by_cases hi : i ∈ O
    · exact ih (I.same fun j => ⟨fun z => List.mem_cons_of_mem _ z, fun z => by rcases List.mem_cons.mp z with rfl | z; exact hi; exact z⟩) (fun j hj => by rcases List.mem_cons.mp (h j hj) with rfl | z; exact hi; exact z)
    · by_cases ho : i ∈ O'
      · -- keep i: freeze the others behind it
        have key : ∀ (L : List Nat) (G : Hp), StOk B (L ++ O') H0 G0 σ H G ρ b → ∃ G1, Same G G1 ∧ StOk B O' H0 G0 σ H G1 ρ b := by
          intro L
          induction L with
          | nil => intro G J; exact ⟨G, Same.refl _, J⟩
          | cons k L ihL =>
            intro G J
            by_cases hk : k ∈ L ++ O'
            · exact ihL G (J.same fun j => ⟨fun z => List.mem_cons_of_mem _ z, fun z => by rcases List.mem_cons.mp z with rfl | z; exact hk; exact z⟩)
            · obtain ⟨G1, s1, J1⟩ := StOk.freeze (i := k) (O := L ++ O') J hk
              obtain ⟨G2, s2, J2⟩ := ihL G1 J1
              exact ⟨G2, s1.trans s2, J2⟩
        refine key (i :: O) G (I.same fun j => ⟨fun z => ?_, fun z => List.mem_append_left _ z⟩)
        rcases List.mem_append.mp z with z | z
        · exact z
        · exact h j z
      · obtain ⟨G1, s1, J1⟩ := StOk.freeze (i := i) (O := O) I hi
        obtain ⟨G2, s2, J2⟩ := ih J1 (fun j hj => by
          rcases List.mem_cons.mp (h j hj) with rfl | z
          · exact absurd hj ho
          · exact z)
        exact ⟨G2, s1.trans s2, J2⟩
end
end DL
set_option maxRecDepth 100000
set_option maxHeartbeats 1000000
namespace DL
open PySem PySem.Spec PyProof.Rows L2

/-! ### what is reckoned: stuck, an error, an answer; the source of draws is carried -/
abbrev Mo (α : Type) := Bx → Option (Except Ex α × Bx)
abbrev MoS := Bx → Option (Except (Ex × EnvD) (Fl × EnvD) × Bx)
def mOk {α : Type} (a : α) : Mo α := fun b => some (.ok a, b)
def mBind {α β : Type} (m : Mo α) (k : α → Mo β) : Mo β := fun b => match m b with
  | some (.ok a, b1) => k a b1
  | some (.error e, b1) => some (.error e, b1)
  | none => none
def mOpt {α : Type} (o : Option α) : Mo α := fun b => o.map fun a => (.ok a, b)

def ExAt (H G : Hp) (dd : Option Addr) (e : Ex) : Prop := match e.val with
  | none => dd = none
  | some (f, d) => ∃ a v, dd = some a ∧ H a = some (.xd [(f, v)]) ∧ Rp G v d
abbrev Mg := Str → Option Value
def Post {α ν : Type} (mg : Mg) (W : WX) (B : Option Addr) (σ : L2.St) (H G : Hp) (R : Option Addr → Hp → ν → α → Prop) (Q : ν → Hp → Prop) (r : Except Ex α) (b' : Bx) : Prop := match r with
  | .ok d => ∀ v H' G', Stp B H G H' G' b' → R B G' v d → Q v H'
  | .error e => ∀ C dd H' G', mg e.cls = some (.ref C) → Stp B H G H' G' b' → ExAt H' G' dd e → W (.ref C) dd σ H'
abbrev TX (ν : Type) := L2.St → Hp → (ν → Hp → Prop) → Prop
/-- a reading is worth what f reckons -/
def Ev {α ν : Type} (mg : Mg) (W : WX) (O : List Nat) (t : TX ν) (R : Option Addr → Hp → ν → α → Prop) (f : EnvD → Mo α) : Prop :=
  ∀ B H0 G0 σ H G ρ b Q r b', StOk B O H0 G0 σ H G ρ b → f ρ b = some (r, b') → Post mg W B σ H G R Q r b' → t σ H Q
def RD : Option Addr → Hp → V → Dt → Prop := fun _ G v d => Rp G v d
def RB : Option Addr → Hp → Bool → Bool → Prop := fun _ _ x y => x = y
def RS : Option Addr → Hp → V → Sl → Prop := fun B G v s => SlOk B G v s
inductive RSs (B : Option Addr) (G : Hp) : List V → List Sl → Prop
  | nil : RSs B G [] []
  | cons {v vs s ss} : SlOk B G v s → RSs B G vs ss → RSs B G (v :: vs) (s :: ss)
theorem RSs.mono {B : Option Addr} {G G' : Hp} (s : Same G G') : ∀ {vs : List V} {ss : List Sl}, RSs B G vs ss → RSs B G' vs ss
  | _, _, .nil => .nil
  | _, _, .cons h t => .cons (h.mono s) (RSs.mono s t)
theorem RSs.length {B : Option Addr} {G : Hp} : ∀ {vs : List V} {ss : List Sl}, RSs B G vs ss → vs.length = ss.length
  | _, _, .nil => rfl
  | _, _, .cons _ t => by simp [RSs.length t]
theorem RSs.get {B : Option Addr} {G : Hp} : ∀ {vs : List V} {ss : List Sl} {i : Nat} {s : Sl}, RSs B G vs ss → ss[i]? = some s → ∃ v, vs[i]? = some v ∧ SlOk B G v s
  | _, _, _, _, .nil, e => by simp at e
  | _, _, 0, _, .cons h t, e => by simp at e; subst e; exact ⟨_, by simp, h⟩
  | _, _, i + 1, s, .cons h t, e => by
    obtain ⟨v, h1, h2⟩ := RSs.get (i := i) (s := s) t (by simpa using e)
    exact ⟨v, by simpa using h1, h2⟩

section
variable {α β γ ν μ : Type} {mg : Mg} {W : WX} {O : List Nat} {R : Option Addr → Hp → ν → α → Prop} {R' : Option Addr → Hp → μ → β → Prop}
theorem Post.after {B : Option Addr} {σ : L2.St} {H G H1 G1 : Hp} {b1 b' : Bx} {Q : ν → Hp → Prop} {r : Except Ex α} (x : Stp B H G H1 G1 b1) (h : Post mg W B σ H G R Q r b') : Post mg W B σ H1 G1 R Q r b' := by
  cases r with
  | ok d => exact fun v H' G' y q => h v H' G' (x.trans y) q
  | error e => exact fun C dd H' G' m y q => h C dd H' G' m (x.trans y) q
theorem Post.err {B : Option Addr} {σ : L2.St} {H G : Hp} {b' : Bx} {Q : ν → Hp → Prop} {Q' : μ → Hp → Prop} {e : Ex} (h : Post mg W B σ H G R Q (.error e) b') : Post mg W B σ H G R' Q' (.error e) b' := h
/-- THE BIND -/
theorem Ev.bind {ta : TX ν} {fa : EnvD → Mo α} {k : ν → TX μ} {fk : α → EnvD → Mo β} (ha : Ev mg W O ta R fa)
    (hk : ∀ B H0 G0 σ H G ρ b Q r b' x a, StOk B O H0 G0 σ H G ρ b → R B G x a → fk a ρ b = some (r, b') → Post mg W B σ H G R' Q r b' → k x σ H Q) :
    Ev mg W O (fun σ H Q => ta σ H fun x H1 => k x σ H1 Q) R' (fun ρ => mBind (fa ρ) fun a => fk a ρ) := by
  intro B H0 G0 σ H G ρ b Q r b' I e p
  simp only [mBind] at e
  cases hx : fa ρ b with
  | none => rw [hx] at e; cases e
  | some q =>
    obtain ⟨q, b1⟩ := q
    rw [hx] at e
    cases q with
    | error er =>
      simp only [Option.some.injEq, Prod.mk.injEq] at e
      obtain ⟨rfl, rfl⟩ := e
      exact ha B H0 G0 σ H G ρ b _ _ _ I hx (Post.err (R := R') (Q := Q) p)
    | ok a =>
      simp only at e
      exact ha B H0 G0 σ H G ρ b _ _ _ I hx fun v H1 G1 y q => hk B H0 G0 σ H1 G1 ρ b1 Q r b' v a (I.step y) q e (p.after y)
end

/-! ### expressions, tests, arguments -/
def DE (X : Cx) (W : WX) (O : List Nat) (e : Expr) (f : EnvD → Mo Dt) : Prop := ∃ t, PE X e t ∧ Ev X.mg W O t RD f
def DT (X : Cx) (W : WX) (O : List Nat) (e : Expr) (f : EnvD → Mo Bool) : Prop := ∃ t, PT X e t ∧ Ev X.mg W O t RB f
def DS (X : Cx) (W : WX) (O : List Nat) (e : Expr) (f : EnvD → Mo Sl) : Prop := ∃ t, PE X e t ∧ Ev X.mg W O t RS f
def DA (X : Cx) (W : WX) (O : List Nat) (es : List Expr) (f : EnvD → Mo (List Sl)) : Prop := ∃ t, PA X es t ∧ Ev X.mg W O t RSs f

section
variable {X : Cx} {W : WX} {O : List Nat}
/-- a name -/
def mVar (i : Nat) (ρ : EnvD) : Mo Dt := mOpt (match ρ[i]? with | some (some (.d x)) => some x | _ => none)
theorem ev_var {i : Nat} (hi : i ∉ O) : Ev X.mg W O (tVar i) RD (mVar i) := by
  intro B H0 G0 σ H G ρ b Q r b' I e p
  unfold mVar mOpt at e
  split at e
  · rename_i x hx
    simp only [Option.map_some, Option.some.injEq, Prod.mk.injEq] at e
    obtain ⟨rfl, rfl⟩ := e
    obtain ⟨v, h1, h2⟩ := I.sl i _ hi hx
    exact ⟨v, h1, p v H G I.refl h2⟩
  · cases e
theorem de_var {i : Nat} {x : Str} {pos : Pos} (h : PE X (.Name x pos) (tVar i)) (hi : i ∉ O := by decide) : DE X W O (.Name x pos) (mVar i) := ⟨_, h, ev_var hi⟩
/-- a name, with the source of draws too -/
def mSl (i : Nat) (ρ : EnvD) : Mo Sl := mOpt (match ρ[i]? with | some (some x) => some x | _ => none)
theorem ev_sl {i : Nat} (hi : i ∉ O) : Ev X.mg W O (tVar i) RS (mSl i) := by
  intro B H0 G0 σ H G ρ b Q r b' I e p
  unfold mSl mOpt at e
  split at e
  · rename_i x hx
    simp only [Option.map_some, Option.some.injEq, Prod.mk.injEq] at e
    obtain ⟨rfl, rfl⟩ := e
    obtain ⟨v, h1, h2⟩ := I.sl i _ hi hx
    exact ⟨v, h1, p v H G I.refl h2⟩
  · cases e
theorem ds_var {i : Nat} {x : Str} {pos : Pos} (h : PE X (.Name x pos) (tVar i)) (hi : i ∉ O := by decide) : DS X W O (.Name x pos) (mSl i) := ⟨_, h, ev_sl hi⟩
def mD (f : EnvD → Mo Dt) (ρ : EnvD) : Mo Sl := mBind (f ρ) fun d => mOk (.d d)
theorem ds_d {e : Expr} {f : EnvD → Mo Dt} (h : DE X W O e f) : DS X W O e (mD f) := by
  obtain ⟨t, h1, h2⟩ := h
  refine ⟨t, h1, fun B H0 G0 σ H G ρ b Q r b' I e p => ?_⟩
  simp only [mD, mBind, mOk] at e
  cases hx : f ρ b with
  | none => rw [hx] at e; cases e
  | some q =>
    obtain ⟨q, b1⟩ := q
    rw [hx] at e
    cases q with
    | error er =>
      simp only [Option.some.injEq, Prod.mk.injEq] at e
      obtain ⟨rfl, rfl⟩ := e
      exact h2 B H0 G0 σ H G ρ b _ _ _ I hx p
    | ok a =>
      simp only [Option.some.injEq, Prod.mk.injEq] at e
      obtain ⟨rfl, rfl⟩ := e
      exact h2 B H0 G0 σ H G ρ b _ _ _ I hx fun v H' G' y q => p v H' G' y q
/-- constants -/
def mC (d : Dt) : EnvD → Mo Dt := fun _ => mOk d
theorem ev_c {v : V} {d : Dt} (h : ∀ G, Rp G v d) : Ev X.mg W O (tC v) RD (mC d) := by
  intro B H0 G0 σ H G ρ b Q r b' I e p
  simp only [mC, mOk, Option.some.injEq, Prod.mk.injEq] at e
  obtain ⟨rfl, rfl⟩ := e
  exact p v H G I.refl (h G)
theorem de_int {i j pos} : DE X W O (.Constant (.int i) j pos) (mC (.int i)) := ⟨_, pe_int, ev_c fun _ => .int i⟩
theorem de_bl {i j pos} : DE X W O (.Constant (.bool i) j pos) (mC (.bool i)) := ⟨_, pe_bl, ev_c fun _ => .bl i⟩
theorem de_non {j pos} : DE X W O (.Constant .none j pos) (mC .none) := ⟨_, pe_non, ev_c fun _ => .non⟩
theorem de_str {i j pos} : DE X W O (.Constant (.str i) j pos) (mC (.str i)) := ⟨_, pe_str, ev_c fun _ => .str i⟩

/-! arguments -/
def mNil : EnvD → Mo (List Sl) := fun _ => mOk []
def mCons (f : EnvD → Mo Sl) (g : EnvD → Mo (List Sl)) (ρ : EnvD) : Mo (List Sl) := mBind (f ρ) fun s => mBind (g ρ) fun ss => mOk (s :: ss)
theorem da_nil : DA X W O [] mNil := ⟨_, pa_nil, fun B H0 G0 σ H G ρ b Q r b' I e p => by
  simp only [mNil, mOk, Option.some.injEq, Prod.mk.injEq] at e
  obtain ⟨rfl, rfl⟩ := e
  exact p [] H G I.refl .nil⟩
theorem ev_cons {te : TE} {ta : TA} {f : EnvD → Mo Sl} {g : EnvD → Mo (List Sl)} (h : Ev X.mg W O te RS f) (h' : Ev X.mg W O ta RSs g) : Ev X.mg W O (tCons te ta) RSs (mCons f g) := by
  refine Ev.bind (k := fun x σ H1 Q => ta σ H1 fun xs H2 => Q (x :: xs) H2) (fk := fun s ρ => mBind (g ρ) fun ss => mOk (s :: ss)) h fun B H0 G0 σ H G ρ b Q r b' x s I rs e p => ?_
  simp only [mBind, mOk] at e
  cases hx : g ρ b with
  | none => rw [hx] at e; cases e
  | some q =>
    obtain ⟨q, b1⟩ := q
    rw [hx] at e
    cases q with
    | error er =>
      simp only [Option.some.injEq, Prod.mk.injEq] at e
      obtain ⟨rfl, rfl⟩ := e
      exact h' B H0 G0 σ H G ρ b _ _ _ I hx p
    | ok a =>
      simp only [Option.some.injEq, Prod.mk.injEq] at e
      obtain ⟨rfl, rfl⟩ := e
      exact h' B H0 G0 σ H G ρ b _ _ _ I hx fun v H' G' y q => p _ H' G' y (.cons (rs.mono y.grow) q)
theorem da_cons {e : Expr} {es : List Expr} {f : EnvD → Mo Sl} {g : EnvD → Mo (List Sl)} (h : DS X W O e f) (h' : DA X W O es g) (hs : starEach (e :: es) X.env = (false, eval e X.env) :: starEach es X.env := by rfl) : DA X W O (e :: es) (mCons f g) := by
  obtain ⟨t, h1, h2⟩ := h
  obtain ⟨u, k1, k2⟩ := h'
  exact ⟨_, pa_cons h1 k1 hs, ev_cons h2 k2⟩
/-- all arguments are data -/
def dats : List Sl → Option (List Dt)
  | [] => some []
  | .d x :: r => (dats r).map (x :: ·)
  | .box :: _ => none
  | .scr _ _ :: _ => none
theorem RSs.dats {B : Option Addr} {G : Hp} : ∀ {vs : List V} {ss : List Sl} {ds : List Dt}, RSs B G vs ss → dats ss = some ds → RpAll G vs ds
  | _, _, ds, .nil, e => by simp [DL.dats] at e; subst e; exact .nil
  | _, _, ds, .cons (s := .d x) h t, e => by
    simp only [DL.dats] at e
    cases hd : DL.dats _ with
    | none => rw [hd] at e; cases e
    | some es => rw [hd] at e; simp at e; subst e; exact .cons h (RSs.dats t hd)
  | _, _, ds, .cons (s := .box) h t, e => by simp [DL.dats] at e
  | _, _, ds, .cons (s := .scr _ _) h t, e => by simp [DL.dats] at e
/-- a display -/
def mTup (g : EnvD → Mo (List Sl)) (ρ : EnvD) : Mo Dt := mBind (g ρ) fun ss => mOpt ((dats ss).bind fun ds => if ds.length ≤ sizeLine then some (.tuple ds) else none)
def mLst (g : EnvD → Mo (List Sl)) (ρ : EnvD) : Mo Dt := mBind (g ρ) fun ss => mOpt ((dats ss).bind fun ds => if ds.length ≤ sizeLine then some (.list ds) else none)
theorem de_tup {es : List Expr} {g : EnvD → Mo (List Sl)} {x1 pos} (h : DA X W O es g) : DE X W O (.Tuple es x1 pos) (mTup g) := by
  obtain ⟨t, h1, h2⟩ := h
  refine ⟨_, pe_tup h1, Ev.bind (k := fun (xs : List V) (σ : L2.St) (H1 : Hp) (Q : VK) => xs.length ≤ sizeLine ∧ ∀ p, H1 p = none → Q (V.ref p) (upd H1 p (HO.tup xs))) (fk := fun ss ρ => mOpt ((dats ss).bind fun ds => if ds.length ≤ sizeLine then some (PyData.tuple ds) else none)) h2 fun B H0 G0 σ H G ρ b Q r b' x s I rs e p => ?_⟩
  simp only [mOpt] at e
  cases hd : dats s with
  | none => rw [hd] at e; cases e
  | some ds =>
    rw [hd] at e
    simp only [Option.bind_some] at e
    have ra := rs.dats hd
    split at e
    · rename_i hl
      simp only [Option.map_some, Option.some.injEq, Prod.mk.injEq] at e
      obtain ⟨rfl, rfl⟩ := e
      have hx : x.length ≤ sizeLine := by rw [ra.length]; exact hl
      exact ⟨hx, fun q hq => p _ _ _ (Stp.add I.sub I.box hq) (.tup upd_same hx (ra.mono (Stp.add I.sub I.box hq (o := .tup x) (b := b)).grow))⟩
    · cases e
theorem de_lst {es : List Expr} {g : EnvD → Mo (List Sl)} {pos} (h : DA X W O es g) : DE X W O (.List es pos) (mLst g) := by
  obtain ⟨t, h1, h2⟩ := h
  refine ⟨_, pe_lst h1, Ev.bind (k := fun (xs : List V) (σ : L2.St) (H1 : Hp) (Q : VK) => xs.length ≤ sizeLine ∧ ∀ p, H1 p = none → Q (V.ref p) (upd H1 p (HO.lst xs))) (fk := fun ss ρ => mOpt ((dats ss).bind fun ds => if ds.length ≤ sizeLine then some (PyData.list ds) else none)) h2 fun B H0 G0 σ H G ρ b Q r b' x s I rs e p => ?_⟩
  simp only [mOpt] at e
  cases hd : dats s with
  | none => rw [hd] at e; cases e
  | some ds =>
    rw [hd] at e
    simp only [Option.bind_some] at e
    have ra := rs.dats hd
    split at e
    · rename_i hl
      simp only [Option.map_some, Option.some.injEq, Prod.mk.injEq] at e
      obtain ⟨rfl, rfl⟩ := e
      have hx : x.length ≤ sizeLine := by rw [ra.length]; exact hl
      exact ⟨hx, fun q hq => p _ _ _ (Stp.add I.sub I.box hq) (.lst upd_same hx (ra.mono (Stp.add I.sub I.box hq (o := .lst x) (b := b)).grow))⟩
    · cases e
end
end DL
set_option maxRecDepth 100000
set_option maxHeartbeats 4000000
namespace DL
open PySem PySem.Spec PyProof.Rows L2
/-! ### tuple * 1: the same object -/
theorem tuple_mul1 (l : Addr) (items : Array Value) (n : Nat) (dd : Option Addr) (sl : Array (Option Value)) (u : Tok) :
    Meets (Builtin.«tuple.__mul__» ⟨[.ref l, .int 1 u], []⟩) (fun _ R s => s.heap.get? l = some { cls := .type "tuple", dict := dd, data := .seq items n, slots := sl } ∧ R (.ok (.ret (Value.ref l))) s) :=
  .of_wp fun prog w A R s h => by
    obtain ⟨hp, g, d, tk, os⟩ := s
    obtain ⟨hl, h⟩ := h
    have f1 := AutoSeq1.idx_int
    have hc1 : (items.isEmpty || (1 : Int) == 1) = true := by simp
    wp_walk using wpAny_loadPart' hl
    exact ⟨_, rfl, h⟩
def rRep1 (K : PySem.W.Frag) : R2 := fun x y H Q => ∃ l xs, x = .ref l ∧ y = .int 1 ∧ SqT K H l xs ∧ Q x H
section
variable {X : Cx}
theorem op_rep1 : OpR X (binaryOp .Mult) (rRep1 X.K) := by
  intro pins s σ H x y v u Q I rx ry h
  obtain ⟨l, xs, rfl, rfl, hT, q⟩ := h
  cases rx
  obtain ⟨t, rfl⟩ := ry
  obtain ⟨its, r, ⟨⟨cls, dd, data, sl⟩, ho, hc, n, hd⟩, hs⟩ := I.tuple hT
  simp only at hc hd
  subst hc hd
  refine wpAny_binaryOp_repeat_ref (T := "tuple") (U := "int") (by decide) ⟨_, ho, rfl⟩ (fun s' => typeIs_int s' 1 t) noFill_tuple_mul F.fills_int_mul F.slot_int_rmul repeat_tuple F.slot_int_index.lookup
    (call_meets F.slot_int_rmul (typeIs_int s 1 t) F.entry_int_rmul (F.args_int_rmul_2 _ _) (int_rmul_tuple 1 t l its.toArray n dd sl)
      ⟨ho, rfl, ⟨_, ho, rfl⟩, call_meets F.slot_tuple_mul ⟨_, ho, rfl⟩ F.entry_tuple_mul (F.args_tuple_mul_2 _ _) (tuple_mul1 l its.toArray n dd sl t) ⟨ho, ?_⟩⟩)
  exact ⟨.ref l, H, I, rfl, q⟩
end
end DL
set_option maxRecDepth 100000
set_option maxHeartbeats 1000000
namespace DL
open PySem PySem.Spec PyProof.Rows L2

section
variable {X : Cx} {W : WX} {O : List Nat}

/-! ### one answer behind another -/
/-- what follows an answer: an operation by values -/
def OneOk {α ν : Type} (R : Option Addr → Hp → ν → α → Prop) (k : ν → Hp → VK → Prop) (op : α → Option Dt) : Prop := ∀ B H G x d b c Q, Same G H → BoxAt B H G b → R B G x d → op d = some c → (∀ v H' G', Stp B H G H' G' b → Rp G' v c → Q v H') → k x H Q
def mThen {α : Type} (f : EnvD → Mo α) (op : α → Option Dt) (ρ : EnvD) : Mo Dt := mBind (f ρ) fun x => mOpt (op x)
theorem ev_one {α ν : Type} {mg : Mg} {R : Option Addr → Hp → ν → α → Prop} {t : TX ν} {f : EnvD → Mo α} {k : ν → Hp → VK → Prop} {op : α → Option Dt} (ho : OneOk R k op) (h : Ev mg W O t R f) : Ev mg W O (fun σ H Q => t σ H fun x H1 => k x H1 Q) RD (mThen f op) := by
  refine Ev.bind (k := fun x σ H1 Q => k x H1 Q) (fk := fun x ρ => mOpt (op x)) h fun B H0 G0 σ H G ρ b Q q b' x d I rd e p => ?_
  simp only [mOpt] at e
  cases hc : op d with
  | none => rw [hc] at e; cases e
  | some c =>
    rw [hc] at e
    simp only [Option.map_some, Option.some.injEq, Prod.mk.injEq] at e
    obtain ⟨rfl, rfl⟩ := e
    exact ho B H G x d b c Q I.sub I.box rd hc p
/-- the same, the answer a truth value of a test -/
def OneB {α ν : Type} (R : Option Addr → Hp → ν → α → Prop) (k : ν → Hp → (Bool → Hp → Prop) → Prop) (op : α → Option Bool) : Prop := ∀ B H G x d b c Q, Same G H → BoxAt B H G b → R B G x d → op d = some c → Q c H → k x H Q
def mThenB {α : Type} (f : EnvD → Mo α) (op : α → Option Bool) (ρ : EnvD) : Mo Bool := mBind (f ρ) fun x => mOpt (op x)
theorem ev_oneB {α ν : Type} {mg : Mg} {R : Option Addr → Hp → ν → α → Prop} {t : TX ν} {f : EnvD → Mo α} {k : ν → Hp → (Bool → Hp → Prop) → Prop} {op : α → Option Bool} (ho : OneB R k op) (h : Ev mg W O t R f) : Ev mg W O (fun σ H Q => t σ H fun x H1 => k x H1 Q) RB (mThenB f op) := by
  refine Ev.bind (k := fun x σ H1 Q => k x H1 Q) (fk := fun x ρ => mOpt (op x)) h fun B H0 G0 σ H G ρ b Q q b' x d I rd e p => ?_
  simp only [mOpt] at e
  cases hc : op d with
  | none => rw [hc] at e; cases e
  | some c =>
    rw [hc] at e
    simp only [Option.map_some, Option.some.injEq, Prod.mk.injEq] at e
    obtain ⟨rfl, rfl⟩ := e
    exact ho B H G x d b c Q I.sub I.box rd hc (p c H G I.refl rfl)

/-! ### an operator by values -/
def OpOk (r : R2) (op : Dt → Dt → Option Dt) : Prop := ∀ B H G x y d e b c Q, Same G H → BoxAt B H G b → Rp G x d → Rp G y e → op d e = some c → (∀ v H' G', Stp B H G H' G' b → Rp G' v c → Q v H') → r x y H Q
def mBin (op : Dt → Dt → Option Dt) (fa fb : EnvD → Mo Dt) (ρ : EnvD) : Mo Dt := mBind (fa ρ) fun x => mBind (fb ρ) fun y => mOpt (op x y)
theorem ev_bin {r : R2} {op : Dt → Dt → Option Dt} {ta tb : TE} {fa fb : EnvD → Mo Dt} (ho : OpOk r op) (ha : Ev X.mg W O ta RD fa) (hb : Ev X.mg W O tb RD fb) : Ev X.mg W O (tOp r ta tb) RD (mBin op fa fb) := by
  refine Ev.bind (k := fun x σ H1 Q => tb σ H1 fun y H2 => r x y H2 Q) (fk := fun x ρ => mBind (fb ρ) fun y => mOpt (op x y)) ha fun B H0 G0 σ H G ρ b Q q b' x d I rd e p => ?_
  simp only [mBind] at e
  cases hx : fb ρ b with
  | none => rw [hx] at e; cases e
  | some u =>
    obtain ⟨u, b1⟩ := u
    rw [hx] at e
    cases u with
    | error er =>
      simp only [Option.some.injEq, Prod.mk.injEq] at e
      obtain ⟨rfl, rfl⟩ := e
      exact hb B H0 G0 σ H G ρ b _ _ _ I hx p
    | ok a =>
      simp only [mOpt] at e
      cases hc : op d a with
      | none => rw [hc] at e; cases e
      | some c =>
        rw [hc] at e
        simp only [Option.map_some, Option.some.injEq, Prod.mk.injEq] at e
        obtain ⟨rfl, rfl⟩ := e
        exact hb B H0 G0 σ H G ρ b _ _ _ I hx fun y H1 G1 s1 r1 => ho B H1 G1 x y d a b1 c Q s1.sub s1.box (Rp.mono s1.grow rd) r1 hc fun v H' G' s2 r2 => p v H' G' (s1.trans s2) r2
theorem OpOk.or {r r' : R2} {op op' : Dt → Dt → Option Dt} (h : OpOk r op) (h' : OpOk r' op') : OpOk (fun x y H Q => r x y H Q ∨ r' x y H Q) (fun d e => (op d e).or (op' d e)) := by
  intro B H G x y d e b c Q s bx rx ry hc q
  simp only at hc
  cases h1 : op d e with
  | some z =>
    simp only [h1, Option.some_or, Option.some.injEq] at hc
    subst hc
    exact .inl (h B H G x y d e b _ Q s bx rx ry h1 q)
  | none =>
    simp only [h1, Option.none_or] at hc
    exact .inr (h' B H G x y d e b _ Q s bx rx ry hc q)
/-- an operation of two ints -/
def opII (g : Int → Int → Option Dt) : Dt → Dt → Option Dt
  | .int i, .int j => g i j
  | _, _ => none
theorem opII_inv {g : Int → Int → Option Dt} {d e c : Dt} (h : opII g d e = some c) : ∃ i j, d = .int i ∧ e = .int j ∧ g i j = some c := by
  unfold opII at h
  split at h
  · exact ⟨_, _, rfl, rfl, h⟩
  · cases h
theorem ok_rI0 {g : Int → Int → V} {k : Int → Int → Dt} (hg : ∀ i j G, Rp G (g i j) (k i j)) : OpOk (rI0 g) (opII fun i j => some (k i j)) := by
  intro B H G x y d e b c Q s bx rx ry hc q
  obtain ⟨i, j, rfl, rfl, h⟩ := opII_inv hc
  cases h
  exact ⟨i, j, rx.inv_int, ry.inv_int, q _ H G (.refl s bx) (hg i j G)⟩
theorem ok_rI {C : Int → Int → Prop} [∀ i j, Decidable (C i j)] {g : Int → Int → V} {k : Int → Int → Dt} (hg : ∀ i j G, Rp G (g i j) (k i j)) : OpOk (rI C g) (opII fun i j => if C i j then some (k i j) else none) := by
  intro B H G x y d e b c Q s bx rx ry hc q
  obtain ⟨i, j, rfl, rfl, h⟩ := opII_inv hc
  split at h
  · rename_i hC
    cases h
    exact ⟨i, j, rx.inv_int, ry.inv_int, hC, q _ H G (.refl s bx) (hg i j G)⟩
  · cases h
/-- + of two lists, of two tuples -/
def catL : Dt → Dt → Option Dt
  | .list xs, .list ys => if xs.length + ys.length ≤ sizeLine then some (.list (xs ++ ys)) else none
  | _, _ => none
def catT : Dt → Dt → Option Dt
  | .tuple xs, .tuple ys => if xs.length + ys.length ≤ sizeLine then some (.tuple (xs ++ ys)) else none
  | _, _ => none
theorem ok_cat : OpOk rCat catL := by
  intro B H G x y d e b c Q s bx rx ry hc q
  unfold catL at hc
  split at hc
  · rename_i ds es
    split at hc
    · rename_i hl
      cases hc
      obtain ⟨l, xs, rfl, h1, h2, h3⟩ := rx.inv_list
      obtain ⟨m, ys, rfl, k1, k2, k3⟩ := ry.inv_list
      have hz : xs.length + ys.length ≤ sizeLine := by rw [h3.length, k3.length]; exact hl
      refine ⟨l, m, xs, ys, rfl, rfl, s _ _ h1, s _ _ k1, hz, fun p hp => q _ _ _ (Stp.add s bx hp) (.lst upd_same (by rw [List.length_append]; exact hz) ?_)⟩
      exact (h3.append k3).mono (Stp.add s bx hp (o := .lst (xs ++ ys)) (b := b)).grow
    · cases hc
  · cases hc
theorem ok_catT {K : PySem.W.Frag} : OpOk (rCatA K) catT := by
  intro B H G x y d e b c Q s bx rx ry hc q
  unfold catT at hc
  split at hc
  · rename_i ds es
    split at hc
    · rename_i hl
      cases hc
      have rx0 := rx
      have ry0 := ry
      obtain ⟨l, xs, rfl, h1, h2, h3⟩ := rx.inv_tup
      obtain ⟨m, ys, rfl, k1, k2, k3⟩ := ry.inv_tup
      have hz : xs.length + ys.length ≤ sizeLine := by rw [h3.length, k3.length]; exact hl
      have whole : ∀ p, H p = none → Q (.ref p) (upd H p (.tup (xs ++ ys))) := fun p hp => q _ _ _ (Stp.add s bx hp) (.tup upd_same (by rw [List.length_append]; exact hz) ((h3.append k3).mono (Stp.add s bx hp (o := .tup (xs ++ ys)) (b := b)).grow))
      refine ⟨l, m, xs, ys, rfl, rfl, SqT.of (s _ _ h1), SqT.of (s _ _ k1), hz, fun hx => ?_, fun _ hy => ?_, fun _ _ => whole⟩
      · subst hx
        have e0 : ds = [] := by have := h3.length; simpa using this.symm
        subst e0
        exact q _ H G (.refl s bx) (by simpa using ry0)
      · subst hy
        have e0 : es = [] := by have := k3.length; simpa using this.symm
        subst e0
        exact q _ H G (.refl s bx) (by simpa using rx0)
    · cases hc
  · cases hc
def opSS (g : Str → Str → Option Dt) : Dt → Dt → Option Dt
  | .str i, .str j => g i j
  | _, _ => none
def catS : Dt → Dt → Option Dt := opSS fun i j => if i.length + j.length ≤ sizeLine then some (.str (i ++ j)) else none
theorem ok_catS : OpOk (fun x y H Q => ∃ i j, x = .str i ∧ y = .str j ∧ i.length + j.length ≤ sizeLine ∧ Q (.str (i ++ j)) H) catS := by
  intro B H G x y d e b c Q s bx rx ry hc q
  unfold catS opSS at hc
  split at hc
  · rename_i i j
    dsimp only at hc
    split at hc
    · rename_i hl
      cases hc
      exact ⟨i, j, rx.inv_str, ry.inv_str, hl, q _ H G (.refl s bx) (.str _)⟩
    · cases hc
  · cases hc
/-- a + b: ints, lists, tuples, texts -/
def addD : Dt → Dt → Option Dt := fun d e => (opII (fun i j => some (.int (i + j))) d e).or ((fun d e => (catL d e).or ((fun d e => (catT d e).or (catS d e)) d e)) d e)
theorem de_add {a b' : Expr} {fa fb : EnvD → Mo Dt} {pos} (ha : DE X W O a fa) (hb : DE X W O b' fb) : DE X W O (.BinOp a .Add b' pos) (mBin addD fa fb) := by
  obtain ⟨ta, a1, a2⟩ := ha
  obtain ⟨tb, b1, b2⟩ := hb
  exact ⟨_, pe_op (op_add.or (op_cat.or (op_catA.or op_add_str))) a1 b1, ev_bin ((ok_rI0 fun i j G => .int (i + j)).or (ok_cat.or (ok_catT.or ok_catS))) a2 b2⟩
def subD : Dt → Dt → Option Dt := opII fun i j => some (.int (i - j))
theorem de_sub {a b' : Expr} {fa fb : EnvD → Mo Dt} {pos} (ha : DE X W O a fa) (hb : DE X W O b' fb) : DE X W O (.BinOp a .Sub b' pos) (mBin subD fa fb) := by
  obtain ⟨ta, a1, a2⟩ := ha
  obtain ⟨tb, b1, b2⟩ := hb
  exact ⟨_, pe_op op_sub a1 b1, ev_bin (ok_rI0 fun i j G => .int (i - j)) a2 b2⟩
instance (i j : Int) : Decidable (CMul i j) := by unfold CMul; infer_instance
instance (i j : Int) : Decidable (CPow i j) := by unfold CPow; infer_instance
instance (i j : Int) : Decidable (CDiv i j) := by unfold CDiv; infer_instance
/-- a list repeated -/
def repL : Dt → Dt → Option Dt
  | .list xs, .int k => if -(2 ^ 63) ≤ k ∧ k < 2 ^ 63 ∧ xs.length * k.toNat ≤ sizeLine then some (.list (List.replicate k.toNat xs).flatten) else none
  | _, _ => none
theorem RpAll.rep {G : Hp} {vs : List V} {ds : List Dt} (h : RpAll G vs ds) : ∀ k, RpAll G (List.replicate k vs).flatten (List.replicate k ds).flatten
  | 0 => by simpa using RpAll.nil
  | k + 1 => by
    rw [List.replicate_succ, List.replicate_succ, List.flatten_cons, List.flatten_cons]
    exact h.append (RpAll.rep h k)
theorem flat_rep_len {α : Type} (xs : List α) : ∀ k : Nat, (List.replicate k xs).flatten.length = xs.length * k
  | 0 => by simp
  | k + 1 => by rw [List.replicate_succ, List.flatten_cons, List.length_append, flat_rep_len xs k, Nat.mul_succ, Nat.add_comm]
theorem ok_rep : OpOk rRep repL := by
  intro B H G x y d e b c Q s bx rx ry hc q
  unfold repL at hc
  split at hc
  · rename_i ds k
    split at hc
    · rename_i hl
      obtain ⟨h0, h1, h2⟩ := hl
      cases hc
      obtain ⟨l, xs, rfl, k1, k2, k3⟩ := rx.inv_list
      have hz : xs.length * k.toNat ≤ sizeLine := by rw [k3.length]; exact h2
      refine ⟨l, k, xs, rfl, ry.inv_int, s _ _ k1, h0, h1, hz, fun p hp => q _ _ _ (Stp.add s bx hp) (.lst upd_same (by rw [flat_rep_len]; exact hz) ?_)⟩
      exact (k3.rep _).mono (Stp.add s bx hp (o := .lst (List.replicate k.toNat xs).flatten) (b := b)).grow
    · cases hc
  · cases hc
def repT : Dt → Dt → Option Dt
  | .tuple xs, .int k => if xs ≠ [] ∧ 2 ≤ k ∧ k ≤ 1000 ∧ xs.length ≤ 1000 then some (.tuple (List.replicate k.toNat xs).flatten) else none
  | _, _ => none
instance (xs : List Dt) : Decidable (xs ≠ []) := match xs with
  | [] => isFalse fun h => h rfl
  | _ :: _ => isTrue fun h => nomatch h
theorem ok_repT {K : PySem.W.Frag} : OpOk (rRepT K) repT := by
  intro B H G x y d e b c Q s bx rx ry hc q
  unfold repT at hc
  split at hc
  · rename_i ds k
    by_cases hl : ds ≠ [] ∧ 2 ≤ k ∧ k ≤ 1000 ∧ ds.length ≤ 1000
    · rw [if_pos hl] at hc
      obtain ⟨h0, h1, h2, h3⟩ := hl
      cases hc
      obtain ⟨l, xs, rfl, k1, k2, k3⟩ := rx.inv_tup
      have hx : xs.length = ds.length := k3.length
      refine ⟨l, k, xs, rfl, ry.inv_int, SqT.of (s _ _ k1), fun z => h0 (List.eq_nil_of_length_eq_zero (by rw [← hx, z]; rfl)), h1, h2, by omega, fun p hp => q _ _ _ (Stp.add s bx hp) (.tup upd_same ?_ ?_)⟩
      · rw [flat_rep_len, sizeLine_eq]
        have a1 : xs.length * k.toNat ≤ 1000 * 1000 := Nat.mul_le_mul (by omega) (by omega)
        omega
      · exact (k3.rep _).mono (Stp.add s bx hp (o := .tup (List.replicate k.toNat xs).flatten) (b := b)).grow
    · rw [if_neg hl] at hc; cases hc
  · cases hc
def repT1 : Dt → Dt → Option Dt
  | .tuple xs, .int k => if k = 1 then some (.tuple xs) else none
  | _, _ => none
theorem ok_repT1 {K : PySem.W.Frag} : OpOk (rRep1 K) repT1 := by
  intro B H G x y d e b c Q s bx rx ry hc q
  unfold repT1 at hc
  split at hc
  · rename_i ds k
    by_cases hl : k = 1
    · rw [if_pos hl] at hc
      cases hc
      subst hl
      have rx0 := rx
      obtain ⟨l, xs, rfl, k1, k2, k3⟩ := rx.inv_tup
      exact ⟨l, xs, rfl, ry.inv_int, SqT.of (s _ _ k1), q _ H G (.refl s bx) rx0⟩
    · rw [if_neg hl] at hc; cases hc
  · cases hc
def mulI : Dt → Dt → Option Dt := opII fun i j => if CMul i j then some (.int (i * j)) else none
def mulD : Dt → Dt → Option Dt := fun d e => (mulI d e).or ((repL d e).or ((repT d e).or (repT1 d e)))
theorem de_mul {a b' : Expr} {fa fb : EnvD → Mo Dt} {pos} (ha : DE X W O a fa) (hb : DE X W O b' fb) : DE X W O (.BinOp a .Mult b' pos) (mBin mulD fa fb) := by
  obtain ⟨ta, a1, a2⟩ := ha
  obtain ⟨tb, b1, b2⟩ := hb
  exact ⟨_, pe_op (op_mul.or (op_rep.or (op_repT.or op_rep1))) a1 b1, ev_bin ((ok_rI fun i j G => .int (i * j)).or (ok_rep.or (ok_repT.or ok_repT1))) a2 b2⟩
def modD : Dt → Dt → Option Dt := opII fun i j => if 0 < j then some (.int (i % j)) else none
theorem de_mod {a b' : Expr} {fa fb : EnvD → Mo Dt} {pos} (ha : DE X W O a fa) (hb : DE X W O b' fb) : DE X W O (.BinOp a .Mod b' pos) (mBin modD fa fb) := by
  obtain ⟨ta, a1, a2⟩ := ha
  obtain ⟨tb, b1, b2⟩ := hb
  exact ⟨_, pe_op op_mod a1 b1, ev_bin (ok_rI (C := fun _ j => 0 < j) fun i j G => .int (i % j)) a2 b2⟩
def divD : Dt → Dt → Option Dt := opII fun i j => if CDiv i j then some (.int (i / j)) else none
theorem de_fdiv {a b' : Expr} {fa fb : EnvD → Mo Dt} {pos} (ha : DE X W O a fa) (hb : DE X W O b' fb) : DE X W O (.BinOp a .FloorDiv b' pos) (mBin divD fa fb) := by
  obtain ⟨ta, a1, a2⟩ := ha
  obtain ⟨tb, b1, b2⟩ := hb
  exact ⟨_, pe_op op_fdiv a1 b1, ev_bin (ok_rI fun i j G => .int (i / j)) a2 b2⟩
/-- -a -/
def negD : Dt → Option Dt
  | .int i => some (.int (-i))
  | _ => none
theorem de_neg {a : Expr} {fa : EnvD → Mo Dt} {pos} (ha : DE X W O a fa) : DE X W O (.UnaryOp .USub a pos) (mThen fa negD) := by
  obtain ⟨ta, a1, a2⟩ := ha
  refine ⟨_, pe_un un_neg a1, ev_one (R := RD) (k := fun x H Q => rU (fun i => .int (-i)) x H Q) (fun B H G x d b c Q s bx rd hc q => ?_) a2⟩
  unfold negD at hc
  split at hc
  · cases hc
    exact ⟨_, Rp.inv_int rd, q _ H G (.refl s bx) (.int _)⟩
  · cases hc
end
end DL
set_option maxRecDepth 100000
set_option maxHeartbeats 1000000
namespace DL
open PySem PySem.Spec PyProof.Rows L2

section
variable {X : Cx} {W : WX} {O : List Nat}
theorem Rp.dp' {K : PySem.W.Frag} {G H : Hp} {v : V} {d : Dt} (h : Rp G v d) (s : Same G H) : Dp K H v d := Rp.dp s h

/-! ### comparisons: as values -/
def eqD (d e : Dt) : Option Dt := if SeqAt.shaped d = true ∧ SeqAt.shaped e = true then some (.bool (PyData.eqv d e)) else none
def neD (d e : Dt) : Option Dt := if SeqAt.shaped d = true ∧ SeqAt.shaped e = true then some (.bool (!PyData.eqv d e)) else none
theorem ok_eqD {K : PySem.W.Frag} : OpOk (rEqD K) eqD := by
  intro B H G x y d e b c Q s bx rx ry hc q
  unfold eqD at hc
  split at hc
  · rename_i h
    cases hc
    exact ⟨d, e, rx.dp' s, ry.dp' s, h.1, h.2, q _ H G (.refl s bx) (.bl _)⟩
  · cases hc
theorem ok_neD {K : PySem.W.Frag} : OpOk (rNeD K) neD := by
  intro B H G x y d e b c Q s bx rx ry hc q
  unfold neD at hc
  split at hc
  · rename_i h
    cases hc
    exact ⟨d, e, rx.dp' s, ry.dp' s, h.1, h.2, q _ H G (.refl s bx) (.bl _)⟩
  · cases hc
theorem de_cmp {op : CmpOp} {r : R2} {f : Dt → Dt → Option Dt} {a b' : Expr} {fa fb : EnvD → Mo Dt} {pos} (ho : OpR X (compareOp op) r) (hf : OpOk r f) (ha : DE X W O a fa) (hb : DE X W O b' fb) (hm : behindInMarks op b' = false) : DE X W O (.Compare a [op] [b'] pos) (mBin f fa fb) := by
  obtain ⟨ta, a1, a2⟩ := ha
  obtain ⟨tb, b1, b2⟩ := hb
  exact ⟨_, pe_cmpR ho a1 b1 hm, ev_bin hf a2 b2⟩
theorem de_eq {a b' : Expr} {fa fb : EnvD → Mo Dt} {pos} {k : Nat} (hr : Room k X.A) (ha : DE X W O a fa) (hb : DE X W O b' fb) : DE X W O (.Compare a [.Eq] [b'] pos) (mBin eqD fa fb) := de_cmp (op_eqD hr.units) ok_eqD ha hb (nomark _)
theorem de_ne {a b' : Expr} {fa fb : EnvD → Mo Dt} {pos} {k : Nat} (hr : Room k X.A) (ha : DE X W O a fa) (hb : DE X W O b' fb) : DE X W O (.Compare a [.NotEq] [b'] pos) (mBin neD fa fb) := de_cmp (op_neD hr.units) ok_neD ha hb (nomark _)
/-- < of ints, of tuples of ints -/
def ltI : Dt → Dt → Option Dt := opII fun i j => some (.bool (decide (i < j)))
def intsOf : List Dt → Option (List Int)
  | [] => some []
  | .int i :: r => (intsOf r).map (i :: ·)
  | _ :: _ => none
theorem intsOf_eq : ∀ {ds : List Dt} {ns : List Int}, intsOf ds = some ns → ds = ns.map PyData.int
  | [], ns, h => by simp [intsOf] at h; subst h; rfl
  | .int i :: r, ns, h => by
    simp only [intsOf] at h
    cases hr : intsOf r with
    | none => rw [hr] at h; cases h
    | some ms => rw [hr] at h; simp at h; subst h; rw [intsOf_eq hr]; rfl
  | .none :: _, _, h => by simp [intsOf] at h
  | .bool _ :: _, _, h => by simp [intsOf] at h
  | .str _ :: _, _, h => by simp [intsOf] at h
  | .list _ :: _, _, h => by simp [intsOf] at h
  | .tuple _ :: _, _, h => by simp [intsOf] at h
  | .dict _ :: _, _, h => by simp [intsOf] at h
theorem intsOf_map (ns : List Int) : intsOf (ns.map PyData.int) = some ns := by
  induction ns with
  | nil => rfl
  | cons n ns ih => simp [intsOf, ih]
def ltT : Dt → Dt → Option Dt
  | .tuple xs, .tuple ys => match intsOf xs, intsOf ys with
    | some ns, some ms => some (.bool (HT.lexLt ns ms))
    | _, _ => none
  | _, _ => none
theorem ok_ltT {K : PySem.W.Frag} : OpOk (rLtT K) ltT := by
  intro B H G x y d e b c Q s bx rx ry hc q
  unfold ltT at hc
  split at hc
  · rename_i xs ys
    split at hc
    · rename_i ns ms h1 h2
      cases hc
      rw [intsOf_eq h1] at rx
      rw [intsOf_eq h2] at ry
      obtain ⟨a, vs, rfl, k1, k2, k3⟩ := rx.inv_tup
      obtain ⟨a', vs', rfl, k1', k2', k3'⟩ := ry.inv_tup
      rw [k3.ints] at k1
      rw [k3'.ints] at k1'
      exact ⟨a, a', ns, ms, rfl, rfl, SqT.of (s _ _ k1), SqT.of (s _ _ k1'), q _ H G (.refl s bx) (.bl _)⟩
    · cases hc
  · cases hc
/-- < of alike data of any depth -/
def rLtA (K : PySem.W.Frag) : R2 := fun x y H Q => ∃ d e, Dp K H x d ∧ Dp K H y e ∧ PySem.W.alike d e = true ∧ d ≠ .none ∧ d.depth ≤ 40 ∧ Q (.bl (PySem.W.dataLt d e)) H
theorem op_ltA {X : Cx} (hu : X.A.units + 64 < cLine) : OpR X (compareOp .Lt) (rLtA X.K) := by
  intro pins s σ H x y v u Q I rx ry h
  obtain ⟨d, e, hd, he, ha, hn, hdep, q⟩ := h
  obtain ⟨as, r1⟩ := Dp.reads I d x v hd rx
  obtain ⟨bs, r2⟩ := Dp.reads I e y u he ry
  exact PySem.W.rcLt_alike d e X.A s v u as bs r1 r2 ha hn (by omega) _ _ _ _ ⟨.bl _, H, I, rfl, q⟩
def notNone : Dt → Bool
  | .none => false
  | _ => true
def ltA : Dt → Dt → Option Dt := fun d e => if PySem.W.alike d e = true ∧ notNone d = true ∧ d.depth ≤ 40 then some (.bool (PySem.W.dataLt d e)) else none
theorem ok_ltA {K : PySem.W.Frag} : OpOk (rLtA K) ltA := by
  intro B H G x y d e b c Q s bx rx ry hc q
  unfold ltA at hc
  split at hc
  · rename_i h
    obtain ⟨h1, h2, h3⟩ := h
    cases hc
    exact ⟨d, e, rx.dp s, ry.dp s, h1, (fun z => by rw [z] at h2; cases h2), h3, q _ H G (.refl s bx) (.bl _)⟩
  · cases hc
def ltD : Dt → Dt → Option Dt := fun d e => (ltI d e).or (ltA d e)
theorem de_lt {X : Cx} {W : WX} {O : List Nat} {a b' : Expr} {fa fb : EnvD → Mo Dt} {pos} {k : Nat} (hr : Room k X.A) (ha : DE X W O a fa) (hb : DE X W O b' fb) : DE X W O (.Compare a [.Lt] [b'] pos) (mBin ltD fa fb) :=
  de_cmp (op_lt.or (op_ltA hr.units)) ((ok_rI0 fun i j G => .bl _).or ok_ltA) ha hb (nomark _)
def leD : Dt → Dt → Option Dt := opII fun i j => some (.bool (decide (i ≤ j)))
def gtD : Dt → Dt → Option Dt := opII fun i j => some (.bool (decide (j < i)))
def geD : Dt → Dt → Option Dt := opII fun i j => some (.bool (decide (j ≤ i)))
theorem de_le {a b' : Expr} {fa fb : EnvD → Mo Dt} {pos} (ha : DE X W O a fa) (hb : DE X W O b' fb) : DE X W O (.Compare a [.LtE] [b'] pos) (mBin leD fa fb) := de_cmp op_le (ok_rI0 fun i j G => .bl _) ha hb (nomark _)
theorem de_gt {a b' : Expr} {fa fb : EnvD → Mo Dt} {pos} (ha : DE X W O a fa) (hb : DE X W O b' fb) : DE X W O (.Compare a [.Gt] [b'] pos) (mBin gtD fa fb) := de_cmp op_gt (ok_rI0 fun i j G => .bl _) ha hb (nomark _)
theorem de_ge {a b' : Expr} {fa fb : EnvD → Mo Dt} {pos} (ha : DE X W O a fa) (hb : DE X W O b' fb) : DE X W O (.Compare a [.GtE] [b'] pos) (mBin geD fa fb) := de_cmp op_ge (ok_rI0 fun i j G => .bl _) ha hb (nomark _)
/-- x in xs: of a list -/
def inL (neg : Bool) : Dt → Dt → Option Dt
  | d, .list ds => if SeqAt.shaped d = true ∧ SeqAt.shaped (.list ds) = true then some (.bool (if neg then !(ds.any fun z => PyData.eqv z d) else ds.any fun z => PyData.eqv z d)) else none
  | _, _ => none
theorem ok_inL {K : PySem.W.Frag} : OpOk (rInD K) (inL false) := by
  intro B H G x y d e b c Q s bx rx ry hc q
  unfold inL at hc
  split at hc
  · rename_i ds
    split at hc
    · rename_i h
      cases hc
      exact ⟨d, ds, rx.dp' s, ry.dp' s, h.1, h.2, q _ H G (.refl s bx) (.bl _)⟩
    · cases hc
  · cases hc
theorem ok_notInL {K : PySem.W.Frag} : OpOk (rNotInD K) (inL true) := by
  intro B H G x y d e b c Q s bx rx ry hc q
  unfold inL at hc
  split at hc
  · rename_i ds
    split at hc
    · rename_i h
      cases hc
      exact ⟨d, ds, rx.dp' s, ry.dp' s, h.1, h.2, q _ H G (.refl s bx) (.bl _)⟩
    · cases hc
  · cases hc
/-! of a tuple -/
def rInTD (K : PySem.W.Frag) (neg : Bool) : R2 := fun x y H Q => ∃ d ds, Dp K H x d ∧ Dp K H y (.tuple ds) ∧ SeqAt.shaped d = true ∧ SeqAt.shaped (.tuple ds) = true ∧ Q (.bl (if neg then !(ds.any fun z => PyData.eqv z d) else ds.any fun z => PyData.eqv z d)) H
theorem op_inTD {k : Nat} (hr : Room k X.A) : OpR X (compareOp .In) (rInTD X.K false) := by
  intro pins s σ H x y v u Q I rx ry h
  obtain ⟨d, ds, hd, he, sd, se, q⟩ := h
  have hu : X.A.units + 65 < cLine := by have := hr.un; omega
  obtain ⟨as, r1⟩ := Dp.reads I d x v hd rx
  obtain ⟨bs, r2⟩ := Dp.reads I (.tuple ds) y u he ry
  have l1 := PyData.plain_of_canLay0 _ (SeqAt.canLay_of_shaped se)
  exact SeqAt.in_tuple_data r2 r1 (by simpa [PyData.plain] using l1) (PyData.plain_of_canLay0 _ (SeqAt.canLay_of_shaped sd)) (room_in_shaped sd hu) ⟨.bl _, H, I, rfl, q⟩
theorem op_notInTD {k : Nat} (hr : Room k X.A) : OpR X (compareOp .NotIn) (rInTD X.K true) := by
  intro pins s σ H x y v u Q I rx ry h
  obtain ⟨d, ds, hd, he, sd, se, q⟩ := h
  have hu : X.A.units + 65 < cLine := by have := hr.un; omega
  obtain ⟨as, r1⟩ := Dp.reads I d x v hd rx
  obtain ⟨bs, r2⟩ := Dp.reads I (.tuple ds) y u he ry
  have l1 := PyData.plain_of_canLay0 _ (SeqAt.canLay_of_shaped se)
  exact SeqAt.notIn_tuple_data r2 r1 (by simpa [PyData.plain] using l1) (PyData.plain_of_canLay0 _ (SeqAt.canLay_of_shaped sd)) (room_in_shaped sd hu) ⟨.bl _, H, I, rfl, q⟩
def inT (neg : Bool) : Dt → Dt → Option Dt
  | d, .tuple ds => if SeqAt.shaped d = true ∧ SeqAt.shaped (.tuple ds) = true then some (.bool (if neg then !(ds.any fun z => PyData.eqv z d) else ds.any fun z => PyData.eqv z d)) else none
  | _, _ => none
theorem ok_inT {K : PySem.W.Frag} {neg : Bool} : OpOk (rInTD K neg) (inT neg) := by
  intro B H G x y d e b c Q s bx rx ry hc q
  unfold inT at hc
  split at hc
  · rename_i ds
    split at hc
    · rename_i h
      cases hc
      exact ⟨d, ds, rx.dp' s, ry.dp' s, h.1, h.2, q _ H G (.refl s bx) (.bl _)⟩
    · cases hc
  · cases hc
def inD : Dt → Dt → Option Dt := fun d e => (inL false d e).or (inT false d e)
def notInD : Dt → Dt → Option Dt := fun d e => (inL true d e).or (inT true d e)
theorem op_inAll {k : Nat} (hr : Room k X.A) : OpR X (compareOp .In) (fun x y H Q => rInD X.K x y H Q ∨ rInTD X.K false x y H Q) := (op_inD (by have := hr.un; omega)).or (op_inTD hr)
theorem op_notInAll {k : Nat} (hr : Room k X.A) : OpR X (compareOp .NotIn) (fun x y H Q => rNotInD X.K x y H Q ∨ rInTD X.K true x y H Q) := (op_notInD (by have := hr.un; omega)).or (op_notInTD hr)
theorem de_in {a b' : Expr} {fa fb : EnvD → Mo Dt} {pos} {k : Nat} (hr : Room k X.A) (ha : DE X W O a fa) (hb : DE X W O b' fb) (hm : behindInMarks .In b' = false := by rfl) : DE X W O (.Compare a [.In] [b'] pos) (mBin inD fa fb) :=
  de_cmp (op_inAll hr) (ok_inL.or ok_inT) ha hb hm
theorem de_notIn {a b' : Expr} {fa fb : EnvD → Mo Dt} {pos} {k : Nat} (hr : Room k X.A) (ha : DE X W O a fa) (hb : DE X W O b' fb) (hm : behindInMarks .NotIn b' = false := by rfl) : DE X W O (.Compare a [.NotIn] [b'] pos) (mBin notInD fa fb) :=
  de_cmp (op_notInAll hr) (ok_notInL.or ok_inT) ha hb hm
/-- x is None -/
def isNoneD : Dt → Bool
  | .none => true
  | _ => false
def isN (neg : Bool) : Dt → Dt → Option Dt
  | d, .none => some (.bool (if neg then !isNoneD d else isNoneD d))
  | _, _ => none
theorem none_of {G : Hp} {v : V} {d : Dt} (h : Rp G v d) : decide (v = .non) = isNoneD d := by
  cases h <;> rfl
theorem ok_isN : OpOk (fun x y H Q => y = .non ∧ Q (.bl (decide (x = .non))) H) (isN false) := by
  intro B H G x y d e b c Q s bx rx ry hc q
  unfold isN at hc
  split at hc
  · cases hc
    refine ⟨ry.inv_none, q _ H G (.refl s bx) ?_⟩
    rw [none_of rx]
    exact .bl _
  · cases hc
theorem ok_notN : OpOk (fun x y H Q => y = .non ∧ Q (.bl (!decide (x = .non))) H) (isN true) := by
  intro B H G x y d e b c Q s bx rx ry hc q
  unfold isN at hc
  split at hc
  · cases hc
    refine ⟨ry.inv_none, q _ H G (.refl s bx) ?_⟩
    rw [none_of rx]
    exact .bl _
  · cases hc
theorem de_is {a b' : Expr} {fa fb : EnvD → Mo Dt} {pos} (ha : DE X W O a fa) (hb : DE X W O b' fb) : DE X W O (.Compare a [.Is] [b'] pos) (mBin (isN false) fa fb) := de_cmp op_isN ok_isN ha hb (nomark _)
theorem de_isNot {a b' : Expr} {fa fb : EnvD → Mo Dt} {pos} (ha : DE X W O a fa) (hb : DE X W O b' fb) : DE X W O (.Compare a [.IsNot] [b'] pos) (mBin (isN true) fa fb) := de_cmp op_notN ok_notN ha hb (nomark _)

/-! ### tests -/
def asBool : Dt → Option Bool
  | .bool k => some k
  | _ => none
theorem one_asBool : OneB RD (fun x H Q => ∃ k, x = .bl k ∧ Q k H) asBool := by
  intro B H G x d b c Q s bx rd hc q
  unfold asBool at hc
  split at hc
  · cases hc
    exact ⟨_, Rp.inv_bool rd, q⟩
  · cases hc
theorem dt_cmp {op : CmpOp} {r : R2} {f : Dt → Dt → Option Dt} {a b' : Expr} {fa fb : EnvD → Mo Dt} {pos} (ho : OpR X (compareOp op) r) (hf : OpOk r f) (ha : DE X W O a fa) (hb : DE X W O b' fb) (hm : behindInMarks op b' = false) :
    DT X W O (.Compare a [op] [b'] pos) (mThenB (mBin f fa fb) asBool) := by
  obtain ⟨ta, a1, a2⟩ := ha
  obtain ⟨tb, b1, b2⟩ := hb
  exact ⟨_, pt_cmpR ho a1 b1 hm, ev_oneB (k := fun x H Q => ∃ k, x = V.bl k ∧ Q k H) one_asBool (ev_bin hf a2 b2)⟩
theorem dt_eq {a b' : Expr} {fa fb : EnvD → Mo Dt} {pos} {k : Nat} (hr : Room k X.A) (ha : DE X W O a fa) (hb : DE X W O b' fb) : DT X W O (.Compare a [.Eq] [b'] pos) (mThenB (mBin eqD fa fb) asBool) := dt_cmp (op_eqD hr.units) ok_eqD ha hb (nomark _)
theorem dt_ne {a b' : Expr} {fa fb : EnvD → Mo Dt} {pos} {k : Nat} (hr : Room k X.A) (ha : DE X W O a fa) (hb : DE X W O b' fb) : DT X W O (.Compare a [.NotEq] [b'] pos) (mThenB (mBin neD fa fb) asBool) := dt_cmp (op_neD hr.units) ok_neD ha hb (nomark _)
theorem dt_lt {a b' : Expr} {fa fb : EnvD → Mo Dt} {pos} {k : Nat} (hr : Room k X.A) (ha : DE X W O a fa) (hb : DE X W O b' fb) : DT X W O (.Compare a [.Lt] [b'] pos) (mThenB (mBin ltD fa fb) asBool) :=
  dt_cmp (op_lt.or (op_ltA hr.units)) ((ok_rI0 fun i j G => .bl _).or ok_ltA) ha hb (nomark _)
theorem dt_le {a b' : Expr} {fa fb : EnvD → Mo Dt} {pos} (ha : DE X W O a fa) (hb : DE X W O b' fb) : DT X W O (.Compare a [.LtE] [b'] pos) (mThenB (mBin leD fa fb) asBool) := dt_cmp op_le (ok_rI0 fun i j G => .bl _) ha hb (nomark _)
theorem dt_gt {a b' : Expr} {fa fb : EnvD → Mo Dt} {pos} (ha : DE X W O a fa) (hb : DE X W O b' fb) : DT X W O (.Compare a [.Gt] [b'] pos) (mThenB (mBin gtD fa fb) asBool) := dt_cmp op_gt (ok_rI0 fun i j G => .bl _) ha hb (nomark _)
theorem dt_ge {a b' : Expr} {fa fb : EnvD → Mo Dt} {pos} (ha : DE X W O a fa) (hb : DE X W O b' fb) : DT X W O (.Compare a [.GtE] [b'] pos) (mThenB (mBin geD fa fb) asBool) := dt_cmp op_ge (ok_rI0 fun i j G => .bl _) ha hb (nomark _)
theorem dt_in {a b' : Expr} {fa fb : EnvD → Mo Dt} {pos} {k : Nat} (hr : Room k X.A) (ha : DE X W O a fa) (hb : DE X W O b' fb) (hm : behindInMarks .In b' = false := by rfl) : DT X W O (.Compare a [.In] [b'] pos) (mThenB (mBin inD fa fb) asBool) :=
  dt_cmp (op_inAll hr) (ok_inL.or ok_inT) ha hb hm
theorem dt_notIn {a b' : Expr} {fa fb : EnvD → Mo Dt} {pos} {k : Nat} (hr : Room k X.A) (ha : DE X W O a fa) (hb : DE X W O b' fb) (hm : behindInMarks .NotIn b' = false := by rfl) : DT X W O (.Compare a [.NotIn] [b'] pos) (mThenB (mBin notInD fa fb) asBool) :=
  dt_cmp (op_notInAll hr) (ok_notInL.or ok_inT) ha hb hm
theorem dt_is {a b' : Expr} {fa fb : EnvD → Mo Dt} {pos} (ha : DE X W O a fa) (hb : DE X W O b' fb) : DT X W O (.Compare a [.Is] [b'] pos) (mThenB (mBin (isN false) fa fb) asBool) := dt_cmp op_isN ok_isN ha hb (nomark _)
theorem dt_isNot {a b' : Expr} {fa fb : EnvD → Mo Dt} {pos} (ha : DE X W O a fa) (hb : DE X W O b' fb) : DT X W O (.Compare a [.IsNot] [b'] pos) (mThenB (mBin (isN true) fa fb) asBool) := dt_cmp op_notN ok_notN ha hb (nomark _)
/-- a value's truth -/
def truD : Dt → Option Bool
  | .none => some false
  | .bool k => some k
  | .int i => some (i != 0)
  | .list xs => some (!xs.isEmpty)
  | .tuple xs => some (!xs.isEmpty)
  | _ => none
theorem RpAll.isEmpty {G : Hp} {vs : List V} {ds : List Dt} (h : RpAll G vs ds) : vs.isEmpty = ds.isEmpty := by cases h <;> rfl
theorem tru_of {K : PySem.W.Frag} {G H : Hp} {v : V} {d : Dt} {k : Bool} (h : Rp G v d) (s : Same G H) (e : truD d = some k) : TruV K v H k := by
  cases h with
  | non => simp [truD] at e; subst e; rfl
  | bl b => simp [truD] at e; subst e; rfl
  | int i => simp [truD] at e; subst e; rfl
  | str x => simp [truD] at e
  | lst h l a => simp only [truD, Option.some.injEq] at e; subst e; exact .inl ⟨_, SqL.of (s _ _ h), by rw [a.isEmpty]⟩
  | tup h l a => simp only [truD, Option.some.injEq] at e; subst e; exact .inr (.inl ⟨_, SqT.of (s _ _ h), by rw [a.isEmpty]⟩)
theorem one_tru {K : PySem.W.Frag} : OneB RD (fun x H Q => ∃ k, TruV K x H k ∧ Q k H) truD := by
  intro B H G x d b c Q s bx rd hc q
  exact ⟨c, tru_of rd s hc, q⟩
theorem dt_truth {a : Expr} {fa : EnvD → Mo Dt} (ha : DE X W O a fa) (he : ∀ whole, isTrue a X.env whole = (do let v ← whole; standAt a.pos; holding [v] (truthy v)) := by intro _; rfl) : DT X W O a (mThenB fa truD) := by
  obtain ⟨ta, a1, a2⟩ := ha
  exact ⟨_, pt_truth a1 he, ev_oneB (k := fun x H Q => ∃ k, TruV X.K x H k ∧ Q k H) one_tru a2⟩
def mNot (f : EnvD → Mo Bool) (ρ : EnvD) : Mo Bool := mBind (f ρ) fun c => mOk (!c)
theorem dt_not {a : Expr} {f : EnvD → Mo Bool} {pos} (ha : DT X W O a f) : DT X W O (.UnaryOp .Not a pos) (mNot f) := by
  obtain ⟨ta, a1, a2⟩ := ha
  refine ⟨_, pt_not a1, Ev.bind (k := fun c σ H1 Q => Q (!c) H1) (fk := fun c ρ => mOk (!c)) a2 fun B H0 G0 σ H G ρ b Q q b' x d I rd e p => ?_⟩
  simp only [mOk, Option.some.injEq, Prod.mk.injEq] at e
  obtain ⟨rfl, rfl⟩ := e
  cases rd
  exact p _ H G I.refl rfl
def DW (X : Cx) (W : WX) (O : List Nat) (e : Expr) (f : EnvD → Mo Bool) : Prop := ∃ t, PW X e t ∧ Ev X.mg W O t RB f
theorem dt_w {e : Expr} {f : EnvD → Mo Bool} (h : DW X W O e f) : DT X W O e f := by
  obtain ⟨t, h1, h2⟩ := h
  exact ⟨t, h1.pt, h2⟩
theorem dw_and1 {a : Expr} {f : EnvD → Mo Bool} {pos} (h : DT X W O a f) : DW X W O (.BoolOp .And [a] pos) f := by
  obtain ⟨t, h1, h2⟩ := h
  exact ⟨t, pw_and1 h1, h2⟩
theorem dw_or1 {a : Expr} {f : EnvD → Mo Bool} {pos} (h : DT X W O a f) : DW X W O (.BoolOp .Or [a] pos) f := by
  obtain ⟨t, h1, h2⟩ := h
  exact ⟨t, pw_or1 h1, h2⟩
def mAnd (f g : EnvD → Mo Bool) (ρ : EnvD) : Mo Bool := mBind (f ρ) fun c => if c = true then g ρ else mOk false
def mOr (f g : EnvD → Mo Bool) (ρ : EnvD) : Mo Bool := mBind (f ρ) fun c => if c = true then mOk true else g ρ
theorem dw_and {a b' : Expr} {rest : List Expr} {f g : EnvD → Mo Bool} {pos} (h : DT X W O a f) (h' : DW X W O (.BoolOp .And (b' :: rest) pos) g) : DW X W O (.BoolOp .And (a :: b' :: rest) pos) (mAnd f g) := by
  obtain ⟨t, h1, h2⟩ := h
  obtain ⟨u, k1, k2⟩ := h'
  refine ⟨_, pw_and h1 k1, Ev.bind (k := fun c σ H1 Q => if c = true then u σ H1 Q else Q false H1) (fk := fun c ρ => if c = true then g ρ else mOk false) h2 fun B H0 G0 σ H G ρ b Q q b' x d I rd e p => ?_⟩
  cases rd
  cases x with
  | true => exact iteT (k2 B H0 G0 σ H G ρ b _ _ _ I (by simpa using e) p)
  | false =>
    simp only [mOk, Bool.false_eq_true, if_false, Option.some.injEq, Prod.mk.injEq] at e
    obtain ⟨rfl, rfl⟩ := e
    exact iteF (p _ H G I.refl rfl)
theorem dw_or {a b' : Expr} {rest : List Expr} {f g : EnvD → Mo Bool} {pos} (h : DT X W O a f) (h' : DW X W O (.BoolOp .Or (b' :: rest) pos) g) : DW X W O (.BoolOp .Or (a :: b' :: rest) pos) (mOr f g) := by
  obtain ⟨t, h1, h2⟩ := h
  obtain ⟨u, k1, k2⟩ := h'
  refine ⟨_, pw_or h1 k1, Ev.bind (k := fun c σ H1 Q => if c = true then Q true H1 else u σ H1 Q) (fk := fun c ρ => if c = true then mOk true else g ρ) h2 fun B H0 G0 σ H G ρ b Q q b' x d I rd e p => ?_⟩
  cases rd
  cases x with
  | false => exact iteF (k2 B H0 G0 σ H G ρ b _ _ _ I (by simpa using e) p)
  | true =>
    simp only [mOk, if_true, Option.some.injEq, Prod.mk.injEq] at e
    obtain ⟨rfl, rfl⟩ := e
    exact iteT (p _ H G I.refl rfl)
/-! and, or, not as values; a if t else b -/
theorem de_one {op} {a : Expr} {f : EnvD → Mo Dt} {pos} (h : DE X W O a f) : DE X W O (.BoolOp op [a] pos) f := by
  obtain ⟨t, h1, h2⟩ := h
  exact ⟨t, pe_one h1, h2⟩
def mAndV (f g : EnvD → Mo Dt) (ρ : EnvD) : Mo Dt := mBind (f ρ) fun x => match truD x with | some true => g ρ | some false => mOk x | none => fun _ => none
def mOrV (f g : EnvD → Mo Dt) (ρ : EnvD) : Mo Dt := mBind (f ρ) fun x => match truD x with | some true => mOk x | some false => g ρ | none => fun _ => none
theorem de_and {a b' : Expr} {rest : List Expr} {f g : EnvD → Mo Dt} {pos} (h : DE X W O a f) (h' : DE X W O (.BoolOp .And (b' :: rest) pos) g) : DE X W O (.BoolOp .And (a :: b' :: rest) pos) (mAndV f g) := by
  obtain ⟨t, h1, h2⟩ := h
  obtain ⟨u, k1, k2⟩ := h'
  refine ⟨_, pe_andT h1 k1, Ev.bind (k := fun x σ H1 Q => ∃ k, TruV X.K x H1 k ∧ if k = true then u σ H1 Q else Q x H1) (fk := fun x ρ => match truD x with | some true => g ρ | some false => mOk x | none => fun _ => none) h2 fun B H0 G0 σ H G ρ b Q q b' x d I rd e p => ?_⟩
  cases hk : truD d with
  | none => rw [hk] at e; cases e
  | some k =>
    rw [hk] at e
    refine ⟨k, tru_of rd I.sub hk, ?_⟩
    cases k with
    | true => exact iteT (k2 B H0 G0 σ H G ρ b _ _ _ I e p)
    | false =>
      simp only [mOk, Option.some.injEq, Prod.mk.injEq] at e
      obtain ⟨rfl, rfl⟩ := e
      exact iteF (p _ H G I.refl rd)
theorem de_or {a b' : Expr} {rest : List Expr} {f g : EnvD → Mo Dt} {pos} (h : DE X W O a f) (h' : DE X W O (.BoolOp .Or (b' :: rest) pos) g) : DE X W O (.BoolOp .Or (a :: b' :: rest) pos) (mOrV f g) := by
  obtain ⟨t, h1, h2⟩ := h
  obtain ⟨u, k1, k2⟩ := h'
  refine ⟨_, pe_orT h1 k1, Ev.bind (k := fun x σ H1 Q => ∃ k, TruV X.K x H1 k ∧ if k = true then Q x H1 else u σ H1 Q) (fk := fun x ρ => match truD x with | some true => mOk x | some false => g ρ | none => fun _ => none) h2 fun B H0 G0 σ H G ρ b Q q b' x d I rd e p => ?_⟩
  cases hk : truD d with
  | none => rw [hk] at e; cases e
  | some k =>
    rw [hk] at e
    refine ⟨k, tru_of rd I.sub hk, ?_⟩
    cases k with
    | false => exact iteF (k2 B H0 G0 σ H G ρ b _ _ _ I e p)
    | true =>
      simp only [mOk, Option.some.injEq, Prod.mk.injEq] at e
      obtain ⟨rfl, rfl⟩ := e
      exact iteT (p _ H G I.refl rd)
def notV : Dt → Option Dt := fun d => (truD d).map fun k => .bool (!k)
theorem de_not {a : Expr} {f : EnvD → Mo Dt} {pos} (h : DE X W O a f) : DE X W O (.UnaryOp .Not a pos) (mThen f notV) := by
  obtain ⟨t, h1, h2⟩ := h
  refine ⟨_, pe_notT h1, ev_one (R := RD) (k := fun x H Q => ∃ k, TruV X.K x H k ∧ Q (.bl (!k)) H) (fun B H G x d b c Q s bx rd hc q => ?_) h2⟩
  unfold notV at hc
  cases hk : truD d with
  | none => rw [hk] at hc; cases hc
  | some k =>
    rw [hk] at hc
    cases hc
    exact ⟨k, tru_of rd s hk, q _ H G (.refl s bx) (.bl _)⟩
def mIf (c : EnvD → Mo Bool) (f g : EnvD → Mo Dt) (ρ : EnvD) : Mo Dt := mBind (c ρ) fun k => if k = true then f ρ else g ρ
theorem de_if {c a b' : Expr} {fc : EnvD → Mo Bool} {f g : EnvD → Mo Dt} {pos} (hc : DT X W O c fc) (h : DE X W O a f) (h' : DE X W O b' g) : DE X W O (.IfExp c a b' pos) (mIf fc f g) := by
  obtain ⟨tc, c1, c2⟩ := hc
  obtain ⟨t, h1, h2⟩ := h
  obtain ⟨u, k1, k2⟩ := h'
  refine ⟨_, pe_ifExp c1 h1 k1, Ev.bind (k := fun c σ H1 Q => if c = true then t σ H1 Q else u σ H1 Q) (fk := fun k ρ => if k = true then f ρ else g ρ) c2 fun B H0 G0 σ H G ρ b Q q b' x d I rd e p => ?_⟩
  cases rd
  cases x with
  | true => exact iteT (h2 B H0 G0 σ H G ρ b _ _ _ I (by simpa using e) p)
  | false => exact iteF (k2 B H0 G0 σ H G ρ b _ _ _ I (by simpa using e) p)
end
end DL
set_option maxRecDepth 100000
set_option maxHeartbeats 1000000
namespace DL
open PySem PySem.Spec PyProof.Rows L2

section
variable {X : Cx} {W : WX} {O : List Nat}
/-! ### a op b op c -/
def mChain (op op' : Dt → Dt → Option Dt) (fa fb fc : EnvD → Mo Dt) (ρ : EnvD) : Mo Dt := mBind (fa ρ) fun x => mBind (fb ρ) fun y => mBind (mOpt ((op x y).bind asBool)) fun k => if k = true then mBind (fc ρ) fun z => mOpt (op' y z) else mOk (.bool false)
theorem mBind_some {α β : Type} {m : Mo α} {k : α → Mo β} {b : Bx} {r : Except Ex β} {b' : Bx} (h : mBind m k b = some (r, b')) : (∃ e, m b = some (.error e, b') ∧ r = .error e) ∨ ∃ a b1, m b = some (.ok a, b1) ∧ k a b1 = some (r, b') := by
  unfold mBind at h
  cases hm : m b with
  | none => rw [hm] at h; cases h
  | some q =>
    obtain ⟨q, b1⟩ := q
    rw [hm] at h
    cases q with
    | error e =>
      simp only [Option.some.injEq, Prod.mk.injEq] at h
      obtain ⟨rfl, rfl⟩ := h
      exact .inl ⟨e, rfl, rfl⟩
    | ok a => exact .inr ⟨a, b1, rfl, h⟩
theorem mOpt_some {α : Type} {o : Option α} {b : Bx} {r : Except Ex α} {b' : Bx} (h : mOpt o b = some (r, b')) : ∃ a, o = some a ∧ r = .ok a ∧ b' = b := by
  unfold mOpt at h
  cases o with
  | none => cases h
  | some a =>
    simp only [Option.map_some, Option.some.injEq, Prod.mk.injEq] at h
    exact ⟨a, rfl, h.1.symm, h.2.symm⟩
theorem mOk_some {α : Type} {a : α} {b : Bx} {r : Except Ex α} {b' : Bx} (h : mOk a b = some (r, b')) : r = .ok a ∧ b' = b := by
  simp only [mOk, Option.some.injEq, Prod.mk.injEq] at h
  exact ⟨h.1.symm, h.2.symm⟩
/-- how an error passes through a bind -/
theorem Ev.err {α β ν μ : Type} {mg : Mg} {R : Option Addr → Hp → ν → α → Prop} {R' : Option Addr → Hp → μ → β → Prop} {t : TX ν} {f : EnvD → Mo α} (h : Ev mg W O t R f) {B H0 G0 σ H G ρ b b'} {er : Ex} {Q : ν → Hp → Prop} {Q' : μ → Hp → Prop} (I : StOk B O H0 G0 σ H G ρ b) (e : f ρ b = some (.error er, b'))
    (p : Post mg W B σ H G R' Q' (.error er) b') : t σ H Q := h B H0 G0 σ H G ρ b Q _ _ I e p
theorem ev_chain {r r' : R2} {op op' : Dt → Dt → Option Dt} {ta tb tc : TE} {fa fb fc : EnvD → Mo Dt} (ho : OpOk r op) (ho' : OpOk r' op') (ha : Ev X.mg W O ta RD fa) (hb : Ev X.mg W O tb RD fb) (hc : Ev X.mg W O tc RD fc) : Ev X.mg W O (tChain r r' ta tb tc) RD (mChain op op' fa fb fc) := by
  intro B H0 G0 σ H G ρ b Q q b' I e p
  unfold mChain at e
  rcases mBind_some e with ⟨er, e1, rfl⟩ | ⟨x, b1, e1, e⟩
  · exact ha.err I e1 p
  refine ha B H0 G0 σ H G ρ b _ _ _ I e1 fun v H1 G1 s1 r1 => ?_
  have I1 := I.step s1
  have p1 := p.after s1
  rcases mBind_some e with ⟨er, e2, rfl⟩ | ⟨y, b2, e2, e⟩
  · exact hb.err I1 e2 p1
  refine hb B H0 G0 σ H1 G1 ρ b1 _ _ _ I1 e2 fun u H2 G2 s2 r2 => ?_
  have I2 := I1.step s2
  have p2 := p1.after s2
  rcases mBind_some e with ⟨er, e3, rfl⟩ | ⟨k, b3, e3, e⟩
  · obtain ⟨_, _, z, _⟩ := mOpt_some e3
    cases z
  obtain ⟨k', ek, z, rfl⟩ := mOpt_some e3
  cases z
  cases hop : op x y with
  | none => rw [hop] at ek; cases ek
  | some w' =>
    rw [hop] at ek
    simp only [Option.bind_some] at ek
    have hw : w' = .bool k := by
      unfold asBool at ek
      split at ek
      · cases ek; rfl
      · cases ek
    subst hw
    refine ho B H2 G2 v u x y b3 _ _ I2.sub I2.box (r1.mono s2.grow) r2 hop fun w1 H3 G3 s3 r3 => ?_
    have I3 := I2.step s3
    have p3 := p2.after s3
    refine ⟨k, r3.inv_bool, ?_⟩
    cases k with
    | false =>
      obtain ⟨rfl, rfl⟩ := mOk_some (by simpa using e)
      exact iteF (p3 _ H3 G3 I3.refl (.bl _))
    | true =>
      simp only [if_true] at e
      refine iteT ?_
      rcases mBind_some e with ⟨er, e4, rfl⟩ | ⟨z, b4, e4, e⟩
      · exact hc.err I3 e4 p3
      refine hc B H0 G0 σ H3 G3 ρ b3 _ _ _ I3 e4 fun w2 H4 G4 s4 r4 => ?_
      obtain ⟨c, hc', rfl, rfl⟩ := mOpt_some e
      have I4 := I3.step s4
      exact ho' B H4 G4 u w2 y z b' c Q I4.sub I4.box ((r2.mono s3.grow).mono s4.grow) r4 hc' fun v' H' G' s' r' => (p3.after s4) v' H' G' s' r'
theorem de_chain {op op' : CmpOp} {r r' : R2} {f f' : Dt → Dt → Option Dt} {a b' c : Expr} {fa fb fc : EnvD → Mo Dt} {pos} (ho : OpR X (compareOp op) r) (ho' : OpR X (compareOp op') r') (hf : OpOk r f) (hf' : OpOk r' f') (ha : DE X W O a fa) (hb : DE X W O b' fb) (hc : DE X W O c fc)
    (hm : lastMarks [op, op'] [b', c] = false := by with_unfolding_all rfl) : DE X W O (.Compare a [op, op'] [b', c] pos) (mChain f f' fa fb fc) := by
  obtain ⟨ta, a1, a2⟩ := ha
  obtain ⟨tb, b1, b2⟩ := hb
  obtain ⟨tc, c1, c2⟩ := hc
  exact ⟨_, pe_chain ho ho' a1 b1 c1 hm, ev_chain hf hf' a2 b2 c2⟩
theorem dt_chain {op op' : CmpOp} {r r' : R2} {f f' : Dt → Dt → Option Dt} {a b' c : Expr} {fa fb fc : EnvD → Mo Dt} {pos} (ho : OpR X (compareOp op) r) (ho' : OpR X (compareOp op') r') (hf : OpOk r f) (hf' : OpOk r' f') (ha : DE X W O a fa) (hb : DE X W O b' fb) (hc : DE X W O c fc)
    (hm : lastMarks [op, op'] [b', c] = false := by with_unfolding_all rfl) : DT X W O (.Compare a [op, op'] [b', c] pos) (mThenB (mChain f f' fa fb fc) asBool) := by
  obtain ⟨ta, a1, a2⟩ := ha
  obtain ⟨tb, b1, b2⟩ := hb
  obtain ⟨tc, c1, c2⟩ := hc
  exact ⟨_, pt_chain ho ho' a1 b1 c1 hm, ev_oneB (k := fun x H Q => ∃ k, x = V.bl k ∧ Q k H) one_asBool (ev_chain hf hf' a2 b2 c2)⟩
/-- 0 <= a < b of ints -/
theorem de_leLt {a b' c : Expr} {fa fb fc : EnvD → Mo Dt} {pos} (ha : DE X W O a fa) (hb : DE X W O b' fb) (hc : DE X W O c fc) (hm : lastMarks [.LtE, .Lt] [b', c] = false := by with_unfolding_all rfl) : DE X W O (.Compare a [.LtE, .Lt] [b', c] pos) (mChain leD ltI fa fb fc) :=
  de_chain op_le op_lt (ok_rI0 fun i j G => .bl _) (ok_rI0 fun i j G => .bl _) ha hb hc hm
theorem dt_leLt {a b' c : Expr} {fa fb fc : EnvD → Mo Dt} {pos} (ha : DE X W O a fa) (hb : DE X W O b' fb) (hc : DE X W O c fc) (hm : lastMarks [.LtE, .Lt] [b', c] = false := by with_unfolding_all rfl) : DT X W O (.Compare a [.LtE, .Lt] [b', c] pos) (mThenB (mChain leD ltI fa fb fc) asBool) :=
  dt_chain op_le op_lt (ok_rI0 fun i j G => .bl _) (ok_rI0 fun i j G => .bl _) ha hb hc hm
theorem dt_leLe {a b' c : Expr} {fa fb fc : EnvD → Mo Dt} {pos} (ha : DE X W O a fa) (hb : DE X W O b' fb) (hc : DE X W O c fc) (hm : lastMarks [.LtE, .LtE] [b', c] = false := by with_unfolding_all rfl) : DT X W O (.Compare a [.LtE, .LtE] [b', c] pos) (mThenB (mChain leD leD fa fb fc) asBool) :=
  dt_chain op_le op_le (ok_rI0 fun i j G => .bl _) (ok_rI0 fun i j G => .bl _) ha hb hc hm
theorem de_leLe {a b' c : Expr} {fa fb fc : EnvD → Mo Dt} {pos} (ha : DE X W O a fa) (hb : DE X W O b' fb) (hc : DE X W O c fc) (hm : lastMarks [.LtE, .LtE] [b', c] = false := by with_unfolding_all rfl) : DE X W O (.Compare a [.LtE, .LtE] [b', c] pos) (mChain leD leD fa fb fc) :=
  de_chain op_le op_le (ok_rI0 fun i j G => .bl _) (ok_rI0 fun i j G => .bl _) ha hb hc hm

/-! ### a[i], a[lo:hi] -/
theorem RpAll.atI {G : Hp} {vs : List V} {ds : List Dt} {i : Int} {d : Dt} (h : RpAll G vs ds) (e : L2.atI ds i = some d) : ∃ v, L2.atI vs i = some v ∧ Rp G v d := by
  unfold L2.atI at e ⊢
  rw [h.length]
  cases hj : ixN ds.length i with
  | none => rw [hj] at e; cases e
  | some j =>
    rw [hj] at e
    simp only [Option.bind_some] at e ⊢
    exact h.getD e
def ixD : Dt → Dt → Option Dt
  | .list ds, .int i => L2.atI ds i
  | .tuple ds, .int i => L2.atI ds i
  | _, _ => none
theorem ok_ix {K : PySem.W.Frag} : OpOk (rIx K) ixD := by
  intro B H G x y d e b c Q s bx rx ry hc q
  unfold ixD at hc
  split at hc
  · obtain ⟨a, vs, rfl, k1, k2, k3⟩ := rx.inv_list
    obtain ⟨v, h1, h2⟩ := k3.atI hc
    exact .inl ⟨a, vs, _, v, rfl, ry.inv_int, SqL.of (s _ _ k1), h1, q v H G (.refl s bx) h2⟩
  · obtain ⟨a, vs, rfl, k1, k2, k3⟩ := rx.inv_tup
    obtain ⟨v, h1, h2⟩ := k3.atI hc
    exact .inr (.inl ⟨a, vs, _, v, rfl, ry.inv_int, SqT.of (s _ _ k1), h1, q v H G (.refl s bx) h2⟩)
  · cases hc
theorem de_ix {a i : Expr} {fa fi : EnvD → Mo Dt} {pos} (ha : DE X W O a fa) (hi : DE X W O i fi) (hs : PlainIx i := by exact fun _ _ => rfl) : DE X W O (.Subscript a i pos) (mBin ixD fa fi) := by
  obtain ⟨ta, a1, a2⟩ := ha
  obtain ⟨ti, i1, i2⟩ := hi
  exact ⟨_, pe_ix ix_seq a1 i1 hs, ev_bin ok_ix a2 i2⟩
def DO (X : Cx) (W : WX) (O : List Nat) (e : Option Expr) (f : EnvD → Mo (Option Int)) : Prop := ∃ t, PO X e t ∧ Ev X.mg W O t (fun _ _ x y => x = y) f
def mNoPart : EnvD → Mo (Option Int) := fun _ => mOk none
def intO : Dt → Option (Option Int)
  | .int i => some (some i)
  | _ => none
def mPart (f : EnvD → Mo Dt) (ρ : EnvD) : Mo (Option Int) := mBind (f ρ) fun d => mOpt (intO d)
theorem do_none : DO X W O none mNoPart := ⟨_, po_none, fun B H0 G0 σ H G ρ b Q r b' I e p => by
  obtain ⟨rfl, rfl⟩ := mOk_some e
  exact p _ H G I.refl rfl⟩
theorem do_some {e : Expr} {f : EnvD → Mo Dt} (h : DE X W O e f) : DO X W O (some e) (mPart f) := by
  obtain ⟨t, h1, h2⟩ := h
  refine ⟨_, po_some h1, Ev.bind (k := fun (x : V) (σ : L2.St) (H1 : Hp) (Q : Option Int → Hp → Prop) => ∃ i, x = V.int i ∧ Q (some i) H1) (fk := fun d ρ => mOpt (intO d)) h2 fun B H0 G0 σ H G ρ b Q q b' x d I rd e p => ?_⟩
  obtain ⟨c, hc, rfl, rfl⟩ := mOpt_some e
  unfold intO at hc
  split at hc
  · cases hc
    exact ⟨_, Rp.inv_int rd, p _ H G I.refl rfl⟩
  · cases hc
def cutG {α : Type} (xs : List α) (lo hi : Option Int) : List α := (xs.drop (HT.sIx xs.length 0 lo)).take (HT.sIx xs.length xs.length hi - HT.sIx xs.length 0 lo)
theorem cutG_V (xs : List V) (lo hi : Option Int) : cutV xs lo hi = cutG xs lo hi := rfl
theorem RpAll.cut {G : Hp} {vs : List V} {ds : List Dt} (h : RpAll G vs ds) (lo hi : Option Int) : RpAll G (cutG vs lo hi) (cutG ds lo hi) := by
  unfold cutG
  rw [h.length]
  exact (h.drop _).take _
def slD (d : Dt) (lo hi : Option Int) : Option Dt := match d with
  | .list ds => some (.list (cutG ds lo hi))
  | .tuple ds => some (.tuple (cutG ds lo hi))
  | _ => none
def mSlice (f : EnvD → Mo Dt) (g h : EnvD → Mo (Option Int)) (ρ : EnvD) : Mo Dt := mBind (f ρ) fun d => mBind (g ρ) fun lo => mBind (h ρ) fun hi => mOpt (slD d lo hi)
theorem cut_whole {α : Type} {xs : List α} {lo hi : Option Int} (h : HT.sIx xs.length 0 lo = 0 ∧ HT.sIx xs.length xs.length hi = xs.length) : cutG xs lo hi = xs := by
  unfold cutG
  rw [h.1, h.2]
  simp
theorem de_slice {e : Expr} {lo hi : Option Expr} {f : EnvD → Mo Dt} {g h : EnvD → Mo (Option Int)} {p2 pos} (he : DE X W O e f) (hl : DO X W O lo g) (hh : DO X W O hi h) : DE X W O (.Subscript e (.Slice lo hi none p2) pos) (mSlice f g h) := by
  obtain ⟨te, e1, e2⟩ := he
  obtain ⟨tl, l1, l2⟩ := hl
  obtain ⟨th, h1, h2⟩ := hh
  refine ⟨_, pe_slice (sl_list.or sl_tupA) e1 l1 h1, fun B H0 G0 σ H G ρ b Q q b' I ee p => ?_⟩
  unfold mSlice at ee
  rcases mBind_some ee with ⟨er, q1, rfl⟩ | ⟨d, b1, q1, ee⟩
  · exact e2.err I q1 p
  refine e2 B H0 G0 σ H G ρ b _ _ _ I q1 fun v H1 G1 s1 r1 => ?_
  have I1 := I.step s1
  have p1 := p.after s1
  rcases mBind_some ee with ⟨er, q2, rfl⟩ | ⟨i, b2, q2, ee⟩
  · exact l2.err I1 q2 p1
  refine l2 B H0 G0 σ H1 G1 ρ b1 _ _ _ I1 q2 fun i' H2 G2 s2 r2 => ?_
  cases r2
  have I2 := I1.step s2
  have p2 := p1.after s2
  rcases mBind_some ee with ⟨er, q3, rfl⟩ | ⟨j, b3, q3, ee⟩
  · exact h2.err I2 q3 p2
  refine h2 B H0 G0 σ H2 G2 ρ b2 _ _ _ I2 q3 fun j' H3 G3 s3 r3 => ?_
  cases r3
  have I3 := I2.step s3
  have p3 := p2.after s3
  obtain ⟨c, hc, rfl, rfl⟩ := mOpt_some ee
  have rd : Rp G3 v d := (r1.mono s2.grow).mono s3.grow
  unfold slD at hc
  split at hc
  · cases hc
    obtain ⟨a, vs, rfl, k1, k2, k3⟩ := rd.inv_list
    refine .inl ⟨a, vs, rfl, SqL.of (I3.sub _ _ k1), fun p hp => p3 _ _ _ (Stp.add I3.sub I3.box hp) (.lst upd_same (Nat.le_trans (cutV_length _ _ _) k2) ?_)⟩
    exact (k3.cut _ _).mono (Stp.add I3.sub I3.box hp (o := .lst (cutV vs i j)) (b := b')).grow
  · cases hc
    have rd0 := rd
    obtain ⟨a, vs, rfl, k1, k2, k3⟩ := rd.inv_tup
    refine .inr ⟨a, vs, rfl, SqT.of (I3.sub _ _ k1), fun hw => ?_, fun hw p hp => p3 _ _ _ (Stp.add I3.sub I3.box hp) (.tup upd_same (Nat.le_trans (cutV_length _ _ _) k2) ?_)⟩
    · rw [k3.length] at hw
      rw [cut_whole hw] at p3
      exact p3 _ H3 G3 I3.refl rd0
    · exact (k3.cut _ _).mono (Stp.add I3.sub I3.box hp (o := .tup (cutV vs i j)) (b := b')).grow
  · cases hc

/-! ### calls of what is built in -/
theorem de_callB {x : Str} {r : List V → Hp → VK → Prop} {op : List Sl → Option Dt} {e : Expr} {es : List Expr} {f : EnvD → Mo (List Sl)} {p pos} {id : String} (hc : CallR X (.builtin id) r) (ho : OneOk RSs r op) (hg : Gl X x) (hm : X.mg x = none) (hv : bootBuiltins x = some (.builtin id)) (ha : DA X W O (e :: es) f)
    (hn : x ≠ "__name__" := by decide) (hdb : (x == ("__debug__" : Str)) = false := by decide) (he : starEach (e :: es) X.env = (false, eval e X.env) :: starEach es X.env := by rfl) (hpl : (backTo pos (starEach es X.env)).any (·.1) = false := by rfl) : DE X W O (.Call (.Name x p) (e :: es) [] pos) (mThen f op) := by
  obtain ⟨t, h1, h2⟩ := ha
  exact ⟨_, pe_callB hc hg hm hv h1 hn hdb he hpl, ev_one (k := r) ho h2⟩
theorem de_callTy {x : Str} {r : List V → Hp → VK → Prop} {op : List Sl → Option Dt} {e : Expr} {es : List Expr} {f : EnvD → Mo (List Sl)} {p pos} {T : String} (hc : CallR X (.type T) r) (ho : OneOk RSs r op) (hg : Gl X x) (hm : X.mg x = none) (hv : bootBuiltins x = some (.type T)) (ha : DA X W O (e :: es) f)
    (hn : x ≠ "__name__" := by decide) (hdb : (x == ("__debug__" : Str)) = false := by decide) (he : starEach (e :: es) X.env = (false, eval e X.env) :: starEach es X.env := by rfl) (hpl : (backTo pos (starEach es X.env)).any (·.1) = false := by rfl) : DE X W O (.Call (.Name x p) (e :: es) [] pos) (mThen f op) := by
  obtain ⟨t, h1, h2⟩ := ha
  exact ⟨_, pe_callTy hc hg hm hv h1 hn hdb he hpl, ev_one (k := r) ho h2⟩
theorem RSs.one {B : Option Addr} {G : Hp} {vs : List V} {d : Dt} (h : RSs B G vs [.d d]) : ∃ v, vs = [v] ∧ Rp G v d := by
  cases h with
  | cons a t => cases t; exact ⟨_, rfl, a⟩
theorem RSs.two {B : Option Addr} {G : Hp} {vs : List V} {d e : Dt} (h : RSs B G vs [.d d, .d e]) : ∃ v u, vs = [v, u] ∧ Rp G v d ∧ Rp G u e := by
  cases h with
  | cons a t =>
    cases t with
    | cons a' t => cases t; exact ⟨_, _, rfl, a, a'⟩
def lenD : List Sl → Option Dt
  | [.d (.list ds)] => some (.int ds.length)
  | [.d (.tuple ds)] => some (.int ds.length)
  | _ => none
theorem ok_len {K : PySem.W.Frag} : OneOk RSs (fun xs H Q => ∃ p ys, xs = [V.ref p] ∧ (SqL K H p ys ∨ SqT K H p ys) ∧ Q (V.int ys.length) H) lenD := by
  intro B H G x d b c Q s bx rd hc q
  unfold lenD at hc
  split at hc
  · cases hc
    obtain ⟨v, rfl, rv⟩ := rd.one
    obtain ⟨a, vs, rfl, k1, k2, k3⟩ := rv.inv_list
    exact ⟨a, vs, rfl, .inl (SqL.of (s _ _ k1)), q _ H G (.refl s bx) (by rw [k3.length]; exact .int _)⟩
  · cases hc
    obtain ⟨v, rfl, rv⟩ := rd.one
    obtain ⟨a, vs, rfl, k1, k2, k3⟩ := rv.inv_tup
    exact ⟨a, vs, rfl, .inr (SqT.of (s _ _ k1)), q _ H G (.refl s bx) (by rw [k3.length]; exact .int _)⟩
  · cases hc
theorem de_len {e : Expr} {f : EnvD → Mo (List Sl)} {p pos} (hm : X.mg "len" = none) (ha : DA X W O [e] f) (hg : Gl X "len" := by rfl) (he : starEach [e] X.env = (false, eval e X.env) :: starEach [] X.env := by rfl) (hpl : (backTo pos (starEach [] X.env)).any (·.1) = false := by rfl) : DE X W O (.Call (.Name "len" p) [e] [] pos) (mThen f lenD) :=
  de_callB call_len_seq ok_len hg hm PySem.boot_len ha (by decide) (by decide) he hpl
def listD : List Sl → Option Dt
  | [.d (.list ds)] => some (.list ds)
  | [.d (.tuple ds)] => some (.list ds)
  | _ => none
def tupD : List Sl → Option Dt
  | [.d (.list ds)] => some (.tuple ds)
  | [.d (.tuple ds)] => some (.tuple ds)
  | _ => none
theorem ok_list {K : PySem.W.Frag} : OneOk RSs (fun xs H Q => ∃ p ys, xs = [V.ref p] ∧ (SqL K H p ys ∨ SqT K H p ys) ∧ ∀ l, H l = none → Q (V.ref l) (upd H l (.lst ys))) listD := by
  intro B H G x d b c Q s bx rd hc q
  unfold listD at hc
  split at hc
  · cases hc
    obtain ⟨v, rfl, rv⟩ := rd.one
    obtain ⟨a, vs, rfl, k1, k2, k3⟩ := rv.inv_list
    exact ⟨a, vs, rfl, .inl (SqL.of (s _ _ k1)), fun l hl => q _ _ _ (Stp.add s bx hl) (.lst upd_same k2 (k3.mono (Stp.add s bx hl (o := .lst vs) (b := b)).grow))⟩
  · cases hc
    obtain ⟨v, rfl, rv⟩ := rd.one
    obtain ⟨a, vs, rfl, k1, k2, k3⟩ := rv.inv_tup
    exact ⟨a, vs, rfl, .inr (SqT.of (s _ _ k1)), fun l hl => q _ _ _ (Stp.add s bx hl) (.lst upd_same k2 (k3.mono (Stp.add s bx hl (o := .lst vs) (b := b)).grow))⟩
  · cases hc
theorem ok_tup {K : PySem.W.Frag} : OneOk RSs (fun xs H Q => ∃ p ys, xs = [V.ref p] ∧ ((SqL K H p ys ∧ ∀ l, H l = none → Q (V.ref l) (upd H l (.tup ys))) ∨ (SqT K H p ys ∧ Q (V.ref p) H))) tupD := by
  intro B H G x d b c Q s bx rd hc q
  unfold tupD at hc
  split at hc
  · cases hc
    obtain ⟨v, rfl, rv⟩ := rd.one
    obtain ⟨a, vs, rfl, k1, k2, k3⟩ := rv.inv_list
    exact ⟨a, vs, rfl, .inl ⟨SqL.of (s _ _ k1), fun l hl => q _ _ _ (Stp.add s bx hl) (.tup upd_same k2 (k3.mono (Stp.add s bx hl (o := .tup vs) (b := b)).grow))⟩⟩
  · cases hc
    obtain ⟨v, rfl, rv⟩ := rd.one
    have rv0 := rv
    obtain ⟨a, vs, rfl, k1, k2, k3⟩ := rv.inv_tup
    exact ⟨a, vs, rfl, .inr ⟨SqT.of (s _ _ k1), q _ H G (.refl s bx) rv0⟩⟩
  · cases hc
theorem de_list {e : Expr} {f : EnvD → Mo (List Sl)} {p pos} (hm : X.mg "list" = none) (ha : DA X W O [e] f) (hg : Gl X "list" := by rfl) (he : starEach [e] X.env = (false, eval e X.env) :: starEach [] X.env := by rfl) (hpl : (backTo pos (starEach [] X.env)).any (·.1) = false := by rfl) : DE X W O (.Call (.Name "list" p) [e] [] pos) (mThen f listD) :=
  de_callTy call_list_of ok_list hg hm PyProof.Rows.boot_list ha (by decide) (by decide) he hpl
theorem de_tuple {e : Expr} {f : EnvD → Mo (List Sl)} {p pos} (hm : X.mg "tuple" = none) (ha : DA X W O [e] f) (hg : Gl X "tuple" := by rfl) (he : starEach [e] X.env = (false, eval e X.env) :: starEach [] X.env := by rfl) (hpl : (backTo pos (starEach [] X.env)).any (·.1) = false := by rfl) : DE X W O (.Call (.Name "tuple" p) [e] [] pos) (mThen f tupD) :=
  de_callTy call_tuple_of ok_tup hg hm (by decide +kernel) ha (by decide) (by decide) he hpl
def blsOf : List Dt → Option (List Bool)
  | [] => some []
  | .bool i :: r => (blsOf r).map (i :: ·)
  | _ :: _ => none
theorem blsOf_eq : ∀ {ds : List Dt} {ns : List Bool}, blsOf ds = some ns → ds = ns.map PyData.bool
  | [], ns, h => by simp [blsOf] at h; subst h; rfl
  | .bool i :: r, ns, h => by
    simp only [blsOf] at h
    cases hr : blsOf r with
    | none => rw [hr] at h; cases h
    | some ms => rw [hr] at h; simp at h; subst h; rw [blsOf_eq hr]; rfl
  | .none :: _, _, h => by simp [blsOf] at h
  | .int _ :: _, _, h => by simp [blsOf] at h
  | .str _ :: _, _, h => by simp [blsOf] at h
  | .list _ :: _, _, h => by simp [blsOf] at h
  | .tuple _ :: _, _, h => by simp [blsOf] at h
  | .dict _ :: _, _, h => by simp [blsOf] at h
theorem blsOf_map (ns : List Bool) : blsOf (ns.map PyData.bool) = some ns := by
  induction ns with
  | nil => rfl
  | cons n ns ih => simp [blsOf, ih]
def allD : List Sl → Option Dt
  | [.d (.list ds)] => (blsOf ds).map fun bs => .bool (bs.all id)
  | _ => none
theorem ok_all {K : PySem.W.Frag} : OneOk RSs (rAll K) allD := by
  intro B H G x d b c Q s bx rd hc q
  unfold allD at hc
  split at hc
  · rename_i ds
    cases hb : blsOf ds with
    | none => rw [hb] at hc; cases hc
    | some bs =>
      rw [hb] at hc
      cases hc
      obtain ⟨v, rfl, rv⟩ := rd.one
      rw [blsOf_eq hb] at rv
      obtain ⟨a, vs, rfl, k1, k2, k3⟩ := rv.inv_list
      rw [k3.bls] at k1
      exact ⟨a, bs, rfl, SqL.of (s _ _ k1), q _ H G (.refl s bx) (.bl _)⟩
  · cases hc
theorem de_all {e : Expr} {f : EnvD → Mo (List Sl)} {p pos} (hcm : X.calm = true) (hm : X.mg "all" = none) (ha : DA X W O [e] f) (hg : Gl X "all" := by rfl) (he : starEach [e] X.env = (false, eval e X.env) :: starEach [] X.env := by rfl) (hpl : (backTo pos (starEach [] X.env)).any (·.1) = false := by rfl) : DE X W O (.Call (.Name "all" p) [e] [] pos) (mThen f allD) :=
  de_callB (cr_all hcm) ok_all hg hm (by decide +kernel) ha (by decide) (by decide) he hpl
end
end DL
set_option maxRecDepth 100000
set_option maxHeartbeats 1000000
namespace DL
open PySem PySem.Spec PyProof.Rows L2

/-! ### the reading that says just what f reckons -/
def can {α ν : Type} (mg : Mg) (W : WX) (O : List Nat) (R : Option Addr → Hp → ν → α → Prop) (f : EnvD → Mo α) : TX ν := fun σ H Q => ∃ B H0 G0 G ρ b r b', StOk B O H0 G0 σ H G ρ b ∧ f ρ b = some (r, b') ∧ Post mg W B σ H G R Q r b'
theorem ev_can {α ν : Type} {mg : Mg} {W : WX} {O : List Nat} {R : Option Addr → Hp → ν → α → Prop} {f : EnvD → Mo α} : Ev mg W O (can mg W O R f) R f := fun B H0 G0 σ H G ρ b Q r b' I e p => ⟨B, H0, G0, G, ρ, b, r, b', I, e, p⟩
section
variable {X : Cx} {W : WX} {O : List Nat}
theorem DE.can {e : Expr} {f : EnvD → Mo Dt} (h : DE X W O e f) : PE X e (can X.mg W O RD f) := by
  obtain ⟨t, h1, h2⟩ := h
  exact ⟨fun pins s σ H Q I ⟨B, H0, G0, G, ρ, b, r, b', J, e, p⟩ => h1.run pins s σ H Q I (h2 B H0 G0 σ H G ρ b Q r b' J e p)⟩
theorem DT.can {e : Expr} {f : EnvD → Mo Bool} (h : DT X W O e f) : PT X e (can X.mg W O RB f) := by
  obtain ⟨t, h1, h2⟩ := h
  exact ⟨fun pins s σ H Q I ⟨B, H0, G0, G, ρ, b, r, b', J, e, p⟩ => h1.run pins s σ H Q I (h2 B H0 G0 σ H G ρ b Q r b' J e p)⟩

/-! ### isinstance -/
/-- the type's name of data -/
def tyN : Dt → String
  | .none => "NoneType" | .bool _ => "bool" | .int _ => "int" | .str _ => "str" | .list _ => "list" | .tuple _ => "tuple" | .dict _ => "dict"
theorem tyX_of {K : PySem.W.Frag} {G H : Hp} {v : V} {d : Dt} (h : Rp G v d) (s : Same G H) : TyX K H v (.type (tyN d)) := by
  cases h with
  | non => exact .base .non
  | bl b => exact .base (.bl b)
  | int i => exact .base (.int i)
  | str x => exact .base (.str x)
  | lst h l a => exact .base (.lst (s _ _ h))
  | tup h l a => exact .base (.tup (s _ _ h))
structure IsT (T : Str) (N : String) (f : Dt → Bool) : Prop where
  boot : bootBuiltins T = some (.type N)
  nn : T ≠ "__name__"
  ok : ∀ (G : Hp) (v : V) (d : Dt), Rp G v d → kitB (tyN d) N = some (f d)
theorem kit6 {N : String} {f : Dt → Bool} (h0 : kitB "NoneType" N = some (f .none)) (h1 : ∀ b, kitB "bool" N = some (f (.bool b))) (h2 : ∀ b, kitB "int" N = some (f (.int b))) (h3 : ∀ b, kitB "str" N = some (f (.str b))) (h4 : ∀ b, kitB "list" N = some (f (.list b))) (h5 : ∀ b, kitB "tuple" N = some (f (.tuple b))) :
    ∀ (G : Hp) (v : V) (d : Dt), Rp G v d → kitB (tyN d) N = some (f d) := by
  intro G v d h
  cases h with
  | non => exact h0
  | bl b => exact h1 b
  | int i => exact h2 i
  | str x => exact h3 x
  | lst h l a => exact h4 _
  | tup h l a => exact h5 _
def isIntD : Dt → Bool | .int _ => true | .bool _ => true | _ => false
def isBoolD : Dt → Bool | .bool _ => true | _ => false
def isStrD : Dt → Bool | .str _ => true | _ => false
def isListD : Dt → Bool | .list _ => true | _ => false
def isTupD : Dt → Bool | .tuple _ => true | _ => false
theorem kbF {a b : String} (h : kitB a b = some false) : kitB a b = some false := h
theorem isT_int : IsT "int" "int" isIntD := ⟨by decide +kernel, by decide, kit6 (kbF (by decide +kernel)) (fun _ => show kitB "bool" "int" = some true by decide +kernel) (fun _ => show kitB "int" "int" = some true by decide +kernel) (fun _ => show kitB "str" "int" = some false by decide +kernel) (fun _ => show kitB "list" "int" = some false by decide +kernel) (fun _ => show kitB "tuple" "int" = some false by decide +kernel)⟩
theorem isT_bool : IsT "bool" "bool" isBoolD := ⟨by decide +kernel, by decide, kit6 (kbF (by decide +kernel)) (fun _ => show kitB "bool" "bool" = some true by decide +kernel) (fun _ => show kitB "int" "bool" = some false by decide +kernel) (fun _ => show kitB "str" "bool" = some false by decide +kernel) (fun _ => show kitB "list" "bool" = some false by decide +kernel) (fun _ => show kitB "tuple" "bool" = some false by decide +kernel)⟩
theorem isT_str : IsT "str" "str" isStrD := ⟨by decide +kernel, by decide, kit6 (kbF (by decide +kernel)) (fun _ => show kitB "bool" "str" = some false by decide +kernel) (fun _ => show kitB "int" "str" = some false by decide +kernel) (fun _ => show kitB "str" "str" = some true by decide +kernel) (fun _ => show kitB "list" "str" = some false by decide +kernel) (fun _ => show kitB "tuple" "str" = some false by decide +kernel)⟩
theorem isT_list : IsT "list" "list" isListD := ⟨by decide +kernel, by decide, kit6 (kbF (by decide +kernel)) (fun _ => show kitB "bool" "list" = some false by decide +kernel) (fun _ => show kitB "int" "list" = some false by decide +kernel) (fun _ => show kitB "str" "list" = some false by decide +kernel) (fun _ => show kitB "list" "list" = some true by decide +kernel) (fun _ => show kitB "tuple" "list" = some false by decide +kernel)⟩
theorem isT_tuple : IsT "tuple" "tuple" isTupD := ⟨by decide +kernel, by decide, kit6 (kbF (by decide +kernel)) (fun _ => show kitB "bool" "tuple" = some false by decide +kernel) (fun _ => show kitB "int" "tuple" = some false by decide +kernel) (fun _ => show kitB "str" "tuple" = some false by decide +kernel) (fun _ => show kitB "list" "tuple" = some false by decide +kernel) (fun _ => show kitB "tuple" "tuple" = some true by decide +kernel)⟩
theorem boot_isinstance : bootBuiltins "isinstance" = some (.builtin "isinstance") := by decide +kernel
def mIsi (fe : EnvD → Mo Dt) (f : Dt → Bool) : EnvD → Mo Dt := mThen fe fun d => some (.bool (f d))
theorem de_isi {T : Str} {N : String} {f : Dt → Bool} {e : Expr} {fe : EnvD → Mo Dt} {p p2 pos : Pos} (h : IsT T N f) (hm : X.mg "isinstance" = none) (hmT : X.mg T = none) (he : DE X W O e fe) (hg : Gl X "isinstance" := by rfl) (hgT : Gl X T := by rfl)
    (hs : starEach [e, .Name T p2] X.env = (false, eval e X.env) :: starEach [.Name T p2] X.env := by rfl) (hs2 : starEach [.Name T p2] X.env = (false, eval (.Name T p2) X.env) :: starEach [] X.env := by rfl) (hpl : (backTo pos (starEach [.Name T p2] X.env)).any (·.1) = false := by rfl)
    (hdb : (T == ("__debug__" : Str)) = false := by decide) : DE X W O (.Call (.Name "isinstance" p) [e, .Name T p2] [] pos) (mIsi fe f) := by
  obtain ⟨t, h1, h2⟩ := he
  refine ⟨_, pe_callB call_isi hg hm boot_isinstance (pa_cons h1 (pa_cons (pe_bltn (v := .ty N) hgT hmT h.boot rfl h.nn hdb) pa_nil hs2) hs) (by decide) (by decide) hs hpl,
    ev_one (R := RD) (k := fun x H1 Q => rIsi X.K (x :: [V.ty N]) H1 Q) (fun B H G x d b c Q s bx rd hc q => ?_) h2⟩
  cases hc
  exact ⟨x, .ty N, _, .type N, f d, rfl, .ty N, tyX_of rd s, kit_ty (h.ok G x d rd), q _ H G (.refl s bx) (.bl _)⟩
theorem kit_any2 {K : PySem.W.Frag} {t : Value} {N1 N2 : String} {b1 b2 : Bool} (h1 : PySem.W.kitOne K t (.type N1) = some b1) (h2 : PySem.W.kitOne K t (.type N2) = some b2) : PySem.W.kitAny K t [.type N1, .type N2] = some (b1 || b2) := by
  refine kitAny_cons h1 (fun e => ?_) fun e => by rw [e]; rfl
  subst e
  exact kitAny_cons h2 (fun e => by rw [e]; exact kitAny_nil) fun e => by rw [e]; rfl
theorem de_isi2 {T1 T2 : Str} {N1 N2 : String} {f1 f2 : Dt → Bool} {e : Expr} {fe : EnvD → Mo Dt} {p p2 p3 p4 pos : Pos} {kt} (h : IsT T1 N1 f1) (h' : IsT T2 N2 f2) (hm : X.mg "isinstance" = none) (hm1 : X.mg T1 = none) (hm2 : X.mg T2 = none) (he : DE X W O e fe) (hg : Gl X "isinstance" := by rfl) (hg1 : Gl X T1 := by rfl) (hg2 : Gl X T2 := by rfl)
    (hs : starEach [e, .Tuple [.Name T1 p2, .Name T2 p3] kt p4] X.env = (false, eval e X.env) :: starEach [.Tuple [.Name T1 p2, .Name T2 p3] kt p4] X.env := by rfl) (hs2 : starEach [.Tuple [.Name T1 p2, .Name T2 p3] kt p4] X.env = (false, eval (.Tuple [.Name T1 p2, .Name T2 p3] kt p4) X.env) :: starEach [] X.env := by rfl)
    (hs3 : starEach [.Name T1 p2, .Name T2 p3] X.env = (false, eval (.Name T1 p2) X.env) :: starEach [.Name T2 p3] X.env := by rfl) (hs4 : starEach [.Name T2 p3] X.env = (false, eval (.Name T2 p3) X.env) :: starEach [] X.env := by rfl)
    (hpl : (backTo pos (starEach [.Tuple [.Name T1 p2, .Name T2 p3] kt p4] X.env)).any (·.1) = false := by rfl) (hd1 : (T1 == ("__debug__" : Str)) = false := by decide) (hd2 : (T2 == ("__debug__" : Str)) = false := by decide) :
    DE X W O (.Call (.Name "isinstance" p) [e, .Tuple [.Name T1 p2, .Name T2 p3] kt p4] [] pos) (mIsi fe fun d => f1 d || f2 d) := by
  obtain ⟨t, h1, h2⟩ := he
  refine ⟨_, pe_callB call_isiT hg hm boot_isinstance (pa_cons h1 (pa_cons (pe_tup (pa_cons (pe_bltn (v := .ty N1) hg1 hm1 h.boot rfl h.nn hd1) (pa_cons (pe_bltn (v := .ty N2) hg2 hm2 h'.boot rfl h'.nn hd2) pa_nil hs4) hs3)) pa_nil hs2) hs) (by decide) (by decide) hs hpl,
    ev_one (R := RD) (k := fun x H1 Q => [V.ty N1, V.ty N2].length ≤ sizeLine ∧ ∀ p, H1 p = none → rIsiT X.K (x :: [V.ref p]) (upd H1 p (.tup [V.ty N1, V.ty N2])) Q) (fun B H G x d b c Q s bx rd hc q => ?_) h2⟩
  cases hc
  refine ⟨by show 2 ≤ sizeLine; decide, fun q' hq => ⟨x, q', _, _, _, _, rfl, upd_same, .cons (.ty N1) (.cons (.ty N2) .nil), tyX_of rd (fun a o e => by rw [upd_ne (ne_of_none (s a o e) hq)]; exact s a o e), kit_any2 (kit_ty (h.ok G x d rd)) (kit_ty (h'.ok G x d rd)), ?_⟩⟩
  exact q _ _ G (Stp.addH s bx hq) (.bl _)
/-! ### calls of the text's own defs -/
/-- what a def promises: what f reckons of its arguments -/
def spM (mg : Mg) (f : List Sl → Mo Dt) : Sp := fun vs H Q E => ∃ B G b sls r b', Same G H ∧ BoxAt B H G b ∧ RSs B G vs sls ∧ f sls b = some (r, b') ∧ match r with
  | .ok d => ∀ v H' G', Stp B H G H' G' b' → Rp G' v d → Q v H'
  | .error e => ∀ C dd H' G', mg e.cls = some (.ref C) → Stp B H G H' G' b' → ExAt H' G' dd e → E (.ref C) dd H'
def mCall (mf : List Sl → Mo Dt) (fa : EnvD → Mo (List Sl)) (ρ : EnvD) : Mo Dt := mBind (fa ρ) mf
theorem de_call {k : Nat} {f : Addr} {fd : FuncData} {ps : List Str} {mf : List Sl → Mo Dt} {x : Str} {e : Expr} {es : List Expr} {fa : EnvD → Mo (List Sl)} {p pos : Pos} (F : FnOk X.prog X.w X.K X.mg X.base (L2.CX X.prog X.w) k f fd ps (spM X.mg mf)) (hr : Room k X.A) (hm : X.mg x = some (.ref f)) (hk : PySem.W.keepIn X.K (.ref f) = true) (hb : Binds X.K fd ps [])
    (tk : Takes X W) (ha : DA X W O (e :: es) fa) (hg : Gl X x := by rfl) (hdb : (x == ("__debug__" : Str)) = false := by decide) (he : starEach (e :: es) X.env = (false, eval e X.env) :: starEach es X.env := by rfl) (hpl : (backTo pos (starEach es X.env)).any (·.1) = false := by rfl) :
    DE X W O (.Call (.Name x p) (e :: es) [] pos) (mCall mf fa) := by
  obtain ⟨t, h1, h2⟩ := ha
  refine ⟨_, pe_callS F hr hg hm hk hb (fun σ => passAt tk σ) h1 hdb he hpl, fun B H0 G0 σ H G ρ b Q r b' I e p => ?_⟩
  unfold mCall at e
  rcases mBind_some e with ⟨er, q1, rfl⟩ | ⟨sls, b1, q1, e⟩
  · exact h2.err I q1 p
  refine h2 B H0 G0 σ H G ρ b _ _ _ I q1 fun vs H1 G1 s1 r1 => ?_
  have p1 := p.after s1
  refine ⟨B, G1, b1, sls, r, b', s1.sub, s1.box, r1, e, ?_⟩
  cases r with
  | ok d => exact p1
  | error er => exact p1
end
end DL
set_option maxRecDepth 100000
set_option maxHeartbeats 1000000
namespace DL
open PySem PySem.Spec PyProof.Rows L2

section
variable {X : Cx} {W : WX} {O : List Nat}
/-! ### what is walked -/
def ItOk (J : It) (G1 : Hp) (ds : List Dt) : Prop := ∀ H2 G2, Same G1 G2 → Same G2 H2 → J.stop ds.length H2 ∧ ∀ i d, ds[i]? = some d → J.go i H2 ∧ ∀ x H3, J.yld i H2 x H3 → ∃ G3, (∀ B b, BoxAt B H2 G2 b → Stp B H2 G2 H3 G3 b) ∧ Rp G3 x d
def RI : Option Addr → Hp → It → List Dt → Prop := fun _ G J ds => ItOk J G ds ∧ ds.length ≤ sizeLine
def DI (X : Cx) (W : WX) (O : List Nat) (tg iter : Expr) (f : EnvD → Mo (List Dt)) : Prop := ∃ wi, PI X tg iter wi ∧ Ev X.mg W O wi RI f
theorem PI.or {tg iter : Expr} {wi wi' : TI} (h : PI X tg iter wi) (h' : PI X tg iter wi') : PI X tg iter (fun σ H R => wi σ H R ∨ wi' σ H R) :=
  ⟨fun pins s σ H R I q => q.elim (h.run pins s σ H R I) (h'.run pins s σ H R I)⟩
theorem itOk_walk {J : It} {n : Nat} {P : Hp → Prop} {xs : List V} {G1 : Hp} {ds : List Dt} (w : Walk J n P (YAt xs)) (hn : n = ds.length) (hP : ∀ H2, Same G1 H2 → P H2) (ra : RpAll G1 xs ds) : ItOk J G1 ds := by
  intro H2 G2 s1 s2
  have hp := hP H2 (s1.trans s2)
  refine ⟨by rw [← hn]; exact w.stops H2 hp, fun i d hd => ?_⟩
  have hi : i < n := by rw [hn]; exact (List.getElem?_eq_some_iff.mp hd).1
  refine ⟨w.goes i H2 hi hp, fun x H3 y => ?_⟩
  obtain ⟨rfl, hx⟩ := w.yields i H2 x H3 hi hp y
  obtain ⟨v, h1, h2⟩ := ra.getD hd
  rw [hx] at h1
  cases h1
  exact ⟨G2, fun B b hb => .refl s2 hb, h2.mono s1⟩
def seqD : Dt → Option (List Dt)
  | .list ds => some ds
  | .tuple ds => some ds
  | _ => none
def mSeq (f : EnvD → Mo Dt) (ρ : EnvD) : Mo (List Dt) := mBind (f ρ) fun d => mOpt (seqD d)
theorem di_seq {tg e : Expr} {f : EnvD → Mo Dt} (h : DE X W O e f) : DI X W O tg e (mSeq f) := by
  obtain ⟨t, h1, h2⟩ := h
  refine ⟨_, PI.or (pi_list h1) (pi_tup h1), fun B H0 G0 σ H G ρ b R r b' I e p => ?_⟩
  unfold mSeq at e
  rcases mBind_some e with ⟨er, q1, rfl⟩ | ⟨d, b1, q1, e⟩
  · exact .inl (h2.err I q1 p)
  obtain ⟨ds, hd, rfl, rfl⟩ := mOpt_some e
  unfold seqD at hd
  split at hd
  · cases hd
    refine .inl (h2 B H0 G0 σ H G ρ b _ _ _ I q1 fun v H1 G1 s1 r1 => ?_)
    obtain ⟨a, vs, rfl, k1, k2, k3⟩ := r1.inv_list
    have s' := s1.sub
    exact ⟨a, rfl, ⟨vs, SqL.of (s' _ _ k1)⟩, p _ H1 G1 s1 ⟨itOk_walk (walk_list (K := X.K)) k3.length (fun H2 q => SqL.of (q _ _ k1)) k3, by rw [← k3.length]; exact k2⟩⟩
  · cases hd
    refine .inr (h2 B H0 G0 σ H G ρ b _ _ _ I q1 fun v H1 G1 s1 r1 => ?_)
    obtain ⟨a, vs, rfl, k1, k2, k3⟩ := r1.inv_tup
    have s' := s1.sub
    exact ⟨a, rfl, ⟨vs, SqT.of (s' _ _ k1)⟩, p _ H1 G1 s1 ⟨itOk_walk (walk_tup (K := X.K)) k3.length (fun H2 q => SqT.of (q _ _ k1)) k3, by rw [← k3.length]; exact k2⟩⟩
  · cases hd
/-- lo, lo + 1, .. -/
def rngD (lo : Int) (n : Nat) : List Dt := (List.range n).map fun i => .int (lo + (i : Nat))
theorem rngD_len (lo : Int) (n : Nat) : (rngD lo n).length = n := by simp [rngD]
theorem itOk_rng {lo : Int} {n : Nat} {G1 : Hp} : ItOk (Itr lo n) G1 (rngD lo n) := by
  intro H2 G2 s1 s2
  refine ⟨by rw [rngD_len]; exact Nat.le_refl _, fun i d hd => ?_⟩
  have hi : i < n := by have := (List.getElem?_eq_some_iff.mp hd).1; rwa [rngD_len] at this
  refine ⟨hi, fun x H3 y => ?_⟩
  obtain ⟨rfl, rfl⟩ := y
  refine ⟨G2, fun B b hb => .refl s2 hb, ?_⟩
  have e : (rngD lo n)[i]? = some (.int (lo + (i : Nat))) := by simp [rngD, hi]
  rw [e] at hd
  cases hd
  exact .int _
def rng1D : List Sl → Option (List Dt)
  | [.d (.int j)] => if -(2 ^ 62) ≤ j ∧ j < 2 ^ 62 ∧ j.toNat ≤ sizeLine then some (rngD 0 j.toNat) else none
  | _ => none
def rng2D : List Sl → Option (List Dt)
  | [.d (.int i), .d (.int j)] => if -(2 ^ 62) ≤ i ∧ i < 2 ^ 62 ∧ -(2 ^ 62) ≤ j ∧ j < 2 ^ 62 ∧ (j - i).toNat ≤ sizeLine then some (rngD i (j - i).toNat) else none
  | _ => none
def mRng1 (f : EnvD → Mo (List Sl)) (ρ : EnvD) : Mo (List Dt) := mBind (f ρ) fun d => mOpt (rng1D d)
def mRng2 (f : EnvD → Mo (List Sl)) (ρ : EnvD) : Mo (List Dt) := mBind (f ρ) fun d => mOpt (rng2D d)
theorem di_range1 {tg a : Expr} {f : EnvD → Mo (List Sl)} {p pos : Pos} (hm : X.mg "range" = none) (ha : DA X W O [a] f) (hg : Gl X "range" := by rfl) (hs : starEach [a] X.env = [(false, eval a X.env)] := by rfl) : DI X W O tg (.Call (.Name "range" p) [a] [] pos) (mRng1 f) := by
  obtain ⟨t, h1, h2⟩ := ha
  refine ⟨_, pi_range1 hg hm h1 hs, fun B H0 G0 σ H G ρ b R r b' I e p => ?_⟩
  unfold mRng1 at e
  rcases mBind_some e with ⟨er, q1, rfl⟩ | ⟨d, b1, q1, e⟩
  · exact h2.err I q1 p
  obtain ⟨ds, hd, rfl, rfl⟩ := mOpt_some e
  refine h2 B H0 G0 σ H G ρ b _ _ _ I q1 fun v H1 G1 s1 r1 => ?_
  unfold rng1D at hd
  split at hd
  · split at hd
    · rename_i j hj
      cases hd
      obtain ⟨v', rfl, rv⟩ := r1.one
      exact ⟨j, by rw [rv.inv_int], hj.1, hj.2.1, p _ H1 G1 s1 ⟨itOk_rng, by rw [rngD_len]; exact hj.2.2⟩⟩
    · cases hd
  · cases hd
theorem di_range2 {tg a a2 : Expr} {f : EnvD → Mo (List Sl)} {p pos : Pos} (hm : X.mg "range" = none) (ha : DA X W O [a, a2] f) (hg : Gl X "range" := by rfl) (hs : starEach [a, a2] X.env = [(false, eval a X.env), (false, eval a2 X.env)] := by rfl) (hs2 : starEach [a2] X.env = [(false, eval a2 X.env)] := by rfl) :
    DI X W O tg (.Call (.Name "range" p) [a, a2] [] pos) (mRng2 f) := by
  obtain ⟨t, h1, h2⟩ := ha
  refine ⟨_, pi_range2 hg hm h1 hs hs2, fun B H0 G0 σ H G ρ b R r b' I e p => ?_⟩
  unfold mRng2 at e
  rcases mBind_some e with ⟨er, q1, rfl⟩ | ⟨d, b1, q1, e⟩
  · exact h2.err I q1 p
  obtain ⟨ds, hd, rfl, rfl⟩ := mOpt_some e
  refine h2 B H0 G0 σ H G ρ b _ _ _ I q1 fun v H1 G1 s1 r1 => ?_
  unfold rng2D at hd
  split at hd
  · split at hd
    · rename_i i j hj
      cases hd
      obtain ⟨v', u', rfl, rv, ru⟩ := r1.two
      exact ⟨i, j, by rw [rv.inv_int, ru.inv_int], ⟨hj.1, hj.2.1, hj.2.2.1, hj.2.2.2.1⟩, p _ H1 G1 s1 ⟨itOk_rng, by rw [rngD_len]; exact hj.2.2.2.2⟩⟩
    · cases hd
  · cases hd
/-- zip of two lists, of two tuples -/
def zipP (xs ys : List Dt) : List Dt := (xs.zip ys).map fun p => .tuple [p.1, p.2]
theorem zipP_len (xs ys : List Dt) : (zipP xs ys).length = min xs.length ys.length := by simp [zipP]
theorem itOk_pair {J : It} {n : Nat} {P : Hp → Prop} {f g : Nat → Option V} {G1 : Hp} {xs ys : List Dt} (w : Walk J n P (YPair f g)) (hn : n = min xs.length ys.length) (hP : ∀ H2, Same G1 H2 → P H2)
    (hf : ∀ i x v, xs[i]? = some x → f i = some v → Rp G1 v x) (hg : ∀ i x v, ys[i]? = some x → g i = some v → Rp G1 v x) : ItOk J G1 (zipP xs ys) := by
  intro H2 G2 s1 s2
  have hp := hP H2 (s1.trans s2)
  refine ⟨by rw [zipP_len, ← hn]; exact w.stops H2 hp, fun i d hd => ?_⟩
  have hi : i < n := by rw [hn, ← zipP_len]; exact (List.getElem?_eq_some_iff.mp hd).1
  refine ⟨w.goes i H2 hi hp, fun x H3 y => ?_⟩
  obtain ⟨T, u, v, rfl, hT, rfl, h3, h4⟩ := w.yields i H2 x H3 hi hp y
  have hx : i < xs.length := by omega
  have hy : i < ys.length := by omega
  have e : (zipP xs ys)[i]? = some (.tuple [xs[i], ys[i]]) := by simp [zipP, List.getElem?_zip_eq_some, hx, hy]
  rw [e] at hd
  cases hd
  have sg : Same G2 (upd G2 T (.tup [u, v])) := fun c o q => by rw [upd_ne (ne_of_none (s2 c o q) hT)]; exact q
  refine ⟨upd G2 T (.tup [u, v]), fun B b hb => Stp.add s2 hb hT, .tup upd_same (by show 2 ≤ sizeLine; decide) (.cons ?_ (.cons ?_ .nil))⟩
  · exact (hf i _ _ (List.getElem?_eq_getElem hx) h3).mono (s1.trans sg)
  · exact (hg i _ _ (List.getElem?_eq_getElem hy) h4).mono (s1.trans sg)
def zipD : List Sl → Option (List Dt)
  | [.d (.list xs), .d (.list ys)] => some (zipP xs ys)
  | [.d (.tuple xs), .d (.tuple ys)] => some (zipP xs ys)
  | _ => none
def mZip (f : EnvD → Mo (List Sl)) (ρ : EnvD) : Mo (List Dt) := mBind (f ρ) fun d => mOpt (zipD d)
/-- the walk of zip of two tuples -/
theorem walk_zipT {K : PySem.W.Frag} {a b : Addr} {xs ys : List V} {n : Nat} (hn : n = min xs.length ys.length) : Walk (RZ.ItzT K a b) n (fun H => SqT K H a xs ∧ SqT K H b ys) (YPair (fun i => xs[i]?) (fun i => ys[i]?)) := by
  subst hn
  refine ⟨fun i _ hi q => ?_, fun _ q => ⟨xs, ys, q.1, q.2, by omega⟩, fun i H v H' _ q y => ?_⟩
  · have h1 : i < xs.length := by omega
    have h2 : i < ys.length := by omega
    exact ⟨xs, ys, xs[i], ys[i], q.1, q.2, by simp [h1], by simp [h2]⟩
  · obtain ⟨T, x, z, h1, h2, h3, h4, h5⟩ := y
    exact ⟨T, x, z, h1, h2, h3, h4 xs q.1, h5 ys q.2⟩
theorem RpAll.atP {G : Hp} {vs : List V} {ds : List Dt} (h : RpAll G vs ds) : ∀ (i : Nat) (x : Dt) (v : V), ds[i]? = some x → vs[i]? = some v → Rp G v x := fun i x v h1 h2 => by
  obtain ⟨u, h3, h4⟩ := h.getD h1
  rw [h2] at h3
  cases h3
  exact h4
theorem di_zip {a a2 : Expr} {f : EnvD → Mo (List Sl)} {elts : List Expr} {kk} {tpos p pos : Pos} (hm : X.mg "zip" = none) (ha : DA X W O [a, a2] f) (hg : Gl X "zip" := by rfl) (hs : starEach [a, a2] X.env = (false, eval a X.env) :: starEach [a2] X.env := by rfl) (hpl : (backTo pos (starEach [a2] X.env)).any (·.1) = false := by rfl) :
    DI X W O (.Tuple elts kk tpos) (.Call (.Name "zip" p) [a, a2] [] pos) (mZip f) := by
  obtain ⟨t, h1, h2⟩ := ha
  refine ⟨_, RZ.pi_zipA hg hm h1 hs hpl, fun B H0 G0 σ H G ρ b R r b' I e p => ?_⟩
  unfold mZip at e
  rcases mBind_some e with ⟨er, q1, rfl⟩ | ⟨d, b1, q1, e⟩
  · exact h2.err I q1 p
  obtain ⟨ds, hd, rfl, rfl⟩ := mOpt_some e
  refine h2 B H0 G0 σ H G ρ b _ _ _ I q1 fun v H1 G1 s1 r1 => ?_
  have s' := s1.sub
  unfold zipD at hd
  split at hd
  · cases hd
    obtain ⟨v', u', rfl, rv, ru⟩ := r1.two
    obtain ⟨a, vs, rfl, k1, k2, k3⟩ := rv.inv_list
    obtain ⟨a', vs', rfl, k1', k2', k3'⟩ := ru.inv_list
    refine ⟨a, a', vs, vs', rfl, .inl ⟨SqL.of (s' _ _ k1), SqL.of (s' _ _ k1'), p _ H1 G1 s1 ⟨itOk_pair (walk_zip (K := X.K) (n := min vs.length vs'.length) rfl) (by rw [k3.length, k3'.length]) (fun H2 q => ⟨SqL.of (q _ _ k1), SqL.of (q _ _ k1')⟩) k3.atP k3'.atP, ?_⟩⟩⟩
    rw [zipP_len, ← k3.length]
    exact Nat.le_trans (Nat.min_le_left _ _) k2
  · cases hd
    obtain ⟨v', u', rfl, rv, ru⟩ := r1.two
    obtain ⟨a, vs, rfl, k1, k2, k3⟩ := rv.inv_tup
    obtain ⟨a', vs', rfl, k1', k2', k3'⟩ := ru.inv_tup
    refine ⟨a, a', vs, vs', rfl, .inr ⟨SqT.of (s' _ _ k1), SqT.of (s' _ _ k1'), p _ H1 G1 s1 ⟨itOk_pair (walk_zipT (K := X.K) (n := min vs.length vs'.length) rfl) (by rw [k3.length, k3'.length]) (fun H2 q => ⟨SqT.of (q _ _ k1), SqT.of (q _ _ k1')⟩) k3.atP k3'.atP, ?_⟩⟩⟩
    rw [zipP_len, ← k3.length]
    exact Nat.le_trans (Nat.min_le_left _ _) k2
  · cases hd
/-- enumerate of a list -/
def enumP (xs : List Dt) : List Dt := zipP (rngD 0 xs.length) xs
def enumD : List Sl → Option (List Dt)
  | [.d (.list xs)] => some (enumP xs)
  | _ => none
def mEnum (f : EnvD → Mo (List Sl)) (ρ : EnvD) : Mo (List Dt) := mBind (f ρ) fun d => mOpt (enumD d)
theorem di_enum {a : Expr} {f : EnvD → Mo (List Sl)} {elts : List Expr} {kk} {tpos p pos : Pos} (hm : X.mg "enumerate" = none) (ha : DA X W O [a] f) (hg : Gl X "enumerate" := by rfl) (hs : starEach [a] X.env = [(false, eval a X.env)] := by rfl) :
    DI X W O (.Tuple elts kk tpos) (.Call (.Name "enumerate" p) [a] [] pos) (mEnum f) := by
  obtain ⟨t, h1, h2⟩ := ha
  refine ⟨_, pi_enum hg hm h1 hs, fun B H0 G0 σ H G ρ b R r b' I e p => ?_⟩
  unfold mEnum at e
  rcases mBind_some e with ⟨er, q1, rfl⟩ | ⟨d, b1, q1, e⟩
  · exact h2.err I q1 p
  obtain ⟨ds, hd, rfl, rfl⟩ := mOpt_some e
  refine h2 B H0 G0 σ H G ρ b _ _ _ I q1 fun v H1 G1 s1 r1 => ?_
  have s' := s1.sub
  unfold enumD at hd
  split at hd
  · cases hd
    obtain ⟨v', rfl, rv⟩ := r1.one
    obtain ⟨a, vs, rfl, k1, k2, k3⟩ := rv.inv_list
    refine ⟨a, vs, rfl, SqL.of (s' _ _ k1), p _ H1 G1 s1 ⟨itOk_pair (walk_enum (K := X.K)) (by rw [rngD_len, Nat.min_self, k3.length]) (fun H2 q => SqL.of (q _ _ k1)) (fun i x v h3 h4 => ?_) k3.atP, ?_⟩⟩
    · cases h4
      have hi := (List.getElem?_eq_some_iff.mp h3).1
      rw [rngD_len] at hi
      simp [rngD, hi] at h3
      subst h3
      exact .int _
    · unfold enumP
      rw [zipP_len, rngD_len, Nat.min_self, ← k3.length]
      exact k2
  · cases hd

/-! ### targets -/
def DG (X : Cx) (O : List Nat) (tg : Expr) (is : List Nat) (g : Dt → EnvD → Option EnvD) : Prop := ∃ t, PG X tg t ∧ ∀ B H0 G0 σ H G ρ b v d ρ' Q, StOk B O H0 G0 σ H G ρ b → Rp G v d → g d ρ = some ρ' →
  (∀ σ', StOk B O H0 G0 σ' H G ρ' b → (∀ vs : List Nat, (∀ i ∈ is, i ∈ vs) → wipe σ' vs = wipe σ vs) → Q σ' H) → t v σ H Q
def DGs (X : Cx) (O : List Nat) (tgs : List Expr) (is : List Nat) (g : List Dt → EnvD → Option EnvD) : Prop := ∃ t, PGs X tgs t ∧ ∀ B H0 G0 σ H G ρ b vs ds ρ' Q, StOk B O H0 G0 σ H G ρ b → RpAll G vs ds → g ds ρ = some ρ' →
  (∀ σ', StOk B O H0 G0 σ' H G ρ' b → (∀ ws : List Nat, (∀ i ∈ is, i ∈ ws) → wipe σ' ws = wipe σ ws) → Q σ' H) → t vs σ H Q
theorem StOk.put {B : Option Addr} {H0 G0 H G : Hp} {σ : L2.St} {ρ : EnvD} {b : Bx} {i : Nat} {v : V} {s : Sl} (I : StOk B O H0 G0 σ H G ρ b) (hi : i ∉ O) (h : SlOk B G v s) : StOk B O H0 G0 (σ.set i (some v)) H G (ρ.set i (some s)) b where
  stp := I.stp
  len := by rw [List.length_set, List.length_set]; exact I.len
  sl := fun j s' hj e => by
    by_cases hji : i = j
    · subst hji
      by_cases hl : i < ρ.length
      · rw [List.getElem?_set_self hl] at e
        cases e
        exact ⟨v, List.getElem?_set_self (by rw [← I.len]; exact hl), h⟩
      · rw [List.getElem?_eq_none (by rw [List.length_set]; omega)] at e
        cases e
    · rw [List.getElem?_set_ne hji] at e ⊢
      exact I.sl j s' hj e
  ow := fun j s' hj e => by
    have hji : i ≠ j := fun z => hi (z ▸ hj)
    rw [List.getElem?_set_ne hji] at e ⊢
    exact I.ow j s' hj e
  ap := fun j k a s' s'' hj hk hne e1 e2 => by
    have hji : i ≠ j := fun z => hi (z ▸ hj)
    have hki : i ≠ k := fun z => hi (z ▸ hk)
    rw [List.getElem?_set_ne hji] at e1 ⊢
    rw [List.getElem?_set_ne hki] at e2 ⊢
    exact I.ap j k a s' s'' hj hk hne e1 e2
theorem set_none_comm {α : Type} {l : List (Option α)} {i j : Nat} {x : Option α} : ∀ {vs : List Nat} , i ∈ vs → ∀ {f : List (Option α) → List Nat → List (Option α)}, (∀ l, f l [] = l) → (∀ l v vs, f l (v :: vs) = (f l vs).set v none) → f (l.set i x) vs = f l vs := by
  intro vs
  induction vs with
  | nil => intro h; cases h
  | cons v vs ih =>
    intro h f f0 f1
    rw [f1, f1]
    by_cases hv : i ∈ vs
    · rw [ih hv f0 f1]
    · have e : i = v := by
        rcases List.mem_cons.mp h with e | e
        · exact e
        · exact absurd e hv
      subst e
      have key : ∀ vs : List Nat, i ∉ vs → f (l.set i x) vs = (f l vs).set i x := by
        intro vs
        induction vs with
        | nil => intro _; rw [f0, f0]
        | cons w ws ihw =>
          intro hn
          rw [f1, f1, ihw (fun z => hn (List.mem_cons_of_mem _ z)), List.set_comm]
          exact fun z => hn (z ▸ List.mem_cons_self)
      rw [key vs hv, List.set_set]
theorem wipe_put {σ : L2.St} {i : Nat} {x : Option V} {vs : List Nat} (h : i ∈ vs) : wipe (σ.set i x) vs = wipe σ vs := set_none_comm (f := wipe) (j := 0) h (fun _ => rfl) fun _ _ _ => rfl
def gN (i : Nat) (d : Dt) (ρ : EnvD) : Option EnvD := some (ρ.set i (some (.d d)))
theorem dg_name {i : Nat} {x : Str} {pos : Pos} (h : PG X (.Name x pos) (gName i)) (hi : i ∉ O := by decide) : DG X O (.Name x pos) [i] (gN i) := by
  refine ⟨_, h, fun B H0 G0 σ H G ρ b v d ρ' Q I rv e q => ?_⟩
  cases e
  exact q _ (I.put hi rv) fun vs hv => wipe_put (hv i List.mem_cons_self)
def gNils (ds : List Dt) (ρ : EnvD) : Option EnvD := if ds = [] then some ρ else none
def gConsD (g : Dt → EnvD → Option EnvD) (h : List Dt → EnvD → Option EnvD) : List Dt → EnvD → Option EnvD
  | d :: ds, ρ => (g d ρ).bind (h ds)
  | [], _ => none
theorem dgs_nil : DGs X O [] [] (fun ds ρ => match ds with | [] => some ρ | _ => none) := by
  refine ⟨_, pgs_nil, fun B H0 G0 σ H G ρ b vs ds ρ' Q I rv e q => ?_⟩
  cases ds with
  | nil =>
    cases e
    exact ⟨rv.inv_nil, q σ I fun _ _ => rfl⟩
  | cons d ds => cases e
theorem dgs_cons {e : Expr} {es : List Expr} {is js : List Nat} {g : Dt → EnvD → Option EnvD} {h : List Dt → EnvD → Option EnvD} (h1 : DG X O e is g) (h2 : DGs X O es js h) (hs : (assignEach (e :: es) X.env).map (·.2) = assign e X.env :: (assignEach es X.env).map (·.2) := by rfl) : DGs X O (e :: es) (is ++ js) (gConsD g h) := by
  obtain ⟨t, a1, a2⟩ := h1
  obtain ⟨u, b1, b2⟩ := h2
  refine ⟨_, pgs_cons a1 b1 hs, fun B H0 G0 σ H G ρ b vs ds ρ' Q I rv e q => ?_⟩
  cases ds with
  | nil => cases e
  | cons d ds =>
    obtain ⟨v, ws, rfl, r1, r2⟩ := rv.inv_cons
    simp only [gConsD] at e
    cases hg : g d ρ with
    | none => rw [hg] at e; cases e
    | some ρ1 =>
      rw [hg] at e
      simp only [Option.bind_some] at e
      exact ⟨v, ws, rfl, a2 B H0 G0 σ H G ρ b v d ρ1 _ I r1 hg fun σ1 I1 w1 => b2 B H0 G0 σ1 H G ρ1 b ws ds ρ' _ I1 r2 e fun σ2 I2 w2 =>
        q σ2 I2 fun vs hv => (w2 vs fun i hi => hv i (List.mem_append_right _ hi)).trans (w1 vs fun i hi => hv i (List.mem_append_left _ hi))⟩
def gTupD (n : Nat) (h : List Dt → EnvD → Option EnvD) (d : Dt) (ρ : EnvD) : Option EnvD := match d with
  | .tuple ds => if ds.length = n then h ds ρ else none
  | _ => none
theorem dg_tup {es : List Expr} {is : List Nat} {k : Nat} {n : Nat} {h : List Dt → EnvD → Option EnvD} {pos : Pos} {kk : Nat} (hc : X.calm = true) (h1 : DGs X O es is h) (hn : (assignEach es X.env).length = n := by rfl) (hst : (assignEach es X.env).findIdx? (·.1) = none := by rfl) : DG X O (.Tuple es kk pos) is (gTupD n h) := by
  obtain ⟨t, a1, a2⟩ := h1
  refine ⟨_, pg_tup hc a1 hn hst, fun B H0 G0 σ H G ρ b v d ρ' Q I rv e q => ?_⟩
  unfold gTupD at e
  split at e
  · split at e
    · rename_i ds hl
      obtain ⟨a, vs, rfl, k1, k2, k3⟩ := rv.inv_tup
      exact ⟨a, vs, rfl, SqT.of (I.sub _ _ k1), by rw [k3.length]; exact hl, a2 B H0 G0 σ H G _ b vs ds ρ' Q I k3 e q⟩
    · cases e
  · cases e
end
end DL
set_option maxRecDepth 100000
set_option maxHeartbeats 1000000
namespace DL
open PySem PySem.Spec PyProof.Rows L2

/-! ### slots forgotten -/
def wipeE (ρ : EnvD) : List Nat → EnvD
  | [] => ρ
  | v :: vs => (wipeE ρ vs).set v none
theorem StOk.unset {B : Option Addr} {O : List Nat} {H0 G0 H G : Hp} {σ : L2.St} {ρ : EnvD} {b : Bx} {i : Nat} (I : StOk B O H0 G0 σ H G ρ b) : StOk B O H0 G0 (σ.set i none) H G (ρ.set i none) b := by
  have key : ∀ (j : Nat) (s : Sl), (ρ.set i none)[j]? = some (some s) → i ≠ j ∧ ρ[j]? = some (some s) := fun j s e => by
    by_cases hji : i = j
    · subst hji
      by_cases hl : i < ρ.length
      · rw [List.getElem?_set_self hl] at e; cases e
      · rw [List.getElem?_eq_none (by rw [List.length_set]; omega)] at e; cases e
    · rw [List.getElem?_set_ne hji] at e
      exact ⟨hji, e⟩
  refine ⟨I.stp, by rw [List.length_set, List.length_set]; exact I.len, fun j s hj e => ?_, fun j s hj e => ?_, fun j k a s s' hj hk hne e1 e2 => ?_⟩
  · obtain ⟨h1, h2⟩ := key j s e
    rw [List.getElem?_set_ne h1]
    exact I.sl j s hj h2
  · obtain ⟨h1, h2⟩ := key j s e
    rw [List.getElem?_set_ne h1]
    exact I.ow j s hj h2
  · obtain ⟨h1, h2⟩ := key j s e1
    obtain ⟨h3, h4⟩ := key k s' e2
    rw [List.getElem?_set_ne h1, List.getElem?_set_ne h3]
    exact I.ap j k a s s' hj hk hne h2 h4
theorem StOk.wipe {B : Option Addr} {O : List Nat} {H0 G0 H G : Hp} {σ : L2.St} {ρ : EnvD} {b : Bx} (I : StOk B O H0 G0 σ H G ρ b) : ∀ vs : List Nat, StOk B O H0 G0 (L2.wipe σ vs) H G (wipeE ρ vs) b
  | [] => I
  | v :: vs => (StOk.wipe I vs).unset
theorem wipe_sub {σ : L2.St} {vs : List Nat} : ∀ ws : List Nat, (∀ i ∈ ws, i ∈ vs) → L2.wipe (L2.wipe σ ws) vs = L2.wipe σ vs
  | [], _ => rfl
  | w :: ws, h => by
    show L2.wipe ((L2.wipe σ ws).set w none) vs = _
    rw [wipe_put (h w List.mem_cons_self)]
    exact wipe_sub ws fun i hi => h i (List.mem_cons_of_mem _ hi)

/-! ### a new list, not yet data -/
def EvL (mg : Mg) (W : WX) (O : List Nat) (t : TE) (f : EnvD → Mo (List Dt)) : Prop := ∀ B H0 G0 σ H G ρ b Q r b', StOk B O H0 G0 σ H G ρ b → f ρ b = some (r, b') → (match r with
  | .ok ds => ∀ a vs H' G', Stp B H G H' G' b' → H a = none → H' a = some (.lst vs) → G' a = none → B ≠ some a → RpAll G' vs ds → vs.length ≤ sizeLine → Q (V.ref a) H'
  | .error e => ∀ C dd H' G', mg e.cls = some (.ref C) → Stp B H G H' G' b' → ExAt H' G' dd e → W (.ref C) dd σ H') → t σ H Q
def DEL (X : Cx) (W : WX) (O : List Nat) (e : Expr) (f : EnvD → Mo (List Dt)) : Prop := ∃ t, PE X e t ∧ EvL X.mg W O t f
theorem Stp.freeze {B : Option Addr} {H G H' G' : Hp} {b' : Bx} {a : Addr} {vs : List V} (x : Stp B H G H' G' b') (h0 : H a = none) (h1 : H' a = some (.lst vs)) (h2 : G' a = none) (h3 : B ≠ some a) : Stp B H G H' (upd G' a (.lst vs)) b' where
  keep := x.keep
  grow := x.grow.trans fun c o e => by rw [upd_ne (ne_of_none e h2)]; exact e
  sub := fun c o e => by
    by_cases hc : c = a
    · subst hc; rw [upd_same] at e; rw [h1]; exact e
    · rw [upd_ne hc] at e; exact x.sub c o e
  new := fun c o e n => by
    rw [upd_ne (ne_of_none e h0)]
    exact x.new c o e n
  box := fun c e => by
    obtain ⟨q1, q2⟩ := x.box c e
    exact ⟨q1, by rw [upd_ne (fun z : c = a => h3 (z ▸ e))]; exact q2⟩
theorem Stp.mod {B : Option Addr} {H G H' G' : Hp} {b' : Bx} {a : Addr} {o : HO} (x : Stp B H G H' G' b') (h0 : H a = none) (h2 : G' a = none) (h3 : B ≠ some a) : Stp B H G (upd H' a o) G' b' where
  keep := fun c u e n => by rw [upd_ne (ne_of_none e h0)]; exact x.keep c u e n
  grow := x.grow
  sub := fun c u e => by rw [upd_ne (ne_of_none e h2)]; exact x.sub c u e
  new := x.new
  box := fun c e => by
    obtain ⟨q1, q2⟩ := x.box c e
    exact ⟨by rw [upd_ne (fun z : c = a => h3 (z ▸ e))]; exact q1, q2⟩
theorem Stp.none {B : Option Addr} {H G H' G' : Hp} {b' : Bx} {a : Addr} (x : Stp B H G H' G' b') (h : H' a = Option.none) : H a = Option.none ∧ B ≠ some a := by
  have hb : B ≠ some a := fun e => by
    obtain ⟨q1, q2⟩ := x.box a e
    rw [h] at q1; cases q1
  refine ⟨?_, hb⟩
  cases q : H a with
  | none => rfl
  | some o =>
    have := x.keep a o q hb
    rw [h] at this; cases this
section
variable {X : Cx} {W : WX} {O : List Nat}
def mList (f : EnvD → Mo (List Dt)) (ρ : EnvD) : Mo Dt := mBind (f ρ) fun ds => mOk (.list ds)
theorem del_de {e : Expr} {f : EnvD → Mo (List Dt)} (h : DEL X W O e f) : DE X W O e (mList f) := by
  obtain ⟨t, h1, h2⟩ := h
  refine ⟨t, h1, fun B H0 G0 σ H G ρ b Q r b' I e p => ?_⟩
  unfold mList at e
  rcases mBind_some e with ⟨er, q1, rfl⟩ | ⟨d, b1, q1, e⟩
  · exact h2 B H0 G0 σ H G ρ b _ _ _ I q1 p
  obtain ⟨rfl, rfl⟩ := mOk_some e
  refine h2 B H0 G0 σ H G ρ b _ _ _ I q1 fun a vs H' G' s h0 h1 h3 h4 h5 h6 => ?_
  have s' := s.freeze h0 h1 h3 h4
  exact p _ H' _ s' (.lst upd_same h6 (h5.mono fun c o e => by rw [upd_ne (ne_of_none e h3)]; exact e))

/-! ### a list comprehension -/
def DTs (X : Cx) (W : WX) (O : List Nat) (ifs : List Expr) (f : EnvD → Mo Bool) : Prop := ∃ t, PTs X ifs t ∧ Ev X.mg W O t RB f
def mYes : EnvD → Mo Bool := fun _ => mOk true
theorem dts_nil : DTs X W O [] mYes := ⟨_, pts_nil, fun B H0 G0 σ H G ρ b Q r b' I e p => by
  obtain ⟨rfl, rfl⟩ := mOk_some e
  exact p _ H G I.refl rfl⟩
theorem dts_one {c : Expr} {f : EnvD → Mo Bool} (h : DT X W O c f) : DTs X W O [c] f := by
  obtain ⟨t, h1, h2⟩ := h
  exact ⟨t, pts_one h1, h2⟩
theorem DTs.can {ifs : List Expr} {f : EnvD → Mo Bool} (h : DTs X W O ifs f) : PTs X ifs (can X.mg W O RB f) := by
  obtain ⟨t, h1, h2⟩ := h
  exact ⟨fun pins s σ H Q I ⟨B, H0, G0, G, ρ, b, r, b', J, e, p⟩ => h1.run pins s σ H Q I (h2 B H0 G0 σ H G ρ b Q r b' J e p)⟩
def canG (O : List Nat) (is : List Nat) (g : Dt → EnvD → Option EnvD) : TG := fun v σ H Q => ∃ B H0 G0 G ρ b d ρ', StOk B O H0 G0 σ H G ρ b ∧ Rp G v d ∧ g d ρ = some ρ' ∧ ∀ σ', StOk B O H0 G0 σ' H G ρ' b → (∀ vs : List Nat, (∀ i ∈ is, i ∈ vs) → L2.wipe σ' vs = L2.wipe σ vs) → Q σ' H
theorem DG.can {tg : Expr} {is : List Nat} {g : Dt → EnvD → Option EnvD} (h : DG X O tg is g) : PG X tg (canG O is g) := by
  obtain ⟨t, h1, h2⟩ := h
  exact ⟨fun pins s σ H v u Q I r ⟨B, H0, G0, G, ρ, b, d, ρ', J, rv, e, q⟩ => h1.run pins s σ H v u Q I r (h2 B H0 G0 σ H G ρ b v d ρ' Q J rv e q)⟩
def mNo {α β : Type} (m : Mo α) (k : α → Mo β) : Mo β := fun b => match m b with
  | some (.ok a, b1) => k a b1
  | _ => none
theorem mNo_some {α β : Type} {m : Mo α} {k : α → Mo β} {b : Bx} {r : Except Ex β} {b' : Bx} (h : mNo m k b = some (r, b')) : ∃ a b1, m b = some (.ok a, b1) ∧ k a b1 = some (r, b') := by
  unfold mNo at h
  split at h
  · rename_i a b1 e
    exact ⟨a, b1, e, h⟩
  · cases h
def lcLoop (g : Dt → EnvD → Option EnvD) (ft : EnvD → Mo Bool) (fe : EnvD → Mo Dt) (ρ : EnvD) : List Dt → Mo (List Dt)
  | [] => mOk []
  | d :: r => match g d ρ with
    | none => fun _ => none
    | some ρ1 => mNo (ft ρ1) fun k => if k = true then mNo (fe ρ1) fun y => mNo (lcLoop g ft fe ρ r) fun ys => mOk (y :: ys) else lcLoop g ft fe ρ r
theorem lcLoop_ok {g : Dt → EnvD → Option EnvD} {ft : EnvD → Mo Bool} {fe : EnvD → Mo Dt} {ρ : EnvD} : ∀ {ds : List Dt} {b : Bx} {r : Except Ex (List Dt)} {b' : Bx}, lcLoop g ft fe ρ ds b = some (r, b') → ∃ ys, r = .ok ys
  | [], b, r, b', h => ⟨_, (mOk_some h).1⟩
  | d :: ds, b, r, b', h => by
    cases hg : g d ρ with
    | none => simp only [lcLoop, hg] at h; cases h
    | some ρ1 =>
      simp only [lcLoop, hg] at h
      obtain ⟨k, b1, _, h⟩ := mNo_some h
      split at h
      · obtain ⟨y, b2, _, h⟩ := mNo_some h
        obtain ⟨ys, b3, _, h⟩ := mNo_some h
        exact ⟨_, (mOk_some h).1⟩
      · exact lcLoop_ok h
def mLc (fi : EnvD → Mo (List Dt)) (vs : List Nat) (g : Dt → EnvD → Option EnvD) (ft : EnvD → Mo Bool) (fe : EnvD → Mo Dt) (ρ : EnvD) : Mo (List Dt) := mBind (fi ρ) (lcLoop g ft fe (wipeE ρ vs))
/-- no exception is let out -/
abbrev Wn : WX := fun _ _ _ _ => False
theorem ev_lc {mg : Mg} {wi : TI} {fi : EnvD → Mo (List Dt)} {is : List Nat} {g : Dt → EnvD → Option EnvD} {ft : EnvD → Mo Bool} {fe : EnvD → Mo Dt} {vs : List Nat} (hi : Ev mg W O wi RI fi) (his : ∀ i ∈ is, i ∈ vs) :
    EvL mg W O (tLc wi (canG O is g) (can mg Wn O RB ft) (can mg Wn O RD fe) vs) (mLc fi vs g ft fe) := by
  intro B H0 G0 σ H G ρ b Q r b' I e p
  unfold mLc at e
  rcases mBind_some e with ⟨er, q1, rfl⟩ | ⟨ds, b1, q1, e⟩
  · exact hi.err (R' := RI) (Q' := fun _ _ => True) I q1 p
  obtain ⟨zs, rfl⟩ := lcLoop_ok e
  refine hi B H0 G0 σ H G ρ b _ _ _ I q1 fun J H1 G1 s1 ⟨it, hl⟩ D hD => ?_
  have Iw := (I.step s1).wipe vs
  obtain ⟨hD0, hB⟩ := s1.none hD
  have gD : G1 D = none := Same.free s1.sub hD
  refine ⟨fun i m H' => m = ds.length - i ∧ i ≤ ds.length ∧ ∃ G' bi accV accD ys, Stp B H1 G1 H' G' bi ∧ H' D = some (.lst accV) ∧ G' D = none ∧ RpAll G' accV accD ∧ accV.length ≤ i ∧ lcLoop g ft fe (wipeE ρ vs) (ds.drop i) bi = some (.ok ys, b') ∧ accD ++ ys = zs,
    ⟨ds.length, by simp, Nat.zero_le _, G1, b1, [], [], zs, Stp.addH s1.sub s1.box hD, upd_same, gD, .nil, Nat.le_refl _, by simpa using e, rfl⟩, ?_⟩
  rintro i m H' ⟨rfl, hi', G', bi, accV, accD, ys, st, hH, hG, ra, hlen, hloop, hzs⟩
  obtain ⟨hstop, hgo⟩ := it H' G' st.grow st.sub
  by_cases hlt : i < ds.length
  · have hd : ds[i]? = some ds[i] := List.getElem?_eq_getElem hlt
    obtain ⟨g1, g2⟩ := hgo i ds[i] hd
    refine .inr ⟨g1, fun H'' => i + 1 ≤ ds.length ∧ ∃ G'' bj accV' accD' ys', Stp B H1 G1 H'' G'' bj ∧ H'' D = some (.lst accV') ∧ G'' D = none ∧ RpAll G'' accV' accD' ∧ accV'.length ≤ i + 1 ∧ lcLoop g ft fe (wipeE ρ vs) (ds.drop (i + 1)) bj = some (.ok ys', b') ∧ accD' ++ ys' = zs,
      fun H'' w => ⟨ds.length - (i + 1), by omega, rfl, w⟩, fun x H3 y => ?_⟩
    obtain ⟨G3, s3, r3⟩ := g2 x H3 y
    have st3 := st.trans (s3 B bi st.box)
    rw [List.drop_eq_getElem_cons hlt] at hloop
    cases hg1 : g ds[i] (wipeE ρ vs) with
    | none => simp only [lcLoop, hg1] at hloop; cases hloop
    | some ρ1 =>
    simp only [lcLoop, hg1] at hloop
    obtain ⟨k, b2, ht, hloop⟩ := mNo_some hloop
    have J3 := Iw.step st3
    refine ⟨B, H0, G0, G3, wipeE ρ vs, bi, ds[i], ρ1, J3, r3, hg1, fun σ2 J4 hw => ⟨(hw vs his).trans (wipe_sub vs fun _ h => h), B, H0, G0, G3, ρ1, bi, .ok k, b2, J4, ht, ?_⟩⟩
    intro k' H4 G4 s4 rk
    cases rk
    have st4 := st3.trans s4
    have hH4 : H4 D = some (.lst accV) := s4.keep D _ ((s3 B bi st.box).keep D _ hH hB) hB
    have hG4 : G4 D = none := s4.new D _ ((s3 B bi st.box).keep D _ hH hB) ((s3 B bi st.box).new D _ hH hG)
    have grow4 : Same G' G4 := (s3 B bi st.box).grow.trans s4.grow
    cases k with
    | false =>
      simp only [Bool.false_eq_true, if_false] at hloop
      exact iteF ⟨hlt, G4, b2, accV, accD, ys, st4, hH4, hG4, ra.mono grow4, Nat.le_succ_of_le hlen, hloop, hzs⟩
    | true =>
      simp only [if_true] at hloop
      obtain ⟨y', b3, he, hloop⟩ := mNo_some hloop
      obtain ⟨ys', b4, hrest, hloop⟩ := mNo_some hloop
      obtain ⟨hy, rfl⟩ := mOk_some hloop
      cases hy
      refine iteT ⟨B, H0, G0, G4, ρ1, b2, .ok y', b3, J4.step s4, he, ?_⟩
      intro u H5 G5 s5 r5
      have hH5 : H5 D = some (.lst accV) := s5.keep D _ hH4 hB
      have hG5 : G5 D = none := s5.new D _ hH4 hG4
      have st5 := st4.trans s5
      refine ⟨accV, hH5, by omega, hlt, G5, b3, accV ++ [u], accD ++ [y'], ys', st5.mod hD hG5 hB, upd_same, hG5, (ra.mono (grow4.trans s5.grow)).append (.cons r5 .nil), by simp; omega, hrest, ?_⟩
      rw [← hzs, List.append_assoc]
      rfl
  · have ei : i = ds.length := by omega
    subst ei
    rw [List.drop_length] at hloop
    obtain ⟨hy, rfl⟩ := mOk_some hloop
    cases hy
    rw [List.append_nil] at hzs
    subst hzs
    exact .inl ⟨hstop, p D accV H' G' (s1.trans st) hD0 hH hG hB ra (Nat.le_trans hlen hl)⟩
theorem del_lc {elt tg iter : Expr} {ifs : List Expr} {scope : Scope} {own : List (Str × Nat)} {pos : Pos} {fi : EnvD → Mo (List Dt)} {is : List Nat} {g : Dt → EnvD → Option EnvD} {ft : EnvD → Mo Bool} {fe : EnvD → Mo Dt} (hc : X.calm = true) (hN : X.N.Nodup) (hi : DI X W O tg iter fi) (ok : BlkOk X.N X.env.scope scope own) (his : ∀ i ∈ is, i ∈ own.map (·.2))
    (hg : ∀ (s : Shared) (H : Hp) (C : Addr) (cl : List (Str × Addr)) (fp : List Addr), DG (X.blk s H scope (compEnvC scope cl C X.env) fp) O tg is g) (ht : ∀ (s : Shared) (H : Hp) (C : Addr) (cl : List (Str × Addr)) (fp : List Addr), DTs (X.blk s H scope (compEnvC scope cl C X.env) fp) Wn O ifs ft)
    (he : ∀ (s : Shared) (H : Hp) (C : Addr) (cl : List (Str × Addr)) (fp : List Addr), DE (X.blk s H scope (compEnvC scope cl C X.env) fp) Wn O elt fe) (hs : ∀ x, foldedSetIterable iter X.env x = pure x := by intro _; rfl) :
    DEL X W O (.ListComp elt [⟨tg, iter, ifs, 0⟩] scope pos) (mLc fi (own.map (·.2)) g ft fe) := by
  obtain ⟨wi, i1, i2⟩ := hi
  exact ⟨_, pe_lc hc hN i1 ok (fun s H C cl fp => (hg s H C cl fp).can) (fun s H C cl fp => (ht s H C cl fp).can) (fun s H C cl fp => (he s H C cl fp).can) hs, ev_lc i2 his⟩
end
end DL
set_option maxRecDepth 100000
set_option maxHeartbeats 1000000
namespace DL
open PySem PySem.Spec PyProof.Rows L2

/-! ### statements -/
abbrev RsS := Except (Ex × EnvD) (Fl × EnvD)
def SPost (mg : Mg) (W : WX) (B : Option Addr) (O' Ol : List Nat) (H0 G0 Gs : Hp) (D : Ends) (r : RsS) (b' : Bx) : Prop := match r with
  | .ok (.nx, ρ') => ∀ σ' H' G', StOk B O' H0 G0 σ' H' G' ρ' b' → Same Gs G' → D.nx σ' H'
  | .ok (.bk, ρ') => ∀ σ' H' G', StOk B Ol H0 G0 σ' H' G' ρ' b' → Same Gs G' → D.bk σ' H'
  | .ok (.ct, ρ') => ∀ σ' H' G', StOk B Ol H0 G0 σ' H' G' ρ' b' → Same Gs G' → D.ct σ' H'
  | .ok (.rt d, _) => ∀ v H' G', Stp B H0 G0 H' G' b' → Rp G' v d → D.rt v H'
  | .error (e, ρ') => ∀ C dd σ' H' G', mg e.cls = some (.ref C) → StOk B [] H0 G0 σ' H' G' ρ' b' → ExAt H' G' dd e → W (.ref C) dd σ' H'
def EvS (mg : Mg) (W : WX) (O Ol O' : List Nat) (t : TS) (f : EnvD → MoS) : Prop := ∀ B H0 G0 σ H G ρ b D r b', StOk B O H0 G0 σ H G ρ b → f ρ b = some (r, b') → SPost mg W B O' Ol H0 G0 G D r b' → t D σ H
def DSt (X : Cx) (W : WX) (O Ol : List Nat) (st : Stmt) (O' : List Nat) (f : EnvD → MoS) : Prop := ∃ t, PS X st t ∧ EvS X.mg W O Ol O' t f
def DSs (X : Cx) (W : WX) (O Ol : List Nat) (st : List Stmt) (O' : List Nat) (f : EnvD → MoS) : Prop := ∃ t, PSs X st t ∧ EvS X.mg W O Ol O' t f
def mE {α : Type} (m : Mo α) (ρ : EnvD) (k : α → MoS) : MoS := fun b => match m b with
  | some (.ok a, b1) => k a b1
  | some (.error e, b1) => some (.error (e, ρ), b1)
  | none => none
def sOk (f : Fl) (ρ : EnvD) : MoS := fun b => some (.ok (f, ρ), b)
theorem mE_some {α : Type} {m : Mo α} {ρ : EnvD} {k : α → MoS} {b : Bx} {r : RsS} {b' : Bx} (h : mE m ρ k b = some (r, b')) : (∃ e, m b = some (.error e, b') ∧ r = .error (e, ρ)) ∨ ∃ a b1, m b = some (.ok a, b1) ∧ k a b1 = some (r, b') := by
  unfold mE at h
  cases hm : m b with
  | none => rw [hm] at h; cases h
  | some q =>
    obtain ⟨q, b1⟩ := q
    rw [hm] at h
    cases q with
    | error e =>
      simp only [Option.some.injEq, Prod.mk.injEq] at h
      obtain ⟨rfl, rfl⟩ := h
      exact .inl ⟨e, rfl, rfl⟩
    | ok a => exact .inr ⟨a, b1, rfl, h⟩
theorem sOk_some {f : Fl} {ρ : EnvD} {b : Bx} {r : RsS} {b' : Bx} (h : sOk f ρ b = some (r, b')) : r = .ok (f, ρ) ∧ b' = b := by
  simp only [sOk, Option.some.injEq, Prod.mk.injEq] at h
  exact ⟨h.1.symm, h.2.symm⟩
theorem ExAt.mono {H G G1 : Hp} {dd : Option Addr} {e : Ex} (h : ExAt H G dd e) (s : Same G G1) : ExAt H G1 dd e := by
  unfold ExAt at *
  split
  · rename_i h'; rw [h'] at h; exact h
  · rename_i f d h'
    rw [h'] at h
    obtain ⟨a, v, h1, h2, h3⟩ := h
    exact ⟨a, v, h1, h2, h3.mono s⟩
/-- an error of an expression in a statement -/
theorem SPost.err {mg : Mg} {W : WX} {B : Option Addr} {O O' Ol : List Nat} {H0 G0 H G Gs : Hp} {σ : L2.St} {ρ : EnvD} {b b' : Bx} {D : Ends} {e : Ex} {α ν : Type} {R : Option Addr → Hp → ν → α → Prop} {Q : ν → Hp → Prop} (I : StOk B O H0 G0 σ H G ρ b) (p : SPost mg W B O' Ol H0 G0 Gs D (.error (e, ρ)) b') : Post mg W B σ H G R Q (.error e) b' := by
  intro C dd H' G' hm st ex
  obtain ⟨G1, s1, J⟩ := (I.step st).less (O' := []) (fun i z => nomatch z)
  exact p C dd σ H' G1 hm J (ex.mono s1)
/-- from a later start -/
theorem SPost.later {mg : Mg} {W : WX} {B : Option Addr} {O' Ol : List Nat} {H0 G0 Gs G1 : Hp} {D : Ends} {r : RsS} {b' : Bx} (s : Same Gs G1) (p : SPost mg W B O' Ol H0 G0 Gs D r b') : SPost mg W B O' Ol H0 G0 G1 D r b' := by
  unfold SPost at *
  split at p <;> first | exact fun σ' H' G' J q => p σ' H' G' J (s.trans q) | exact p
section
variable {X : Cx} {W : WX} {O Ol O' : List Nat}
/-- fewer lists are owned -/
theorem dss_less {sts : List Stmt} {f : EnvD → MoS} {O1 : List Nat} (h : DSs X W O1 Ol sts O' f) (hs : ∀ i ∈ O1, i ∈ O) : DSs X W O Ol sts O' f := by
  obtain ⟨t, h1, h2⟩ := h
  refine ⟨t, h1, fun B H0 G0 σ H G ρ b D r b' I e p => ?_⟩
  obtain ⟨G1, sg, J⟩ := I.less hs
  exact h2 B H0 G0 σ H G1 ρ b D r b' J e (p.later sg)
theorem dss_out {sts : List Stmt} {f : EnvD → MoS} {O1 : List Nat} (h : DSs X W O Ol sts O1 f) (hs : ∀ i ∈ O', i ∈ O1) : DSs X W O Ol sts O' f := by
  obtain ⟨t, h1, h2⟩ := h
  refine ⟨t, h1, fun B H0 G0 σ H G ρ b D r b' I e p => h2 B H0 G0 σ H G ρ b D r b' I e ?_⟩
  unfold SPost at *
  split at p <;> first | exact p | skip
  intro σ' H' G' J q
  obtain ⟨G1, sg, J1⟩ := J.less hs
  exact p σ' H' G1 J1 (q.trans sg)
def mNx : EnvD → MoS := fun ρ => sOk .nx ρ
theorem dss_nil : DSs X W O Ol [] O mNx := ⟨_, pss_nil, fun B H0 G0 σ H G ρ b D r b' I e p => by
  obtain ⟨rfl, rfl⟩ := sOk_some e
  exact p σ H G I (Same.refl _)⟩
def mThenS (f g : EnvD → MoS) (ρ : EnvD) : MoS := fun b => match f ρ b with
  | some (.ok (.nx, ρ1), b1) => g ρ1 b1
  | x => x
theorem dss_cons {st : Stmt} {rest : List Stmt} {O1 : List Nat} {f g : EnvD → MoS} (h : DSt X W O Ol st O1 f) (h' : DSs X W O1 Ol rest O' g) : DSs X W O Ol (st :: rest) O' (mThenS f g) := by
  obtain ⟨t, h1, h2⟩ := h
  obtain ⟨u, k1, k2⟩ := h'
  refine ⟨_, pss_cons h1 k1, fun B H0 G0 σ H G ρ b D r b' I e p => ?_⟩
  unfold mThenS at e
  split at e
  · rename_i ρ1 b1 e1
    exact h2 B H0 G0 σ H G ρ b _ _ _ I e1 fun σ' H' G' J sg => k2 B H0 G0 σ' H' G' ρ1 b1 D r b' J e (p.later sg)
  · rename_i hn
    refine h2 B H0 G0 σ H G ρ b _ _ _ I e ?_
    unfold SPost at *
    split at p <;> first | exact p | skip
    exact (hn _ _ e).elim
theorem dss_one {st : Stmt} {f : EnvD → MoS} (h : DSt X W O Ol st O' f) : DSs X W O Ol [st] O' f := by
  obtain ⟨t, h1, h2⟩ := h
  exact ⟨t, pss_one h1, h2⟩
theorem dst_less {st : Stmt} {f : EnvD → MoS} {O1 : List Nat} (h : DSt X W O1 Ol st O' f) (hs : ∀ i ∈ O1, i ∈ O) : DSt X W O Ol st O' f := by
  obtain ⟨t, h1, h2⟩ := h
  refine ⟨t, h1, fun B H0 G0 σ H G ρ b D r b' I e p => ?_⟩
  obtain ⟨G1, sg, J⟩ := I.less hs
  exact h2 B H0 G0 σ H G1 ρ b D r b' J e (p.later sg)
theorem dst_pass {pos} : DSt X W O Ol (.Pass pos) O mNx := ⟨_, ps_pass, fun B H0 G0 σ H G ρ b D r b' I e p => by
  obtain ⟨rfl, rfl⟩ := sOk_some e
  exact p σ H G I (Same.refl _)⟩
theorem dst_break {pos} (hs : ∀ i ∈ Ol, i ∈ O) : DSt X W O Ol (.Break pos) O' (fun ρ => sOk .bk ρ) := ⟨_, ps_break, fun B H0 G0 σ H G ρ b D r b' I e p => by
  obtain ⟨rfl, rfl⟩ := sOk_some e
  obtain ⟨G1, sg, J⟩ := I.less hs
  exact p σ H G1 J sg⟩
theorem dst_continue {pos} (hs : ∀ i ∈ Ol, i ∈ O) : DSt X W O Ol (.Continue pos) O' (fun ρ => sOk .ct ρ) := ⟨_, ps_continue, fun B H0 G0 σ H G ρ b D r b' I e p => by
  obtain ⟨rfl, rfl⟩ := sOk_some e
  obtain ⟨G1, sg, J⟩ := I.less hs
  exact p σ H G1 J sg⟩
def mRet (f : EnvD → Mo Dt) (ρ : EnvD) : MoS := mE (f ρ) ρ fun d => sOk (.rt d) ρ
theorem dst_ret {e : Expr} {f : EnvD → Mo Dt} {pos} (h : DE X W O e f) : DSt X W O Ol (.Return (some e) pos) O' (mRet f) := by
  obtain ⟨t, h1, h2⟩ := h
  refine ⟨_, ps_ret h1, fun B H0 G0 σ H G ρ b D r b' I e p => ?_⟩
  unfold mRet at e
  rcases mE_some e with ⟨er, q1, rfl⟩ | ⟨d, b1, q1, e⟩
  · exact h2 B H0 G0 σ H G ρ b _ _ _ I q1 (SPost.err I p)
  obtain ⟨rfl, rfl⟩ := sOk_some e
  exact h2 B H0 G0 σ H G ρ b _ _ _ I q1 fun v H' G' s q => p v H' G' (I.stp.trans s) q
theorem dst_retN {pos} : DSt X W O Ol (.Return none pos) O' (fun ρ => sOk (.rt .none) ρ) := ⟨_, ps_retN, fun B H0 G0 σ H G ρ b D r b' I e p => by
  obtain ⟨rfl, rfl⟩ := sOk_some e
  exact p .non H G I.stp .non⟩
def mSet (i : Nat) (f : EnvD → Mo Dt) (ρ : EnvD) : MoS := mE (f ρ) ρ fun d => sOk .nx (ρ.set i (some (.d d)))
theorem dst_set {i : Nat} {x : Str} {e : Expr} {f : EnvD → Mo Dt} {pos pos' : Pos} (hN : X.N.Nodup) (hi : X.N[i]? = some x) (hx : Loc X.env.scope x) (h : DE X W O e f) (hs : swapsWith e (some (.Name x pos')) pos.line X.env = pure false := by rfl) (hf : X.fn x = true ∨ X.env.scope.names.lookup x = some .local := by first | exact .inl rfl | exact .inr rfl | assumption) (ho : i ∉ O := by decide) :
    DSt X W O Ol (.Assign [.Name x pos'] e pos) O (mSet i f) := by
  obtain ⟨t, h1, h2⟩ := h
  refine ⟨_, ps_set hN hi hx h1 hs hf, fun B H0 G0 σ H G ρ b D r b' I e p => ?_⟩
  unfold mSet at e
  rcases mE_some e with ⟨er, q1, rfl⟩ | ⟨d, b1, q1, e⟩
  · exact h2 B H0 G0 σ H G ρ b _ _ _ I q1 (SPost.err I p)
  obtain ⟨rfl, rfl⟩ := sOk_some e
  exact h2 B H0 G0 σ H G ρ b _ _ _ I q1 fun v H' G' s q => p _ H' G' ((I.step s).put ho q) s.grow
def mAsg (f : EnvD → Mo Dt) (g : Dt → EnvD → Option EnvD) (ρ : EnvD) : MoS := mE (f ρ) ρ fun d => match g d ρ with | some ρ' => sOk .nx ρ' | none => fun _ => none
theorem dst_asg {tg e : Expr} {f : EnvD → Mo Dt} {is : List Nat} {g : Dt → EnvD → Option EnvD} {pos} (h : DE X W O e f) (hg : DG X O tg is g) (hs : swapsWithSole [tg] e pos.line X.env = pure false := by rfl) (hw : swappedStores [tg] e X.env = pure none := by rfl)
    (h1 : (assignEach [tg] X.env).map (·.2) = [assign tg X.env] := by rfl) : DSt X W O Ol (.Assign [tg] e pos) O (mAsg f g) := by
  obtain ⟨t, t1, t2⟩ := h
  obtain ⟨u, u1, u2⟩ := hg
  refine ⟨_, ps_asg t1 u1 hs hw h1, fun B H0 G0 σ H G ρ b D r b' I e p => ?_⟩
  unfold mAsg at e
  rcases mE_some e with ⟨er, q1, rfl⟩ | ⟨d, b1, q1, e⟩
  · exact t2 B H0 G0 σ H G ρ b _ _ _ I q1 (SPost.err I p)
  cases hd : g d ρ with
  | none => rw [hd] at e; cases e
  | some ρ' =>
    rw [hd] at e
    obtain ⟨rfl, rfl⟩ := sOk_some e
    exact t2 B H0 G0 σ H G ρ b _ _ _ I q1 fun v H' G' s q => u2 B H0 G0 σ H' G' ρ b' v d ρ' _ (I.step s) q hd fun σ' J _ => p σ' H' G' J s.grow
def mDropS (f : EnvD → Mo Dt) (ρ : EnvD) : MoS := mE (f ρ) ρ fun _ => sOk .nx ρ
theorem dst_expr {e : Expr} {f : EnvD → Mo Dt} {pos} (h : DE X W O e f) (hs : swapsWith e none pos.line X.env = pure false := by rfl) : DSt X W O Ol (.Expr e pos) O (mDropS f) := by
  obtain ⟨t, h1, h2⟩ := h
  refine ⟨_, ps_expr h1 hs, fun B H0 G0 σ H G ρ b D r b' I e p => ?_⟩
  unfold mDropS at e
  rcases mE_some e with ⟨er, q1, rfl⟩ | ⟨d, b1, q1, e⟩
  · exact h2 B H0 G0 σ H G ρ b _ _ _ I q1 (SPost.err I p)
  obtain ⟨rfl, rfl⟩ := sOk_some e
  exact h2 B H0 G0 σ H G ρ b _ _ _ I q1 fun v H' G' s q => p σ H' G' (I.step s) s.grow
/-! a new list that is owned -/
theorem StOk.own {B : Option Addr} {O : List Nat} {H0 G0 H G : Hp} {σ : L2.St} {ρ : EnvD} {b : Bx} {i : Nat} {a : Addr} {vs : List V} {ds : List Dt} (I : StOk B O H0 G0 σ H G ρ b) (hi : i ∉ O) (h1 : H a = some (.lst vs)) (h2 : G a = none) (h3 : B ≠ some a) (h4 : RpAll G vs ds) (h5 : vs.length ≤ sizeLine) (h0 : H0 a = none)
    (ha : ∀ j s, j ∈ O → ρ[j]? = some (some s) → σ[j]? ≠ some (some (.ref a))) : StOk B (i :: O) H0 G0 (σ.set i (some (.ref a))) H G (ρ.set i (some (.d (.list ds)))) b where
  stp := I.stp
  len := by rw [List.length_set, List.length_set]; exact I.len
  sl := fun j s hj e => by
    have hji : i ≠ j := fun z => hj (z ▸ List.mem_cons_self)
    rw [List.getElem?_set_ne hji] at e ⊢
    exact I.sl j s (fun z => hj (List.mem_cons_of_mem _ z)) e
  ow := fun j s hj e => by
    by_cases hji : i = j
    · subst hji
      by_cases hl : i < ρ.length
      · rw [List.getElem?_set_self hl] at e
        cases e
        exact ⟨a, ds, vs, rfl, List.getElem?_set_self (by rw [← I.len]; exact hl), h1, h2, h0, h3, h4, h5⟩
      · rw [List.getElem?_eq_none (by rw [List.length_set]; omega)] at e; cases e
    · rw [List.getElem?_set_ne hji] at e ⊢
      have hjO : j ∈ O := by
        rcases List.mem_cons.mp hj with z | z
        · exact absurd z.symm hji
        · exact z
      exact I.ow j s hjO e
  ap := fun j k c s s' hj hk hne e1 e2 q1 q2 => by
    by_cases hji : i = j
    · subst hji
      have hkO : k ∈ O := by
        rcases List.mem_cons.mp hk with z | z
        · exact absurd z.symm hne
        · exact z
      rw [List.getElem?_set_ne hne] at e2 q2
      by_cases hl : i < σ.length
      · rw [List.getElem?_set_self hl] at q1
        cases q1
        exact ha k s' hkO e2 q2
      · rw [List.getElem?_eq_none (by rw [List.length_set]; omega)] at q1; cases q1
    · have hjO : j ∈ O := by
        rcases List.mem_cons.mp hj with z | z
        · exact absurd z.symm hji
        · exact z
      rw [List.getElem?_set_ne hji] at e1 q1
      by_cases hki : i = k
      · subst hki
        by_cases hl : i < σ.length
        · rw [List.getElem?_set_self hl] at q2
          cases q2
          exact ha j s hjO e1 q1
        · rw [List.getElem?_eq_none (by rw [List.length_set]; omega)] at q2; cases q2
      · have hkO : k ∈ O := by
          rcases List.mem_cons.mp hk with z | z
          · exact absurd z.symm hki
          · exact z
        rw [List.getElem?_set_ne hki] at e2 q2
        exact I.ap j k c s s' hjO hkO hne e1 e2 q1 q2
def mSetL (i : Nat) (f : EnvD → Mo (List Dt)) (ρ : EnvD) : MoS := mE (f ρ) ρ fun ds => sOk .nx (ρ.set i (some (.d (.list ds))))
/-- the step that both ways of storing a new list share -/
theorem evs_setL {i : Nat} {t : TE} {f : EnvD → Mo (List Dt)} {mg : Mg} (h2 : EvL mg W O t f) (ho : i ∉ O) : EvS mg W O Ol (i :: O) (tAsg t (gName i)) (mSetL i f) := by
  intro B H0 G0 σ H G ρ b D r b' I e p
  unfold mSetL at e
  rcases mE_some e with ⟨er, q1, rfl⟩ | ⟨ds, b1, q1, e⟩
  · exact h2 B H0 G0 σ H G ρ b _ _ _ I q1 (SPost.err (R := RD) (Q := fun _ _ => True) I p)
  obtain ⟨rfl, rfl⟩ := sOk_some e
  refine h2 B H0 G0 σ H G ρ b _ _ _ I q1 fun a vs H' G' s h0 h1 h3 h4 h5 h6 => ?_
  refine p _ H' G' ((I.step s).own ho h1 h3 h4 h5 h6 ?_ fun j s' hj e' q => ?_) s.grow
  · exact (I.stp.none h0).1
  · obtain ⟨a', ds', vs', _, k2, k3, _⟩ := I.ow j s' hj e'
    rw [q] at k2
    cases k2
    rw [h0] at k3
    cases k3
theorem dst_setL {i : Nat} {x : Str} {e : Expr} {f : EnvD → Mo (List Dt)} {pos pos' : Pos} (hN : X.N.Nodup) (hi : X.N[i]? = some x) (hx : Loc X.env.scope x) (h : DEL X W O e f) (hs : swapsWith e (some (.Name x pos')) pos.line X.env = pure false := by rfl) (hf : X.fn x = true ∨ X.env.scope.names.lookup x = some .local := by first | exact .inl rfl | exact .inr rfl | assumption) (ho : i ∉ O := by decide) :
    DSt X W O Ol (.Assign [.Name x pos'] e pos) (i :: O) (mSetL i f) := by
  obtain ⟨t, h1, h2⟩ := h
  exact ⟨_, ps_set hN hi hx h1 hs hf, evs_setL h2 ho⟩
theorem dst_lc {i : Nat} {y : Str} {py : Pos} {elt tg iter : Expr} {ifs : List Expr} {scope : Scope} {own : List (Str × Nat)} {pos spos : Pos} {fi : EnvD → Mo (List Dt)} {is : List Nat} {g : Dt → EnvD → Option EnvD} {ft : EnvD → Mo Bool} {fe : EnvD → Mo Dt} (hc : X.calm = true) (hN : X.N.Nodup) (hy : X.N[i]? = some y) (hyl : X.env.scope.names.lookup y = some .local)
    (hsw : swapsWith (.ListComp elt [⟨tg, iter, ifs, 0⟩] scope pos) (some (.Name y py)) spos.line X.env = pure true) (hi : DI X W O tg iter fi) (ok : BlkOk X.N X.env.scope scope own) (his : ∀ i ∈ is, i ∈ own.map (·.2))
    (hg : ∀ (s : Shared) (H : Hp) (C : Addr) (cl : List (Str × Addr)) (fp : List Addr), DG (X.blk s H scope (compEnvC scope cl C X.env) fp) O tg is g) (ht : ∀ (s : Shared) (H : Hp) (C : Addr) (cl : List (Str × Addr)) (fp : List Addr), DTs (X.blk s H scope (compEnvC scope cl C X.env) fp) Wn O ifs ft)
    (he : ∀ (s : Shared) (H : Hp) (C : Addr) (cl : List (Str × Addr)) (fp : List Addr), DE (X.blk s H scope (compEnvC scope cl C X.env) fp) Wn O elt fe) (hs : ∀ x, foldedSetIterable iter X.env x = pure x := by intro _; rfl) (ho : i ∉ O := by decide) :
    DSt X W O Ol (.Assign [.Name y py] (.ListComp elt [⟨tg, iter, ifs, 0⟩] scope pos) spos) (i :: O) (mSetL i (mLc fi (own.map (·.2)) g ft fe)) := by
  obtain ⟨wi, i1, i2⟩ := hi
  exact ⟨_, ps_setLc hc hN hy hyl hsw i1 ok (fun s H C cl fp => (hg s H C cl fp).can) (fun s H C cl fp => (ht s H C cl fp).can) (fun s H C cl fp => (he s H C cl fp).can) hs, evs_setL (ev_lc i2 his) ho⟩
/-! if, for -/
def mIfS (c : EnvD → Mo Bool) (f g : EnvD → MoS) (ρ : EnvD) : MoS := mE (c ρ) ρ fun k => if k = true then f ρ else g ρ
theorem dst_if {c : Expr} {a b' : List Stmt} {fc : EnvD → Mo Bool} {f g : EnvD → MoS} {pos} (hc : DT X W O c fc) (h : DSs X W O Ol a O' f) (h' : DSs X W O Ol b' O' g) : DSt X W O Ol (.If c a b' pos) O' (mIfS fc f g) := by
  obtain ⟨tc, c1, c2⟩ := hc
  obtain ⟨t, h1, h2⟩ := h
  obtain ⟨u, k1, k2⟩ := h'
  refine ⟨_, ps_if c1 h1 k1, fun B H0 G0 σ H G ρ b D r b' I e p => ?_⟩
  unfold mIfS at e
  rcases mE_some e with ⟨er, q1, rfl⟩ | ⟨k, b1, q1, e⟩
  · exact c2 B H0 G0 σ H G ρ b _ _ _ I q1 (SPost.err I p)
  refine c2 B H0 G0 σ H G ρ b _ _ _ I q1 fun k' H' G' s q => ?_
  cases q
  cases k with
  | true => exact iteT (h2 B H0 G0 σ H' G' ρ b1 D r b' (I.step s) (by simpa using e) (p.later s.grow))
  | false => exact iteF (k2 B H0 G0 σ H' G' ρ b1 D r b' (I.step s) (by simpa using e) (p.later s.grow))
def forLoop (g : Dt → EnvD → Option EnvD) (fb : EnvD → MoS) : List Dt → EnvD → MoS
  | [], ρ => sOk .nx ρ
  | d :: r, ρ => match g d ρ with
    | none => fun _ => none
    | some ρ1 => fun b => match fb ρ1 b with
      | some (.ok (.nx, ρ2), b2) => forLoop g fb r ρ2 b2
      | some (.ok (.ct, ρ2), b2) => forLoop g fb r ρ2 b2
      | some (.ok (.bk, ρ2), b2) => some (.ok (.nx, ρ2), b2)
      | x => x
def mFor (fi : EnvD → Mo (List Dt)) (g : Dt → EnvD → Option EnvD) (fb : EnvD → MoS) (ρ : EnvD) : MoS := mE (fi ρ) ρ fun ds => forLoop g fb ds ρ
theorem dst_for {tg iter : Expr} {body : List Stmt} {fi : EnvD → Mo (List Dt)} {is : List Nat} {g : Dt → EnvD → Option EnvD} {fb : EnvD → MoS} {pos : Pos} (hp : PassesOwn (model X.prog X.w) X.A X.env X.xe) (hc : X.calm = true) (hi : DI X W O tg iter fi) (hg : DG X O tg is g) (hb : DSs X W O O body O fb)
    (hs : ∀ x, foldedSetIterable iter X.env x = pure x := by intro _; rfl) : DSt X W O Ol (.For tg iter body [] pos) O (mFor fi g fb) := by
  obtain ⟨wi, i1, i2⟩ := hi
  obtain ⟨t, g1, g2⟩ := hg
  obtain ⟨u, b1, b2⟩ := hb
  refine ⟨_, ps_for hp hc i1 g1 b1 hs, fun B H0 G0 σ H G ρ b D r b' I e p => ?_⟩
  unfold mFor at e
  rcases mE_some e with ⟨er, q1, rfl⟩ | ⟨ds, c1, q1, e⟩
  · exact i2 B H0 G0 σ H G ρ b _ _ _ I q1 (SPost.err I p)
  refine i2 B H0 G0 σ H G ρ b _ _ _ I q1 fun J H1 G1 s1 ⟨it, hl⟩ => ?_
  refine ⟨fun i m σ' H' => m = ds.length - i ∧ i ≤ ds.length ∧ ∃ G' ρ' c', StOk B O H0 G0 σ' H' G' ρ' c' ∧ Same G1 G' ∧ forLoop g fb (ds.drop i) ρ' c' = some (r, b'),
    ⟨ds.length, by simp, Nat.zero_le _, G1, ρ, c1, I.step s1, Same.refl _, by simpa using e⟩, ?_⟩
  rintro i m σ' H' ⟨rfl, hi', G', ρ', c', J', sg, hloop⟩
  obtain ⟨hstop, hgo⟩ := it H' G' sg J'.sub
  by_cases hlt : i < ds.length
  · have hd : ds[i]? = some ds[i] := List.getElem?_eq_getElem hlt
    obtain ⟨k1, k2⟩ := hgo i ds[i] hd
    refine .inr ⟨k1, fun σ'' H'' => i + 1 ≤ ds.length ∧ ∃ G'' ρ'' c'', StOk B O H0 G0 σ'' H'' G'' ρ'' c'' ∧ Same G1 G'' ∧ forLoop g fb (ds.drop (i + 1)) ρ'' c'' = some (r, b'),
      fun σ'' H'' w => ⟨ds.length - (i + 1), by omega, rfl, w⟩, fun x H3 y => ?_⟩
    obtain ⟨G3, s3, r3⟩ := k2 x H3 y
    have st3 := s3 B c' J'.box
    rw [List.drop_eq_getElem_cons hlt] at hloop
    cases hg1 : g ds[i] ρ' with
    | none => simp only [forLoop, hg1] at hloop; cases hloop
    | some ρ1 =>
    simp only [forLoop, hg1] at hloop
    refine g2 B H0 G0 σ' H3 G3 ρ' c' x ds[i] ρ1 _ (J'.step st3) r3 hg1 fun σ2 J2 _ => ?_
    have sg3 : Same G1 G3 := sg.trans st3.grow
    have sG3 : Same G G3 := (s1.grow.trans sg).trans st3.grow
    cases hb1 : fb ρ1 c' with
    | none => rw [hb1] at hloop; cases hloop
    | some q =>
    obtain ⟨q, c2⟩ := q
    rw [hb1] at hloop
    refine b2 B H0 G0 σ2 H3 G3 ρ1 c' _ q c2 J2 hb1 ?_
    cases q with
    | error er =>
      obtain ⟨er, ρe⟩ := er
      simp only [Option.some.injEq, Prod.mk.injEq] at hloop
      obtain ⟨rfl, rfl⟩ := hloop
      exact p
    | ok fl =>
      obtain ⟨fl, ρ2⟩ := fl
      cases fl with
      | nx => exact fun σ'' H'' G'' J3 s4 => ⟨hlt, G'', ρ2, c2, J3, sg3.trans s4, hloop⟩
      | ct => exact fun σ'' H'' G'' J3 s4 => ⟨hlt, G'', ρ2, c2, J3, sg3.trans s4, hloop⟩
      | bk =>
        simp only [Option.some.injEq, Prod.mk.injEq] at hloop
        obtain ⟨rfl, rfl⟩ := hloop
        exact fun σ'' H'' G'' J3 s4 => p σ'' H'' G'' J3 (sG3.trans s4)
      | rt d =>
        simp only [Option.some.injEq, Prod.mk.injEq] at hloop
        obtain ⟨rfl, rfl⟩ := hloop
        exact p
  · have ei : i = ds.length := by omega
    subst ei
    rw [List.drop_length] at hloop
    obtain ⟨hy, rfl⟩ := sOk_some hloop
    cases hy
    exact .inl ⟨hstop, p σ' H' G' J' (s1.grow.trans sg)⟩
end
end DL
set_option maxRecDepth 100000
set_option maxHeartbeats 2000000
/-! Exceptions of the text's own, whatever built-in error stands above them: __init__ hands its argument to the class above and keeps it. -/
namespace DL
open PySem PySem.Spec PyProof.Rows L2

/-- what the written part says of such a class at C, over the built-in error Bn -/
structure ExB (K : PySem.W.Frag) (C : Addr) (bmB : List Value) (newId : String) : Prop where
  cls : ∃ nm q N bs bm sn sub ab col dd k0 k1 k2 k3 k5, K.lookup C = some (excClassObj nm q C N bs bm true sn sub ab col dd k0 k1 k2 k3 k5 newId) ∧ PySem.W.excTail bmB bm = true
  sa : PySem.W.findIn K (.ref C) "__setattr__" = some (some (.builtin "object.__setattr__"))
  exC : PySem.W.subIn K (.ref C) (.type "BaseException") = some true
  tyC : PySem.W.typeIn K (.ref C) = some (.type "type")
  kC : PySem.W.keepIn K (.ref C) = true
section
variable {X : Cx} {pins : List (Addr × Obj)} {σ : L2.St} {H : Hp} {s : Shared} {a C dx : Addr} {f : Str} {y : V} {u : Value} {fs : List (Str × V)} {E : Value → Shared → Prop} {A : Around} {bmB : List Value} {Bn newId initId : String}
/-- the first field of an exception that is being made -/
theorem exb_store {Q : Unit → Shared → Prop} (SF : StoreFacts Bn bmB "object.__setattr__" "object") (T : ExB X.K C bmB newId) (I : Inv X pins σ H s) (e : H a = some (exo a C none)) (hno : PySem.W.findIn X.K (.ref C) f = some none) (ry : RelV y u)
    (h : ∀ dx s', H dx = none → dx ≠ a → Inv X pins σ (upd (upd H dx (exd dx [(f, y)])) a (exo a C (some dx))) s' → Q () s') : wpAny (model X.prog X.w) A (setAttr (.ref a) f u) Q E s := by
  obtain ⟨nm, q, N, bs, bm, sn, sub, ab, col, dd, k0, k1, k2, k3, k5, hC, hbm⟩ := T.cls
  have hcl : PySem.W.clsIn X.K C = some { name := nm, bases := bs, mro := .ref C :: bm, ns := N, qualname := q, hasDict := true, slotNames := sn, subclasses := sub, abstract := ab, collection := col, hasDel := false } := by unfold PySem.W.clsIn; rw [hC] <;> rfl
  have hover : PySem.W.excOver X.K C bmB = true := by
    unfold PySem.W.excOver
    rw [hcl]
    simp [hbm]
  have htk : PySem.W.takerIn X.K C f = some none := by
    unfold PySem.W.takerIn
    rw [hno]
    rfl
  obtain ⟨t1, ho⟩ := exo_at I.hok e
  obtain ⟨hp, g, d, t, os⟩ := s
  have hxs : a ≠ hp.objs.size := Nat.ne_of_lt (Heap.lt_size ho)
  refine PySem.W.set_plain I.kIn (ox := { cls := .ref C, dict := none, data := .fields #[.ref t1, .none, .none, .none, .bool false, .none] }) (od := none) ⟨ho, rfl, rfl, trivial⟩ T.sa ?_
  refine PySem.W.osa_openX (od := none) SF I.kIn ⟨ho, rfl, rfl, trivial⟩ hover htk fun b => ?_
  refine wpAny_bind (wpAny_pure (wpAny_bind (PySem.W.instanceDict_exc (c2 := .none) ho (PySem.W.looks_clsIn I.kIn hcl) rfl ?_)))
  show wpAny _ _ (PySem.Builtin.ObjectAttr.storeInDict hp.objs.size (.str f t) f u) _ _ _
  have hEmpty : ((hp.push (PySem.W.dictOf [] 0)).update a fun o => { o with dict := some hp.objs.size }).get? hp.objs.size = some (PySem.W.dictOf [] 0) :=
    (Heap.get?_update_ne _ _ _ _ (Ne.symm hxs)).trans (Heap.get?_push_at rfl rfl)
  have hnd : ((hp.push (PySem.W.dictOf [] 0)).update a fun o => { o with dict := some hp.objs.size }).Ns hp.objs.size (fun _ => none) := ⟨_, #[], _, hEmpty, rfl, fun e he => absurd he (by simp), fun _ => rfl⟩
  refine PySem.OEX.store_in_old (m0 := fun _ => none) (ns := []) (Heap.Ns1.of_empty hnd) Within.nil (by simp) fun h' tk' hn hs => ?_
  have hxp : (hp.push (PySem.W.dictOf [] 0)).get? a = some _ := Heap.get?_push_of_some _ ho
  have hx' : h'.get? a = some { cls := .ref C, dict := some hp.objs.size, data := .fields #[.ref t1, .none, .none, .none, .bool false, .none] } :=
    (hs.2 a hxs).trans (Heap.get?_update_self _ hxp rfl)
  have k : ∀ b o, b ≠ a → hp.get? b = some o → h'.get? b = some o := fun b o hb ho' =>
    (hs.2 b (Nat.ne_of_lt (Heap.lt_size ho'))).trans ((Heap.get?_update_ne _ _ _ _ hb).trans (Heap.get?_push_of_some _ ho'))
  have hnd2 : H hp.objs.size = none := I.hok.fresh (Nat.le_refl _)
  have apart : ∀ {b : Addr} {o : Obj}, hp.get? b = some o → b ≠ hp.objs.size := fun {b o} q => Nat.ne_of_lt (Heap.lt_size q)
  have off : ∀ {b : Addr}, H b = none → b ≠ a := fun {b} n z => by
    subst z
    rw [e] at n
    cases n
  have U : Un X.fs [] H (upd (upd H hp.objs.size (exd hp.objs.size [(f, y)])) a (exo a C (some hp.objs.size))) hp h' := {
    keep := fun b o q n _ _ => k b o (off n) q
    slot := fun b o q n _ _ => ⟨o.slots, k b o (off n) q⟩
    free := fun b o q n _ => by rw [upd_ne (off n), upd_ne (apart q)]; exact n
    there := fun b o q _ => if hb : b = a then ⟨_, by subst hb; exact hx'⟩ else ⟨o, k b o hb q⟩
    tups := fun b xs q => by rw [upd_ne (at_ne e q exo_tup), upd_ne (ne_of_none q hnd2)]; exact q
    frzs := fun b o v q => by rw [upd_ne (at_ne e q exo_frz), upd_ne (ne_of_none q hnd2)]; exact q
    tbls := fun b ps q => ⟨#[], by rw [upd_ne (at_ne e q exo_tbl), upd_ne (ne_of_none q hnd2), q]; simp⟩ }
  refine h hp.objs.size _ hnd2 (Ne.symm hxs) (I.un (t' := tk') U fun b o q => ?_)
  by_cases hb : b = a
  · subst hb
    rw [upd_same] at q
    cases q
    exact exo_ok hx'
  · rw [upd_ne hb] at q
    by_cases hd : b = hp.objs.size
    · subst hd
      rw [upd_same] at q
      cases q
      exact exd_ok hn (relO_put (fs := []) ry fun g => True.intro)
    · rw [upd_ne hd] at q
      refine (I.hok b o q).stay (fun c v hc z => k c v ?_ z) (fun c hc => ?_) fun c xs hc => ?_
      · rcases hc with hc | hc
        · rw [hc]; exact hb
        · exact at_ne e hc exo_own
      · rw [upd_ne (at_ne e hc exo_own), upd_ne (ne_of_none hc hnd2)]; exact hc
      · rw [upd_ne (at_ne e hc exo_tup), upd_ne (ne_of_none hc hnd2)]; exact hc
/-- the built-in __init__ above: nothing of it is told -/
theorem exb_init {us : List Value} {Q : Value → Shared → Prop} (F : ExcBaseFacts Bn newId initId bmB) (T : ExB X.K C bmB newId) (I : Inv X pins σ H s) (e : H a = some (exo a C none)) (hl : us.length ≤ sizeLine) (h : ∀ s', Inv X pins σ H s' → Q .none s') :
    wpAny (model X.prog X.w) A (call (.builtin initId) (.ref a :: us)) Q E s := by
  obtain ⟨nm, q, N, bs, bm, sn, sub, ab, col, dd, k0, k1, k2, k3, k5, hC, hbm⟩ := T.cls
  obtain ⟨t1, ho⟩ := exo_at I.hok e
  obtain ⟨hp, g, d, t, os⟩ := s
  refine wpAny_call (PySem.HandSPX.init_base F (fun Y => PySem.W.excTail_contains Y bm hbm) (I.kIn _ _ hC) ho hl fun h' t2 k hx => ?_)
  have J := I.write (t' := t) (x := a) (e := a) (o := exo a C none) (by rw [e]; exact True.intro) (.inl rfl) k ⟨_, hx⟩ (exo_ok hx)
  have eu : upd H a (exo a C none) = H := by
    funext b
    by_cases hb : b = a
    · subst hb; rw [upd_same, e]
    · exact upd_ne hb
  rw [eu] at J
  exact h _ J
end

/-! ### the class above, called by its __init__ -/
def tBI (K : PySem.W.Frag) (bmB : List Value) (newId : String) (ta : TA) : TE := fun σ H Q => ta σ H fun vs H1 => ∃ (a C : Addr) (ws : List V), vs = .ref a :: ws ∧ ws.length ≤ 1000 ∧ ExB K C bmB newId ∧ H1 a = some (exo a C none) ∧ Q .non H1
def tOne (K : PySem.W.Frag) (bmB : List Value) (newId : String) (f : Str) (to te : TE) : TS := fun D σ H => te σ H fun y H1 => to σ H1 fun x H2 => ∃ a C : Addr, x = .ref a ∧ ExB K C bmB newId ∧ PySem.W.findIn K (.ref C) f = some none ∧ H2 a = some (exo a C none) ∧
  ∀ dx, H2 dx = none → dx ≠ a → D.nx σ (upd (upd H2 dx (exd dx [(f, y)])) a (exo a C (some dx)))
section
variable {X : Cx} {o e : Expr} {es : List Expr} {to te : TE} {ta : TA} {f x : Str} {p p' p1 p2 pos : Pos} {bmB : List Value} {Bn newId initId : String}
theorem pe_binit {pl : Sem Bool} (F : ExcBaseFacts Bn newId initId bmB) (hg : Gl X x) (hm : X.mg x = none) (hv : bootBuiltins x = some (.type Bn)) (ty : typeOf (.type Bn) = pure (.type "type")) (hst : Manifest.isStub Bn = false) (hh : PySem.W.handedIn (.builtin initId) = true) (vV : PySem.W.findCls X.K (.type Bn) (.type "type") "__init__" = some (.val (.builtin initId)))
    (ha : PA X (e :: es) ta) (hn : x ≠ "__name__") (hdb : (x == ("__debug__" : Str)) = false)
    (hc : eval (.Call (.Attribute (.Name x p1) "__init__" p2) (e :: es) [] pos) X.env = (do
      let ov ← eval (.Name x p1) X.env
      standAt p2.atName
      let (f, first) ← holding [ov] (getMethod ov "__init__" pl)
      callWith pos f first (backTo pos (starEach (e :: es) X.env)) (backToKw pos (keywordEach [] X.env))) := by rfl)
    (he : starEach (e :: es) X.env = (false, eval e X.env) :: starEach es X.env := by rfl) (hpl : (backTo pos (starEach es X.env)).any (·.1) = false := by rfl) :
    PE X (.Call (.Attribute (.Name x p1) "__init__" p2) (e :: es) [] pos) (tBI X.K bmB newId ta) := by
  refine ⟨fun pins s σ H Q I h => PySem.W.methodCall_KW (ld_blt I hg hm hv ?_ hn hdb) hc⟩
  obtain ⟨m, fr⟩ := I.fr
  refine PySem.W.method_type fr I.ok.mod.kin ty hst vV hh ?_
  show wpAny _ _ (callWith pos (Value.builtin initId) [] (backTo pos (starEach (e :: es) X.env)) []) _ _ _
  refine PyProof.Rows.callWith_method1 (thn (ha.run pos pins _ σ H _ (I.tok _) h) fun us s1 w => ?_) he hpl
  obtain ⟨vs, H1, I1, r1, a, C, ws, rfl, hl, T, ea, q⟩ := w
  cases r1 with
  | @cons _ u0 _ ur ra rw' =>
    cases (show u0 = Value.ref a from ra)
    refine exb_init F T I1 ea ?_ fun s' J => ⟨.non, H1, J, rfl, q⟩
    have := Paired.length rw'
    rw [sizeLine_eq]
    omega
theorem ps_one (SF : StoreFacts Bn bmB "object.__setattr__" "object") (ho : PE X o to) (he : PE X e te) (hs : swapsWith e (some (.Attribute o f p')) pos.line X.env = pure false := by rfl) : PS X (.Assign [.Attribute o f p'] e pos) (tOne X.K bmB newId f to te) := by
  refine ⟨fun pins s σ H D I h => plainObj_wpAny_Assign_Attribute (thn (he.run pins s σ H _ I h) fun v s1 w => ?_) hs⟩
  obtain ⟨y, H1, I1, r1, q1⟩ := w
  refine thn (ho.run pins s1 σ H1 _ I1 q1) fun u s2 w => ?_
  obtain ⟨x, H2, I2, r2, a, C, rfl, T, hno, ea, q⟩ := w
  cases (show u = Value.ref a from r2)
  exact exb_store SF T I2 ea hno r1 fun dx s' n ne J => ⟨σ, _, J, q dx n ne⟩
end
/-! ### making one, to be raised -/
structure ExcX (K : PySem.W.Frag) (mg : Mg) (x : Str) (C fI : Addr) (f : Str) (bmB : List Value) (newId : String) : Prop where
  cl : ExB K C bmB newId
  gC : mg x = some (.ref C)
  iC : PySem.W.findIn K (.ref C) "__init__" = some (some (.ref fI))
  tI : PySem.W.typeIn K (.ref fI) = some (.type "function")
  noF : PySem.W.findIn K (.ref C) f = some none
/-- what its __init__ promises -/
def spIn (C : Addr) (f : Str) : Sp := fun vs H Q _ => ∃ (a : Addr) (v : V), vs = [.ref a, v] ∧ H a = some (exo a C none) ∧ ∀ d, H d = none → d ≠ a → Q .non (upd (upd H d (exd d [(f, v)])) a (exo a C (some d)))
section
variable {X : Cx} {e : Expr} {te : TE} {f x : Str} {p pos : Pos} {bmB : List Value} {Bn newId initId : String} {C fI : Addr} {k : Nat} {fd : FuncData} {ps : List Str} {CX : CXT}
theorem pmk_exX (FB : ExcBaseFacts Bn newId initId bmB) (T : ExcX X.K X.mg x C fI f bmB newId) (F1 : FnOk X.prog X.w X.K X.mg X.base CX k fI fd ps (spIn C f)) (hr : Room (k + 1) X.A) (hb : Binds X.K fd ps []) (hx : Passes CX X (fun _ _ _ => False)) (hg : Gl X x) (ha : PE X e te)
    (hdb : (x == ("__debug__" : Str)) = false := by decide) (he : starEach [e] X.env = (false, eval e X.env) :: starEach [] X.env := by rfl) (hpl : (backTo pos (starEach [] X.env)).any (·.1) = false := by rfl) :
    PMk X (.Call (.Name x p) [e] [] pos) (fun σ H Q => te σ H fun v H1 => ∀ d, H1 d = none → Q (.ref C) (some d) (upd H1 d (.xd [(f, v)]))) := by
  intro pins s σ H Q I h
  obtain ⟨nm, q, N, bs, bm, sn, sub, ab, col, dd, k0, k1, k2, k3, k5, hC, hbm⟩ := T.cl.cls
  refine wpAny_Call_Name_kw (ld_glob I hg T.gC ?_ hdb)
  have hpa : PA X [e] (tCons te tNil) := pa_cons ha pa_nil he
  refine PySem.W.callWith_K (h₀ := X.base) I.ok.mod.kin T.cl.kC (thn (hpa.run pos pins s σ H (fun vs H1 => match vs with | [v] => ∀ d, H1 d = none → Q (.ref C) (some d) (upd H1 d (.xd [(f, v)])) | _ => False) I h) fun us s1 w => ?_) he hpl
  obtain ⟨vs, H1, I1, r1, q1⟩ := w
  obtain ⟨v, rfl⟩ : ∃ v, vs = [v] := by
    match vs, q1 with
    | [v], _ => exact ⟨v, rfl⟩
  refine ⟨I1.kIn, ?_⟩
  show wpAny _ _ (call (.ref C) us) _ _ _
  obtain ⟨u, rfl, ru⟩ := vals1 r1
  obtain ⟨hp, g, dr, tk, os⟩ := s1
  have big : hp.objs.size ≤ hp.objs.size + 1 := Nat.le_succ _
  have n1 : H1 (hp.objs.size + 1) = none := I1.hok.fresh big
  have kk : ∀ b o, hp.get? b = some o → ((hp.push (PySem.W.kdv_tup [u])).push (PySem.HandSPX.excO C hp.objs.size)).get? b = some o := fun b o e => Heap.get?_push_of_some _ (Heap.get?_push_of_some _ e)
  have hat : ((hp.push (PySem.W.kdv_tup [u])).push (PySem.HandSPX.excO C hp.objs.size)).get? (hp.objs.size + 1) = some (PySem.HandSPX.excO C hp.objs.size) := by heap_get
  have I2 : Inv X pins σ (upd H1 (hp.objs.size + 1) (exo (hp.objs.size + 1) C none)) ⟨(hp.push (PySem.W.kdv_tup [u])).push (PySem.HandSPX.excO C hp.objs.size), g, dr, tk, os⟩ :=
    I1.laid (t' := tk) (a := hp.objs.size + 1) (o := exo (hp.objs.size + 1) C none) (h' := (hp.push (PySem.W.kdv_tup [u])).push (PySem.HandSPX.excO C hp.objs.size)) kk big (exo_ok hat)
  have want : spIn C f [V.ref (hp.objs.size + 1), v] (upd H1 (hp.objs.size + 1) (exo (hp.objs.size + 1) C none)) (fun v' H2 => v' = .non ∧ ∃ d, H1 d = none ∧ d ≠ hp.objs.size + 1 ∧ H2 = upd (upd (upd H1 (hp.objs.size + 1) (exo (hp.objs.size + 1) C none)) d (exd d [(f, v)])) (hp.objs.size + 1) (exo (hp.objs.size + 1) C (some d))) (fun _ _ _ => False) := by
    refine ⟨_, v, rfl, upd_same, fun d hd hne => ⟨rfl, d, ?_, hne, rfl⟩⟩
    rw [upd_ne hne] at hd
    exact hd
  have r2 : Vals [V.ref (hp.objs.size + 1), v] [Value.ref (hp.objs.size + 1), u] := .cons rfl (.cons ru .nil)
  have hlen : ([Value.ref (hp.objs.size + 1), u] ++ []).length = ps.length := by
    have e := r2.length
    rw [F1.len _ _ _ _ want] at e
    simpa using e.symm
  refine wpAny_call (PySem.HandSPX.call_own FB (fun Y => PySem.W.excTail_contains Y bm hbm) (I1.kIn _ _ hC) (PySem.W.looks_findIn I1.kIn T.iC) (fun self => PySem.W.bind_fn I1.kIn self T.tI) (by show 1 ≤ sizeLine; rw [sizeLine_eq]; omega)
    (codeAny_mono (F1.run _ X.stack _ _ ⟨[Value.ref (hp.objs.size + 1), u], []⟩ [Value.ref (hp.objs.size + 1), u] _ _ (fun _ _ _ => False) (hr.make C [u] []) (I2.env0.make C [u] []) ?_ r2 want) fun r s' hq' => ?_))
  · have bb := hb ⟨(hp.push (PySem.W.kdv_tup [u])).push (PySem.HandSPX.excO C hp.objs.size), g, dr, tk, os⟩ [Value.ref (hp.objs.size + 1), u] I2.kIn hlen
    rw [List.append_nil] at bb
    exact bb
  cases r with
  | error er => exact hx pins σ _ _ er s' I2 hq'
  | ok fl =>
    cases fl with
    | ret w' =>
      obtain ⟨v', H2, os2, bare2, un2, hok2, rv, ev, d, hd1, hne, rfl⟩ := hq'
      subst ev
      obtain ⟨h2, g2, d2, t2, os'⟩ := s'
      have hd2 : H1 d = none := hd1
      refine ⟨rv, mk_end (raises_own T.cl.exC T.cl.tyC) I1 big kk un2 hok2 os2 bare2 upd_same (by rw [upd_ne hne, upd_same]) hd2 ?_⟩
      have eH : upd (del (upd (upd (upd H1 (hp.objs.size + 1) (exo (hp.objs.size + 1) C none)) d (exd d [(f, v)])) (hp.objs.size + 1) (exo (hp.objs.size + 1) C (some d))) (hp.objs.size + 1)) d (.xd [(f, v)]) = upd H1 d (.xd [(f, v)]) := by
        funext b
        by_cases b1 : b = d
        · subst b1; rw [upd_same, upd_same]
        · rw [upd_ne b1, upd_ne b1]
          by_cases b2 : b = hp.objs.size + 1
          · subst b2; rw [del_same, n1]
          · rw [del_ne b2, upd_ne b2, upd_ne b1, upd_ne b2]
      rw [eH]
      exact q1 d hd2
    | next => exact False.elim hq'
    | brk => exact False.elim hq'
    | cont => exact False.elim hq'
end
end DL
set_option maxRecDepth 100000
set_option maxHeartbeats 2000000
namespace DL
open PySem PySem.Spec PyProof.Rows L2

section
variable {X : Cx} {W : WX} {O Ol O' : List Nat}
/-! ### raise -/
def mRaise (x f : Str) (fe : EnvD → Mo Dt) (ρ : EnvD) : MoS := mE (fe ρ) ρ fun d b => some (.error (⟨x, some (f, d)⟩, ρ), b)
theorem dst_raise {e : Expr} {fe : EnvD → Mo Dt} {f x : Str} {p pos pos2 : Pos} {bmB : List Value} {Bn newId initId : String} {C fI : Addr} {k : Nat} {fd : FuncData} {ps : List Str} {CX : CXT} (FB : ExcBaseFacts Bn newId initId bmB) (T : ExcX X.K X.mg x C fI f bmB newId) (F1 : FnOk X.prog X.w X.K X.mg X.base CX k fI fd ps (spIn C f)) (hr : Room (k + 1) X.A) (hb : Binds X.K fd ps [])
    (hx : Passes CX X (fun _ _ _ => False)) (hc : X.calm = true) (tk : Takes X W) (ha : DE X W O e fe) (hg : Gl X x := by rfl)
    (hdb : (x == ("__debug__" : Str)) = false := by decide) (he : starEach [e] X.env = (false, eval e X.env) :: starEach [] X.env := by rfl) (hpl : (backTo pos (starEach [] X.env)).any (·.1) = false := by rfl) :
    DSt X W O Ol (.Raise (some (.Call (.Name x p) [e] [] pos)) none pos2) O' (mRaise x f fe) := by
  obtain ⟨t, h1, h2⟩ := ha
  refine ⟨_, ps_raise hc tk (pmk_exX FB T F1 hr hb hx hg h1 hdb he hpl), fun B H0 G0 σ H G ρ b D r b' I ee p => ?_⟩
  unfold mRaise at ee
  rcases mE_some ee with ⟨er, q1, rfl⟩ | ⟨d, b1, q1, ee⟩
  · exact h2 B H0 G0 σ H G ρ b _ _ _ I q1 (SPost.err I p)
  simp only [Option.some.injEq, Prod.mk.injEq] at ee
  obtain ⟨rfl, rfl⟩ := ee
  refine h2 B H0 G0 σ H G ρ b _ _ _ I q1 fun v H1 G1 s1 rv dd hd => ?_
  have s2 := s1.trans (Stp.addH (o := .xd [(f, v)]) s1.sub s1.box hd)
  obtain ⟨G2, sg, J⟩ := (I.step s2).less (O' := []) (fun i z => nomatch z)
  exact p C (some dd) σ _ G2 T.gC J ⟨dd, v, rfl, upd_same, rv.mono sg⟩
theorem pmk_own0 {C : Addr} {bmB : List Value} {B newId initId : String} {x : Str} {p pos : Pos} (F : ExcBaseFacts B newId initId bmB) (q : PySem.W.excIn X.K C bmB newId = true) (gC : X.mg x = some (.ref C)) (kC : PySem.W.keepIn X.K (.ref C) = true) (r : Raises X (.ref C)) (hg : Gl X x) (hdb : (x == ("__debug__" : Str)) = false := by decide) :
    PMk X (.Call (.Name x p) [] [] pos) (fun _ H Q => Q (.ref C) none H) := by
  intro pins s σ H Q I h
  refine wpAny_Call_Name_kw (ld_glob I hg gC ?_ hdb)
  refine PySem.W.callWith_K0 I.kIn kC ?_
  show wpAny _ _ (call (.ref C) []) _ _ _
  obtain ⟨bm, N, nm, qn, bs, hdct, sn, sub, ab, col, dd, k0, k1, k2, k3, k5, mN, hC, hN, hni, T⟩ := exc_obj I.kIn q
  refine wpAny_call_exc_subT F T hC hN hni (fun h' e hm => ?_) (by show 0 ≤ sizeLine; omega)
  exact mk_of I hm r h (I.hok.gone hm.new)
def mRaise0 (x : Str) (ρ : EnvD) : MoS := fun b => some (.error (⟨x, none⟩, ρ), b)
theorem dst_raise0 {C : Addr} {bmB : List Value} {Bn newId initId : String} {x : Str} {p pos pos2 : Pos} (F : ExcBaseFacts Bn newId initId bmB) (q : PySem.W.excIn X.K C bmB newId = true) (gC : X.mg x = some (.ref C)) (kC : PySem.W.keepIn X.K (.ref C) = true) (r : Raises X (.ref C)) (hc : X.calm = true) (tk : Takes X W) (hg : Gl X x := by rfl) (hdb : (x == ("__debug__" : Str)) = false := by decide) :
    DSt X W O Ol (.Raise (some (.Call (.Name x p) [] [] pos)) none pos2) O' (mRaise0 x) := by
  refine ⟨_, ps_raise hc tk (pmk_own0 F q gC kC r hg hdb), fun B H0 G0 σ H G ρ b D r b' I ee pp => ?_⟩
  simp only [mRaise0, Option.some.injEq, Prod.mk.injEq] at ee
  obtain ⟨rfl, rfl⟩ := ee
  obtain ⟨G2, sg, J⟩ := I.less (O' := []) (fun i z => nomatch z)
  exact pp C none σ H G2 gC J rfl

/-! ### a, b = x, y -/
def mPar (i j : Nat) (fa : EnvD → Mo (List Sl)) (ρ : EnvD) : MoS := mE (fa ρ) ρ fun ss => match ss with
  | [u, v] => sOk .nx ((ρ.set i (some u)).set j (some v))
  | _ => fun _ => none
theorem RSs.two' {B : Option Addr} {G : Hp} {vs : List V} {s t : Sl} (h : RSs B G vs [s, t]) : ∃ v u, vs = [v, u] ∧ SlOk B G v s ∧ SlOk B G u t := by
  cases h with
  | cons a h => cases h with
    | cons a' h => cases h; exact ⟨_, _, rfl, a, a'⟩
theorem dst_par {i j : Nat} {x y : Str} {a a2 : Expr} {fa : EnvD → Mo (List Sl)} {px py pt pos : Pos} {kt k2 pt2} (hc : X.calm = true) (hN : X.N.Nodup) (hi : X.N[i]? = some x) (hj : X.N[j]? = some y) (hij : i ≠ j)
    (hx : X.env.scope.names.lookup x = some .local) (hy : X.env.scope.names.lookup y = some .local) (ha : DA X W O [a, a2] fa)
    (hw : swappedStores [.Tuple [.Name x px, .Name y py] kt pt] (.Tuple [a, a2] k2 pt2) X.env = pure (some [x, y])) (hs : swapsWithSole [.Tuple [.Name x px, .Name y py] kt pt] (.Tuple [a, a2] k2 pt2) pos.line X.env = pure false := by rfl) (oi : i ∉ O := by decide) (oj : j ∉ O := by decide) :
    DSt X W O Ol (.Assign [.Tuple [.Name x px, .Name y py] kt pt] (.Tuple [a, a2] k2 pt2) pos) O (mPar i j fa) := by
  obtain ⟨t, h1, h2⟩ := ha
  refine ⟨_, ps_par hc hN hi hj hij hx hy h1 hw hs, fun B H0 G0 σ H G ρ b D r b' I ee p => ?_⟩
  unfold mPar at ee
  rcases mE_some ee with ⟨er, q1, rfl⟩ | ⟨ss, b1, q1, ee⟩
  · exact h2 B H0 G0 σ H G ρ b _ _ _ I q1 (SPost.err I p)
  split at ee
  · rename_i u v
    obtain ⟨rfl, rfl⟩ := sOk_some ee
    refine h2 B H0 G0 σ H G ρ b _ _ _ I q1 fun vs H1 G1 s1 rv => ?_
    obtain ⟨v', u', rfl, r1, r2⟩ := rv.two'
    exact ⟨v', u', rfl, p _ H1 G1 (((I.step s1).put oi r1).put oj r2) s1.grow⟩
  · cases ee
def mPar3 (i j l : Nat) (fa : EnvD → Mo (List Sl)) (ρ : EnvD) : MoS := mE (fa ρ) ρ fun ss => match ss with
  | [u, v, w] => sOk .nx (((ρ.set i (some u)).set j (some v)).set l (some w))
  | _ => fun _ => none

/-! ### xs.append(e), xs.pop(k) of a list that is owned -/
theorem StOk.mod {B : Option Addr} {H0 G0 H G : Hp} {σ : L2.St} {ρ : EnvD} {b : Bx} {i : Nat} {a : Addr} {vs vs' : List V} {ds' : List Dt} (I : StOk B O H0 G0 σ H G ρ b) (hi : i ∈ O) (hs : σ[i]? = some (some (.ref a))) (h1 : H a = some (.lst vs)) (h2 : G a = none) (h0 : H0 a = none) (h3 : B ≠ some a) (ra : RpAll G vs' ds') (hl : vs'.length ≤ sizeLine)
    (hk : ∃ s, ρ[i]? = some (some s)) : StOk B O H0 G0 σ (upd H a (.lst vs')) G (ρ.set i (some (.d (.list ds')))) b where
  stp := {
    keep := fun c o e n => by rw [upd_ne (ne_of_none e h0)]; exact I.stp.keep c o e n
    grow := I.stp.grow
    sub := fun c o e => by rw [upd_ne (ne_of_none e h2)]; exact I.stp.sub c o e
    new := I.stp.new
    box := fun c e => by
      obtain ⟨q1, q2⟩ := I.stp.box c e
      exact ⟨by rw [upd_ne (fun z : c = a => h3 (z ▸ e))]; exact q1, q2⟩ }
  len := by rw [List.length_set]; exact I.len
  sl := fun j s hj e => by
    have hji : i ≠ j := fun z => hj (z ▸ hi)
    rw [List.getElem?_set_ne hji] at e
    exact I.sl j s hj e
  ow := fun j s hj e => by
    by_cases hji : i = j
    · subst hji
      by_cases hl' : i < ρ.length
      · rw [List.getElem?_set_self hl'] at e
        cases e
        exact ⟨a, ds', vs', rfl, hs, upd_same, h2, h0, h3, ra, hl⟩
      · rw [List.getElem?_eq_none (by rw [List.length_set]; omega)] at e; cases e
    · rw [List.getElem?_set_ne hji] at e
      obtain ⟨a', ds, ws, k1, k2, k3, k4, k5, k6, k7, k8⟩ := I.ow j s hj e
      obtain ⟨s0, hs0⟩ := hk
      have hne : a' ≠ a := fun z => I.ap i j a s0 s hi hj hji hs0 e hs (z ▸ k2)
      exact ⟨a', ds, ws, k1, k2, by rw [upd_ne hne]; exact k3, k4, k5, k6, k7, k8⟩
  ap := fun j k c s s' hj hk' hne e1 e2 => by
    have back : ∀ (m : Nat) (t : Sl), (ρ.set i (some (.d (.list ds'))))[m]? = some (some t) → ∃ t', ρ[m]? = some (some t') := fun m t e => by
      by_cases hm : i = m
      · subst hm; exact hk
      · rw [List.getElem?_set_ne hm] at e; exact ⟨t, e⟩
    obtain ⟨t1, f1⟩ := back j s e1
    obtain ⟨t2, f2⟩ := back k s' e2
    exact I.ap j k c t1 t2 hj hk' hne f1 f2
def slotL (i : Nat) (ρ : EnvD) : Option (List Dt) := match ρ[i]? with
  | some (some (.d (.list ds))) => some ds
  | _ => none
theorem slotL_some {i : Nat} {ρ : EnvD} {ds : List Dt} (h : slotL i ρ = some ds) : ρ[i]? = some (some (.d (.list ds))) := by
  unfold slotL at h
  split at h
  · cases h; assumption
  · cases h
def mApp (i : Nat) (fe : EnvD → Mo Dt) (ρ : EnvD) : MoS := match slotL i ρ with
  | some ds => mE (fe ρ) ρ fun d => if ds.length < sizeLine then sOk .nx (ρ.set i (some (.d (.list (ds ++ [d]))))) else fun _ => none
  | none => fun _ => none
theorem dst_app {i : Nat} {x : Str} {e : Expr} {fe : EnvD → Mo Dt} {px pa pc pos : Pos} (hx : PE X (.Name x px) (tVar i)) (he : DE X W O e fe) (hi : i ∈ O := by decide)
    (hp : ∀ {to : TE} {ta : TA}, PE X (.Name x px) to → PA X [e] ta → PE X (.Call (.Attribute (.Name x px) "append" pa) [e] [] pc) (tBM X.K "list" rAppend to ta) := by intro _ _ h1 h2; exact (pe_bm PySem.F.plainAttrs_list PySem.F.slot_list_append PySem.F.type_list_append mt_append h1 h2))
    (hs1 : starEach [e] X.env = (false, eval e X.env) :: starEach [] X.env := by rfl) (hs : swapsWith (.Call (.Attribute (.Name x px) "append" pa) [e] [] pc) none pos.line X.env = pure false := by rfl) :
    DSt X W O Ol (.Expr (.Call (.Attribute (.Name x px) "append" pa) [e] [] pc) pos) O (mApp i fe) := by
  obtain ⟨t, h1, h2⟩ := he
  refine ⟨_, ps_expr (hp hx (pa_cons h1 pa_nil hs1)) hs, fun B H0 G0 σ H G ρ b D r b' I ee p => ?_⟩
  unfold mApp at ee
  cases hq : slotL i ρ with
  | none => rw [hq] at ee; cases ee
  | some ds =>
  rw [hq] at ee
  have hs' := slotL_some hq
  obtain ⟨a, ds', vs, k1, k2, k3, k4, k5, k6, k7, k8⟩ := I.ow i _ hi hs'
  cases k1
  refine ⟨.ref a, k2, Or.inl ⟨rfl, _, Or.inl (Or.inl k3)⟩, ?_⟩
  rcases mE_some ee with ⟨er, q1, rfl⟩ | ⟨d, b1, q1, ee⟩
  · exact h2 B H0 G0 σ H G ρ b _ _ _ I q1 (SPost.err I p)
  split at ee
  · rename_i hl
    obtain ⟨rfl, rfl⟩ := sOk_some ee
    refine h2 B H0 G0 σ H G ρ b _ _ _ I q1 fun v H1 G1 s1 rv => ?_
    have I1 := I.step s1
    have z1 := s1.keep a _ k3 k6
    have g1 := s1.new a _ k3 k4
    have hv : vs.length < sizeLine := by rw [k7.length]; exact hl
    refine ⟨a, vs, v, rfl, rfl, z1, hv, p σ _ G1 (I1.mod hi k2 z1 g1 k5 k6 ((k7.mono s1.grow).append (.cons rv .nil)) (by rw [List.length_append]; exact hv) ⟨_, hs'⟩) s1.grow⟩
  · cases ee
/-! ### calls without arguments -/
def mCall0 (mf : List Sl → Mo Dt) (_ : EnvD) : Mo Dt := fun b => match mf [] b with
  | some (.ok d, b') => some (.ok d, b')
  | _ => none
theorem de_call0 {k : Nat} {f : Addr} {fd : FuncData} {ps : List Str} {mf : List Sl → Mo Dt} {x : Str} {p pos : Pos} (F : FnOk X.prog X.w X.K X.mg X.base (L2.CX X.prog X.w) k f fd ps (spM X.mg mf)) (hr : Room k X.A) (hm : X.mg x = some (.ref f)) (hk : PySem.W.keepIn X.K (.ref f) = true) (hb : Binds X.K fd ps [])
    (hg : Gl X x := by rfl) (hdb : (x == ("__debug__" : Str)) = false := by decide) : DE X W O (.Call (.Name x p) [] [] pos) (mCall0 mf) := by
  refine ⟨_, pe_call0 F hr hg hm hk hb .nil passL hdb, fun B H0 G0 σ H G ρ b Q r b' I e q => ?_⟩
  unfold mCall0 at e
  split at e
  · rename_i d b1 e1
    simp only [Option.some.injEq, Prod.mk.injEq] at e
    obtain ⟨rfl, rfl⟩ := e
    exact ⟨B, G, b, [], .ok d, b1, I.sub, I.box, .nil, e1, q⟩
  · cases e

/-! ### a def -/
def mDef (np N : Nat) (f : EnvD → MoS) : List Sl → Mo Dt := fun sls b => if sls.length = np then (match f (sls.map some ++ List.replicate (N - np) none) b with
    | some (.ok (.rt d, _), b') => some (.ok d, b')
    | some (.ok (.nx, _), b') => some (.ok .none, b')
    | some (.error (e, _), b') => some (.error e, b')
    | _ => none) else none
theorem start_ok {B : Option Addr} {H G : Hp} {b : Bx} {N : List Str} {vs : List V} {sls : List Sl} (s : Same G H) (bx : BoxAt B H G b) (r : RSs B G vs sls) : StOk B [] H G (start N vs) H G (sls.map some ++ List.replicate (N.length - sls.length) none) b where
  stp := .refl s bx
  len := by
    unfold L2.start
    rw [List.length_append, List.length_append, List.length_map, List.length_map, List.length_replicate, List.length_replicate, r.length]
  sl := fun i s' _ e => by
    by_cases hi : i < sls.length
    · rw [List.getElem?_append_left (by simpa using hi), List.getElem?_map] at e
      cases hs : sls[i]? with
      | none => rw [hs] at e; cases e
      | some t =>
        rw [hs] at e
        cases e
        obtain ⟨v, h1, h2⟩ := r.get hs
        refine ⟨v, ?_, h2⟩
        unfold L2.start
        rw [List.getElem?_append_left (by rw [List.length_map, r.length]; exact hi), List.getElem?_map, h1]
        rfl
    · rw [List.getElem?_append_right (by simpa using hi), List.getElem?_replicate] at e
      split at e <;> cases e
  ow := fun i s' hi => nomatch hi
  ap := fun i j a s s' hi => nomatch hi
section
variable {P : Program} {w : World} {K : PySem.W.Frag} {mg : Str → Option Value} {base : Heap}
/-- THE RULE for a def -/
theorem ok_def {x qual : Str} {st : Stmt} {f : Addr} {fd : FuncData} {N ps : List Str} {k : Nat} {fb : EnvD → MoS} {O' : List Nat} (F : Fun K x qual st f fd) (S : FnScope N ps (defScope st))
    (hb : ∀ (cdv : Value) (A : Around) (outer : List Env) (s : Shared) (H : Hp) (E : XK), Room k (A.deeper (envOfC qual (defScope st) s.heap.objs.size f cdv)) →
      DSs (cxOf (L2.CX P w) P w K mg base N qual (defScope st) f cdv A outer s H E) (fun cls d _ H => E cls d H) [] [] (defBody st) O' fb) :
    FnOk P w K mg base (L2.CX P w) (k + 1) f fd ps (spM mg (mDef ps.length N.length fb)) := by
  refine F.okX S (fun vs H Q E h => ?_) (fun cdv A outer s H vs Q E hr h => ?_)
  · obtain ⟨B, G, b, sls, r, b', hs, bx, rs, e, q⟩ := h
    unfold mDef at e
    split at e
    · rename_i hl; rw [rs.length]; exact hl
    · cases e
  · obtain ⟨t, h1, h2⟩ := hb cdv A outer s H E hr
    refine ⟨t, h1, ?_⟩
    obtain ⟨B, G, b, sls, r, b', hs, bx, rs, e, q⟩ := h
    unfold mDef at e
    split at e
    · rename_i hl
      have J := start_ok (N := N) hs bx rs
      rw [hl] at J
      split at e
      · rename_i d ρ' b1 e1
        simp only [Option.some.injEq, Prod.mk.injEq] at e
        obtain ⟨rfl, rfl⟩ := e
        exact h2 B H G _ H G _ b _ _ _ J e1 fun v H' G' s' r' => q v H' G' s' r'
      · rename_i ρ' b1 e1
        simp only [Option.some.injEq, Prod.mk.injEq] at e
        obtain ⟨rfl, rfl⟩ := e
        exact h2 B H G _ H G _ b _ _ _ J e1 fun σ' H' G' I' _ => q .non H' G' I'.stp .non
      · rename_i er ρ' b1 e1
        simp only [Option.some.injEq, Prod.mk.injEq] at e
        obtain ⟨rfl, rfl⟩ := e
        exact h2 B H G _ H G _ b _ _ _ J e1 fun C dd σ' H' G' hm I' ex => q C dd H' G' hm I'.stp ex
      · cases e
    · cases e
end
end
end DL
set_option maxRecDepth 100000
set_option maxHeartbeats 2000000
namespace DL
open PySem PySem.Spec PyProof.Rows L2

/-! ### the text's defs as they stand behind the top, and what they promise -/
structure Dv (K : PySem.W.Frag) (mg : Mg) (x : Str) (st : Stmt) (ps : List Str) (f : Addr) (fd : FuncData) : Prop where
  fn : Fun K x x st f fd
  mgf : mg x = some (.ref f)
  bd : Binds K fd ps []
/-- x is a def that reckons M -/
def Has (P : Program) (w : World) (K : PySem.W.Frag) (mg : Mg) (base : Heap) (x : Str) (st : Stmt) (k : Nat) (ps : List Str) (M : List Sl → Mo Dt) : Prop :=
  ∃ (f : Addr) (fd : FuncData), FnOk P w K mg base (L2.CX P w) k f fd ps (spM mg M) ∧ mg x = some (.ref f) ∧ Fun K x x st f fd ∧ Binds K fd ps []
def mStuck : List Sl → Mo Dt := fun _ _ => none
section
variable {P : Program} {w : World} {K : PySem.W.Frag} {mg : Mg} {base : Heap}
theorem Has.mono {x : Str} {st : Stmt} {j k : Nat} {ps : List Str} {M : List Sl → Mo Dt} (h : Has P w K mg base x st j ps M) (hk : j ≤ k) : Has P w K mg base x st k ps M := by
  obtain ⟨f, fd, h1, h2, h3, h4⟩ := h
  exact ⟨f, fd, h1.mono hk, h2, h3, h4⟩
theorem has_stuck {x : Str} {st : Stmt} {ps : List Str} {f : Addr} {fd : FuncData} (D : Dv K mg x st ps f fd) (k : Nat) : Has P w K mg base x st k ps mStuck := by
  refine ⟨f, fd, ⟨fun vs H Q E h => ?_, fun A outer s H args us vs Q E hr he hb hv h => ?_⟩, D.mgf, D.fn, D.bd⟩
  · obtain ⟨B, G, b, sls, r, b', hs, bx, rs, e, q⟩ := h; cases e
  · obtain ⟨B, G, b, sls, r, b', hs, bx, rs, e, q⟩ := h; cases e
theorem has_def {x : Str} {st : Stmt} {N ps : List Str} {f : Addr} {fd : FuncData} {k : Nat} {fb : EnvD → MoS} {O' : List Nat} (D : Dv K mg x st ps f fd) (S : FnScope N ps (defScope st))
    (hb : ∀ (cdv : Value) (A : Around) (outer : List Env) (s : Shared) (H : Hp) (E : XK), Room k (A.deeper (envOfC x (defScope st) s.heap.objs.size f cdv)) →
      DSs (cxOf (L2.CX P w) P w K mg base N x (defScope st) f cdv A outer s H E) (fun cls d _ H => E cls d H) [] [] (defBody st) O' fb) :
    Has P w K mg base x st (k + 1) ps (mDef ps.length N.length fb) := ⟨f, fd, ok_def D.fn S hb, D.mgf, D.fn, D.bd⟩
end
section
variable {X : Cx} {W : WX} {O : List Nat}
theorem de_ch {x : Str} {st : Stmt} {k k' : Nat} {ps : List Str} {M : List Sl → Mo Dt} {e : Expr} {es : List Expr} {fa : EnvD → Mo (List Sl)} {p pos : Pos} (h : Has X.prog X.w X.K X.mg X.base x st k ps M) (hr : Room k' X.A) (tk : Takes X W) (ha : DA X W O (e :: es) fa) (hk : k ≤ k' := by decide) (hg : Gl X x := by rfl)
    (hdb : (x == ("__debug__" : Str)) = false := by decide) (he : starEach (e :: es) X.env = (false, eval e X.env) :: starEach es X.env := by rfl) (hpl : (backTo pos (starEach es X.env)).any (·.1) = false := by rfl) : DE X W O (.Call (.Name x p) (e :: es) [] pos) (mCall M fa) := by
  obtain ⟨f, fd, h1, h2, h3, h4⟩ := h
  exact de_call h1 (hr.mono hk) h2 h3.kp h4 tk ha hg hdb he hpl
theorem de_ch0 {x : Str} {st : Stmt} {k k' : Nat} {ps : List Str} {M : List Sl → Mo Dt} {p pos : Pos} (h : Has X.prog X.w X.K X.mg X.base x st k ps M) (hr : Room k' X.A) (hk : k ≤ k' := by decide) (hg : Gl X x := by rfl) (hdb : (x == ("__debug__" : Str)) = false := by decide) : DE X W O (.Call (.Name x p) [] [] pos) (mCall0 M) := by
  obtain ⟨f, fd, h1, h2, h3, h4⟩ := h
  exact de_call0 h1 (hr.mono hk) h2 h3.kp h4 hg hdb
def gNil : List Dt → EnvD → Option EnvD := fun ds ρ => match ds with | [] => some ρ | _ => none
theorem dgs_nil' : DGs X O [] [] gNil := dgs_nil
theorem takes_n : Takes X Wn := fun u s' x => by
  obtain ⟨a, B, sI, pins, σ, H, cls, d, e, I, nb, up, sky, na, os, ag, w⟩ := x
  exact w.elim
end
end DL
set_option maxRecDepth 100000
set_option maxHeartbeats 2000000
namespace DL
open PySem PySem.Spec PyProof.Rows L2
section
variable {X : Cx} {W : WX} {O Ol O' : List Nat}
/-! ### new lists, not yet data -/
def mLstL (g : EnvD → Mo (List Sl)) (ρ : EnvD) : Mo (List Dt) := mBind (g ρ) fun ss => mOpt ((dats ss).bind fun ds => if ds.length ≤ sizeLine then some ds else none)
theorem del_lst {es : List Expr} {g : EnvD → Mo (List Sl)} {pos} (h : DA X W O es g) : DEL X W O (.List es pos) (mLstL g) := by
  obtain ⟨t, h1, h2⟩ := h
  refine ⟨_, pe_lst h1, fun B H0 G0 σ H G ρ b Q r b' I e p => ?_⟩
  unfold mLstL at e
  rcases mBind_some e with ⟨er, q1, rfl⟩ | ⟨ss, b1, q1, e⟩
  · exact h2 B H0 G0 σ H G ρ b _ _ _ I q1 p
  obtain ⟨ds, e, rfl, rfl⟩ := mOpt_some e
  refine h2 B H0 G0 σ H G ρ b _ _ _ I q1 fun vs H1 G1 s1 rv => ?_
  cases hd : dats ss with
  | none => rw [hd] at e; cases e
  | some es' =>
    rw [hd] at e
    simp only [Option.bind_some] at e
    split at e
    · rename_i hl
      cases e
      have ra := rv.dats hd
      have hx : vs.length ≤ sizeLine := by rw [ra.length]; exact hl
      refine ⟨hx, fun q hq => ?_⟩
      obtain ⟨n0, nB⟩ := s1.none hq
      exact p q vs _ G1 (s1.trans (Stp.addH s1.sub s1.box hq)) n0 upd_same (Same.free s1.sub hq) nB ra hx
    · cases e
def mAddL (f g : EnvD → Mo Dt) (ρ : EnvD) : Mo (List Dt) := mBind (f ρ) fun d => mBind (g ρ) fun e => mOpt (match d, e with
  | .list xs, .list ys => if xs.length + ys.length ≤ sizeLine then some (xs ++ ys) else none
  | _, _ => none)
theorem del_add {a b' : Expr} {f g : EnvD → Mo Dt} {pos} (ha : DE X W O a f) (hb : DE X W O b' g) : DEL X W O (.BinOp a .Add b' pos) (mAddL f g) := by
  obtain ⟨t, h1, h2⟩ := ha
  obtain ⟨u, k1, k2⟩ := hb
  refine ⟨_, pe_op op_cat h1 k1, fun B H0 G0 σ H G ρ b Q r b' I e p => ?_⟩
  unfold mAddL at e
  rcases mBind_some e with ⟨er, q1, rfl⟩ | ⟨d, b1, q1, e⟩
  · exact h2 B H0 G0 σ H G ρ b _ _ _ I q1 p
  refine h2 B H0 G0 σ H G ρ b _ _ _ I q1 fun v H1 G1 s1 rv => ?_
  rcases mBind_some e with ⟨er, q2, rfl⟩ | ⟨d', b2, q2, e⟩
  · exact k2 B H0 G0 σ H1 G1 ρ b1 _ _ _ (I.step s1) q2 fun C dd H' G' m s q => p C dd H' G' m (s1.trans s) q
  refine k2 B H0 G0 σ H1 G1 ρ b1 _ _ _ (I.step s1) q2 fun v' H2 G2 s2 rv' => ?_
  obtain ⟨ds, e, rfl, rfl⟩ := mOpt_some e
  split at e
  · rename_i xs ys
    split at e
    · rename_i hl
      cases e
      obtain ⟨l, us, rfl, a1, a2, a3⟩ := rv.inv_list
      obtain ⟨m, ws, rfl, c1, c2, c3⟩ := rv'.inv_list
      have hz : us.length + ws.length ≤ sizeLine := by rw [a3.length, c3.length]; exact hl
      refine ⟨l, m, us, ws, rfl, rfl, (s2.grow.trans s2.sub) _ _ a1, s2.sub _ _ c1, hz, fun q hq => ?_⟩
      have st := s1.trans s2
      obtain ⟨n0, nB⟩ := st.none hq
      exact p q (us ++ ws) _ G2 (st.trans (Stp.addH st.sub st.box hq)) n0 upd_same (Same.free st.sub hq) nB ((a3.mono s2.grow).append c3) (by rw [List.length_append]; exact hz)
    · cases e
  · cases e
def mListL (g : EnvD → Mo (List Sl)) (ρ : EnvD) : Mo (List Dt) := mBind (g ρ) fun ss => mOpt (match ss with
  | [.d (.list ds)] => some ds
  | [.d (.tuple ds)] => some ds
  | _ => none)
theorem del_list {e : Expr} {f : EnvD → Mo (List Sl)} {p pos} (hm : X.mg "list" = none) (ha : DA X W O [e] f) (hg : Gl X "list" := by rfl) (he : starEach [e] X.env = (false, eval e X.env) :: starEach [] X.env := by rfl) (hpl : (backTo pos (starEach [] X.env)).any (·.1) = false := by rfl) : DEL X W O (.Call (.Name "list" p) [e] [] pos) (mListL f) := by
  obtain ⟨t, h1, h2⟩ := ha
  refine ⟨_, pe_callTy call_list_of hg hm PyProof.Rows.boot_list h1 (by decide) (by decide) he hpl, fun B H0 G0 σ H G ρ b Q r b' I e p => ?_⟩
  unfold mListL at e
  rcases mBind_some e with ⟨er, q1, rfl⟩ | ⟨ss, b1, q1, e⟩
  · exact h2 B H0 G0 σ H G ρ b _ _ _ I q1 p
  refine h2 B H0 G0 σ H G ρ b _ _ _ I q1 fun vs H1 G1 s1 rv => ?_
  obtain ⟨ds, e, rfl, rfl⟩ := mOpt_some e
  split at e
  · cases e
    obtain ⟨v, rfl, rw'⟩ := rv.one
    obtain ⟨a, ws, rfl, k1, k2, k3⟩ := rw'.inv_list
    refine ⟨a, ws, rfl, .inl (SqL.of (s1.sub _ _ k1)), fun q hq => ?_⟩
    obtain ⟨n0, nB⟩ := s1.none hq
    exact p q ws _ G1 (s1.trans (Stp.addH s1.sub s1.box hq)) n0 upd_same (Same.free s1.sub hq) nB k3 k2
  · cases e
    obtain ⟨v, rfl, rw'⟩ := rv.one
    obtain ⟨a, ws, rfl, k1, k2, k3⟩ := rw'.inv_tup
    refine ⟨a, ws, rfl, .inr (SqT.of (s1.sub _ _ k1)), fun q hq => ?_⟩
    obtain ⟨n0, nB⟩ := s1.none hq
    exact p q ws _ G1 (s1.trans (Stp.addH s1.sub s1.box hq)) n0 upd_same (Same.free s1.sub hq) nB k3 k2
  · cases e
/-! ### len of a list that is owned -/
def mLenO (i : Nat) (ρ : EnvD) : Mo Dt := mOpt ((slotL i ρ).map fun ds => .int ds.length)
theorem de_lenO {i : Nat} {x : Str} {p px pos : Pos} (hx : PE X (.Name x px) (tVar i)) (hm : X.mg "len" = none) (hi : i ∈ O := by decide) (hg : Gl X "len" := by rfl) (he : starEach [.Name x px] X.env = (false, eval (.Name x px) X.env) :: starEach [] X.env := by rfl) (hpl : (backTo pos (starEach [] X.env)).any (·.1) = false := by rfl) :
    DE X W O (.Call (.Name "len" p) [.Name x px] [] pos) (mLenO i) := by
  refine ⟨_, pe_callB call_len_seq hg hm PySem.boot_len (pa_cons hx pa_nil he) (by decide) (by decide) he hpl, fun B H0 G0 σ H G ρ b Q r b' I e p => ?_⟩
  unfold mLenO at e
  obtain ⟨d, e, rfl, rfl⟩ := mOpt_some e
  cases hq : slotL i ρ with
  | none => rw [hq] at e; cases e
  | some ds =>
    rw [hq] at e
    cases e
    obtain ⟨a, ds', vs, k1, k2, k3, k4, k5, k6, k7, k8⟩ := I.ow i _ hi (slotL_some hq)
    cases k1
    refine ⟨.ref a, k2, a, vs, rfl, .inl (SqL.of k3), ?_⟩
    rw [k7.length]
    exact p _ H G I.refl (.int _)

/-! ### a, b = .. with new lists among them -/
inductive Nw
  | s (x : Sl)
  | l (ds : List Dt)
def Nw.isL : Nw → Bool
  | .s _ => false
  | .l _ => true
def NwOk (B : Option Addr) (H H' G' : Hp) (v : V) : Nw → Prop
  | .s x => SlOk B G' v x
  | .l ds => ∃ a vs, v = .ref a ∧ H a = none ∧ H' a = some (.lst vs) ∧ G' a = none ∧ B ≠ some a ∧ RpAll G' vs ds ∧ vs.length ≤ sizeLine
inductive NwAll (B : Option Addr) (H H' G' : Hp) : List V → List Nw → Prop
  | nil : NwAll B H H' G' [] []
  | cons {v : V} {n : Nw} {vs : List V} {ns : List Nw} : NwOk B H H' G' v n → (n.isL = true → ∀ (q : Nat) (ds : List Dt), ns[q]? = some (.l ds) → vs[q]? ≠ some v) → NwAll B H H' G' vs ns → NwAll B H H' G' (v :: vs) (n :: ns)
theorem NwOk.later {B : Option Addr} {H H1 G1 H' G' : Hp} {b' : Bx} {v : V} {n : Nw} (h : NwOk B H H1 G1 v n) (s : Stp B H1 G1 H' G' b') : NwOk B H H' G' v n := by
  cases n with
  | s x => exact h.mono s.grow
  | l ds =>
    obtain ⟨a, vs, h1, h2, h3, h4, h5, h6, h7⟩ := h
    exact ⟨a, vs, h1, h2, s.keep a _ h3 h5, s.new a _ h3 h4, h5, h6.mono s.grow, h7⟩
theorem NwAll.earlier {B : Option Addr} {H G H1 G1 H' G' : Hp} {b1 : Bx} (s : Stp B H G H1 G1 b1) : ∀ {vs : List V} {ns : List Nw}, NwAll B H1 H' G' vs ns → NwAll B H H' G' vs ns
  | _, _, .nil => .nil
  | _, _, .cons (n := n) h d t => .cons (by
      cases n with
      | s x => exact h
      | l ds =>
        obtain ⟨a, vs, h1, h2, h3⟩ := h
        exact ⟨a, vs, h1, (s.none h2).1, h3⟩) d (NwAll.earlier s t)
theorem NwAll.at {B : Option Addr} {H H' G' : Hp} : ∀ {vs : List V} {ns : List Nw} {q : Nat} {n : Nw}, NwAll B H H' G' vs ns → ns[q]? = some n → ∃ v, vs[q]? = some v ∧ NwOk B H H' G' v n
  | _, _, _, _, .nil, e => by simp at e
  | _, _, 0, _, .cons h d t, e => by simp at e; subst e; exact ⟨_, by simp, h⟩
  | _, _, q + 1, n, .cons h d t, e => by
    obtain ⟨v, h1, h2⟩ := NwAll.at (q := q) (n := n) t (by simpa using e)
    exact ⟨v, by simpa using h1, h2⟩
def EvN (mg : Mg) (W : WX) (O : List Nat) (t : TA) (f : EnvD → Mo (List Nw)) : Prop := ∀ B H0 G0 σ H G ρ b Q r b', StOk B O H0 G0 σ H G ρ b → f ρ b = some (r, b') → (match r with
  | .ok ns => ∀ vs H' G', Stp B H G H' G' b' → NwAll B H H' G' vs ns → Q vs H'
  | .error e => ∀ C dd H' G', mg e.cls = some (.ref C) → Stp B H G H' G' b' → ExAt H' G' dd e → W (.ref C) dd σ H') → t σ H Q
def DN (X : Cx) (W : WX) (O : List Nat) (es : List Expr) (f : EnvD → Mo (List Nw)) : Prop := ∃ t, PA X es t ∧ EvN X.mg W O t f
def mNilN : EnvD → Mo (List Nw) := fun _ => mOk []
def mConsS (f : EnvD → Mo Sl) (g : EnvD → Mo (List Nw)) (ρ : EnvD) : Mo (List Nw) := mBind (f ρ) fun s => mBind (g ρ) fun ss => mOk (.s s :: ss)
def mConsL (f : EnvD → Mo (List Dt)) (g : EnvD → Mo (List Nw)) (ρ : EnvD) : Mo (List Nw) := mBind (f ρ) fun s => mBind (g ρ) fun ss => mOk (.l s :: ss)
theorem dn_nil : DN X W O [] mNilN := ⟨_, pa_nil, fun B H0 G0 σ H G ρ b Q r b' I e p => by
  simp only [mNilN, mOk, Option.some.injEq, Prod.mk.injEq] at e
  obtain ⟨rfl, rfl⟩ := e
  exact p [] H G I.refl .nil⟩
theorem dn_s {e : Expr} {es : List Expr} {f : EnvD → Mo Sl} {g : EnvD → Mo (List Nw)} (h : DS X W O e f) (h' : DN X W O es g) (hs : starEach (e :: es) X.env = (false, eval e X.env) :: starEach es X.env := by rfl) : DN X W O (e :: es) (mConsS f g) := by
  obtain ⟨t, h1, h2⟩ := h
  obtain ⟨u, k1, k2⟩ := h'
  refine ⟨_, pa_cons h1 k1 hs, fun B H0 G0 σ H G ρ b Q r b' I e p => ?_⟩
  unfold mConsS at e
  rcases mBind_some e with ⟨er, q1, rfl⟩ | ⟨d, b1, q1, e⟩
  · exact h2 B H0 G0 σ H G ρ b _ _ _ I q1 p
  refine h2 B H0 G0 σ H G ρ b _ _ _ I q1 fun v H1 G1 s1 rv => ?_
  rcases mBind_some e with ⟨er, q2, rfl⟩ | ⟨ns, b2, q2, e⟩
  · exact k2 B H0 G0 σ H1 G1 ρ b1 _ _ _ (I.step s1) q2 fun C dd H' G' m s q => p C dd H' G' m (s1.trans s) q
  obtain ⟨rfl, rfl⟩ := mOk_some e
  exact k2 B H0 G0 σ H1 G1 ρ b1 _ _ _ (I.step s1) q2 fun vs H2 G2 s2 ra => p _ H2 G2 (s1.trans s2) (.cons (SlOk.mono s2.grow rv) (fun z => nomatch z) (ra.earlier s1))
theorem dn_l {e : Expr} {es : List Expr} {f : EnvD → Mo (List Dt)} {g : EnvD → Mo (List Nw)} (h : DEL X W O e f) (h' : DN X W O es g) (hs : starEach (e :: es) X.env = (false, eval e X.env) :: starEach es X.env := by rfl) : DN X W O (e :: es) (mConsL f g) := by
  obtain ⟨t, h1, h2⟩ := h
  obtain ⟨u, k1, k2⟩ := h'
  refine ⟨_, pa_cons h1 k1 hs, fun B H0 G0 σ H G ρ b Q r b' I e p => ?_⟩
  unfold mConsL at e
  rcases mBind_some e with ⟨er, q1, rfl⟩ | ⟨d, b1, q1, e⟩
  · exact h2 B H0 G0 σ H G ρ b _ _ _ I q1 p
  refine h2 B H0 G0 σ H G ρ b _ _ _ I q1 fun a vs H1 G1 s1 z0 z1 z2 z3 z4 z5 => ?_
  rcases mBind_some e with ⟨er, q2, rfl⟩ | ⟨ns, b2, q2, e⟩
  · exact k2 B H0 G0 σ H1 G1 ρ b1 _ _ _ (I.step s1) q2 fun C dd H' G' m s q => p C dd H' G' m (s1.trans s) q
  obtain ⟨rfl, rfl⟩ := mOk_some e
  refine k2 B H0 G0 σ H1 G1 ρ b1 _ _ _ (I.step s1) q2 fun ws H2 G2 s2 ra => p _ H2 G2 (s1.trans s2) (.cons (NwOk.later (n := .l d) ⟨a, vs, rfl, z0, z1, z2, z3, z4, z5⟩ s2) (fun _ q ds hq hv => ?_) (ra.earlier s1))
  obtain ⟨v, c1, c2⟩ := ra.at hq
  rw [hv] at c1
  cases c1
  obtain ⟨a', vs', k1, k2, _⟩ := c2
  cases k1
  rw [z1] at k2
  cases k2
abbrev ownB : Bool → Nat → List Nat → List Nat
  | true, i, O => i :: O
  | false, _, O => O
def setN (i : Nat) (n : Nw) (ρ : EnvD) : EnvD := match n with
  | .s x => ρ.set i (some x)
  | .l ds => ρ.set i (some (.d (.list ds)))
theorem StOk.putN {B : Option Addr} {H0 G0 H H' G' : Hp} {σ : L2.St} {ρ : EnvD} {b : Bx} {i : Nat} {v : V} {n : Nw} (I : StOk B O H0 G0 σ H' G' ρ b) (hi : i ∉ O) (h : NwOk B H H' G' v n) (h0 : ∀ a, H a = none → H0 a = none)
    (hc : n.isL = true → ∀ j s, j ∈ O → ρ[j]? = some (some s) → σ[j]? ≠ some (some v)) : StOk B (ownB n.isL i O) H0 G0 (σ.set i (some v)) H' G' (setN i n ρ) b := by
  cases n with
  | s x => exact I.put hi h
  | l ds =>
    obtain ⟨a, vs, rfl, h1, h2, h3, h4, h5, h6⟩ := h
    exact I.own hi h2 h3 h4 h5 h6 (h0 a h1) (hc rfl)
def mParN2 (k1 k2 : Bool) (i j : Nat) (fa : EnvD → Mo (List Nw)) (ρ : EnvD) : MoS := mE (fa ρ) ρ fun ns => match ns with
  | [u, v] => if u.isL = k1 ∧ v.isL = k2 then sOk .nx (setN j v (setN i u ρ)) else fun _ => none
  | _ => fun _ => none
theorem fresh_own {B : Option Addr} {H0 G0 H G H' G' : Hp} {σ : L2.St} {ρ : EnvD} {b : Bx} {v : V} {n : Nw} (I : StOk B O H0 G0 σ H G ρ b) (h : NwOk B H H' G' v n) (hn : n.isL = true) : ∀ j s, j ∈ O → ρ[j]? = some (some s) → σ[j]? ≠ some (some v) := by
  intro j s hj e q
  cases n with
  | s x => cases hn
  | l ds =>
    obtain ⟨a, vs, rfl, h1, _⟩ := h
    obtain ⟨a', ds', vs', _, k2, k3, _⟩ := I.ow j s hj e
    rw [q] at k2
    cases k2
    rw [h1] at k3
    cases k3
theorem StOk.putN2 {B : Option Addr} {H0 G0 H G H' G' : Hp} {σ : L2.St} {ρ : EnvD} {b b1 : Bx} {i j : Nat} {vs : List V} {n m : Nw} (I : StOk B O H0 G0 σ H G ρ b) (s : Stp B H G H' G' b1) (hij : i ≠ j) (hi : i ∉ O) (hj : j ∉ O) (h : NwAll B H H' G' vs [n, m]) :
    ∃ v u, vs = [v, u] ∧ StOk B (ownB m.isL j (ownB n.isL i O)) H0 G0 ((σ.set i (some v)).set j (some u)) H' G' (setN j m (setN i n ρ)) b1 := by
  cases h with
  | cons h1 d1 h => cases h with
    | cons h2 d2 h => cases h; exact ⟨_, _, rfl, by
      rename_i v u
      have J := I.step s
      have J1 := J.putN hi h1 (fun a z => (I.stp.none z).1) (fun hn => fresh_own I h1 hn)
      refine J1.putN (fun z => ?_) h2 (fun a z => (I.stp.none z).1) (fun hn k t hk e q => ?_)
      · cases hn : n.isL with
        | true => rw [hn] at z; rcases List.mem_cons.mp z with z | z; exact hij z.symm; exact hj z
        | false => rw [hn] at z; exact hj z
      · by_cases hki : i = k
        · subst hki
          cases hnl : n.isL with
          | false => rw [hnl] at hk; exact hi hk
          | true =>
            cases m with
            | s x => cases hn
            | l ds =>
              refine d1 hnl 0 ds rfl ?_
              by_cases hl : i < σ.length
              · rw [List.getElem?_set_self hl] at q
                cases q; rfl
              · rw [List.getElem?_eq_none (by rw [List.length_set]; omega)] at q; cases q
        · rw [List.getElem?_set_ne hki] at q
          have hkO : k ∈ O := by
            cases hnl : n.isL with
            | true => rw [hnl] at hk; rcases List.mem_cons.mp hk with z | z; exact absurd z.symm hki; exact z
            | false => rw [hnl] at hk; exact hk
          have e' : ρ[k]? = some (some t) := by
            cases n with
            | s x => simpa [setN, List.getElem?_set_ne hki] using e
            | l ds => simpa [setN, List.getElem?_set_ne hki] using e
          exact fresh_own I h2 hn k t hkO e' q⟩
theorem dst_parN2 {i j : Nat} {k1 k2 : Bool} {x y : Str} {a a2 : Expr} {fa : EnvD → Mo (List Nw)} {px py pt pos : Pos} {kt kv pt2} (hc : X.calm = true) (hN : X.N.Nodup) (hi : X.N[i]? = some x) (hj : X.N[j]? = some y) (hij : i ≠ j)
    (hx : X.env.scope.names.lookup x = some .local) (hy : X.env.scope.names.lookup y = some .local) (ha : DN X W O [a, a2] fa)
    (hw : swappedStores [.Tuple [.Name x px, .Name y py] kt pt] (.Tuple [a, a2] kv pt2) X.env = pure (some [x, y])) (hs : swapsWithSole [.Tuple [.Name x px, .Name y py] kt pt] (.Tuple [a, a2] kv pt2) pos.line X.env = pure false := by rfl) (oi : i ∉ O := by decide) (oj : j ∉ O := by decide) :
    DSt X W O Ol (.Assign [.Tuple [.Name x px, .Name y py] kt pt] (.Tuple [a, a2] kv pt2) pos) (ownB k2 j (ownB k1 i O)) (mParN2 k1 k2 i j fa) := by
  obtain ⟨t, h1, h2⟩ := ha
  refine ⟨_, ps_par hc hN hi hj hij hx hy h1 hw hs, fun B H0 G0 σ H G ρ b D r b' I ee p => ?_⟩
  unfold mParN2 at ee
  rcases mE_some ee with ⟨er, q1, rfl⟩ | ⟨ss, b1, q1, ee⟩
  · exact h2 B H0 G0 σ H G ρ b _ _ _ I q1 (SPost.err (R := RD) (Q := fun _ _ => True) I p)
  split at ee
  · rename_i u v
    by_cases hk : u.isL = k1 ∧ v.isL = k2
    · rw [if_pos hk] at ee
      obtain ⟨rfl, rfl⟩ := sOk_some ee
      refine h2 B H0 G0 σ H G ρ b _ _ _ I q1 fun vs H1 G1 s1 rv => ?_
      obtain ⟨v', u', rfl, J⟩ := I.putN2 s1 hij oi oj rv
      rw [hk.1, hk.2] at J
      exact ⟨v', u', rfl, p _ H1 G1 J s1.grow⟩
    · rw [if_neg hk] at ee; cases ee
  · cases ee
theorem NwAll.later {B : Option Addr} {H H1 G1 H' G' : Hp} {b' : Bx} (s : Stp B H1 G1 H' G' b') : ∀ {vs : List V} {ns : List Nw}, NwAll B H H1 G1 vs ns → NwAll B H H' G' vs ns
  | _, _, .nil => .nil
  | _, _, .cons h d t => .cons (h.later s) d (NwAll.later s t)
theorem dst_parT2 {i j : Nat} {k1 k2 : Bool} {x y : Str} {a a2 : Expr} {fa : EnvD → Mo (List Nw)} {px py pt pos : Pos} {kt kv pt2} (hc : X.calm = true) (hij : i ≠ j) (gx : PG X (.Name x px) (gName i)) (gy : PG X (.Name y py) (gName j)) (ha : DN X W O [a, a2] fa)
    (hw : swappedStores [.Tuple [.Name x px, .Name y py] kt pt] (.Tuple [a, a2] kv pt2) X.env = pure none := by rfl) (hs : swapsWithSole [.Tuple [.Name x px, .Name y py] kt pt] (.Tuple [a, a2] kv pt2) pos.line X.env = pure false := by rfl)
    (h1 : (assignEach [.Tuple [.Name x px, .Name y py] kt pt] X.env).map (·.2) = [assign (.Tuple [.Name x px, .Name y py] kt pt) X.env] := by rfl)
    (hA : (assignEach [.Name x px, .Name y py] X.env).map (·.2) = assign (.Name x px) X.env :: (assignEach [.Name y py] X.env).map (·.2) := by rfl) (hB : (assignEach [.Name y py] X.env).map (·.2) = assign (.Name y py) X.env :: (assignEach [] X.env).map (·.2) := by rfl)
    (hn : (assignEach [.Name x px, .Name y py] X.env).length = 2 := by rfl) (hst : (assignEach [.Name x px, .Name y py] X.env).findIdx? (·.1) = none := by rfl) (oi : i ∉ O := by decide) (oj : j ∉ O := by decide) :
    DSt X W O Ol (.Assign [.Tuple [.Name x px, .Name y py] kt pt] (.Tuple [a, a2] kv pt2) pos) (ownB k2 j (ownB k1 i O)) (mParN2 k1 k2 i j fa) := by
  obtain ⟨t, t1, t2⟩ := ha
  refine ⟨_, ps_asg (pe_tup t1) (pg_tup hc (pgs_cons gx (pgs_cons gy pgs_nil hB) hA) hn hst) hs hw h1, fun B H0 G0 σ H G ρ b D r b' I ee p => ?_⟩
  unfold mParN2 at ee
  rcases mE_some ee with ⟨er, q1, rfl⟩ | ⟨ss, b1, q1, ee⟩
  · exact t2 B H0 G0 σ H G ρ b _ _ _ I q1 (SPost.err (R := RD) (Q := fun _ _ => True) I p)
  split at ee
  · rename_i u v
    by_cases hk : u.isL = k1 ∧ v.isL = k2
    · rw [if_pos hk] at ee
      obtain ⟨rfl, rfl⟩ := sOk_some ee
      refine t2 B H0 G0 σ H G ρ b _ _ _ I q1 fun vs H1 G1 s1 rv => ?_
      have hlen : vs.length = 2 := by
        cases rv with
        | cons _ _ t => cases t with
          | cons _ _ t => cases t; rfl
      refine ⟨by rw [hlen]; decide, fun q hq => ?_⟩
      have s2 := Stp.addH (o := .tup vs) s1.sub s1.box hq
      obtain ⟨v', u', rfl, J⟩ := I.putN2 (s1.trans s2) hij oi oj (rv.later s2)
      rw [hk.1, hk.2] at J
      exact ⟨q, _, rfl, SqT.of upd_same, rfl, v', _, rfl, u', _, rfl, rfl, p _ _ G1 J s1.grow⟩
    · rw [if_neg hk] at ee; cases ee
  · cases ee
/-! a, b, c = x, y, z -/
theorem RSs.three' {B : Option Addr} {G : Hp} {vs : List V} {s t u : Sl} (h : RSs B G vs [s, t, u]) : ∃ v w x, vs = [v, w, x] ∧ SlOk B G v s ∧ SlOk B G w t ∧ SlOk B G x u := by
  cases h with
  | cons a h => cases h with
    | cons a' h => cases h with
      | cons a'' h => cases h; exact ⟨_, _, _, rfl, a, a', a''⟩
theorem dst_par3 {i j l : Nat} {x y z : Str} {a a2 a3 : Expr} {fa : EnvD → Mo (List Sl)} {px py pz pt pos : Pos} {kt k2 pt2} (hc : X.calm = true) (hN : X.N.Nodup) (hi : X.N[i]? = some x) (hj : X.N[j]? = some y) (hl : X.N[l]? = some z) (hij : i ≠ j) (hil : i ≠ l) (hjl : j ≠ l)
    (hx : X.env.scope.names.lookup x = some .local) (hy : X.env.scope.names.lookup y = some .local) (hz : X.env.scope.names.lookup z = some .local) (ha : DA X W O [a, a2, a3] fa)
    (hw : swappedStores [.Tuple [.Name x px, .Name y py, .Name z pz] kt pt] (.Tuple [a, a2, a3] k2 pt2) X.env = pure (some [x, y, z])) (hs : swapsWithSole [.Tuple [.Name x px, .Name y py, .Name z pz] kt pt] (.Tuple [a, a2, a3] k2 pt2) pos.line X.env = pure false := by rfl) (oi : i ∉ O := by decide) (oj : j ∉ O := by decide) (ol : l ∉ O := by decide) :
    DSt X W O Ol (.Assign [.Tuple [.Name x px, .Name y py, .Name z pz] kt pt] (.Tuple [a, a2, a3] k2 pt2) pos) O (mPar3 i j l fa) := by
  obtain ⟨t, h1, h2⟩ := ha
  refine ⟨_, ps_par3 hc hN hi hj hl hij hil hjl hx hy hz h1 hw hs, fun B H0 G0 σ H G ρ b D r b' I ee p => ?_⟩
  unfold mPar3 at ee
  rcases mE_some ee with ⟨er, q1, rfl⟩ | ⟨ss, b1, q1, ee⟩
  · exact h2 B H0 G0 σ H G ρ b _ _ _ I q1 (SPost.err I p)
  split at ee
  · rename_i u v w
    obtain ⟨rfl, rfl⟩ := sOk_some ee
    refine h2 B H0 G0 σ H G ρ b _ _ _ I q1 fun vs H1 G1 s1 rv => ?_
    obtain ⟨v', u', w', rfl, r1, r2, r3⟩ := rv.three'
    exact ⟨v', u', w', rfl, p _ H1 G1 ((((I.step s1).put oi r1).put oj r2).put ol r3) s1.grow⟩
  · cases ee
end
end DL
set_option maxRecDepth 100000
set_option maxHeartbeats 2000000
namespace DL
open PySem PySem.Spec PyProof.Rows L2
section
variable {X : Cx} {W : WX} {O Ol O' : List Nat}
/-! ### int, abs, max, min -/
def intD : List Sl → Option Dt
  | [.d (.int i)] => some (.int i)
  | [.d (.bool k)] => some (.int (if k then 1 else 0))
  | _ => none
def absD : List Sl → Option Dt
  | [.d (.int i)] => some (.int (if i < 0 then -i else i))
  | _ => none
def maxD : List Sl → Option Dt
  | [.d (.int i), .d (.int j)] => some (.int (if j > i then j else i))
  | _ => none
def minD : List Sl → Option Dt
  | [.d (.int i), .d (.int j)] => some (.int (if j < i then j else i))
  | _ => none
theorem de_int1 {e : Expr} {f : EnvD → Mo (List Sl)} {p pos} (hm : X.mg "int" = none) (ha : DA X W O [e] f) (hg : Gl X "int" := by rfl) (he : starEach [e] X.env = (false, eval e X.env) :: starEach [] X.env := by rfl) (hpl : (backTo pos (starEach [] X.env)).any (·.1) = false := by rfl) : DE X W O (.Call (.Name "int" p) [e] [] pos) (mThen f intD) :=
  de_callTy call_int1 (fun B H G x d b c Q s bx rd hc q => by
    unfold intD at hc
    split at hc
    · cases hc
      obtain ⟨v, rfl, rv⟩ := rd.one
      exact .inl ⟨_, by rw [rv.inv_int], q _ H G (.refl s bx) (.int _)⟩
    · cases hc
      obtain ⟨v, rfl, rv⟩ := rd.one
      exact .inr ⟨_, by rw [rv.inv_bool], q _ H G (.refl s bx) (.int _)⟩
    · cases hc) hg hm PyProof.Rows.boot_int ha (by decide) (by decide) he hpl
theorem de_abs {e : Expr} {f : EnvD → Mo (List Sl)} {p pos} (hm : X.mg "abs" = none) (ha : DA X W O [e] f) (hg : Gl X "abs" := by rfl) (he : starEach [e] X.env = (false, eval e X.env) :: starEach [] X.env := by rfl) (hpl : (backTo pos (starEach [] X.env)).any (·.1) = false := by rfl) : DE X W O (.Call (.Name "abs" p) [e] [] pos) (mThen f absD) :=
  de_callB call_abs (fun B H G x d b c Q s bx rd hc q => by
    unfold absD at hc
    split at hc
    · cases hc
      obtain ⟨v, rfl, rv⟩ := rd.one
      exact ⟨_, by rw [rv.inv_int], q _ H G (.refl s bx) (.int _)⟩
    · cases hc) hg hm PyProof.Rows.boot_abs ha (by decide) (by decide) he hpl
theorem de_max2 {e e2 : Expr} {f : EnvD → Mo (List Sl)} {p pos} (hcm : X.calm = true) (hm : X.mg "max" = none) (ha : DA X W O [e, e2] f) (hg : Gl X "max" := by rfl) (he : starEach [e, e2] X.env = (false, eval e X.env) :: starEach [e2] X.env := by rfl) (hpl : (backTo pos (starEach [e2] X.env)).any (·.1) = false := by rfl) : DE X W O (.Call (.Name "max" p) [e, e2] [] pos) (mThen f maxD) :=
  de_callB (call_max2 hcm) (fun B H G x d b c Q s bx rd hc q => by
    unfold maxD at hc
    split at hc
    · cases hc
      obtain ⟨v, u, rfl, rv, ru⟩ := rd.two
      exact ⟨_, _, by rw [rv.inv_int, ru.inv_int], q _ H G (.refl s bx) (.int _)⟩
    · cases hc) hg hm PyProof.Rows.boot_max ha (by decide) (by decide) he hpl
theorem de_min2 {e e2 : Expr} {f : EnvD → Mo (List Sl)} {p pos} (hcm : X.calm = true) (hm : X.mg "min" = none) (ha : DA X W O [e, e2] f) (hg : Gl X "min" := by rfl) (he : starEach [e, e2] X.env = (false, eval e X.env) :: starEach [e2] X.env := by rfl) (hpl : (backTo pos (starEach [e2] X.env)).any (·.1) = false := by rfl) : DE X W O (.Call (.Name "min" p) [e, e2] [] pos) (mThen f minD) :=
  de_callB (call_min2 hcm) (fun B H G x d b c Q s bx rd hc q => by
    unfold minD at hc
    split at hc
    · cases hc
      obtain ⟨v, u, rfl, rv, ru⟩ := rd.two
      exact ⟨_, _, by rw [rv.inv_int, ru.inv_int], q _ H G (.refl s bx) (.int _)⟩
    · cases hc) hg hm PyProof.Rows.boot_min ha (by decide) (by decide) he hpl
/-! ### found.append(rest.pop(e)), both owned -/
def mAppPop (i j : Nat) (fe : EnvD → Mo Dt) (ρ : EnvD) : MoS := match slotL i ρ, slotL j ρ with
  | some ds, some es => mE (fe ρ) ρ fun d => match d with
    | .int z => if 0 ≤ z ∧ z < es.length ∧ z < 2 ^ 63 ∧ ds.length < sizeLine then match es[z.toNat]? with
      | some y => sOk .nx ((ρ.set j (some (.d (.list (es.eraseIdx z.toNat))))).set i (some (.d (.list (ds ++ [y])))))
      | none => fun _ => none
      else fun _ => none
    | _ => fun _ => none
  | _, _ => fun _ => none
theorem seqIx {z : Int} {n : Nat} (h0 : 0 ≤ z) (h1 : z < n) : seqIndex? z n = some z.toNat := by
  unfold seqIndex?
  have : ¬ z < 0 := by omega
  simp only [this, if_false]
  rw [if_pos (by simp; omega)]
theorem dst_appPop {i j : Nat} {x y : Str} {e : Expr} {fe : EnvD → Mo Dt} {px py pa pa2 pc pc2 pos : Pos} (hx : PE X (.Name x px) (tVar i)) (hy : PE X (.Name y py) (tVar j)) (hij : i ≠ j) (he : DE X W O e fe) (hi : i ∈ O := by decide) (hj : j ∈ O := by decide)
    (hp : ∀ {to : TE} {ta : TA}, PE X (.Name y py) to → PA X [e] ta → PE X (.Call (.Attribute (.Name y py) "pop" pa2) [e] [] pc2) (tBM X.K "list" rPopAt to ta) := by intro _ _ h1 h2; exact (pe_bm PySem.F.plainAttrs_list PySem.F.slot_list_pop PySem.F.type_list_pop mt_popAt h1 h2))
    (hq : ∀ {to : TE} {ta : TA}, PE X (.Name x px) to → PA X [.Call (.Attribute (.Name y py) "pop" pa2) [e] [] pc2] ta → PE X (.Call (.Attribute (.Name x px) "append" pa) [.Call (.Attribute (.Name y py) "pop" pa2) [e] [] pc2] [] pc) (tBM X.K "list" rAppend to ta) := by intro _ _ h1 h2; exact (pe_bm PySem.F.plainAttrs_list PySem.F.slot_list_append PySem.F.type_list_append mt_append h1 h2))
    (hs1 : starEach [e] X.env = (false, eval e X.env) :: starEach [] X.env := by rfl) (hs2 : starEach [.Call (.Attribute (.Name y py) "pop" pa2) [e] [] pc2] X.env = (false, eval (.Call (.Attribute (.Name y py) "pop" pa2) [e] [] pc2) X.env) :: starEach [] X.env := by rfl)
    (hs : swapsWith (.Call (.Attribute (.Name x px) "append" pa) [.Call (.Attribute (.Name y py) "pop" pa2) [e] [] pc2] [] pc) none pos.line X.env = pure false := by rfl) :
    DSt X W O Ol (.Expr (.Call (.Attribute (.Name x px) "append" pa) [.Call (.Attribute (.Name y py) "pop" pa2) [e] [] pc2] [] pc) pos) O (mAppPop i j fe) := by
  obtain ⟨t, h1, h2⟩ := he
  refine ⟨_, ps_expr (hq hx (pa_cons (hp hy (pa_cons h1 pa_nil hs1)) pa_nil hs2)) hs, fun B H0 G0 σ H G ρ b D r b' I ee p => ?_⟩
  unfold mAppPop at ee
  cases hqi : slotL i ρ with
  | none => rw [hqi] at ee; cases ee
  | some ds =>
  cases hqj : slotL j ρ with
  | none => rw [hqi, hqj] at ee; cases ee
  | some es =>
  rw [hqi, hqj] at ee
  have hsi := slotL_some hqi
  have hsj := slotL_some hqj
  obtain ⟨a, ds', vs, k1, k2, k3, k4, k5, k6, k7, k8⟩ := I.ow i _ hi hsi
  cases k1
  obtain ⟨a2, es', ws, l1, l2, l3, l4, l5, l6, l7, l8⟩ := I.ow j _ hj hsj
  cases l1
  refine ⟨.ref a, k2, Or.inl ⟨rfl, _, Or.inl (Or.inl k3)⟩, .ref a2, l2, Or.inl ⟨rfl, _, Or.inl (Or.inl l3)⟩, ?_⟩
  rcases mE_some ee with ⟨er, q1, rfl⟩ | ⟨d, b1, q1, ee⟩
  · exact h2 B H0 G0 σ H G ρ b _ _ _ I q1 (SPost.err I p)
  split at ee
  · rename_i z
    by_cases hc : 0 ≤ z ∧ z < es.length ∧ z < 2 ^ 63 ∧ ds.length < sizeLine
    · rw [if_pos hc] at ee
      obtain ⟨c1, c2, c3, c4⟩ := hc
      cases hy' : es[z.toNat]? with
      | none => simp only [hy'] at ee; cases ee
      | some y' =>
        simp only [hy'] at ee
        obtain ⟨rfl, rfl⟩ := sOk_some ee
        refine h2 B H0 G0 σ H G ρ b _ _ _ I q1 fun v H1 G1 s1 rv => ?_
        have hv := rv.inv_int
        subst hv
        have I1 := I.step s1
        have z1 := s1.keep a _ k3 k6
        have g1 := s1.new a _ k3 k4
        have z2 := s1.keep a2 _ l3 l6
        have g2 := s1.new a2 _ l3 l4
        obtain ⟨u, hu, ru⟩ := (l7.mono s1.grow).getD hy'
        have hne : a ≠ a2 := fun zz => I.ap i j a _ _ hi hj hij hsi hsj k2 (zz ▸ l2)
        have hw : ws.length = es.length := l7.length
        refine ⟨a2, ws, z, z.toNat, u, rfl, rfl, z2, by omega, c3, seqIx c1 (by rw [hw]; exact c2), hu, a, vs, u, rfl, rfl, by rw [upd_ne hne]; exact z1, by rw [k7.length]; exact c4, ?_⟩
        have J := I1.mod hj l2 z2 g2 l5 l6 ((l7.mono s1.grow).eraseIdx z.toNat) (Nat.le_trans (List.length_eraseIdx_le _ _) l8) ⟨_, hsj⟩
        have J2 := J.mod (i := i) (a := a) (vs := vs) (vs' := vs ++ [u]) (ds' := ds ++ [y']) hi k2 (by rw [upd_ne hne]; exact z1) g1 k5 k6 ((k7.mono s1.grow).append (.cons ru .nil)) (by rw [List.length_append, k7.length]; exact c4) ⟨.d (.list ds), by rw [List.getElem?_set_ne (Ne.symm hij)]; exact hsi⟩
        exact p σ _ G1 J2 s1.grow
    · rw [if_neg hc] at ee; cases ee
  · cases ee
/-! ### f(k = e, ..) -/
def pick {α : Type} (ix : List Nat) (l : List α) : List α := ix.filterMap (l[·]?)
theorem RSs.pick {B : Option Addr} {G : Hp} {vs : List V} {ss : List Sl} (h : RSs B G vs ss) : ∀ ix : List Nat, RSs B G (pick ix vs) (pick ix ss)
  | [] => .nil
  | i :: ix => by
    have ih := RSs.pick h ix
    unfold DL.pick at ih ⊢
    cases hs : ss[i]? with
    | none =>
      have hv : vs[i]? = none := by rw [List.getElem?_eq_none_iff] at hs ⊢; rw [h.length]; exact hs
      rw [List.filterMap_cons_none (by exact hv), List.filterMap_cons_none (by exact hs)]
      exact ih
    | some s =>
      obtain ⟨v, h1, h2⟩ := h.get hs
      rw [List.filterMap_cons_some (by exact h1), List.filterMap_cons_some (by exact hs)]
      exact .cons h2 ih
theorem vals_pick {vs : List V} {us : List Value} (h : Vals vs us) : ∀ ix : List Nat, Vals (pick ix vs) (pick ix us)
  | [] => .nil
  | i :: ix => by
    have ih := vals_pick h ix
    unfold DL.pick at ih ⊢
    cases hs : vs[i]? with
    | none =>
      rw [List.filterMap_cons_none (by exact hs), List.filterMap_cons_none (by exact h.none_of hs)]
      exact ih
    | some s =>
      obtain ⟨v, h1, h2⟩ := h.get hs
      rw [List.filterMap_cons_some (by exact hs), List.filterMap_cons_some (by exact h1)]
      exact .cons h2 ih
def DK (X : Cx) (W : WX) (O : List Nat) (kws : List Keyword) (f : EnvD → Mo (List Sl)) : Prop := ∃ t, PK X kws t ∧ Ev X.mg W O t RSs f
theorem dk_nil : DK X W O [] mNil := ⟨_, pk_nil, fun B H0 G0 σ H G ρ b Q r b' I e p => by
  simp only [mNil, mOk, Option.some.injEq, Prod.mk.injEq] at e
  obtain ⟨rfl, rfl⟩ := e
  exact p [] H G I.refl .nil⟩
theorem dk_cons {nm : Option Str} {e : Expr} {kpos : Pos} {kws : List Keyword} {f : EnvD → Mo Sl} {g : EnvD → Mo (List Sl)} (h : DS X W O e f) (h' : DK X W O kws g) : DK X W O (⟨nm, e, kpos⟩ :: kws) (mCons f g) := by
  obtain ⟨t, h1, h2⟩ := h
  obtain ⟨u, k1, k2⟩ := h'
  exact ⟨_, pk_cons h1 k1, ev_cons h2 k2⟩
def mCallK (ix : List Nat) (M : List Sl → Mo Dt) (fa : EnvD → Mo (List Sl)) (ρ : EnvD) : Mo Dt := mBind (fa ρ) fun sls => if sls.length = ix.length then M (pick ix sls) else fun _ => none
theorem pe_callK0S {x : Str} {k : Nat} {f : Addr} {fd : FuncData} {ps ks : List Str} {sp : Sp} {E : L2.St → XK} {p pos : Pos} {kws : List Keyword} {tk : TA} {ix : List Nat} (F : FnOk X.prog X.w X.K X.mg X.base (L2.CX X.prog X.w) k f fd ps sp) (hr : Room k X.A) (hg : Gl X x) (hm : X.mg x = some (.ref f)) (hk : PySem.W.keepIn X.K (.ref f) = true)
    (hb : ∀ ws : List Value, ws.length = ps.length → bindArgs fd ⟨[], ks.zip ws⟩ = pure (ps.zip (pick ix ws))) (hx : ∀ σ, PassesAt (L2.CX X.prog X.w) X σ (E σ)) (hkw : PK X kws tk)
    (hall : (backToKw pos (keywordEach kws X.env)).all (·.1.isSome) = true := by rfl) (hks : (backToKw pos (keywordEach kws X.env)).filterMap (·.1) = ks := by rfl) (hdb : (x == ("__debug__" : Str)) = false := by decide)
    (hpl : ((backTo pos (starEach [] X.env)).any (·.1) || (backToKw pos (keywordEach kws X.env)).any (·.1.isNone)) = false := by rfl) :
    PE X (.Call (.Name x p) [] kws pos) (fun σ H Q => tk σ H fun vs H1 => vs.length = ps.length ∧ sp (pick ix vs) H1 Q (E σ)) := by
  refine ⟨fun pins s σ H Q I h => ?_⟩
  refine wpAny_Call_Name_kw (ld_glob I hg hm ?_ hdb)
  refine PySem.W.callWith_KW0 (h₀ := X.base) I.ok.mod.kin hk hall ?_ hpl
  refine thn (hkw.run pos pins s σ H _ I h) fun ws s2 ⟨zs, H2, I2, rz, l1, q2⟩ => ⟨I2.kIn, ?_⟩
  rw [hks]
  have l2 : ws.length = ps.length := by rw [← rz.length]; exact l1
  refine wpAny_call (codeAny_mono (F.run X.A X.stack s2 H2 ⟨[] ++ [], ks.zip ws⟩ (pick ix ws) (pick ix zs) Q (E σ) hr I2.env0 (.of_eq (hb ws l2)) (vals_pick rz ix) q2) fun r s' hq => ?_)
  cases r with
  | error e => exact hx σ pins H2 s2 e s' I2 hq
  | ok fl =>
    cases fl with
    | ret u => exact I2.after hq
    | next => exact False.elim hq
    | brk => exact False.elim hq
    | cont => exact False.elim hq
theorem de_chk {x : Str} {st : Stmt} {k k' : Nat} {ps ks : List Str} {M : List Sl → Mo Dt} {kws : List Keyword} {fa : EnvD → Mo (List Sl)} {p pos : Pos} {ix : List Nat} (h : Has X.prog X.w X.K X.mg X.base x st k ps M) (hr : Room k' X.A) (tk : Takes X W) (ha : DK X W O kws fa)
    (hb : ∀ (kV doc pm : Value) (an : Option Addr) (cdv ct : Value) (ws : List Value), ws.length = ps.length → bindArgs (PySem.W.fnOf x x (defArgs st) (defBody st) (defScope st) .none kV doc pm an cdv ct) ⟨[], ks.zip ws⟩ = pure (ps.zip (pick ix ws))) (hix : ix.length = ps.length := by rfl)
    (hk : k ≤ k' := by decide) (hg : Gl X x := by rfl) (hall : (backToKw pos (keywordEach kws X.env)).all (·.1.isSome) = true := by rfl) (hks : (backToKw pos (keywordEach kws X.env)).filterMap (·.1) = ks := by rfl) (hdb : (x == ("__debug__" : Str)) = false := by decide)
    (hpl : ((backTo pos (starEach [] X.env)).any (·.1) || (backToKw pos (keywordEach kws X.env)).any (·.1.isNone)) = false := by rfl) : DE X W O (.Call (.Name x p) [] kws pos) (mCallK ix M fa) := by
  obtain ⟨f, fd, h1, h2, h3, h4⟩ := h
  obtain ⟨t, a1, a2⟩ := ha
  obtain ⟨oc, od, kV, doc, pm, an, cdv, ct, osl, rfl, lk, hcd⟩ := h3.ex
  refine ⟨_, pe_callK0S h1 (hr.mono hk) hg h2 h3.kp (hb kV doc pm an cdv ct) (fun σ => passAt tk σ) a1 hall hks hdb hpl, fun B H0 G0 σ H G ρ b Q r b' I e p => ?_⟩
  unfold mCallK at e
  rcases mBind_some e with ⟨er, q1, rfl⟩ | ⟨sls, b1, q1, e⟩
  · exact a2.err I q1 p
  refine a2 B H0 G0 σ H G ρ b _ _ _ I q1 fun vs H1 G1 s1 r1 => ?_
  have p1 := p.after s1
  by_cases hl : sls.length = ix.length
  case neg => rw [if_neg hl] at e; cases e
  rw [if_pos hl] at e
  refine ⟨by rw [r1.length, hl, hix], B, G1, b1, DL.pick ix sls, r, b', s1.sub, s1.box, r1.pick ix, e, ?_⟩
  cases r with
  | ok d => exact p1
  | error er => exact p1
end
end DL
set_option maxRecDepth 100000
set_option maxHeartbeats 2000000
namespace DL
open PySem PySem.Spec PyProof.Rows L2
/-! ### the box of draws: a list of three ints that is changed in its place -/
def Bx.get (b : Bx) : Nat → Option Int
  | 0 => some b.a
  | 1 => some b.b
  | 2 => some b.c
  | _ => none
def Bx.put (b : Bx) : Nat → Int → Option Bx
  | 0, z => some ⟨z, b.b, b.c⟩
  | 1, z => some ⟨b.a, z, b.c⟩
  | 2, z => some ⟨b.a, b.b, z⟩
  | _, _ => none
def Bx.vals (b : Bx) : List V := [.int b.a, .int b.b, .int b.c]
theorem Bx.get_vals {b : Bx} {k : Nat} {z : Int} (h : b.get k = some z) : b.vals[k]? = some (.int z) := by
  match k, h with
  | 0, h => cases h; rfl
  | 1, h => cases h; rfl
  | 2, h => cases h; rfl
  | n + 3, h => cases h
theorem Bx.put_vals {b b' : Bx} {k : Nat} {z : Int} (h : b.put k z = some b') : b.vals.set k (.int z) = b'.vals ∧ k < 3 := by
  match k, h with
  | 0, h => cases h; exact ⟨rfl, by decide⟩
  | 1, h => cases h; exact ⟨rfl, by decide⟩
  | 2, h => cases h; exact ⟨rfl, by decide⟩
  | n + 3, h => cases h
def isBox (i : Nat) (ρ : EnvD) : Bool := match ρ[i]? with
  | some (some .box) => true
  | _ => false
theorem isBox_some {i : Nat} {ρ : EnvD} (h : isBox i ρ = true) : ρ[i]? = some (some .box) := by
  unfold isBox at h
  split at h
  · assumption
  · cases h
def mBoxIx (i k : Nat) (ρ : EnvD) : Mo Dt := fun b => if isBox i ρ = true then (b.get k).map fun z => (.ok (.int z), b) else none
section
variable {X : Cx} {W : WX} {O Ol O' : List Nat}
theorem ixN_nat {n k : Nat} (h : k < n) : ixN n (k : Int) = some k := by
  unfold ixN
  rw [if_pos (by omega), if_pos (by omega)]
  rfl
theorem de_boxIx {i k : Nat} {x : Str} {j : Nat} {px pk pos : Pos} (hx : PE X (.Name x px) (tVar i)) (hi : i ∉ O := by decide) (hs : PlainIx (.Constant (.int (k : Int)) j pk) := by exact fun _ _ => rfl) : DE X W O (.Subscript (.Name x px) (.Constant (.int (k : Int)) j pk) pos) (mBoxIx i k) := by
  refine ⟨_, pe_ix ix_seq hx pe_int hs, fun B H0 G0 σ H G ρ b Q r b' I e p => ?_⟩
  unfold mBoxIx at e
  split at e
  · rename_i hb
    cases hz : b.get k with
    | none => rw [hz] at e; cases e
    | some z =>
      rw [hz] at e
      simp only [Option.map_some, Option.some.injEq, Prod.mk.injEq] at e
      obtain ⟨rfl, rfl⟩ := e
      obtain ⟨v, h1, a, hB, rfl⟩ := I.sl i _ hi (isBox_some hb)
      obtain ⟨q1, q2⟩ := I.box a hB
      have gk := Bx.get_vals hz
      have hk : k < 3 := by
        have := (List.getElem?_eq_some_iff.mp gk).1
        exact this
      refine ⟨.ref a, h1, .inl ⟨a, b.vals, k, .int z, rfl, rfl, SqL.of q1, ?_, p _ H G I.refl (.int z)⟩⟩
      unfold L2.atI
      rw [show b.vals.length = 3 from rfl, ixN_nat hk]
      exact gk
  · cases e
/-- box[k] = e -/
def mBoxSet (i k : Nat) (fe : EnvD → Mo Dt) (ρ : EnvD) : MoS := mE (fe ρ) ρ fun d b => match d with
  | .int z => if isBox i ρ = true then (b.put k z).map fun b1 => (.ok (.nx, ρ), b1) else none
  | _ => none
theorem StOk.rebox {B : Option Addr} {H0 G0 H G : Hp} {σ : L2.St} {ρ : EnvD} {b b1 : Bx} {a : Addr} (I : StOk B O H0 G0 σ H G ρ b) (hB : B = some a) : StOk B O H0 G0 σ (upd H a (.lst b1.vals)) G ρ b1 where
  stp := {
    keep := fun c o e n => by
      have hc : c ≠ a := fun z => n (by rw [z]; exact hB)
      rw [upd_ne hc]; exact I.stp.keep c o e n
    grow := I.stp.grow
    sub := fun c o e => by
      have hc : c ≠ a := fun z => by
        have := (I.box a hB).2
        rw [z] at e; rw [this] at e; cases e
      rw [upd_ne hc]; exact I.stp.sub c o e
    new := I.stp.new
    box := fun c e => by
      rw [hB] at e; cases e
      exact ⟨upd_same, (I.box a hB).2⟩ }
  len := I.len
  sl := I.sl
  ow := fun j s hj e => by
    obtain ⟨a', ds, vs, h1, h2, h3, h4, h5, h6, h7, h8⟩ := I.ow j s hj e
    have hne : a' ≠ a := fun z => h6 (by rw [z]; exact hB)
    exact ⟨a', ds, vs, h1, h2, by rw [upd_ne hne]; exact h3, h4, h5, h6, h7, h8⟩
  ap := I.ap
theorem dst_boxSet {i k : Nat} {x : Str} {j : Nat} {e : Expr} {fe : EnvD → Mo Dt} {px pk ps pos : Pos} (hx : PE X (.Name x px) (tVar i)) (he : DE X W O e fe) (hi : i ∉ O := by decide)
    (ha : ∀ v, assign (.Subscript (.Name x px) (.Constant (.int (k : Int)) j pk) ps) X.env v = (do
      let ov ← holding [v] (eval (.Name x px) X.env)
      let iv ← holding [v, ov] (eval (.Constant (.int (k : Int)) j pk) X.env)
      standAt ps
      holding [v, ov, iv] (setItem ov iv v)
      release [v, ov, iv] []) := by intro _; rfl)
    (hs : swapsWithSole [.Subscript (.Name x px) (.Constant (.int (k : Int)) j pk) ps] e pos.line X.env = pure false := by rfl) (hw : swappedStores [.Subscript (.Name x px) (.Constant (.int (k : Int)) j pk) ps] e X.env = pure none := by rfl)
    (h1 : (assignEach [.Subscript (.Name x px) (.Constant (.int (k : Int)) j pk) ps] X.env).map (·.2) = [assign (.Subscript (.Name x px) (.Constant (.int (k : Int)) j pk) ps) X.env] := by rfl) :
    DSt X W O Ol (.Assign [.Subscript (.Name x px) (.Constant (.int (k : Int)) j pk) ps] e pos) O (mBoxSet i k fe) := by
  obtain ⟨t, e1, e2⟩ := he
  refine ⟨_, ps_asg e1 (pg_sub hx pe_int set_list ha) hs hw h1, fun B H0 G0 σ H G ρ b D r b' I ee p => ?_⟩
  unfold mBoxSet at ee
  rcases mE_some ee with ⟨er, q1, rfl⟩ | ⟨d, b1, q1, ee⟩
  · exact e2 B H0 G0 σ H G ρ b _ _ _ I q1 (SPost.err I p)
  cases d with
  | int z =>
    simp only at ee
    split at ee
    · rename_i hb
      cases hz : b1.put k z with
      | none => rw [hz] at ee; cases ee
      | some b2 =>
        rw [hz] at ee
        simp only [Option.map_some, Option.some.injEq, Prod.mk.injEq] at ee
        obtain ⟨rfl, rfl⟩ := ee
        refine e2 B H0 G0 σ H G ρ b _ _ _ I q1 fun v H1 G1 s1 rv => ?_
        have hv := rv.inv_int
        subst hv
        have I1 := I.step s1
        obtain ⟨v, g1, a, hB, rfl⟩ := I1.sl i _ hi (isBox_some hb)
        obtain ⟨q2, q3⟩ := I1.box a hB
        obtain ⟨w1, w2⟩ := Bx.put_vals hz
        refine ⟨.ref a, g1, a, b1.vals, k, k, rfl, rfl, q2, ixN_nat w2, ?_⟩
        have J := I1.rebox (b1 := b2) hB
        rw [← w1] at J
        exact p σ _ G1 J s1.grow
    · cases ee
  | none => cases ee
  | bool z => cases ee
  | str z => cases ee
  | list z => cases ee
  | tuple z => cases ee
  | dict z => cases ee
/-! ### ** -/
def powD : Dt → Dt → Option Dt := opII fun i j => if CPow i j then some (.int (i ^ j.toNat)) else none
theorem de_pow {a b' : Expr} {fa fb : EnvD → Mo Dt} {pos} (ha : DE X W O a fa) (hb : DE X W O b' fb) : DE X W O (.BinOp a .Pow b' pos) (mBin powD fa fb) := by
  obtain ⟨t, h1, h2⟩ := ha
  obtain ⟨u, k1, k2⟩ := hb
  exact ⟨_, pe_op op_pow h1 k1, ev_bin (ok_rI (C := CPow) fun i j G => .int (i ^ j.toNat)) h2 k2⟩
end
end DL
set_option maxRecDepth 100000
set_option maxHeartbeats 2000000
namespace DL
open PySem PySem.Spec PyProof.Rows L2
/-! ### sorted: alike data of any depth -/
def leD' (x y : Dt) : Bool := PySem.W.dataLe false (fun d : Dt => d) x y
def insD (x : Dt) : List Dt → List Dt
  | [] => [x]
  | y :: r => if leD' x y = true then x :: y :: r else y :: insD x r
def isort : List Dt → List Dt
  | [] => []
  | x :: r => insD x (isort r)
theorem leD_total (x y : Dt) : (leD' x y || leD' y x) = true := by
  rw [Bool.or_eq_true]
  exact (PySem.W.sortLe_total (PyProof.Rows.listOrd PyProof.Rows.itemOrd) false fun b : Dt => PySem.W.keyToks b).total x y
theorem leD_trans (x y z : Dt) (h1 : leD' x y = true) (h2 : leD' y z = true) : leD' x z = true := (PySem.W.sortLe_total (PyProof.Rows.listOrd PyProof.Rows.itemOrd) false fun b : Dt => PySem.W.keyToks b).trans x y z h1 h2
theorem insD_mem {x z : Dt} : ∀ {l : List Dt}, z ∈ insD x l ↔ z = x ∨ z ∈ l
  | [] => by simp [insD]
  | y :: r => by
    unfold insD
    split
    · simp
    · simp [insD_mem (l := r)]
      constructor
      · rintro (h | h | h) <;> simp [h]
      · rintro (h | h | h) <;> simp [h]
theorem isort_mem {z : Dt} : ∀ {l : List Dt}, z ∈ isort l ↔ z ∈ l
  | [] => by simp [isort]
  | x :: r => by simp [isort, insD_mem, isort_mem (l := r)]
theorem insD_sorted {x : Dt} : ∀ {l : List Dt}, l.Pairwise (fun a b => leD' a b = true) → (insD x l).Pairwise (fun a b => leD' a b = true)
  | [], _ => by simp [insD]
  | y :: r, h => by
    obtain ⟨h1, h2⟩ := List.pairwise_cons.mp h
    unfold insD
    split
    · rename_i hxy
      refine List.pairwise_cons.mpr ⟨fun z hz => ?_, h⟩
      rcases List.mem_cons.mp hz with rfl | hz
      · exact hxy
      · exact leD_trans x y z hxy (h1 z hz)
    · rename_i hxy
      refine List.pairwise_cons.mpr ⟨fun z hz => ?_, insD_sorted h2⟩
      rcases insD_mem.mp hz with rfl | hz
      · have := leD_total z y
        rw [Bool.or_eq_true] at this
        rcases this with t | t
        · exact absurd t hxy
        · exact t
      · exact h1 z hz
theorem isort_sorted : ∀ {l : List Dt}, (isort l).Pairwise (fun a b => leD' a b = true)
  | [] => List.Pairwise.nil
  | _ :: _ => insD_sorted isort_sorted
theorem insD_class {x z : Dt} : ∀ {l : List Dt}, l.Pairwise (fun a b => leD' a b = true) → (insD x l).filter (PySem.W.Srt.alike leD' z) = (x :: l).filter (PySem.W.Srt.alike leD' z)
  | [], _ => by simp [insD]
  | y :: r, h => by
    obtain ⟨h1, h2⟩ := List.pairwise_cons.mp h
    unfold insD
    split
    · rfl
    · rename_i hxy
      rw [List.filter_cons, insD_class h2]
      by_cases hx : PySem.W.Srt.alike leD' z x = true
      · by_cases hy : PySem.W.Srt.alike leD' z y = true
        · exfalso
          unfold PySem.W.Srt.alike at hx hy
          rw [Bool.and_eq_true] at hx hy
          exact hxy (leD_trans x z y hx.2 hy.1)
        · simp [List.filter_cons, hx, hy]
      · simp [List.filter_cons, hx]
theorem isort_class {z : Dt} : ∀ {l : List Dt}, (isort l).filter (PySem.W.Srt.alike leD' z) = l.filter (PySem.W.Srt.alike leD' z)
  | [] => rfl
  | x :: r => by
    unfold isort
    rw [insD_class isort_sorted, List.filter_cons, List.filter_cons, isort_class]
theorem isort_eq (l : List Dt) : isort l = l.mergeSort (PySem.W.dataLe false fun d : Dt => d) :=
  PySem.W.Srt.the _ leD_trans leD_total isort_sorted fun z => isort_class
/-- what may be sorted -/
def allAlike : List Dt → Bool
  | ds => ds.all fun d => ds.all fun e => PySem.W.alike d e
def tup1 : Dt → Bool
  | .tuple (_ :: _) => true
  | _ => false
def plainK : Dt → Bool
  | .none => false
  | .tuple _ => false
  | _ => true
def srtOk (ds : List Dt) : Bool := allAlike ds && (ds.all tup1 || ds.all plainK) && ds.all fun d => decide (d.depth ≤ 40)
theorem srtOk_use {ds : List Dt} (h : srtOk ds = true) : PySem.W.AllAlike ds ∧ PySem.W.Sortable ds ∧ ∀ d ∈ ds, d.depth ≤ 40 := by
  unfold srtOk allAlike at h
  simp only [Bool.and_eq_true, List.all_eq_true, Bool.or_eq_true, decide_eq_true_eq] at h
  obtain ⟨⟨h1, h2⟩, h3⟩ := h
  refine ⟨h1, ?_, h3⟩
  rcases h2 with h2 | h2
  · refine .inl fun d hd => ?_
    have := h2 d hd
    unfold tup1 at this
    split at this
    · exact ⟨_, _, rfl⟩
    · cases this
  · refine .inr fun d hd => ?_
    have := h2 d hd
    unfold plainK at this
    split at this
    · cases this
    · cases this
    · rename_i a b
      exact ⟨a, b⟩
def rSortedA (K : PySem.W.Frag) : List V → Hp → VK → Prop := fun xs H Q => ∃ (a : Addr) (vs : List V) (ds : List Dt), xs = [.ref a] ∧ SqL K H a vs ∧ DpAll K H vs ds ∧ srtOk ds = true ∧
  ∀ (ws : List (V × Dt)) (p : Addr), (∀ v d, (v, d) ∈ ws → (v, d) ∈ vs.zip ds) → ws.map (·.2) = isort ds → H p = none → Q (.ref p) (upd H p (.lst (ws.map (·.1))))
theorem each_zip : ∀ {vs : List V} {us : List Value} {ds : List Dt}, Vals vs us → vs.length = ds.length → PySem.W.EachIs (fun (u : Value) (b : V × Dt) => RelV b.1 u) us (vs.zip ds)
  | _, _, [], .nil, _ => .nil
  | _, _, d :: ds, .cons r rs, h => .cons r (each_zip rs (by simpa using h))
  | _, _, d :: ds, .nil, h => by simp at h
  | _, _, [], .cons r rs, h => by simp at h
theorem each_reads {X : Cx} {pins : List (Addr × Obj)} {σ : L2.St} {H : Hp} {s : Shared} (I : Inv X pins σ H s) : ∀ {vs : List V} {us : List Value} {ds : List Dt}, Vals vs us → DpAll X.K H vs ds → PySem.W.EachIs (fun (u : Value) (b : V × Dt) => ∃ as, Reads s.heap u b.2 as) us (vs.zip ds)
  | _, _, [], .nil, .nil => .nil
  | _, _, d :: ds, .cons r rs, .cons h hs => .cons (Dp.reads I d _ _ h r) (each_reads I rs hs)
theorem each_fst : ∀ {us : List Value} {bs : List (V × Dt)}, PySem.W.EachIs (fun (u : Value) (b : V × Dt) => RelV b.1 u) us bs → Vals (bs.map (·.1)) us
  | _, _, .nil => .nil
  | _, _, .cons r rs => .cons r (each_fst rs)
theorem dpAll_len {K : PySem.W.Frag} {H : Hp} : ∀ {vs : List V} {ds : List Dt}, DpAll K H vs ds → vs.length = ds.length
  | _, _, .nil => rfl
  | _, _, .cons _ t => by simp [dpAll_len t]
section
variable {X : Cx} {W : WX} {O Ol O' : List Nat}
theorem cr_sortedA (hu : X.A.units + 64 < cLine) : CallR X (.builtin "sorted") (rSortedA X.K) := by
  intro pins s σ H xs us Q I r h
  obtain ⟨a, vs, ds, rfl, hs, hd, hk, q⟩ := h
  obtain ⟨k1, k2, k3⟩ := srtOk_use hk
  obtain ⟨its, rv, hl, hz⟩ := I.list hs
  rw [Vals.ref1 r]
  have hlen : vs.length = ds.length := dpAll_len hd
  have hsnd : (vs.zip ds).map (·.2) = ds := by
    rw [show (fun x : V × Dt => x.2) = Prod.snd from rfl, List.map_snd_zip (by omega)]
  have hbl : (vs.zip ds).length = vs.length := by rw [List.length_zip]; omega
  refine PySem.W.sorted_data (bs := vs.zip ds) (enc := Prod.snd) hl.isList (each_zip rv hlen) (each_reads I rv hd) (by rw [show (vs.zip ds).map Prod.snd = ds from hsnd]; exact k1) (by rw [show (vs.zip ds).map Prod.snd = ds from hsnd]; exact k2) (by rw [hbl]; exact hz)
    (fun b hb => by have := k3 b.2 (by rw [← hsnd]; exact List.mem_map.mpr ⟨b, hb, rfl⟩); omega) fun out ho he => ?_
  obtain ⟨ep, he'⟩ := PyProof.Rows.sortedAll_at s.heap its out.toArray
  have hl2 : (((vs.zip ds).mergeSort (PySem.W.dataLe false Prod.snd)).map (·.1)).length ≤ sizeLine := by
    rw [List.length_map, List.length_mergeSort, hbl]; exact hz
  have hmem : ∀ v d, (v, d) ∈ (vs.zip ds).mergeSort (PySem.W.dataLe false Prod.snd) → (v, d) ∈ vs.zip ds := fun v d hh => (List.mem_mergeSort).mp hh
  have hmap : ((vs.zip ds).mergeSort (PySem.W.dataLe false Prod.snd)).map (·.2) = isort ds := by
    have e := List.map_mergeSort (r := PySem.W.dataLe false (Prod.snd : V × Dt → Dt)) (s := PySem.W.dataLe false fun d : Dt => d) (f := fun x : V × Dt => x.2) (l := vs.zip ds) (fun a _ b _ => rfl)
    rw [isort_eq, ← hsnd]
    rw [hsnd] at e ⊢
    exact e
  exact ⟨.ref _, upd H (s.heap.objs.size + 1) (.lst (((vs.zip ds).mergeSort (PySem.W.dataLe false Prod.snd)).map (·.1))), I.laid (t' := s.toks) (fun _ _ => PyProof.Rows.sortedAll_old) (Nat.le_succ _) ⟨hl2, out, ep, each_fst he, he'⟩, rfl, q _ _ hmem hmap (I.hok.fresh (Nat.le_succ _))⟩
def sortedD : List Sl → Option Dt
  | [.d (.list ds)] => if srtOk ds = true then some (.list (isort ds)) else none
  | _ => none
theorem insD_len {x : Dt} : ∀ {l : List Dt}, (insD x l).length = l.length + 1
  | [] => rfl
  | y :: r => by
    unfold insD
    split
    · rfl
    · simp [insD_len (l := r)]
theorem isort_len : ∀ {l : List Dt}, (isort l).length = l.length
  | [] => rfl
  | x :: r => by unfold isort; rw [insD_len, isort_len]; rfl
theorem RpAll.of_zip {G : Hp} {vs : List V} {ds : List Dt} (h : RpAll G vs ds) : ∀ v d, (v, d) ∈ vs.zip ds → Rp G v d := by
  induction vs generalizing ds with
  | nil => intro v d hh; simp at hh
  | cons u us ih =>
    intro v d hh
    cases h with
    | cons h1 h2 =>
      rw [List.zip_cons_cons] at hh
      rcases List.mem_cons.mp hh with e | hh
      · cases e; exact h1
      · exact ih h2 v d hh
theorem RpAll.of_pairs {G : Hp} : ∀ {ws : List (V × Dt)}, (∀ v d, (v, d) ∈ ws → Rp G v d) → RpAll G (ws.map (·.1)) (ws.map (·.2))
  | [], _ => .nil
  | (v, d) :: ws, h => .cons (h v d List.mem_cons_self) (RpAll.of_pairs fun v d hh => h v d (List.mem_cons_of_mem _ hh))
theorem de_sorted {e : Expr} {f : EnvD → Mo (List Sl)} {p pos} {k : Nat} (hr : Room k X.A) (hm : X.mg "sorted" = none) (ha : DA X W O [e] f) (hg : Gl X "sorted" := by rfl) (he : starEach [e] X.env = (false, eval e X.env) :: starEach [] X.env := by rfl) (hpl : (backTo pos (starEach [] X.env)).any (·.1) = false := by rfl) : DE X W O (.Call (.Name "sorted" p) [e] [] pos) (mThen f sortedD) :=
  de_callB (cr_sortedA hr.units) (fun B H G x d b c Q s bx rd hc q => by
    unfold sortedD at hc
    split at hc
    · rename_i ds
      by_cases hk : srtOk ds = true
      · rw [if_pos hk] at hc
        cases hc
        obtain ⟨v, rfl, rv⟩ := rd.one
        obtain ⟨a, vs, rfl, k1, k2, k3⟩ := rv.inv_list
        refine ⟨a, vs, ds, rfl, SqL.of (s _ _ k1), k3.dp s, hk, fun ws p hw he hp => q _ _ _ (Stp.add s bx hp) (.lst upd_same ?_ ?_)⟩
        · rw [List.length_map, ← List.length_map (f := fun x : V × Dt => x.2), he, isort_len, ← k3.length]; exact k2
        · rw [← he]
          exact (RpAll.of_pairs fun v d hh => k3.of_zip v d (hw v d hh)).mono (Stp.add s bx hp (o := .lst (ws.map (·.1))) (b := b)).grow
      · rw [if_neg hk] at hc; cases hc
    · cases hc) hg hm PyProof.Rows.boot_sorted ha (by decide) (by decide) he hpl
end
end DL
set_option maxRecDepth 100000
set_option maxHeartbeats 4000000
namespace DL
open PySem PySem.Spec PyProof.Rows L2

/-! ### sets of keys of any kind, up to 63 of them -/
/-- a kind of keys that a set may hold -/
structure SKind (P : Program) (w : World) (κ : Type) [DecidableEq κ] extends HeapKind P w κ where
  stay : ∀ {h h' : Heap} {k : κ} {b : Addr}, is h k b → (∀ c o vs n, h.get? c = some o → o.data = .seq vs n → h'.get? c = some o) → is h' k b
  noCls : ∀ {A : Around} {E : Value → Shared → Prop} {s : Shared} {k : κ} {b : Addr} {Q : Bool → Shared → Prop}, is s.heap k b → Q false s → wpAny (model P w) A (ofAClassStatement 8 (.ref b)) Q E s
  byVal : ∀ {A : Around} {E : Value → Shared → Prop} {s : Shared} {k : κ} {b : Addr} {Q : Bool → Shared → Prop}, is s.heap k b → Q true s → wpAny (model P w) A (hashByValue 8 (.ref b)) Q E s

/-- ints, tuples of such -/
def kiOk : Nat → NestedKey → Bool
  | _, .num _ => true
  | 0, _ => false
  | n + 1, .tup ks => ks.attach.all fun k => kiOk n k.1
  | _ + 1, _ => false
theorem kiOk_tup {n : Nat} {ks : List NestedKey} (h : kiOk (n + 1) (.tup ks) = true) : ∀ k ∈ ks, kiOk n k = true := by
  intro k hk
  unfold kiOk at h
  rw [List.all_eq_true] at h
  exact h ⟨k, hk⟩ (List.mem_attach _ _)
theorem kiOk_mk {n : Nat} {ks : List NestedKey} (h : ∀ k ∈ ks, kiOk n k = true) : kiOk (n + 1) (.tup ks) = true := by
  unfold kiOk
  rw [List.all_eq_true]
  exact fun k _ => h k.1 k.2
theorem kiOk_depth : ∀ (n : Nat) (k : NestedKey), kiOk n k = true → k.depth ≤ n
  | n, .num _, _ => Nat.zero_le _
  | 0, .none, h => by cases h
  | 0, .text _, h => by cases h
  | 0, .tup _, h => by cases h
  | n + 1, .none, h => by cases h
  | n + 1, .text _, h => by cases h
  | n + 1, .tup ks, h => by
    have key : ∀ l : List NestedKey, (∀ k ∈ l, kiOk n k = true) → NestedKey.depthAll l ≤ n := by
      intro l
      induction l with
      | nil => intro _; exact Nat.zero_le _
      | cons k l ih =>
        intro hl
        unfold NestedKey.depthAll
        have a := kiOk_depth n k (hl k List.mem_cons_self)
        have b := ih fun j hj => hl j (List.mem_cons_of_mem _ hj)
        omega
    unfold NestedKey.depth
    exact Nat.succ_le_succ (key ks (kiOk_tup h))
section
variable {P : Program} {w : World} {A : Around} {E : Value → Shared → Prop} {s : Shared}
theorem nest_each {h : Heap} {n : Nat} : ∀ {ks : List NestedKey} {vs : List Value}, NestedAll h ks vs → (∀ k ∈ ks, kiOk n k = true) → ∀ v ∈ vs, ∃ k, NestedIs h k v ∧ kiOk n k = true
  | _, _, .nil, _, v, hv => nomatch hv
  | _, _, .cons a b, hk, v, hv => by
    rcases List.mem_cons.mp hv with e | hv
    · rw [e]; exact ⟨_, a, hk _ List.mem_cons_self⟩
    · exact nest_each b (fun k z => hk k (List.mem_cons_of_mem _ z)) v hv
theorem nest_noCls : ∀ (n : Nat) (k : NestedKey) (v : Value) (A : Around) (E : Value → Shared → Prop) (s : Shared) (Q : Bool → Shared → Prop), NestedIs s.heap k v → kiOk n k = true → Q false s → wpAny (model P w) A (ofAClassStatement n v) Q E s
  | n, .num i, v, A, E, s, Q, x, _, q => by
    cases x with
    | bool e => cases n <;> exact wpAny_pure q
    | int i t => cases n <;> exact wpAny_pure q
  | 0, .none, _, _, _, _, _, _, hk, _ => by cases hk
  | 0, .text _, _, _, _, _, _, _, hk, _ => by cases hk
  | 0, .tup _, _, _, _, _, _, _, hk, _ => by cases hk
  | n + 1, .none, _, _, _, _, _, _, hk, _ => by cases hk
  | n + 1, .text _, _, _, _, _, _, _, hk, _ => by cases hk
  | n + 1, .tup ks, _, A, E, s, Q, .tup (a := a) (o := o) (vs := vs) ho hc hd hi, hk, q => by
    have hT : s.TypeIs (.ref a) "tuple" := ⟨o, ho, hc⟩
    unfold ofAClassStatement
    refine wpAny_bind (wpAny_typeOf hT ?_)
    dsimp only
    simp only [show (("tuple" : String) == "tuple") = true from by decide, if_true, Bool.not_true, Bool.false_eq_true, if_false]
    try refine wpAny_bind (wpAny_pure ?_)
    try simp only [Bool.not_true, Bool.false_eq_true, if_false]
    refine wpAny_bind (wpAny_seqItems ho hd ?_)
    dsimp only
    refine wpAny_bind ?_
    rw [← Array.forIn_toList]
    refine wpAny_forIn_list _ (fun rest r s2 => r.1 = none ∧ s2 = s ∧ ∀ v ∈ rest, ∃ k, NestedIs s.heap k v ∧ kiOk n k = true) _ ?_ ?_ _ _ ⟨rfl, rfl, nest_each hi (kiOk_tup hk)⟩
    · rintro v rest r s2 ⟨_, rfl, every⟩
      obtain ⟨k, k1, k2⟩ := every v List.mem_cons_self
      refine wpAny_bind (nest_noCls n k v _ _ _ _ k1 k2 ?_)
      simp only [Bool.false_eq_true, if_false]
      exact wpAny_pure ⟨rfl, rfl, fun u hu => every u (List.mem_cons_of_mem _ hu)⟩
    · rintro ⟨r1, r2⟩ s2 ⟨hr, rfl, _⟩
      dsimp only at hr
      subst hr
      exact wpAny_pure q
theorem nest_byVal : ∀ (n : Nat) (k : NestedKey) (v : Value) (A : Around) (E : Value → Shared → Prop) (s : Shared) (Q : Bool → Shared → Prop), NestedIs s.heap k v → kiOk n k = true → Q true s → wpAny (model P w) A (hashByValue n v) Q E s
  | n, .num i, v, A, E, s, Q, x, _, q => by
    cases x with
    | bool e => cases n <;> exact wpAny_pure q
    | int i t => cases n <;> exact wpAny_pure q
  | 0, .none, _, _, _, _, _, _, hk, _ => by cases hk
  | 0, .text _, _, _, _, _, _, _, hk, _ => by cases hk
  | 0, .tup _, _, _, _, _, _, _, hk, _ => by cases hk
  | n + 1, .none, _, _, _, _, _, _, hk, _ => by cases hk
  | n + 1, .text _, _, _, _, _, _, _, hk, _ => by cases hk
  | n + 1, .tup ks, _, A, E, s, Q, .tup (a := a) (o := o) (vs := vs) ho hc hd hi, hk, q => by
    have hT : s.TypeIs (.ref a) "tuple" := ⟨o, ho, hc⟩
    unfold hashByValue
    refine wpAny_bind (wpAny_specialOf hT F.slot_tuple_hash.lookup ?_)
    refine wpAny_bind (wpAny_seqItems ho hd ?_)
    refine wpAny_bind ?_
    show wpAny _ _ (forIn vs _ _) _ _ s
    rw [← Array.forIn_toList]
    refine wpAny_forIn_list _ (fun rest r s2 => r.1 = none ∧ s2 = s ∧ ∀ v ∈ rest, ∃ k, NestedIs s.heap k v ∧ kiOk n k = true) _ ?_ ?_ _ _ ⟨rfl, rfl, nest_each hi (kiOk_tup hk)⟩
    · rintro v rest r s2 ⟨_, rfl, every⟩
      obtain ⟨k, k1, k2⟩ := every v List.mem_cons_self
      refine wpAny_bind (nest_byVal n k v _ _ _ _ k1 k2 ?_)
      simp only [Bool.not_true, Bool.false_eq_true, if_false]
      exact wpAny_pure ⟨rfl, rfl, fun u hu => every u (List.mem_cons_of_mem _ hu)⟩
    · rintro ⟨r1, r2⟩ s2 ⟨hr, rfl, _⟩
      dsimp only at hr
      subst hr
      exact wpAny_pure q
end
/-- tuples of ints and of such tuples -/
def nestKind (P : Program) (w : World) : SKind P w NestedKey where
  toHeapKind := {
    nestedKind P w with
    is := fun h k a => NestedIs h k (.ref a) ∧ kiOk 8 k = true
    inj := fun hx hy => NestedIs.inj _ _ _ hx.1 hy.1
    keeps := fun x ho hd hs => ⟨((nestedKind P w).keeps (k := _) ⟨x.1, kiOk_depth 8 _ x.2⟩ ho hd hs).1, x.2⟩
    pyHash := fun hu hk h => (nestedKind P w).pyHash hu ⟨hk.1, kiOk_depth 8 _ hk.2⟩ h
    eqBool := fun hu hx hy h => (nestedKind P w).eqBool hu ⟨hx.1, kiOk_depth 8 _ hx.2⟩ ⟨hy.1, kiOk_depth 8 _ hy.2⟩ h
    quiet := fun hk h => (nestedKind P w).quiet ⟨hk.1, kiOk_depth 8 _ hk.2⟩ h }
  stay := fun x hk => ⟨NestedIs.at hk _ _ x.1, x.2⟩
  noCls := fun hk q => nest_noCls 8 _ _ _ _ _ _ hk.1 hk.2 q
  byVal := fun hk q => nest_byVal 8 _ _ _ _ _ _ hk.1 hk.2 q
end DL
set_option maxRecDepth 100000
set_option maxHeartbeats 1000000
namespace DL
open PySem PySem.Spec PyProof.Rows L2
/-! ### tables of sets of up to 1227 keys -/
/-- x -> 5 x + 1, k times -/
def fr (x : Nat) : Nat → Nat
  | 0 => x
  | k + 1 => fr x k * 5 + 1
theorem fr_add (x a : Nat) : ∀ k, fr x (a + k) = fr (fr x a) k
  | 0 => rfl
  | k + 1 => by show fr x (a + k) * 5 + 1 = _; rw [fr_add x a k]; rfl
theorem lcg_fr (m x : Nat) (hx : x ≤ m) : ∀ k, lcgI m x k = fr x k % (m + 1)
  | 0 => (Nat.mod_eq_of_lt (by show x < m + 1; omega)).symm
  | k + 1 => by
    show (lcgI m x k * 5 + 1) % (m + 1) = (fr x k * 5 + 1) % (m + 1)
    rw [lcg_fr m x hx k, Nat.add_mod, Nat.mul_mod, Nat.mod_mod, ← Nat.mul_mod, ← Nat.add_mod]
/-- 2 ^ n times: by an odd multiple of 2 ^ n further, and some of x -/
theorem fr_pow : ∀ n : Nat, ∃ u, u % 2 = 1 ∧ ∀ x, fr x (2 ^ n) = (1 + 2 ^ n * 4 * u) * x + 2 ^ n * u
  | 0 => ⟨1, rfl, fun x => by show x * 5 + 1 = _; omega⟩
  | n + 1 => by
    obtain ⟨u, hu, h⟩ := fr_pow n
    refine ⟨u * (1 + 2 ^ n * 2 * u), ?_, fun x => ?_⟩
    · rw [Nat.mul_mod, hu]
      have : (1 + 2 ^ n * 2 * u) % 2 = 1 := by
        rw [Nat.mul_right_comm]; omega
      rw [this]
    · have e : (2 : Nat) ^ (n + 1) = 2 ^ n + 2 ^ n := by rw [Nat.pow_succ]; omega
      rw [e, fr_add, h, h]
      generalize 2 ^ n = p
      grind
theorem fr_reach : ∀ (n x j : Nat), j < 2 ^ n → ∃ k, k < 2 ^ n ∧ fr x k % 2 ^ n = j
  | 0, x, j, h => ⟨0, by decide, by rw [Nat.pow_zero, Nat.mod_one]; omega⟩
  | n + 1, x, j, h => by
    have hp : 0 < 2 ^ n := Nat.pow_pos (by decide)
    have e : (2 : Nat) ^ (n + 1) = 2 * 2 ^ n := by rw [Nat.pow_succ, Nat.mul_comm]
    obtain ⟨k, hk, ek⟩ := fr_reach n x (j % 2 ^ n) (Nat.mod_lt _ hp)
    obtain ⟨u, hu, hf⟩ := fr_pow n
    rw [e] at h ⊢
    by_cases c : fr x k % (2 * 2 ^ n) = j
    · exact ⟨k, by omega, c⟩
    · refine ⟨k + 2 ^ n, by omega, ?_⟩
      rw [fr_add, hf]
      generalize hz : fr x k = z at *
      generalize 2 ^ n = p at *
      have e1 : (1 + p * 4 * u) * z + p * u = (z + p) + (2 * p) * (2 * u * z + u / 2) := by
        have hu2 : u = 2 * (u / 2) + 1 := by omega
        generalize u / 2 = v at *
        subst hu2
        grind
      rw [e1, Nat.add_mul_mod_self_left]
      have a1 : z % (2 * p) < 2 * p := Nat.mod_lt _ (by omega)
      have a2 : z % (2 * p) % p = z % p := Nat.mod_mod_of_dvd z ⟨2, by omega⟩
      have a3 : (z + p) % (2 * p) = (z % (2 * p) + p) % (2 * p) := by rw [Nat.add_mod z p, Nat.add_mod (z % (2 * p)) p, Nat.mod_mod]
      rw [a3]
      rw [ek] at a2
      generalize z % (2 * p) = r at *
      by_cases c1 : r < p
      · rw [Nat.mod_eq_of_lt c1] at a2
        by_cases c2 : j < p
        · rw [Nat.mod_eq_of_lt c2] at a2; omega
        · have : j % p = j - p := by rw [Nat.mod_eq_sub_mod (by omega), Nat.mod_eq_of_lt (by omega)]
          rw [Nat.mod_eq_of_lt (by omega)]; omega
      · have b1 : r % p = r - p := by rw [Nat.mod_eq_sub_mod (by omega), Nat.mod_eq_of_lt (by omega)]
        rw [b1] at a2
        by_cases c2 : j < p
        · rw [Nat.mod_eq_of_lt c2] at a2
          rw [Nat.mod_eq_sub_mod (by omega), Nat.mod_eq_of_lt (by omega)]; omega
        · have : j % p = j - p := by rw [Nat.mod_eq_sub_mod (by omega), Nat.mod_eq_of_lt (by omega)]
          omega
/-- the masks that come, up to 2047 -/
structure Msk (m : Nat) : Prop where
  one : m = 7 ∨ m = 31 ∨ m = 127 ∨ m = 511 ∨ m = 2047
  all : ∀ x j, x ≤ m → j ≤ m → ∃ k, k ≤ m ∧ lcgI m x k = j
theorem msk_of {m : Nat} (n : Nat) (h : m + 1 = 2 ^ n) (h1 : m = 7 ∨ m = 31 ∨ m = 127 ∨ m = 511 ∨ m = 2047) : Msk m := ⟨h1, fun x j hx hj => by
  obtain ⟨k, a, b⟩ := fr_reach n x j (by omega)
  exact ⟨k, by omega, by rw [lcg_fr m x hx, h]; exact b⟩⟩
theorem msk7 : Msk 7 := msk_of 3 (by decide) (by decide)
theorem msk31 : Msk 31 := msk_of 5 (by decide) (by decide)
theorem msk127 : Msk 127 := msk_of 7 (by decide) (by decide)
theorem msk511 : Msk 511 := msk_of 9 (by decide) (by decide)
theorem msk2047 : Msk 2047 := msk_of 11 (by decide) (by decide)
theorem Msk.odd {m : Nat} (h : Msk m) : m % 2 = 1 := by
  rcases h.one with e | e | e | e | e <;> subst e <;> rfl
theorem Msk.few {m : Nat} (h : Msk m) : m ≤ 2047 := by
  rcases h.one with e | e | e | e | e <;> omega
theorem Msk.run {m : Nat} (hm : Msk m) (z : Int) {j : Nat} (hj : j ≤ m) : ∃ n, n ≤ m + 12 ∧ runI m (SetTable.bits z) n = j := by
  obtain ⟨k, a, b⟩ := hm.all _ j (runI_le m (SetTable.bits z) 12) hj
  exact ⟨12 + k, by omega, (runI_tail (bits_lt z) k).trans b⟩
theorem Msk.meets {m : Nat} (hm : Msk m) (z : Int) {j : Nat} (hj : j ≤ m) : ∃ k, k < 10 * SetTable.turns m ∧ way m z k = j := by
  obtain ⟨n, a, b⟩ := hm.run z hj
  obtain ⟨k, c, d⟩ := run_nth m (SetTable.bits z) n
  exact ⟨k, by unfold SetTable.turns; omega, by show (nth m _ k).j = j; rw [d]; exact b⟩
theorem way_bd (m : Nat) (z : Int) (k : Nat) : way m z k ≤ m := by
  have a : SetTable.bits z % (m + 1) ≤ m := Nat.le_of_lt_succ (Nat.mod_lt _ (Nat.succ_pos m))
  have b := nth_in (m := m) k (runAt m (SetTable.bits z % (m + 1)) (SetTable.bits z)) (by
    have c := runEnd_bd a
    unfold runAt
    dsimp only
    omega)
  exact Nat.le_trans (Nat.le_add_right _ _) b
/-- a table each of whose slots is found from its hash -/
structure TabX (t : SetTable) (zs : List Int) : Prop where
  ris : Ris t.place.toList
  dm : t.dummies = #[]
  sz : t.place.size = zs.length
  msk : Msk t.mask
  bd : ∀ x ∈ t.place.toList, x ≤ t.mask
  way : ∀ (i : Nat) (z : Int) (j : Nat), zs[i]? = some z → t.place.toList[i]? = some j → ∃ k, L2.way t.mask z k = j ∧ ∀ c, c < k → L2.way t.mask z c ∈ t.place.toList
theorem TabX.first {t : SetTable} {zs : List Int} (T : TabX t zs) (hl : zs.length ≤ t.mask) (z : Int) : ∃ K, K < 10 * SetTable.turns t.mask ∧ L2.way t.mask z K ∉ t.place.toList ∧ ∀ c, c < K → L2.way t.mask z c ∈ t.place.toList := by
  obtain ⟨j, a, b⟩ := st_missing t.place.toList (t.mask + 1) (by rw [Array.length_toList, T.sz]; omega)
  obtain ⟨k, c, d⟩ := T.msk.meets z (j := j) (by omega)
  obtain ⟨K, p, q, r⟩ := st_least (p := fun k => L2.way t.mask z k ∉ t.place.toList) k (by rw [d]; exact b)
  exact ⟨K, by omega, q, fun c hc => Classical.byContradiction fun n => r c hc n⟩
theorem TabX.before {t : SetTable} {zs : List Int} (T : TabX t zs) {z : Int} {K i j : Nat} (hK : L2.way t.mask z K ∉ t.place.toList) (hi : zs[i]? = some z) (hj : t.place.toList[i]? = some j) : ∃ k, k < K ∧ L2.way t.mask z k = j := by
  obtain ⟨k, a, b⟩ := T.way i z j hi hj
  refine ⟨k, Classical.byContradiction fun n => ?_, a⟩
  rcases Nat.lt_or_ge K k with c | c
  · exact hK (b K c)
  · have : k = K := by omega
    subst this
    exact hK (a ▸ List.mem_of_getElem? hj)
theorem TabX.put {t : SetTable} {zs : List Int} (T : TabX t zs) {z : Int} {K : Nat} (hK : L2.way t.mask z K ∉ t.place.toList) (hb : ∀ c, c < K → L2.way t.mask z c ∈ t.place.toList) :
    let j := L2.way t.mask z K
    let p := SetTable.below t.place j
    (t.put j).2 = p ∧ p ≤ zs.length ∧ TabX (t.put j).1 (zs.take p ++ z :: zs.drop p) ∧ (t.put j).1.mask = t.mask ∧ (t.put j).1.led = t.led ∧ (t.put j).1.plain = t.plain ∧ (t.put j).1.fill = zs.length + 1 := by
  intro j p
  have jm : j ≤ t.mask := way_bd _ _ _
  have cut := (below_cut T.ris j).1
  have pz : p ≤ zs.length := by rw [← T.sz]; exact cut
  have pl : p ≤ t.place.toList.length := by rw [Array.length_toList]; exact cut
  have no : t.place[p]? ≠ some j := fun e => hK (List.mem_of_getElem? ((Array.getElem?_toList).trans e))
  have lay : (t.put j).1.place.toList = t.place.toList.take p ++ j :: t.place.toList.drop p := put_place t j
  have big : (t.put j).1.place.size = zs.length + 1 := by rw [← Array.length_toList, lay, len_ins _ pl, Array.length_toList, T.sz]
  have dmm : (t.put j).1.dummies = #[] := put_dm T.dm j
  have more : ∀ x, x ∈ t.place.toList → x ∈ (t.put j).1.place.toList := fun x hx => by rw [lay]; exact mem_ins.2 (.inr hx)
  refine ⟨rfl, pz, { ris := ris_insert T.ris no, dm := dmm, sz := by rw [len_ins _ pz]; exact big, msk := T.msk, bd := fun x hx => ?_, way := fun i z' j' a b => ?_ }, rfl, rfl, rfl, ?_⟩
  · rw [lay] at hx
    rcases mem_ins.1 hx with rfl | y
    · exact jm
    · exact T.bd x y
  · rw [tins_get zs pz] at a
    rw [lay, tins_get _ pl] at b
    have old : ∀ i, zs[i]? = some z' → t.place.toList[i]? = some j' → ∃ k, L2.way t.mask z' k = j' ∧ ∀ c, c < k → L2.way t.mask z' c ∈ (t.put j).1.place.toList := fun i a b => by
      obtain ⟨k, x, y⟩ := T.way i z' j' a b
      exact ⟨k, x, fun c hc => more _ (y c hc)⟩
    by_cases c1 : i < p
    · rw [if_pos c1] at a b; exact old _ a b
    · rw [if_neg c1] at a b
      by_cases c2 : i = p
      · rw [if_pos c2] at a b
        cases a; cases b
        exact ⟨K, rfl, fun c hc => more _ (hb c hc)⟩
      · rw [if_neg c2] at a b; exact old _ a b
  · unfold SetTable.fill
    rw [big, dmm]
    rfl
/-! laid anew -/
theorem Msk.free {m : Nat} (hm : Msk m) (ow : Array (Option Nat)) (z : Int) {j : Nat} (hj : j ≤ m) (hf : oAt ow j = none) :
    ∃ K, SetTable.layClean.free m ow (SetTable.turns m) (SetTable.bits z % (m + 1)) (SetTable.bits z) = some (way m z K) ∧ oAt ow (way m z K) = none ∧ ∀ c, c < K → oAt ow (way m z c) ≠ none := by
  obtain ⟨n, a, b⟩ := hm.run z hj
  have at_n : way m z (off m (SetTable.bits z % (m + 1)) (SetTable.bits z) n) = j := by
    unfold way
    rw [nth_off, itL_run]
    exact b
  obtain ⟨K, p, q, r⟩ := st_least (p := fun k => oAt ow (way m z k) = none) _ (by rw [at_n]; exact hf)
  refine ⟨K, free_spec m ow _ n _ _ K (by unfold SetTable.turns; omega) p (fun c hc => ?_) (by rw [show oAt ow _ = none from q]; rfl), q, r⟩
  cases y : oAt ow (nth m (runAt m (SetTable.bits z % (m + 1)) (SetTable.bits z)) c).j with
  | some _ => rfl
  | none => exact (r c hc y).elim
theorem Msk.own {m : Nat} (hm : Msk m) {done : List Int} {ow : Array (Option Nat)} (W : Own m done ow) (hl : done.length ≤ m) (z : Int) :
    ∃ j, SetTable.layClean.free m ow (SetTable.turns m) (SetTable.bits z % (m + 1)) (SetTable.bits z) = some j ∧ Own m (done ++ [z]) (ow.setIfInBounds j (some done.length)) := by
  obtain ⟨ps, p1, p2⟩ := W.ps
  obtain ⟨j0, q1, q2⟩ := st_missing ps (m + 1) (by omega)
  have fr0 : oAt ow j0 = none := Classical.byContradiction fun n => q2 (p2 j0 (by omega) n)
  obtain ⟨K, a, b, c⟩ := hm.free ow z (show j0 ≤ m by omega) fr0
  have le := way_bd m z K
  have lt : way m z K < ow.size := by rw [W.sz]; omega
  have me := oAt_set_self (some done.length) lt
  generalize hj : way m z K = j at *
  have stay : ∀ x, oAt ow x ≠ none → oAt (ow.setIfInBounds j (some done.length)) x ≠ none := fun x hx => by
    by_cases e : x = j
    · subst e; rw [me]; simp
    · rw [oAt_set_ne _ e]; exact hx
  have same : ∀ x, x ≠ j → oAt (ow.setIfInBounds j (some done.length)) x = oAt ow x := fun x hx => oAt_set_ne _ hx
  refine ⟨j, a, { sz := by simp [W.sz], at_ := fun x k hx e => ?_, all := fun k hk => ?_, ps := ⟨j :: ps, by simp [p1], fun x hx e => ?_⟩ }⟩
  · by_cases y : x = j
    · subst y
      rw [me] at e
      cases e
      exact ⟨z, K, by simp, hj, fun c' hc' => stay _ (c c' hc')⟩
    · rw [same x y] at e
      obtain ⟨h, K', u1, u2, u3⟩ := W.at_ x k hx e
      exact ⟨h, K', by rw [List.getElem?_append_left (List.getElem?_eq_some_iff.mp u1).1]; exact u1, u2, fun c' hc' => stay _ (u3 c' hc')⟩
  · rw [List.length_append] at hk
    by_cases y : k < done.length
    · obtain ⟨x, u, v⟩ := W.all k y
      exact ⟨x, u, by rw [same x (fun e => by subst e; rw [b] at v; cases v)]; exact v⟩
    · have : k = done.length := by simp at hk; omega
      subst this
      exact ⟨j, le, me⟩
  · by_cases y : x = j
    · simp [y]
    · rw [same x y] at e
      exact List.mem_cons_of_mem _ (p2 x hx e)
theorem Msk.fold {m : Nat} (hm : Msk m) : ∀ (rest done : List Int) (ow : Array (Option Nat)), Own m done ow → done.length + rest.length ≤ m →
    ∃ ow', rest.foldl (stepF m) (some (ow, done.length)) = some (ow', (done ++ rest).length) ∧ Own m (done ++ rest) ow'
  | [], done, ow, W, _ => ⟨ow, by simp, by simpa using W⟩
  | z :: rest, done, ow, W, hl => by
    have hl' : done.length + (rest.length + 1) ≤ m := hl
    obtain ⟨j, a, b⟩ := hm.own W (by omega) z
    obtain ⟨ow', c, d⟩ := hm.fold rest (done ++ [z]) _ b (by simp; omega)
    simp only [List.append_assoc, List.singleton_append, List.length_append, List.length_singleton] at c d
    refine ⟨ow', ?_, d⟩
    rw [List.foldl_cons, stepF_some a, c]
    simp
theorem Msk.lay {m : Nat} (hm : Msk m) {zs : Array Int} (hn : zs.size ≤ m) : ∃ ow, SetTable.layClean m zs = some ow ∧ Own m zs.toList ow := by
  obtain ⟨ow, a, b⟩ := hm.fold zs.toList [] _ (Own.init m) (by simpa using hn)
  rw [List.nil_append] at b a
  refine ⟨ow, ?_, b⟩
  rw [layClean_eq]
  have a' : zs.toList.foldl (stepF m) (some (Array.replicate (m + 1) none, 0)) = some (ow, zs.toList.length) := a
  rw [a']
  rfl
theorem Msk.relaid (t : SetTable) {zs : Array Int} {want m : Nat} (hw : SetTable.sizeAbove want - 1 = m) (hm : Msk m) (hn : zs.size ≤ m) :
    ∃ t' order, t.relaid zs want = some (t', order) ∧ order.toList.Perm (List.range zs.size) ∧ TabX t' (order.toList.map fun i => zs.getD i 0) ∧ t'.mask = m ∧ t'.led = t.led ∧ t'.plain = t.plain ∧ t'.dummies = #[] := by
  obtain ⟨ow, e, W⟩ := hm.lay hn
  have made : t.relaid zs want = some (tabOf t m ow, ((liveOf m ow).map (·.2)).toArray) := by
    rw [relaid_eq, hw, e]
    rfl
  obtain ⟨r1, r2⟩ : Ris ((liveOf m ow).map (·.1)) ∧ ∀ x ∈ (liveOf m ow).map (·.1), x ∈ List.range (m + 1) := ris_live (fun j => ow.getD j none) (List.range (m + 1)) List.pairwise_lt_range
  have once : ((liveOf m ow).map (·.1)).Nodup := r1.imp fun h => Nat.ne_of_lt h
  have all : ∀ k, k < zs.size → k ∈ (liveOf m ow).map (·.2) := fun k hk => by
    obtain ⟨j, u, v⟩ := W.all k (by simpa using hk)
    exact List.mem_map.mpr ⟨(j, k), (mem_live W.sz).2 ⟨u, v⟩, rfl⟩
  have len : (liveOf m ow).length = zs.size := by
    obtain ⟨ps, p1, p2⟩ := W.ps
    have a := nat_nodup_len _ ps once fun x hx => by
      obtain ⟨⟨y, k⟩, u, rfl⟩ := List.mem_map.mp hx
      obtain ⟨v, w⟩ := (mem_live W.sz).1 u
      exact p2 y v (by rw [w]; simp)
    have b := nat_nodup_len (List.range zs.size) _ List.nodup_range fun k hk => all k (List.mem_range.mp hk)
    simp at a b p1
    omega
  refine ⟨tabOf t m ow, ((liveOf m ow).map (·.2)).toArray, made, perm_range zs.size _ (by simpa using len) all, { ris := r1, dm := rfl, sz := ?_, msk := hm, bd := fun x hx => ?_, way := fun i z j a b => ?_ }, rfl, rfl, rfl, rfl⟩
  · show ((liveOf m ow).map (·.1)).toArray.size = _
    simp
  · have := List.mem_range.mp (r2 x hx)
    show x ≤ m
    omega
  · have a' : (((liveOf m ow).map (·.2)).map fun i => zs.getD i 0)[i]? = some z := a
    have b' : ((liveOf m ow).map (·.1))[i]? = some j := b
    rw [List.getElem?_map, List.getElem?_map] at a'
    rw [List.getElem?_map] at b'
    cases q : (liveOf m ow)[i]? with
    | none => rw [q] at b'; cases b'
    | some y =>
      obtain ⟨y, k⟩ := y
      rw [q] at a' b'
      cases b'
      obtain ⟨u, v⟩ := (mem_live W.sz).1 (List.mem_of_getElem? q)
      obtain ⟨z0, K, c1, c2, c3⟩ := W.at_ _ k u v
      have : z0 = z := by
        have d : zs.getD k 0 = z0 := by
          rw [Array.getD_eq_getD_getElem?, ← Array.getElem?_toList, c1]
          rfl
        exact d.symm.trans (Option.some.inj a')
      subst this
      refine ⟨K, c2, fun c hc => ?_⟩
      show way m z0 c ∈ (liveOf m ow).map (·.1)
      cases x : oAt ow (way m z0 c) with
      | none => exact (c3 c hc x).elim
      | some k2 => exact List.mem_map.mpr ⟨(way m z0 c, k2), (mem_live W.sz).2 ⟨way_bd _ _ _, x⟩, rfl⟩
theorem up32 : SetTable.sizeAbove (SetTable.grown 5) = 32 := by decide +kernel
theorem up128 : SetTable.sizeAbove (SetTable.grown 19) = 128 := by decide +kernel
theorem up512 : SetTable.sizeAbove (SetTable.grown 77) = 512 := by decide +kernel
theorem up2048 : SetTable.sizeAbove (SetTable.grown 307) = 2048 := by decide +kernel
end DL
set_option maxRecDepth 100000
set_option maxHeartbeats 4000000
namespace DL
open PySem PySem.Spec PyProof.Rows L2

section
variable {κ : Type} [DecidableEq κ] {P : Program} {w : World} {A : Around} {E : Value → Shared → Prop} {s : Shared} (kd : SKind P w κ)
/-- a search among keys shows nothing -/
theorem seenG {k : κ} {b : Addr} {Q : Bool → Shared → Prop} (hk : kd.is s.heap k b) {ys : List Value} (hy : ∀ y ∈ ys, ∃ j c, y = Value.ref c ∧ kd.is s.heap j c) (q : Q false s) : wpAny (model P w) A (searchCouldBeSeen (.ref b) ys) Q E s := by
  unfold searchCouldBeSeen
  refine wpAny_bind (wpAny_forIn_list _ (fun rest r s2 => r.1 = none ∧ s2 = s ∧ ∀ y ∈ rest, ∃ j c, y = Value.ref c ∧ kd.is s.heap j c) _ ?_ ?_ _ _ ⟨rfl, rfl, hy⟩)
  · rintro v rest r s2 ⟨_, rfl, every⟩
    obtain ⟨j, c, rfl, hc⟩ := every v List.mem_cons_self
    have later : ∀ y ∈ rest, ∃ j c, y = Value.ref c ∧ kd.is s2.heap j c := fun u hu => every u (List.mem_cons_of_mem _ hu)
    dsimp only
    by_cases very : (b == c || (carriedByValue (.ref b) && carriedByValue (.ref c))) = true
    · exact wp_if_pos very (wpAny_pure ⟨rfl, rfl, later⟩)
    · refine wp_if_neg very (wpAny_bind (kd.quiet hk ?_))
      simp only [Bool.not_true, Bool.false_eq_true, if_false]
      refine wpAny_bind (kd.quiet hc ?_)
      simp only [Bool.not_true, Bool.false_eq_true, if_false]
      refine wpAny_bind (kd.noCls hk ?_)
      simp only [Bool.false_eq_true, if_false]
      refine wpAny_bind (kd.noCls hc ?_)
      simp only [Bool.false_eq_true, if_false]
      exact wpAny_pure ⟨rfl, rfl, later⟩
  · rintro ⟨r1, r2⟩ s2 ⟨hr, rfl, _⟩
    dsimp only at hr
    subst hr
    exact wpAny_pure q
/-- the entries, each with its hash -/
def rowG (L : List (Addr × κ)) : List (Int × Value) := L.map fun e => (kd.hash e.2, Value.ref e.1)
/-- the set at a holds the keys of L -/
structure SetG (h : Heap) (a : Addr) (L : List (Addr × κ)) (es : Array (Int × Value)) (ep : Nat) (t : SetTable) : Prop where
  obj : ∃ o, h.get? a = some o ∧ o.ExactSet ∧ o.data = .set es ep t
  ent : es.toList = rowG kd L
  tab : TabX t (L.map fun e => kd.hash e.2)
  once : (L.map (·.2)).Nodup
  keys : ∀ e ∈ L, kd.is h e.2 e.1
  plain : t.plain = true
  led : w.params.followText "set-order" = true ∨ t.led = true
  room : L.length * 5 < t.mask * 3
  few : L.length < 1228
variable {kd} {a : Addr} {L : List (Addr × κ)} {es : Array (Int × Value)} {ep : Nat} {t : SetTable}
theorem rowG_len : (rowG kd L).length = L.length := List.length_map _
theorem SetG.count (R : SetG kd s.heap a L es ep t) : es.size = L.length := by
  rw [← rowG_len (kd := kd) (L := L), ← R.ent, Array.length_toList]
theorem SetG.fits (R : SetG kd s.heap a L es ep t) : t.fits es.size = true := by
  have x := R.tab.sz
  rw [List.length_map] at x
  have y := R.count
  have z := R.room
  unfold SetTable.fits SetTable.fill
  rw [R.tab.dm, Bool.and_eq_true, beq_iff_eq, decide_eq_true_eq]
  refine ⟨by omega, ?_⟩
  show t.place.size + 0 ≤ t.mask
  omega
theorem SetG.at (R : SetG kd s.heap a L es ep t) {i : Nat} {e : Addr × κ} (h : L[i]? = some e) : es[i]? = some (kd.hash e.2, Value.ref e.1) := by
  rw [← Array.getElem?_toList, R.ent, rowG, List.getElem?_map, h]
  rfl
theorem SetG.noGw (R : SetG kd s.heap a L es ep t) : ¬ t.gaveWay = true := by
  unfold SetTable.gaveWay
  rw [R.tab.msk.odd]
  decide
theorem nth_dummy (m : Nat) : ∀ (n : Nat) (p : SetTable.Probe), p.dummy = none → (nth m p n).dummy = none
  | 0, _, h => h
  | n + 1, p, h => nth_dummy m n (adv m p) (by unfold adv; split <;> exact h)
/-- where the search for the hash z stands behind c steps -/
abbrev stdAt (t : SetTable) (z : Int) (c : Nat) : SetTable.Probe := nth t.mask (runAt t.mask (SetTable.bits z % (t.mask + 1)) (SetTable.bits z)) c
theorem searchG (R : SetG kd s.heap a L es ep t) {x : Addr} {k : κ} (hx : kd.is s.heap k x) (hu : kd.room A) {K : Nat} (hKf : K < 10 * SetTable.turns t.mask)
    (hK : way t.mask (kd.hash k) K ∉ t.place.toList) (hKb : ∀ c, c < K → way t.mask (kd.hash k) c ∈ t.place.toList) {Q : SetFound → Shared → Prop}
    (qin : k ∈ L.map (·.2) → Q (.there none) s) (qout : k ∉ L.map (·.2) → Q (.free (way t.mask (kd.hash k) K) false) s) :
    ∀ (f c : Nat) (st : Option SetTable.Probe), st.getD (t.probeStart (kd.hash k)) = stdAt t (kd.hash k) c → c ≤ K → K - c < f →
      (∀ (i : Nat) e, L[i]? = some e → e.2 = k → ∃ d, c ≤ d ∧ d < K ∧ t.place.toList[i]? = some (way t.mask (kd.hash k) d)) →
      wpAny (model P w) A (setSearchFrom a (.ref x) (kd.hash k) true f st) Q E s
  | 0, c, st, _, _, hf, _ => (Nat.not_lt_zero _ hf).elim
  | f + 1, c, st, hst, hc, hf, hre => by
    obtain ⟨o, ho, hex, hd⟩ := R.obj
    generalize hz : kd.hash k = z at *
    have sh : ∀ q, nth t.mask (stdAt t z c) q = stdAt t z (c + q) := fun q => (nth_add t.mask c _ q).symm
    have shj : ∀ q, (nth t.mask (stdAt t z c) q).j = way t.mask z (c + q) := fun q => congrArg SetTable.Probe.j (sh q)
    rw [setSearchFrom_succ]
    refine wpAny_bind (wpAny_setState_of ho hd R.fits ?_)
    dsimp only
    refine wp_if_neg R.noGw ?_
    try refine wpAny_bind (wpAny_pure ?_)
    have hashOf : ∀ (i : Nat) e, L[i]? = some e → (fun i => (es[i]?.map (·.1)).getD 0) i = kd.hash e.2 := fun i e he => by
      show (es[i]?.map (·.1)).getD 0 = _
      rw [R.at he]
      rfl
    have spec := go_spec t R.tab.ris R.tab.dm (fun i => (es[i]?.map (·.1)).getD 0) z (10 * SetTable.turns t.mask) (K - c) (stdAt t z c) (nth_dummy _ _ _ rfl) (by omega)
      (fun q hq => by rw [shj]; exact hKb (c + q) (by omega)) (by rw [shj, show c + (K - c) = K by omega]; exact hK)
    rcases spec with ⟨q, i, hq, hi, hh, none_before, hpr⟩ | ⟨none_at_all, hpr⟩
    · have probe : t.probe (fun i => (es[i]?.map (·.1)).getD 0) z (st.getD (t.probeStart z)) = some (.candidate (way t.mask z (c + q)) i (stdAt t z (c + (q + 1)))) := by
        rw [hst, ← shj, ← sh]
        exact hpr
      rw [probe]
      dsimp only
      rw [shj] at hi
      have inL : i < L.length := by
        have u := (List.getElem?_eq_some_iff.mp hi).1
        have v := R.tab.sz
        rw [List.length_map] at v
        rw [Array.length_toList] at u
        omega
      obtain ⟨e, he⟩ : ∃ e, L[i]? = some e := ⟨L[i], List.getElem?_eq_getElem inL⟩
      have me : e ∈ L := List.mem_of_getElem? he
      have live : t.slot (way t.mask z (c + q)) = .live i := slot_live R.tab.ris hi
      have body : wpAny (model P w) A (searchRest a (.ref x) z true f es t (way t.mask z (c + q)) i (stdAt t z (c + (q + 1)))) Q E s := by
        unfold searchRest
        rw [R.at he]
        dsimp only
        refine wpAny_bind (wpAny_holding (kd.eqBool hu (R.keys e me) hx ?_))
        refine wpAny_bind (wpAny_setState_of ho hd R.fits ?_)
        dsimp only
        by_cases same : e.2 = k
        · exact wp_if_pos (by simp [same]) (wpAny_pure (qin (List.mem_map.mpr ⟨e, me, same⟩)))
        · refine wp_if_neg (by simp [same]) ?_
          try refine wpAny_bind (wpAny_pure ?_)
          rw [sameMem]
          dsimp only
          simp only [if_true, live, R.at he]
          refine wpAny_bind (wpAny_isSame_ref_self (wpAny_bind (wpAny_pure ?_)))
          simp only [if_true]
          refine wp_if_neg (by simp [same]) ?_
          have again := searchG R hx hu (K := K) (Q := Q) (by exact hKf) (by rw [hz]; exact hK) (by rw [hz]; exact hKb) qin (by rw [hz]; exact qout) f (c + (q + 1)) (some (stdAt t z (c + (q + 1)))) (by rw [hz]; rfl) (by omega) (by omega) (by
            rw [hz]
            intro i0 e0 h0 k0
            obtain ⟨d, d1, d2, d3⟩ := hre i0 e0 h0 k0
            refine ⟨d, ?_, d2, d3⟩
            rcases Nat.lt_trichotomy d (c + q) with g | g | g
            · refine (none_before (d - c) i0 (by omega) (by rw [shj, show c + (d - c) = d by omega]; exact d3) ?_).elim
              exact (hashOf i0 e0 h0).trans (by rw [k0, hz])
            · subst g
              have two := slot_live R.tab.ris d3
              rw [live] at two
              injection two with two
              subst two
              rw [he] at h0
              cases h0
              exact (same k0).elim
            · omega)
          rw [hz] at again
          exact again
      by_cases ld : t.led = true
      · refine wp_if_neg (by simp [ld]) ?_
        try refine wpAny_bind (wpAny_pure ?_)
        exact body
      · refine wp_if_pos (by simp [ld]) ?_
        refine wpAny_bind (seenG kd hx (fun y hy => ?_) ?_)
        · obtain ⟨u, hu1, rfl⟩ := List.mem_map.mp hy
          have hu2 : u ∈ es ∧ u.1 = z := by simpa using hu1
          have hu3 : u ∈ es.toList := by simpa using hu2.1
          rw [R.ent] at hu3
          obtain ⟨e2, he2, rfl⟩ := List.mem_map.mp hu3
          exact ⟨e2.2, e2.1, rfl, R.keys e2 he2⟩
        · refine wp_if_neg (by decide) ?_
          try refine wpAny_bind (wpAny_pure ?_)
          exact body
    · have probe : t.probe (fun i => (es[i]?.map (·.1)).getD 0) z (st.getD (t.probeStart z)) = some (.empty (way t.mask z K) none) := by
        have same : way t.mask z K = (nth t.mask (stdAt t z c) (K - c)).j := by rw [shj, show c + (K - c) = K by omega]
        rw [hst, same]
        exact hpr
      rw [probe]
      dsimp only
      refine wpAny_pure (qout fun there => ?_)
      obtain ⟨e0, m0, k0⟩ := List.mem_map.mp there
      obtain ⟨i0, i1, i2⟩ := List.getElem_of_mem m0
      have h0 : L[i0]? = some e0 := by rw [List.getElem?_eq_getElem i1, i2]
      obtain ⟨d, d1, d2, d3⟩ := hre i0 e0 h0 k0
      refine none_at_all (d - c) i0 (by omega) (by rw [shj, show c + (d - c) = d by omega]; exact d3) ?_
      exact (hashOf i0 e0 h0).trans (by rw [k0, hz])
end
end DL
set_option maxRecDepth 100000
set_option maxHeartbeats 4000000
namespace DL
open PySem PySem.Spec PyProof.Rows L2
section
variable {κ : Type} [DecidableEq κ] {P : Program} {w : World} {A : Around} {E : Value → Shared → Prop} {s : Shared} {kd : SKind P w κ} {a : Addr} {L : List (Addr × κ)} {es : Array (Int × Value)} {ep : Nat} {t : SetTable}
theorem turns_few {m : Nat} (h : Msk m) : 10 * SetTable.turns m ≤ 20620 := by
  unfold SetTable.turns
  have := h.few
  omega
theorem searchG0 (R : SetG kd s.heap a L es ep t) {x : Addr} {k : κ} (hx : kd.is s.heap k x) (hu : kd.room A) {Q : SetFound → Shared → Prop} (qin : k ∈ L.map (·.2) → Q (.there none) s)
    (qout : ∀ K, k ∉ L.map (·.2) → way t.mask (kd.hash k) K ∉ t.place.toList → (∀ c, c < K → way t.mask (kd.hash k) c ∈ t.place.toList) → Q (.free (way t.mask (kd.hash k) K) false) s) :
    wpAny (model P w) A (setSearch a (.ref x) (kd.hash k) true) Q E s := by
  have small := R.room
  obtain ⟨K, k1, k2, k3⟩ := R.tab.first (by rw [List.length_map]; omega) (kd.hash k)
  have few := turns_few R.tab.msk
  unfold setSearch
  refine searchG R hx hu k1 k2 k3 qin (fun hn => qout K hn k2 k3) 100000 0 none rfl (Nat.zero_le _) (by omega) fun i e he hk => ?_
  have hi : (L.map fun e => kd.hash e.2)[i]? = some (kd.hash k) := by rw [List.getElem?_map, he, ← hk]; rfl
  have inP : i < t.place.toList.length := by
    have u := (List.getElem?_eq_some_iff.mp he).1
    have v := R.tab.sz
    rw [List.length_map] at v
    rw [Array.length_toList]
    omega
  obtain ⟨c, c1, c2⟩ := R.tab.before k2 hi (List.getElem?_eq_getElem inP)
  exact ⟨c, Nat.zero_le _, c1, by rw [List.getElem?_eq_getElem inP, c2]⟩
/-- a key isn't the set -/
theorem SKind.past {h h' : Heap} {k : κ} {b : Addr} {o : Obj} (hb : kd.is h k b) (ho : h.get? a = some o) (hd : o.data = .set es ep t) (hs : Heap.SameBut a h h') : kd.is h' k b :=
  kd.stay hb fun c u vs n hc hq => (hs.2 c fun z => by
    subst z
    rw [ho] at hc
    cases hc
    rw [hd] at hq
    cases hq).trans hc
theorem insert_perm {α : Type} (l : List α) (p : Nat) (x : α) : (l.take p ++ x :: l.drop p).Perm (x :: l) := by
  refine List.perm_middle.trans ?_
  rw [List.take_append_drop]
theorem range_pick {α : Type} (l : List α) : (List.range l.length).filterMap (fun i => l[i]?) = l := by
  induction l with
  | nil => rfl
  | cons x l ih =>
    rw [List.length_cons, List.range_succ_eq_map, List.filterMap_cons_some (by rfl), List.filterMap_map]
    exact congrArg (x :: ·) ih
theorem reorder (hr : es.toList = rowG kd L) {order : Array Nat} (hp : order.toList.Perm (List.range L.length)) :
    ∃ M, (order.filterMap (es[·]?)).toList = rowG kd M ∧ M.Perm L ∧ (M.map fun e => kd.hash e.2) = order.toList.map fun i => (es.map (·.1)).getD i 0 := by
  have at_ : ∀ i : Nat, es[i]? = (L[i]?).map fun e : Addr × κ => (kd.hash e.2, Value.ref e.1) := fun i => by
    rw [← Array.getElem?_toList, hr, rowG, List.getElem?_map]
  have key : ∀ l : List Nat, (∀ i ∈ l, i < L.length) → l.filterMap (fun i => es[i]?) = rowG kd (l.filterMap fun i => L[i]?) ∧ ((l.filterMap fun i => L[i]?).map fun e => kd.hash e.2) = l.map fun i => (es.map (·.1)).getD i 0 := by
    intro l
    induction l with
    | nil => intro _; exact ⟨rfl, rfl⟩
    | cons i l ih =>
      intro hl
      have hi := List.getElem?_eq_getElem (hl i List.mem_cons_self)
      obtain ⟨e1, e2⟩ := ih fun j hj => hl j (List.mem_cons_of_mem _ hj)
      have hi2 : es[i]? = some (kd.hash (L[i]'(hl i List.mem_cons_self)).2, Value.ref (L[i]'(hl i List.mem_cons_self)).1) := by rw [at_, hi]; rfl
      rw [List.filterMap_cons_some hi2, List.filterMap_cons_some hi, List.map_cons, List.map_cons, e1, e2]
      refine ⟨rfl, ?_⟩
      have e5 : (es.map (·.1))[i]? = some (kd.hash (L[i]'(hl i List.mem_cons_self)).2) := by rw [Array.getElem?_map, hi2]; rfl
      simp [Array.getD_eq_getD_getElem?, e5]
  obtain ⟨e1, e2⟩ := key order.toList fun i hi => List.mem_range.mp (hp.mem_iff.mp hi)
  refine ⟨_, by rw [← e1]; simp, ?_, e2⟩
  have := hp.filterMap fun i => L[i]?
  rw [range_pick] at this
  exact this
/-- the table laid anew -/
theorem relayG {o : Obj} (ho : s.heap.get? a = some o) (hex : o.ExactSet) (hd : o.data = .set es ep t) (hr : es.toList = rowG kd L) (hz : t.place.size = es.size) (hdm : t.dummies = #[]) (hfl : es.size ≤ t.mask)
    (once : (L.map (·.2)).Nodup) (keys : ∀ e ∈ L, kd.is s.heap e.2 e.1) (pl : t.plain = true) (ld : w.params.followText "set-order" = true ∨ t.led = true) (few : L.length < 1228) {want M : Nat}
    (hw : SetTable.sizeAbove want - 1 = M) (hM : Msk M) (hw2 : SetTable.sizeAbove want ≤ 2048) (hn : L.length * 5 < M * 3) {Q : Unit → Shared → Prop}
    (q : ∀ h' L' es' ep' t', Heap.SameBut a s.heap h' → SetG kd h' a L' es' ep' t' → L'.Perm L → Q () { s with heap := h' }) : wpAny (model P w) A (setRelay a want) Q E s := by
  have hc : es.size = L.length := by rw [← rowG_len (kd := kd) (L := L), ← hr, Array.length_toList]
  have hfits : t.fits es.size = true := by
    unfold SetTable.fits SetTable.fill
    rw [hdm, Bool.and_eq_true, beq_iff_eq, decide_eq_true_eq]
    refine ⟨hz, ?_⟩
    show t.place.size + 0 ≤ t.mask
    omega
  obtain ⟨t2, order, e1, e2, e3, e4, e5, e6, e7⟩ := Msk.relaid t (zs := es.map (·.1)) (want := want) hw hM (by rw [Array.size_map, hc]; omega)
  rw [Array.size_map, hc] at e2
  obtain ⟨L2, r1, r2, r3⟩ := reorder hr e2
  rw [← r3] at e3
  have hc2 : (order.filterMap (es[·]?)).size = es.size := by rw [← Array.length_toList, r1, rowG_len, r2.length_eq, hc]
  rw [setRelay_eq]
  refine wpAny_bind (wpAny_setState_of ho hd hfits ?_)
  dsimp only
  refine wp_if_neg (by rw [sizeLine_eq]; omega) ?_
  try refine wpAny_bind (wpAny_pure ?_)
  rw [e1]
  dsimp only
  refine wpAny_bind ?_
  refine wp_if_neg (by rw [hc2]; simp) ?_
  try refine wpAny_bind (wpAny_pure ?_)
  refine wpAny_pure ?_
  dsimp only
  refine wpAny_storeSet_of ho hd ?_ (by rw [hc2, hc, sizeLine_eq]; omega)
  have sb : Heap.SameBut a s.heap (s.heap.update a (Obj.putSet (order.filterMap (es[·]?)) t2)) := Heap.SameBut.update ..
  exact q _ L2 _ (ep + 1) t2 sb { obj := ⟨_, store_at ho hd, ⟨hex.1, hex.2.1, hex.2.2⟩, rfl⟩, ent := r1, tab := e3, once := (r2.map (·.2)).nodup_iff.mpr once, keys := fun e he => SKind.past (keys e (r2.mem_iff.mp he)) ho hd sb, plain := by rw [e6]; exact pl, led := by rw [e5]; exact ld, room := by rw [r2.length_eq, e4]; exact hn, few := by rw [r2.length_eq]; exact few } r2
/-- a key is added -/
theorem addG (R : SetG kd s.heap a L es ep t) {x : Addr} {k : κ} (hx : kd.is s.heap k x) (hu : kd.room A) (hfew : L.length + 1 < 1228) {Q : Bool → Shared → Prop}
    (q : ∀ b h' L' es' ep' t', Heap.SameBut a s.heap h' → SetG kd h' a L' es' ep' t' → (k ∈ L.map (·.2) → L' = L) → (k ∉ L.map (·.2) → L'.Perm ((x, k) :: L)) → Q b { s with heap := h' }) :
    wpAny (model P w) A (setAddHashed a (.ref x) (kd.hash k)) Q E s := by
  obtain ⟨o, ho, hex, hd⟩ := R.obj
  have hc := R.count
  have small := R.room
  unfold setAddHashed
  refine wpAny_holding ?_
  rw [show (100000 : Nat) = 99999 + 1 from rfl, setAddHashedIn_succ]
  refine wpAny_bind (wpAny_setState_of ho hd R.fits ?_)
  dsimp only
  refine wp_if_neg (by simp [byScan, Value.scannable]) ?_
  try refine wpAny_bind (wpAny_pure ?_)
  refine wpAny_bind (searchG0 R hx hu (fun hm => ?_) fun K hm hK hb => ?_)
  · dsimp only
    exact wpAny_pure (q false _ L es ep t (Heap.SameBut.refl a s.heap) R (fun _ => rfl) fun z => (z hm).elim)
  · dsimp only
    refine wpAny_bind (wpAny_setState_of ho hd R.fits ?_)
    dsimp only
    obtain ⟨q1, q2, q3, q4, q5, q6, q9⟩ := R.tab.put hK hb
    have pl : (t.put (way t.mask (kd.hash k) K)).1.plain = true := q6.trans R.plain
    generalize hpt : t.put (way t.mask (kd.hash k) K) = pt at q1 q3 q4 q5 q6 q9 pl ⊢
    obtain ⟨t1, p0⟩ := pt
    dsimp only at q1 q3 q4 q5 q6 q9 pl ⊢
    subst q1
    first
      | (refine wpAny_bind ?_; refine wp_if_pos pl ?_; refine kd.byVal hx ?_)
      | refine wp_if_pos pl (wpAny_bind (kd.byVal hx ?_))
    simp only [if_true]
    have hin : ∀ p, (SetTable.insertAt es p (kd.hash k, Value.ref x)).toList = rowG kd (L.take p ++ (x, k) :: L.drop p) := fun p => by
      rw [SetTable.toList_insertAt, R.ent]
      unfold rowG
      rw [List.map_append, List.map_cons, List.map_take, List.map_drop]
    generalize SetTable.below t.place (way t.mask (kd.hash k) K) = p at q2 q3 ⊢
    have pm := insert_perm L p (x, k)
    have hlen := pm.length_eq
    rw [List.length_cons] at hlen
    have q3' : TabX t1 ((L.take p ++ (x, k) :: L.drop p).map fun e => kd.hash e.2) := by
      rw [List.map_append, List.map_cons, List.map_take, List.map_drop]
      exact q3
    have once1 : ((L.take p ++ (x, k) :: L.drop p).map (·.2)).Nodup := (pm.map (·.2)).nodup_iff.mpr (List.nodup_cons.mpr ⟨hm, R.once⟩)
    have hin1 := hin p
    have hc1 : (SetTable.insertAt es p (kd.hash k, Value.ref x)).size = L.length + 1 := by rw [← Array.length_toList, hin1, rowG_len, hlen]
    generalize SetTable.insertAt es p (kd.hash k, Value.ref x) = es1 at hin1 hc1 ⊢
    generalize L.take p ++ (x, k) :: L.drop p = L1 at pm hlen q3' once1 hin1
    refine wpAny_bind (wpAny_storeSet_of ho hd ?_ (by rw [hc1, sizeLine_eq]; omega))
    have sb : Heap.SameBut a s.heap (s.heap.update a (Obj.putSet es1 t1)) := Heap.SameBut.update ..
    have ho1 := store_at (es' := es1) (t' := t1) ho hd
    generalize s.heap.update a (Obj.putSet es1 t1) = h1 at sb ho1 ⊢
    have keys1 : ∀ e ∈ L1, kd.is h1 e.2 e.1 := fun e he => by
      rcases List.mem_cons.mp (pm.mem_iff.mp he) with rfl | he
      · exact SKind.past hx ho hd sb
      · exact SKind.past (R.keys e he) ho hd sb
    have ld1 : w.params.followText "set-order" = true ∨ t1.led = true := by rw [q5]; exact R.led
    by_cases hf : t1.tooFull = true
    · first
        | (refine wpAny_bind ?_; refine wp_if_pos (by simp [hf]) ?_)
        | (refine wp_if_pos (by simp [hf]) ?_; refine wpAny_bind ?_)
      have full : (L.length + 1) * 5 ≥ t1.mask * 3 := by
        have y := hf
        unfold SetTable.tooFull at y
        rw [decide_eq_true_eq, q9, List.length_map] at y
        exact y
      rw [hc]
      have hz1 : t1.place.size = es1.size := by
        have y := q3'.sz
        rw [List.length_map, hlen] at y
        rw [y, hc1]
      have two : (t.mask = 7 ∧ L.length = 4) ∨ (t.mask = 31 ∧ L.length = 18) ∨ (t.mask = 127 ∧ L.length = 76) ∨ (t.mask = 511 ∧ L.length = 306) := by
        rw [q4] at full
        rcases R.tab.msk.one with e | e | e | e | e <;> rw [e] at full small <;> omega
      have go : ∀ M, SetTable.sizeAbove (SetTable.grown (L.length + 1)) - 1 = M → Msk M → SetTable.sizeAbove (SetTable.grown (L.length + 1)) ≤ 2048 → (L.length + 1) * 5 < M * 3 →
          wpAny (model P w) A (setRelay a (SetTable.grown (L.length + 1))) (fun _ s2 => wpAny (model P w) A (pure true) Q E s2) E { s with heap := h1 } := fun M m1 m2 m3 m4 =>
        relayG (s := { s with heap := h1 }) ho1 ⟨hex.1, hex.2.1, hex.2.2⟩ rfl hin1 hz1 q3'.dm (by rw [hc1, q4]; omega) once1 keys1 pl ld1 (by rw [hlen]; exact hfew) m1 m2 m3 (by rw [hlen]; exact m4)
          fun h2 L2 es2 ep2 t2 sb2 R2 pm2 => wpAny_pure (q true h2 L2 es2 ep2 t2 (sb.trans sb2) R2 (fun z => (hm z).elim) fun _ => pm2.trans pm)
      rcases two with ⟨_, e2⟩ | ⟨_, e2⟩ | ⟨_, e2⟩ | ⟨_, e2⟩
      · exact go 31 (by rw [e2, up32]) msk31 (by rw [e2, up32]; decide) (by omega)
      · exact go 127 (by rw [e2, up128]) msk127 (by rw [e2, up128]; decide) (by omega)
      · exact go 511 (by rw [e2, up512]) msk511 (by rw [e2, up512]; decide) (by omega)
      · exact go 2047 (by rw [e2, up2048]) msk2047 (by rw [e2, up2048]; decide) (by omega)
    · first
        | refine wp_if_neg (by simp [hf]) ?_
        | (refine wpAny_bind ?_; refine wp_if_neg (by simp [hf]) ?_; refine wpAny_pure ?_)
      have space : L1.length * 5 < t1.mask * 3 := by
        have y := hf
        unfold SetTable.tooFull at y
        rw [decide_eq_true_eq, q9, List.length_map] at y
        omega
      exact wpAny_pure (q true h1 L1 es1 (ep + 1) t1 sb { obj := ⟨_, ho1, ⟨hex.1, hex.2.1, hex.2.2⟩, rfl⟩, ent := hin1, tab := q3', once := once1, keys := keys1, plain := pl, led := ld1, room := space, few := by omega } (fun z => (hm z).elim) fun _ => pm)
end
end DL
set_option maxRecDepth 100000
set_option maxHeartbeats 4000000
namespace DL
open PySem PySem.Spec PyProof.Rows L2
/-- behind the first i of ks the set has L -/
structure Has0 {κ : Type} (ks : List (Addr × κ)) (i : Nat) (L : List (Addr × κ)) : Prop where
  from_ : ∀ e ∈ L, e ∈ ks.take i
  each : ∀ e ∈ ks.take i, e.2 ∈ L.map (·.2)
  len : L.length ≤ i
section
variable {κ : Type}
theorem has0_nil (ks : List (Addr × κ)) : Has0 ks 0 [] := ⟨fun _ h => (nomatch h), fun e h => by simp at h, Nat.le_refl _⟩
theorem take1 {α : Type} {l : List α} {i : Nat} {x : α} (h : l[i]? = some x) : l.take (i + 1) = l.take i ++ [x] := by
  rw [List.take_succ, h]
  rfl
theorem Has0.old {ks L : List (Addr × κ)} {i : Nat} {x : Addr × κ} (g : Has0 ks i L) (h : ks[i]? = some x) (hm : x.2 ∈ L.map (·.2)) : Has0 ks (i + 1) L where
  from_ := fun e he => by rw [take1 h]; exact List.mem_append_left _ (g.from_ e he)
  each := fun e he => by
    rw [take1 h] at he
    rcases List.mem_append.mp he with z | z
    · exact g.each e z
    · rw [List.mem_singleton.mp z]; exact hm
  len := Nat.le_succ_of_le g.len
theorem Has0.new {ks L M : List (Addr × κ)} {i : Nat} {x : Addr × κ} (g : Has0 ks i L) (h : ks[i]? = some x) (pm : M.Perm (x :: L)) : Has0 ks (i + 1) M where
  from_ := fun e he => by
    rw [take1 h]
    rcases List.mem_cons.mp (pm.mem_iff.mp he) with z | z
    · rw [z]; exact List.mem_append_right _ (List.mem_singleton.mpr rfl)
    · exact List.mem_append_left _ (g.from_ e z)
  each := fun e he => by
    rw [(pm.map (·.2)).mem_iff, List.map_cons]
    rw [take1 h] at he
    rcases List.mem_append.mp he with z | z
    · exact List.mem_cons_of_mem _ (g.each e z)
    · rw [List.mem_singleton.mp z]; exact List.mem_cons_self
  len := by rw [pm.length_eq]; exact Nat.succ_le_succ g.len
end
section
variable {κ : Type} [DecidableEq κ] {P : Program} {w : World} {A : Around} {E : Value → Shared → Prop} {s : Shared} {kd : SKind P w κ}
theorem SKind.later {h h' : Heap} {k : κ} {b : Addr} (x : kd.is h k b) (hk : ∀ c o, h.get? c = some o → h'.get? c = some o) : kd.is h' k b := kd.stay x fun c o _ _ e _ => hk c o e
theorem SetG.later {h h' : Heap} {a : Addr} {L : List (Addr × κ)} {es : Array (Int × Value)} {ep : Nat} {t : SetTable} (R : SetG kd h a L es ep t) (ha : ∀ o, h.get? a = some o → h'.get? a = some o) (hk : ∀ e ∈ L, kd.is h' e.2 e.1) : SetG kd h' a L es ep t := by
  obtain ⟨o, ho, r⟩ := R.obj
  exact { R with obj := ⟨o, ha o ho, r⟩, keys := hk }
abbrev newSet (w : World) : Obj := { cls := .type "set", dict := none, data := .set #[] 0 (.fresh 0 0 (!w.params.followText "set-order")) }
theorem setG_new {h : Heap} {a : Addr} (ho : h.get? a = some (newSet w)) : SetG kd h a [] #[] 0 (.fresh 0 0 (!w.params.followText "set-order")) where
  obj := ⟨_, ho, ⟨rfl, rfl, rfl⟩, rfl⟩
  ent := rfl
  tab := ⟨List.Pairwise.nil, rfl, rfl, msk7, fun _ z => (nomatch z), fun i h j z => by simp at z⟩
  once := List.nodup_nil
  keys := fun _ z => nomatch z
  plain := rfl
  led := by
    show _ ∨ (!w.params.followText "set-order") = true
    cases w.params.followText "set-order" with
    | true => exact .inl rfl
    | false => exact .inr rfl
  room := by show 0 < 7 * 3; decide
  few := by show 0 < 1228; decide
/-- the loop of set.update -/
theorem loopG {I : Addr} {fp wr : List Addr} {G : Array GenState → Array GenState → Prop} {n : Nat} {Pv : Nat → Value → Prop} {St : Nat → Shared → Prop} {R : Result → Shared → Prop} (W : WalksS P w A.in1 I fp wr G n Pv St) (S : Addr) (hSf : S ∉ fp)
    (ks : List (Addr × κ)) (hn : n = ks.length) (hfew : ks.length < 1228) (hval : ∀ i v, Pv i v → ∃ e, ks[i]? = some e ∧ v = .ref e.1) (h0 : Heap) (hk : ∀ e ∈ ks, kd.is h0 e.2 e.1) (hS0 : h0.get? S = none) (hw0 : ∀ b ∈ wr, h0.get? b = none) (hu : kd.room A.in1) :
    ∀ (k i : Nat) (s : Shared), n - i = k → i ≤ n → St i s → (∀ b o, h0.get? b = some o → s.heap.get? b = some o) → (∃ L es ep t, SetG kd s.heap S L es ep t ∧ Has0 ks i L) →
      (∀ s' L es ep t, Moved (S :: wr) G s s' → SetG kd s'.heap S L es ep t → Has0 ks n L → (∀ b o, h0.get? b = some o → s'.heap.get? b = some o) → R (.ok (.ret .none)) s') →
      codeAny (model P w) A (.builtin "set.update.loop" ⟨[.ref S, .ref I], []⟩) R s := by
  have hSw : S ∉ wr := fun z => hSf (W.sub _ z)
  have wide : ∀ b ∈ wr, b ∈ S :: wr := fun b z => List.mem_cons_of_mem _ z
  have olds : ∀ {s1 s2 : Shared}, Moved wr G s1 s2 → (∀ b o, h0.get? b = some o → s1.heap.get? b = some o) → ∀ b o, h0.get? b = some o → s2.heap.get? b = some o := fun hm hkp b o e =>
    hm.heap b o (fun z => by rw [hw0 b z] at e; cases e) (hkp b o e)
  intro k
  induction k with
  | zero =>
    intro i s hk1 hi hst hkp ⟨L, es, ep, t, hS, g⟩ hR
    obtain rfl : i = n := by omega
    refine codeAny_builtin F.entry_set_update_loop ?_
    rw [Around.under_plainId F.plain_set_update_loop _]
    refine wpAny_bind (W.done s _ _ hst fun s2 hm => ?_)
    have hkp2 := olds hm hkp
    exact wpAny_pure (hR s2 L es ep t (hm.mono wide) (hS.later (fun o e => hm.heap S o hSw e) fun e he => SKind.later (hk e (List.mem_of_mem_take (g.from_ e he))) hkp2) g hkp2)
  | succ k ih =>
    intro i s hk1 hi hst hkp ⟨L, es, ep, t, hS, g⟩ hR
    have lt : i < n := by omega
    refine codeAny_builtin F.entry_set_update_loop ?_
    rw [Around.under_plainId F.plain_set_update_loop _]
    refine wpAny_bind (W.item i s _ _ lt hst fun v s2 hP hst2 hm => ?_)
    obtain ⟨e, he, rfl⟩ := hval i v hP
    have hkp2 := olds hm hkp
    have hS2 : SetG kd s2.heap S L es ep t := hS.later (fun o z => hm.heap S o hSw z) fun u hu2 => SKind.later (hk u (List.mem_of_mem_take (g.from_ u hu2))) hkp2
    have hx : kd.is s2.heap e.2 e.1 := SKind.later (hk e (List.mem_of_getElem? he)) hkp2
    show wpAny _ A.in1 (holding [Value.ref e.1] (setAdd S (.ref e.1)) >>= _) _ _ s2
    refine wpAny_bind (wpAny_holding ?_)
    unfold setAdd
    refine wpAny_holding (wpAny_bind (kd.pyHash hu hx ?_))
    refine addG (s := { s2 with toks := s2.toks + kd.draws e.2 }) hS2 hx hu (by have := g.len; omega) fun b h3 L3 es3 ep3 t3 sb hS3 c1 c2 => ?_
    have g3 : Has0 ks (i + 1) L3 := by
      by_cases c : e.2 ∈ L.map (·.2)
      · rw [c1 c]; exact g.old he c
      · exact g.new he (c2 c)
    have hkp3 : ∀ b o, h0.get? b = some o → h3.get? b = some o := fun b o z => (sb.2 b (fun y => by rw [y, hS0] at z; cases z)).trans (hkp2 b o z)
    refine wpAny_pure ⟨plainId_quiet F.plain_set_update_loop _, ih (i + 1) _ (by omega) lt (W.frame _ s2 _ _ hst2 (Nat.le_add_right _ _) fun b hb o z => ?_) hkp3 ⟨L3, es3, ep3, t3, hS3, g3⟩ fun s4 L4 es4 ep4 t4 hm4 hS4 g4 hkp4 => ?_⟩
    · rw [sb.2 b (fun y : b = S => hSf (y ▸ hb))]; exact z
    · refine hR s4 L4 es4 ep4 t4 (Moved.trans W.gtrans ((hm.mono wide).then_heap (Nat.le_add_right _ _) fun b o hb z => ?_) hm4) hS4 g4 hkp4
      rw [sb.2 b (fun y : b = S => hb (y ▸ List.mem_cons_self))]; exact z
end
end DL
set_option maxRecDepth 100000
set_option maxHeartbeats 4000000
namespace DL
open PySem PySem.Spec PyProof.Rows L2
section
variable {κ : Type} [DecidableEq κ] {P : Program} {w : World} {A : Around} {E : Value → Shared → Prop} {s : Shared} {kd : SKind P w κ}

set_option maxRecDepth 100000 in
set_option maxHeartbeats 8000000 in
theorem set_of_list {l : Addr} {items : Array Value} (ks : List (Addr × κ)) {Q : Value → Shared → Prop} (hh : A.handled = none) (hl : s.heap.IsList l items) (hit : items.toList = ks.map fun e => Value.ref e.1) (hk : ∀ e ∈ ks, kd.is s.heap e.2 e.1) (hfew : ks.length < 1228) (hu : kd.room A.in1.in1.in1)
    (q : ∀ (h' : Heap) (tk : Nat) L es ep t, SetG kd h' s.heap.objs.size L es ep t → Has0 ks ks.length L → (∀ b o, s.heap.get? b = some o → h'.get? b = some o) → Q (.ref s.heap.objs.size) { s with heap := h', toks := tk }) : wpAny (model P w) A (call (.type "set") [.ref l]) Q E s := by
  have hc : items.size = ks.length := by rw [← Array.length_toList, hit, List.length_map]
  obtain ⟨c, tl, hmro⟩ := F.called_set.mro
  have f_made := F.called_set.made
  have f_sub := F.called_set.sub
  refine (wpAny_call (codeAny_of_tree ?_))
  show wpAny _ _ (callAny (.type "set") _) _ _ _
  refine (wpAny_pure ⟨Code.quiet_builtin _ (by decide +kernel), codeAny_builtin F.entry_type_call ?_⟩)
  rw [Around.under_plain (weight_type_call_type "set" [.ref l] []) rfl]
  have f_no := F.called_set.notType
  have f_can := F.called_set.canCreate
  have f_call := F.typeCall_set_1 (.ref l)
  repeat (any_goals (first | assumption | wp_step))
  refine codeAny_mono (code_set_led1 (.ref l) (E := E) (Q₁ := fun obj s1 => obj = .ref s.heap.objs.size ∧ s1 = { s with heap := s.heap.push (newSet w) }) ⟨rfl, rfl⟩) fun r s1 hr => ?_
  cases r with
  | error e => exact hr
  | ok fl =>
    cases fl with
    | ret obj =>
      obtain ⟨rfl, rfl⟩ := hr
      have atS : (s.heap.push (newSet w)).get? s.heap.objs.size = some (newSet w) := Heap.get?_push_size _ rfl
      have isS : Shared.TypeIs { s with heap := s.heap.push (newSet w) } (.ref s.heap.objs.size) "set" := ⟨_, atS, rfl⟩
      have f_look := F.called_set.init.lookup
      have f_bind := F.called_set.init.bind (.ref s.heap.objs.size)
      repeat (any_goals (first | assumption | wp_step))
      refine codeAny_mono (codeAny_call_builtin (R := wants (fun r s2 => r = .none ∧ ∃ h' tk L es ep t, s2 = { s with heap := h', toks := tk } ∧ SetG kd h' s.heap.objs.size L es ep t ∧ Has0 ks ks.length L ∧ (∀ b o, s.heap.get? b = some o → h'.get? b = some o)) E) F.called_set.init.plain F.entry_set_init (check_set_init_1 isS ?_)) fun r2 s2 hr2 => ?_
      · obtain ⟨⟨cl0, di0, da0, sl0⟩, hol, hcl, nl, hdl⟩ := hl
        dsimp only at hcl hdl
        subst hcl; subst hdl
        have hol1 : (s.heap.push (newSet w)).get? l = some { cls := .type "list", dict := di0, data := .seq items nl, slots := sl0 } := Heap.get?_push_of_some _ hol
        have f_s1 := F.sub_list_set
        have f_s2 := F.sub_list_frozenset
        have f_ne : (Value.type "list" == Value.type "dict") = false := by decide
        have hl1 : (s.heap.push (newSet w)).IsList l items := ⟨_, hol1, rfl, nl, rfl⟩
        unfold Builtin.«set.__init__» noKeywords Builtin.Frozenset.updateFrom
        generalize hPI : pyIter = PI
        wp_walk
        subst hPI
        refine wpAny_pyIter_list hl1 ?_
        refine (wpAny_bind (wpAny_runValue ?_))
        have old : l < s.heap.objs.size := Heap.lt_size hol
        have hh3 : A.in1.in1.in1.handled = none := by simp [hh]
        have sz1 : (s.heap.push (newSet w)).objs.size = s.heap.objs.size + 1 := Heap.size_push ..
        have gone : ∀ b, s.heap.objs.size ≤ b → s.heap.get? b = none := fun b hb => by
          cases z : s.heap.get? b with
          | none => rfl
          | some o => exact absurd (Heap.lt_size z) (Nat.not_lt.mpr hb)
        refine loopG (Walks.list hh3 (s.heap.push (newSet w)).objs.size l (by rw [sz1]; exact Nat.ne_of_lt (Nat.lt_succ_of_lt old)) items).toS s.heap.objs.size (by rw [sz1]; simp only [List.mem_cons, List.not_mem_nil, or_false, not_or]; exact ⟨Nat.ne_of_lt (Nat.lt_succ_self _), Nat.ne_of_gt old⟩) ks hc hfew (fun i v hv => ?_) s.heap hk (gone _ (Nat.le_refl _)) (fun b hb => gone b (by rw [List.mem_singleton.mp hb, sz1]; omega)) hu (items.size - 0) 0 _ (by omega) (Nat.zero_le _)
          ⟨⟨_, Heap.get?_push_size _ rfl, rfl, rfl⟩, hl1.push _⟩ (fun b o e => Heap.get?_push_of_some _ (Heap.get?_push_of_some _ e)) ⟨[], #[], 0, _, setG_new (Heap.get?_push_of_some _ atS), has0_nil ks⟩ fun s3 L es ep t hm hS g hkp => ?_
        · have z : items.toList[i]? = some v := by rw [Array.getElem?_toList]; exact hv
          rw [hit, List.getElem?_map] at z
          cases y : ks[i]? with
          | none => rw [y] at z; cases z
          | some e => rw [y] at z; exact ⟨e, rfl, (Option.some.inj z).symm⟩
        · obtain ⟨h3, g3, d3, tk3, os3⟩ := s3
          obtain rfl : g3 = s.gens := hm.gens
          obtain rfl : d3 = s.drawn := hm.drawn
          obtain rfl : os3 = s.os := hm.os
          refine (wpAny_pure ?_)
          rw [hc] at g
          exact wpAny_pure ⟨rfl, h3, tk3, L, es, ep, t, rfl, hS, g, hkp⟩
      · cases r2 with
        | error e => exact hr2
        | ok fl2 =>
          cases fl2 with
          | ret r =>
            obtain ⟨rfl, h3, tk3, L, es, ep, t, rfl, hS, g, hkp⟩ := hr2
            repeat (any_goals (first | assumption | wp_step))
            exact q _ _ _ _ _ _ hS g hkp
          | _ => exact hr2.elim
    | _ => exact hr.elim

set_option maxRecDepth 100000 in
set_option maxHeartbeats 8000000 in
theorem set_of_tuple {l : Addr} {items : Array Value} (ks : List (Addr × κ)) {Q : Value → Shared → Prop} (hh : A.handled = none) (hl : s.heap.IsTuple l items) (hit : items.toList = ks.map fun e => Value.ref e.1) (hk : ∀ e ∈ ks, kd.is s.heap e.2 e.1) (hfew : ks.length < 1228) (hu : kd.room A.in1.in1.in1)
    (q : ∀ (h' : Heap) (tk : Nat) L es ep t, SetG kd h' s.heap.objs.size L es ep t → Has0 ks ks.length L → (∀ b o, s.heap.get? b = some o → h'.get? b = some o) → Q (.ref s.heap.objs.size) { s with heap := h', toks := tk }) : wpAny (model P w) A (call (.type "set") [.ref l]) Q E s := by
  have hc : items.size = ks.length := by rw [← Array.length_toList, hit, List.length_map]
  obtain ⟨c, tl, hmro⟩ := F.called_set.mro
  have f_made := F.called_set.made
  have f_sub := F.called_set.sub
  refine (wpAny_call (codeAny_of_tree ?_))
  show wpAny _ _ (callAny (.type "set") _) _ _ _
  refine (wpAny_pure ⟨Code.quiet_builtin _ (by decide +kernel), codeAny_builtin F.entry_type_call ?_⟩)
  rw [Around.under_plain (weight_type_call_type "set" [.ref l] []) rfl]
  have f_no := F.called_set.notType
  have f_can := F.called_set.canCreate
  have f_call := F.typeCall_set_1 (.ref l)
  repeat (any_goals (first | assumption | wp_step))
  refine codeAny_mono (code_set_led1 (.ref l) (E := E) (Q₁ := fun obj s1 => obj = .ref s.heap.objs.size ∧ s1 = { s with heap := s.heap.push (newSet w) }) ⟨rfl, rfl⟩) fun r s1 hr => ?_
  cases r with
  | error e => exact hr
  | ok fl =>
    cases fl with
    | ret obj =>
      obtain ⟨rfl, rfl⟩ := hr
      have atS : (s.heap.push (newSet w)).get? s.heap.objs.size = some (newSet w) := Heap.get?_push_size _ rfl
      have isS : Shared.TypeIs { s with heap := s.heap.push (newSet w) } (.ref s.heap.objs.size) "set" := ⟨_, atS, rfl⟩
      have f_look := F.called_set.init.lookup
      have f_bind := F.called_set.init.bind (.ref s.heap.objs.size)
      repeat (any_goals (first | assumption | wp_step))
      refine codeAny_mono (codeAny_call_builtin (R := wants (fun r s2 => r = .none ∧ ∃ h' tk L es ep t, s2 = { s with heap := h', toks := tk } ∧ SetG kd h' s.heap.objs.size L es ep t ∧ Has0 ks ks.length L ∧ (∀ b o, s.heap.get? b = some o → h'.get? b = some o)) E) F.called_set.init.plain F.entry_set_init (check_set_init_1 isS ?_)) fun r2 s2 hr2 => ?_
      · obtain ⟨⟨cl0, di0, da0, sl0⟩, hol, hcl, nl, hdl⟩ := hl
        dsimp only at hcl hdl
        subst hcl; subst hdl
        have hol1 : (s.heap.push (newSet w)).get? l = some { cls := .type "tuple", dict := di0, data := .seq items nl, slots := sl0 } := Heap.get?_push_of_some _ hol
        have f_s1 := F.sub_tuple_set
        have f_s2 := F.sub_tuple_frozenset
        have f_ne : (Value.type "tuple" == Value.type "dict") = false := by decide
        have hl1 : (s.heap.push (newSet w)).IsTuple l items := ⟨_, hol1, rfl, nl, rfl⟩
        unfold Builtin.«set.__init__» noKeywords Builtin.Frozenset.updateFrom
        generalize hPI : pyIter = PI
        wp_walk
        subst hPI
        refine wpAny_pyIter_tuple hl1 ?_
        refine (wpAny_bind (wpAny_runValue ?_))
        have old : l < s.heap.objs.size := Heap.lt_size hol
        have hh3 : A.in1.in1.in1.handled = none := by simp [hh]
        have sz1 : (s.heap.push (newSet w)).objs.size = s.heap.objs.size + 1 := Heap.size_push ..
        have gone : ∀ b, s.heap.objs.size ≤ b → s.heap.get? b = none := fun b hb => by
          cases z : s.heap.get? b with
          | none => rfl
          | some o => exact absurd (Heap.lt_size z) (Nat.not_lt.mpr hb)
        refine loopG (Walks.tuple hh3 (s.heap.push (newSet w)).objs.size l (by rw [sz1]; exact Nat.ne_of_lt (Nat.lt_succ_of_lt old)) items).toS s.heap.objs.size (by rw [sz1]; simp only [List.mem_cons, List.not_mem_nil, or_false, not_or]; exact ⟨Nat.ne_of_lt (Nat.lt_succ_self _), Nat.ne_of_gt old⟩) ks hc hfew (fun i v hv => ?_) s.heap hk (gone _ (Nat.le_refl _)) (fun b hb => gone b (by rw [List.mem_singleton.mp hb, sz1]; omega)) hu (items.size - 0) 0 _ (by omega) (Nat.zero_le _)
          ⟨⟨_, Heap.get?_push_size _ rfl, rfl, rfl⟩, hl1.push _⟩ (fun b o e => Heap.get?_push_of_some _ (Heap.get?_push_of_some _ e)) ⟨[], #[], 0, _, setG_new (Heap.get?_push_of_some _ atS), has0_nil ks⟩ fun s3 L es ep t hm hS g hkp => ?_
        · have z : items.toList[i]? = some v := by rw [Array.getElem?_toList]; exact hv
          rw [hit, List.getElem?_map] at z
          cases y : ks[i]? with
          | none => rw [y] at z; cases z
          | some e => rw [y] at z; exact ⟨e, rfl, (Option.some.inj z).symm⟩
        · obtain ⟨h3, g3, d3, tk3, os3⟩ := s3
          obtain rfl : g3 = s.gens := hm.gens
          obtain rfl : d3 = s.drawn := hm.drawn
          obtain rfl : os3 = s.os := hm.os
          refine (wpAny_pure ?_)
          rw [hc] at g
          exact wpAny_pure ⟨rfl, h3, tk3, L, es, ep, t, rfl, hS, g, hkp⟩
      · cases r2 with
        | error e => exact hr2
        | ok fl2 =>
          cases fl2 with
          | ret r =>
            obtain ⟨rfl, h3, tk3, L, es, ep, t, rfl, hS, g, hkp⟩ := hr2
            repeat (any_goals (first | assumption | wp_step))
            exact q _ _ _ _ _ _ hS g hkp
          | _ => exact hr2.elim
    | _ => exact hr.elim
end
end DL
set_option maxRecDepth 100000
set_option maxHeartbeats 4000000
namespace DL
open PySem PySem.Spec PyProof.Rows L2
/-! ### data as keys -/
def allSome {α β : Type} (f : α → Option β) : List α → Option (List β)
  | [] => some []
  | x :: r => match f x, allSome f r with
    | some y, some ys => some (y :: ys)
    | _, _ => none
theorem allSome_cons {α β : Type} {f : α → Option β} {x : α} {r : List α} {zs : List β} (h : allSome f (x :: r) = some zs) : ∃ y ys, f x = some y ∧ allSome f r = some ys ∧ zs = y :: ys := by
  unfold allSome at h
  split at h
  · rename_i y ys h1 h2
    cases h
    exact ⟨y, ys, h1, h2, rfl⟩
  · cases h
def keyN : Nat → Dt → Option NestedKey
  | _, .int i => some (.num i)
  | n + 1, .tuple ds => (allSome (keyN n) ds).map .tup
  | _, _ => none
theorem keyN_tup {n : Nat} {ds : List Dt} {k : NestedKey} (h : keyN (n + 1) (.tuple ds) = some k) : ∃ ks, allSome (keyN n) ds = some ks ∧ k = .tup ks := by
  unfold keyN at h
  cases hk : allSome (keyN n) ds with
  | none => rw [hk] at h; cases h
  | some ks => rw [hk] at h; cases h; exact ⟨ks, rfl, rfl⟩
theorem keyN_ok : ∀ (n : Nat) (d : Dt) (k : NestedKey), keyN n d = some k → kiOk n k = true
  | n, .int i, k, h => by
    have : k = .num i := by cases n <;> (unfold keyN at h; cases h; rfl)
    subst this
    cases n <;> rfl
  | n + 1, .tuple ds, k, h => by
    obtain ⟨ks, hk, rfl⟩ := keyN_tup h
    refine kiOk_mk ?_
    have go : ∀ (l : List Dt) (ks : List NestedKey), allSome (keyN n) l = some ks → ∀ k ∈ ks, kiOk n k = true := by
      intro l
      induction l with
      | nil => intro ks e k hk; cases e; cases hk
      | cons d l ih =>
        intro ks e k hk
        obtain ⟨y, ys, e1, e2, rfl⟩ := allSome_cons e
        rcases List.mem_cons.mp hk with rfl | hk
        · exact keyN_ok n d _ e1
        · exact ih ys e2 k hk
    exact go ds ks hk
  | 0, .tuple ds, k, h => by cases h
  | 0, .none, k, h => by cases h
  | 0, .bool _, k, h => by cases h
  | 0, .str _, k, h => by cases h
  | 0, .list _, k, h => by cases h
  | 0, .dict _, k, h => by cases h
  | n + 1, .none, k, h => by cases h
  | n + 1, .bool _, k, h => by cases h
  | n + 1, .str _, k, h => by cases h
  | n + 1, .list _, k, h => by cases h
  | n + 1, .dict _, k, h => by cases h
theorem keyN_int {n : Nat} {d : Dt} {i : Int} (h : keyN n d = some (.num i)) : d = .int i := by
  cases d with
  | int j => cases n <;> (unfold keyN at h; cases h; rfl)
  | tuple ds =>
    cases n with
    | zero => cases h
    | succ n => obtain ⟨ks, _, e⟩ := keyN_tup h; cases e
  | none => cases n <;> cases h
  | bool _ => cases n <;> cases h
  | str _ => cases n <;> cases h
  | list _ => cases n <;> cases h
  | dict _ => cases n <;> cases h
theorem keyN_inj : ∀ (n : Nat) (d e : Dt) (k : NestedKey), keyN n d = some k → keyN n e = some k → d = e
  | n, d, e, .num i, h1, h2 => by rw [keyN_int h1, keyN_int h2]
  | 0, d, e, .tup ks, h1, h2 => by
    have := keyN_ok 0 d _ h1
    cases this
  | n + 1, d, e, .tup ks, h1, h2 => by
    have shape : ∀ x : Dt, keyN (n + 1) x = some (.tup ks) → ∃ xs, x = .tuple xs ∧ allSome (keyN n) xs = some ks := by
      intro x hx
      cases x with
      | tuple xs =>
        obtain ⟨ks', h3, h4⟩ := keyN_tup hx
        cases h4
        exact ⟨xs, rfl, h3⟩
      | int i => cases hx
      | none => cases hx
      | bool _ => cases hx
      | str _ => cases hx
      | list _ => cases hx
      | dict _ => cases hx
    obtain ⟨xs, rfl, a1⟩ := shape d h1
    obtain ⟨ys, rfl, a2⟩ := shape e h2
    have go : ∀ (ks : List NestedKey) (xs ys : List Dt), allSome (keyN n) xs = some ks → allSome (keyN n) ys = some ks → xs = ys := by
      intro ks
      induction ks with
      | nil =>
        intro xs ys e1 e2
        cases xs with
        | cons x xs => obtain ⟨_, _, _, _, z⟩ := allSome_cons e1; cases z
        | nil => cases ys with
          | cons y ys => obtain ⟨_, _, _, _, z⟩ := allSome_cons e2; cases z
          | nil => rfl
      | cons k ks ih =>
        intro xs ys e1 e2
        cases xs with
        | nil => cases e1
        | cons x xs => cases ys with
          | nil => cases e2
          | cons y ys =>
            obtain ⟨_, _, b1, b2, b3⟩ := allSome_cons e1
            obtain ⟨_, _, c1, c2, c3⟩ := allSome_cons e2
            cases b3
            cases c3
            rw [keyN_inj n x y k b1 c1, ih xs ys b2 c2]
    rw [go ks xs ys a1 a2]
  | n, d, e, .none, h1, _ => by
    have := keyN_ok n d _ h1
    cases n <;> cases this
  | n, d, e, .text _, h1, _ => by
    have := keyN_ok n d _ h1
    cases n <;> cases this
section
variable {X : Cx} {pins : List (Addr × Obj)} {σ : L2.St} {H : Hp} {s : Shared}
theorem nest_of (I : Inv X pins σ H s) : ∀ (n : Nat) (d : Dt) (v : V) (u : Value) (k : NestedKey), Dp X.K H v d → RelV v u → keyN n d = some k → NestedIs s.heap k u
  | n, .int i, v, u, k, h, r, hk => by
    cases h
    obtain ⟨t, rfl⟩ := r
    have : k = .num i := by cases n <;> (unfold keyN at hk; cases hk; rfl)
    subst this
    exact .int i t
  | n + 1, .tuple ds, v, u, k, h, r, hk => by
    obtain ⟨ks, h1, rfl⟩ := keyN_tup hk
    cases h with
    | tup hs ha =>
      cases r
      obtain ⟨its, rv, ⟨o, ho, hc, m, hd⟩, _⟩ := I.tuple hs
      refine .tup ho hc hd ?_
      have go : ∀ (ds : List Dt) (vs : List V) (us : List Value) (ks : List NestedKey), DpAll X.K H vs ds → Vals vs us → allSome (keyN n) ds = some ks → NestedAll s.heap ks us := by
        intro ds
        induction ds with
        | nil => intro vs us ks a b c; cases a; cases b; cases c; exact .nil
        | cons d ds ih =>
          intro vs us ks a b c
          obtain ⟨y, ys, c1, c2, rfl⟩ := allSome_cons c
          cases a with
          | cons a1 a2 => cases b with
            | cons b1 b2 => exact .cons (nest_of I n d _ _ y a1 b1 c1) (ih _ _ ys a2 b2 c2)
      simpa using go ds _ its ks ha rv h1
  | 0, .tuple ds, v, u, k, h, r, hk => by cases hk
  | 0, .none, _, _, _, _, _, hk => by cases hk
  | 0, .bool _, _, _, _, _, _, hk => by cases hk
  | 0, .str _, _, _, _, _, _, hk => by cases hk
  | 0, .list _, _, _, _, _, _, hk => by cases hk
  | 0, .dict _, _, _, _, _, _, hk => by cases hk
  | n + 1, .none, _, _, _, _, _, hk => by cases hk
  | n + 1, .bool _, _, _, _, _, _, hk => by cases hk
  | n + 1, .str _, _, _, _, _, _, hk => by cases hk
  | n + 1, .list _, _, _, _, _, _, hk => by cases hk
  | n + 1, .dict _, _, _, _, _, _, hk => by cases hk
/-- such data reads without an address -/
theorem key_flat {h : Heap} : ∀ (n : Nat) (d : Dt) (k : NestedKey) (u : Value) (as : List Addr), keyN n d = some k → Reads h u d as → as = []
  | n, .int i, _, _, _, _, r => by cases r; rfl
  | n + 1, .tuple ds, k, u, as, hk, r => by
    obtain ⟨ks, h1, rfl⟩ := keyN_tup hk
    cases r with
    | tuple ho hc hd ha =>
      have go : ∀ (ds : List Dt) (us : List Value) (as : List Addr) (ks : List NestedKey), allSome (keyN n) ds = some ks → ReadsAll h us ds as → as = [] := by
        intro ds
        induction ds with
        | nil => intro us as ks _ a; cases a; rfl
        | cons d ds ih =>
          intro us as ks c a
          obtain ⟨y, ys, c1, c2, rfl⟩ := allSome_cons c
          cases a with
          | cons a1 a2 => rw [key_flat n d y _ _ c1 a1, ih _ _ ys c2 a2]; rfl
      exact go ds _ _ ks h1 ha
  | 0, .tuple ds, _, _, _, hk, _ => by cases hk
  | 0, .none, _, _, _, hk, _ => by cases hk
  | 0, .bool _, _, _, _, hk, _ => by cases hk
  | 0, .str _, _, _, _, hk, _ => by cases hk
  | 0, .list _, _, _, _, hk, _ => by cases hk
  | 0, .dict _, _, _, _, hk, _ => by cases hk
  | n + 1, .none, _, _, _, hk, _ => by cases hk
  | n + 1, .bool _, _, _, _, hk, _ => by cases hk
  | n + 1, .str _, _, _, _, hk, _ => by cases hk
  | n + 1, .list _, _, _, _, hk, _ => by cases hk
  | n + 1, .dict _, _, _, _, hk, _ => by cases hk
end
end DL
set_option maxRecDepth 100000
set_option maxHeartbeats 4000000
namespace DL
open PySem PySem.Spec PyProof.Rows L2
theorem perm_unmap {α β : Type} {f : α → β} {l m : List β} (h : l.Perm m) : ∀ T : List α, m = T.map f → ∃ T' : List α, T'.Perm T ∧ l = T'.map f := by
  induction h with
  | nil =>
    intro T e
    cases T with
    | nil => exact ⟨[], .refl _, rfl⟩
    | cons x T => cases e
  | cons x _ ih =>
    intro T e
    cases T with
    | nil => cases e
    | cons y T =>
      rw [List.map_cons] at e
      injection e with e1 e2
      obtain ⟨T', h1, h2⟩ := ih T e2
      exact ⟨y :: T', h1.cons y, by rw [List.map_cons, e1, h2]⟩
  | swap x y l =>
    intro T e
    match T, e with
    | [], e => cases e
    | [_], e => cases e
    | a :: b :: T, e =>
      rw [List.map_cons, List.map_cons] at e
      injection e with e1 e2
      injection e2 with e2 e3
      exact ⟨b :: a :: T, .swap a b T, by rw [List.map_cons, List.map_cons, e1, e2, e3]⟩
  | trans _ _ ih1 ih2 =>
    intro T e
    obtain ⟨T1, h1, h2⟩ := ih2 T e
    obtain ⟨T2, h3, h4⟩ := ih1 T1 h2
    exact ⟨T2, h3.trans h1, h4⟩
abbrev Trp := Addr × NestedKey × Dt
section
variable {P : Program} {w : World} {A : Around} {E : Value → Shared → Prop} {s : Shared} {a : Addr} {es : Array (Int × Value)} {ep : Nat} {t : SetTable}
theorem each_refs {h : Heap} : ∀ {T : List Trp}, PySem.W.EachIs (fun (v : Value) (x : Trp) => v = .ref x.1) (T.map fun x => Value.ref x.1) T
  | [] => .nil
  | _ :: _ => .cons rfl (each_refs (h := h))
theorem each_of {Rl : Value → Trp → Prop} : ∀ {T : List Trp}, (∀ x ∈ T, Rl (.ref x.1) x) → PySem.W.EachIs Rl (T.map fun x => Value.ref x.1) T
  | [], _ => .nil
  | x :: T, h => .cons (h x List.mem_cons_self) (each_of fun y hy => h y (List.mem_cons_of_mem _ hy))
theorem refs_back : ∀ {out : List Value} {T : List Trp}, PySem.W.EachIs (fun (v : Value) (x : Trp) => v = .ref x.1) out T → out = T.map fun x => Value.ref x.1
  | _, _, .nil => rfl
  | _, _, .cons e r => by rw [List.map_cons, e, refs_back r]
theorem sortedG {T : List Trp} {n : Nat} {Q : Value → Shared → Prop} (R : SetG (nestKind P w) s.heap a (T.map fun x => (x.1, x.2.1)) es ep t) (hh : A.handled = none) (hr : ∀ x ∈ T, ∃ as, Reads s.heap (.ref x.1) x.2.2 as) (hkey : ∀ x ∈ T, keyN n x.2.2 = some x.2.1) (hk : srtOk (T.map fun x => x.2.2) = true) (hu : A.units + 60 < cLine)
    (q : ∀ s' p (out : Array Value) (c : Nat) (T' : List Trp), (∀ b o, s.heap.get? b = some o → s'.heap.get? b = some o) → s'.gens = s.gens → s'.os = s.os → s.heap.objs.size ≤ p → s'.heap.get? p = some (seqObj "list" out c) → out.toList = T'.map (fun x => Value.ref x.1) → T'.Perm T →
      (T'.map fun x => x.2.2).Pairwise (fun d e => leD' d e = true) → Q (.ref p) s') : wpAny (model P w) A (call (.builtin "sorted") [.ref a]) Q E s := by
  obtain ⟨o, ho, hex, hd⟩ := R.obj
  have hc := R.count
  have few := R.few
  obtain ⟨k1, k2, k3⟩ := srtOk_use hk
  refine (Calls.call_function_entry kind_sorted plain_sorted entry_sorted (args_sorted1 _) ?_)
  unfold Builtin.«sorted»
  refine (wpAny_bind (m := checkCount "sorted" 1 1 _) (wpAny_pure ?_))
  refine wpAny_bind (collect_set (A := A.in1) hh ⟨o, ho, hex.1, hd⟩ R.fits (by unfold scanBound; omega) R.tab.ris R.led fun s1 vs old sz g1 o1 pm => ?_)
  have ev : es.toList.map (·.2) = T.map fun x => Value.ref x.1 := by
    rw [R.ent, rowG, List.map_map, List.map_map]
    rfl
  obtain ⟨T1, p1, rfl⟩ := perm_unmap pm T ev
  rw [List.length_map] at few
  have len1 : T1.length < 1228 := by rw [p1.length_eq]; exact few
  refine wpAny_bind (wpAny_newList ?_ (by rw [List.length_map, sizeLine_eq]; omega))
  have atL : (s1.heap.push (seqObj "list" (T1.map fun x => Value.ref x.1).toArray 0)).get? s1.heap.objs.size = some (seqObj "list" (T1.map fun x => Value.ref x.1).toArray 0) := Heap.get?_push_size _ rfl
  have inT : ∀ x ∈ T1, x ∈ T := fun x hx => p1.mem_iff.mp hx
  have dat : (T1.map fun x => x.2.2).Perm (T.map fun x => x.2.2) := p1.map _
  refine wpAny_bind (wpAny_holding (PySem.W.list_sort_data (s := { s1 with heap := s1.heap.push (seqObj "list" (T1.map fun x => Value.ref x.1).toArray 0) }) (bs := T1) (enc := fun x => x.2.2) (R := fun v x => v = .ref x.1) atL (each_refs (h := s.heap)) (each_of fun x hx => ?_)
    (fun d hd1 e he1 => k1 d (dat.mem_iff.mp hd1) e (dat.mem_iff.mp he1)) ?_ (by rw [sizeLine_eq]; omega) (fun x hx => ?_) fun out ho1 he => ?_))
  · obtain ⟨as, r⟩ := hr x (inT x hx)
    have fl := key_flat n _ _ _ _ (hkey x (inT x hx)) r
    subst fl
    exact ⟨[], Reads.keeps (fun b u z => Heap.get?_push_of_some _ (old b u z)) r, fun z => nomatch z⟩
  · rcases k2 with z | z
    · exact .inl fun d hd1 => z d (dat.mem_iff.mp hd1)
    · exact .inr fun d hd1 => z d (dat.mem_iff.mp hd1)
  · have := k3 x.2.2 (List.mem_map.mpr ⟨x, inT x hx, rfl⟩)
    show A.in1.units + 1 + _ < _
    have e1 : A.in1.units = A.units + 1 := rfl
    omega
  · obtain ⟨c, hc2⟩ := sortedHeap_at (vs := T1.map fun x => Value.ref x.1) (out := out.toArray) atL
    refine wpAny_pure ⟨_, rfl, q _ s1.heap.objs.size out.toArray c (T1.mergeSort (PySem.W.dataLe false fun x => x.2.2)) (fun b u e => ?_) g1 o1 sz hc2 (refs_back he) ((List.mergeSort_perm _ _).trans p1) ?_⟩
    · have z := old b u e
      have lt := Heap.lt_size z
      show (sortedHeap (s1.heap.push (seqObj "list" (T1.map fun x => Value.ref x.1).toArray 0)) s1.heap.objs.size (T1.map fun x => Value.ref x.1) out.toArray).get? b = some u
      rw [sortedHeap_old (Nat.ne_of_lt lt) (by rw [size_push']; exact Nat.lt_succ_of_lt lt)]
      exact Heap.get?_push_of_some _ z
    · rw [List.pairwise_map]
      exact List.pairwise_mergeSort (fun x y z => leD_trans x.2.2 y.2.2 z.2.2) (fun x y => leD_total x.2.2 y.2.2) _
end
/-! ### in the abstract heap -/
structure G0 (P : Program) (w : World) (h : Heap) (a : Addr) (L : List (Addr × NestedKey)) : Prop where
  ex : ∃ (es : Array (Int × Value)) (ep : Nat) (t : SetTable), (∃ o, h.get? a = some o ∧ o.ExactSet ∧ o.data = .set es ep t) ∧ es.toList = rowG (nestKind P w) L ∧ TabX t (L.map fun e => (nestKind P w).hash e.2) ∧ (L.map (·.2)).Nodup ∧ t.plain = true ∧
    (w.params.followText "set-order" = true ∨ t.led = true) ∧ L.length * 5 < t.mask * 3 ∧ L.length < 1228
def GO (P : Program) (w : World) (a : Addr) (L : List (Addr × NestedKey)) : HO := .ext fun h => G0 P w h a L
theorem SetG.g0 {P : Program} {w : World} {h : Heap} {a : Addr} {L : List (Addr × NestedKey)} {es : Array (Int × Value)} {ep : Nat} {t : SetTable} (R : SetG (nestKind P w) h a L es ep t) : G0 P w h a L := ⟨es, ep, t, R.obj, R.ent, R.tab, R.once, R.plain, R.led, R.room, R.few⟩
theorem G0.full {P : Program} {w : World} {h : Heap} {a : Addr} {L : List (Addr × NestedKey)} (R : G0 P w h a L) (hk : ∀ e ∈ L, (nestKind P w).is h e.2 e.1) : ∃ es ep t, SetG (nestKind P w) h a L es ep t := by
  obtain ⟨es, ep, t, h1, h2, h3, h4, h5, h6, h7, h8⟩ := R.ex
  exact ⟨es, ep, t, { obj := h1, ent := h2, tab := h3, once := h4, keys := hk, plain := h5, led := h6, room := h7, few := h8 }⟩
theorem GO_new {P : Program} {w : World} {H : Hp} {h : Heap} {a : Addr} {L : List (Addr × NestedKey)} (R : G0 P w h a L) : ObjOk P w H h a (GO P w a L) := by
  have ⟨es, ep, t, ⟨o, ho, r⟩, z⟩ := R.ex
  refine ⟨R, ⟨o, ho⟩, fun h1 h2 p k => ?_⟩
  have ⟨es1, ep1, t1, ⟨o1, ho1, r1⟩, z1⟩ := G0.ex p
  exact ⟨es1, ep1, t1, ⟨o1, k o1 ho1, r1⟩, z1⟩
end DL
set_option maxRecDepth 100000
set_option maxHeartbeats 4000000
namespace DL
open PySem PySem.Spec PyProof.Rows L2
theorem keyN_eqv : ∀ (n : Nat) (d e : Dt) (k j : NestedKey), keyN n d = some k → keyN n e = some j → PyData.eqv d e = true → d = e
  | n, .int i, e, k, j, _, h2, h => by
    cases e with
    | int i2 => rw [show i = i2 by simpa [PyData.eqv] using h]
    | tuple _ => simp [PyData.eqv] at h
    | none => cases n <;> cases h2
    | bool _ => cases n <;> cases h2
    | str _ => cases n <;> cases h2
    | list _ => cases n <;> cases h2
    | dict _ => cases n <;> cases h2
  | n + 1, .tuple ds, e, k, j, h1, h2, h => by
    cases e with
    | tuple es =>
      obtain ⟨ks, a1, rfl⟩ := keyN_tup h1
      obtain ⟨js, a2, rfl⟩ := keyN_tup h2
      have go : ∀ (ds es : List Dt) (ks js : List NestedKey), allSome (keyN n) ds = some ks → allSome (keyN n) es = some js → PyData.eqvAll ds es = true → ds = es := by
        intro ds
        induction ds with
        | nil => intro es ks js _ _ z; cases es with
          | nil => rfl
          | cons _ _ => simp [PyData.eqvAll] at z
        | cons d ds ih => intro es ks js b c z; cases es with
          | nil => simp [PyData.eqvAll] at z
          | cons e es =>
            obtain ⟨_, _, b1, b2, rfl⟩ := allSome_cons b
            obtain ⟨_, _, c1, c2, rfl⟩ := allSome_cons c
            rw [PyData.eqvAll, Bool.and_eq_true] at z
            rw [keyN_eqv n d e _ _ b1 c1 z.1, ih es _ _ b2 c2 z.2]
      rw [go ds es ks js a1 a2 (by simpa [PyData.eqv] using h)]
    | int _ => simp [PyData.eqv] at h
    | none => cases h2
    | bool _ => cases h2
    | str _ => cases h2
    | list _ => cases h2
    | dict _ => cases h2
  | 0, .tuple _, _, _, _, h1, _, _ => by cases h1
  | 0, .none, _, _, _, h1, _, _ => by cases h1
  | 0, .bool _, _, _, _, h1, _, _ => by cases h1
  | 0, .str _, _, _, _, h1, _, _ => by cases h1
  | 0, .list _, _, _, _, h1, _, _ => by cases h1
  | 0, .dict _, _, _, _, h1, _, _ => by cases h1
  | n + 1, .none, _, _, _, h1, _, _ => by cases h1
  | n + 1, .bool _, _, _, _, h1, _, _ => by cases h1
  | n + 1, .str _, _, _, _, h1, _, _ => by cases h1
  | n + 1, .list _, _, _, _, h1, _, _ => by cases h1
  | n + 1, .dict _, _, _, _, h1, _, _ => by cases h1
theorem leD_anti {n : Nat} {d e : Dt} {k j : NestedKey} (h1 : keyN n d = some k) (h2 : keyN n e = some j) (ha : PySem.W.alike d e = true) (l1 : leD' d e = true) (l2 : leD' e d = true) : d = e := by
  have b1 : PyProof.Rows.lexLt PyProof.Rows.itemOrd (PySem.W.keyToks e) (PySem.W.keyToks d) = false := by simpa [leD', PySem.W.dataLe, PySem.W.sortLe] using l1
  have b2 : PyProof.Rows.lexLt PyProof.Rows.itemOrd (PySem.W.keyToks d) (PySem.W.keyToks e) = false := by simpa [leD', PySem.W.dataLe, PySem.W.sortLe] using l2
  have same : PySem.W.keyToks d = PySem.W.keyToks e := (PyProof.Rows.listOrd PyProof.Rows.itemOrd).total _ _ b2 b1
  cases hq : PyData.eqv d e with
  | true => exact keyN_eqv n d e k j h1 h2 hq
  | false =>
    exfalso
    have z := (PySem.W.toks_eqv d e ha).2 hq [] [.inl 0]
    rw [b2, same, PySem.W.lex_pre] at z
    cases z
/-- each once -/
def nubD : List Dt → List Dt
  | [] => []
  | x :: r => if (nubD r).any (fun y => PyData.eqv x y) = true then nubD r else x :: nubD r
def keyed (ds : List Dt) : Bool := ds.all fun d => (keyN 7 d).isSome
theorem keyed_use {ds : List Dt} (h : keyed ds = true) : ∀ d ∈ ds, ∃ k, keyN 7 d = some k := fun d hd => Option.isSome_iff_exists.mp (List.all_eq_true.mp h d hd)
theorem eqv_self {n : Nat} : ∀ {d : Dt} {k : NestedKey}, keyN n d = some k → PySem.W.alike d d = true → PyData.eqv d d = true := fun {d} {_} _ ha => PySem.W.eqv_refl_alike d ha
theorem nubD_mem {z : Dt} : ∀ {ds : List Dt}, (∀ d ∈ ds, ∃ k, keyN 7 d = some k) → (z ∈ nubD ds ↔ z ∈ ds)
  | [], _ => Iff.rfl
  | x :: r, h => by
    have ih := nubD_mem (z := z) (ds := r) fun d hd => h d (List.mem_cons_of_mem _ hd)
    unfold nubD
    split
    · rename_i hx
      rw [ih]
      constructor
      · exact List.mem_cons_of_mem _
      · intro hz
        rcases List.mem_cons.mp hz with rfl | hz
        · obtain ⟨y, hy, e⟩ := List.any_eq_true.mp hx
          have hy2 : y ∈ r := (nubD_mem (z := y) (ds := r) fun d hd => h d (List.mem_cons_of_mem _ hd)).mp hy
          obtain ⟨k, hk⟩ := h z List.mem_cons_self
          obtain ⟨j, hj⟩ := h y (List.mem_cons_of_mem _ hy2)
          rw [keyN_eqv 7 z y k j hk hj e]
          exact hy2
        · exact hz
    · rw [List.mem_cons, List.mem_cons, ih]
theorem nubD_nodup : ∀ {ds : List Dt}, (∀ d ∈ ds, PyData.eqv d d = true) → (nubD ds).Nodup
  | [], _ => List.nodup_nil
  | x :: r, h => by
    have ih := nubD_nodup (ds := r) fun d hd => h d (List.mem_cons_of_mem _ hd)
    unfold nubD
    split
    · exact ih
    · rename_i hx
      refine List.nodup_cons.mpr ⟨fun hm => hx (List.any_eq_true.mpr ⟨x, hm, h x List.mem_cons_self⟩), ih⟩
theorem isort_perm (l : List Dt) : (isort l).Perm l := by
  rw [isort_eq]
  exact List.mergeSort_perm _ _
/-- a sorted list of the same data, each once -/
theorem sorted_set_eq {ds out : List Dt} (hk : keyed ds = true) (hs : allAlike ds = true) (h1 : out.Pairwise fun d e => leD' d e = true) (h2 : out.Nodup) (h3 : ∀ d, d ∈ out ↔ d ∈ ds) : out = isort (nubD ds) := by
  have kk := keyed_use hk
  have al : ∀ d ∈ ds, ∀ e ∈ ds, PySem.W.alike d e = true := fun d hd e he => by
    have z := List.all_eq_true.mp hs d hd
    exact List.all_eq_true.mp z e he
  have nd : (nubD ds).Nodup := nubD_nodup fun d hd => by
    obtain ⟨k, hk⟩ := kk d hd
    exact eqv_self hk (al d hd d hd)
  refine List.Perm.eq_of_pairwise (le := fun d e => leD' d e = true) (fun d e hd he l1 l2 => ?_) h1 isort_sorted (((List.perm_ext_iff_of_nodup h2 nd).mpr fun d => (h3 d).trans (nubD_mem kk).symm).trans (isort_perm _).symm)
  have hd2 := (h3 d).mp hd
  have he2 : e ∈ ds := (nubD_mem kk).mp (isort_mem.mp he)
  obtain ⟨k, hk⟩ := kk d hd2
  obtain ⟨j, hj⟩ := kk e he2
  exact leD_anti hk hj (al d hd2 e he2) l1 l2
end DL
set_option maxRecDepth 100000
set_option maxHeartbeats 4000000
namespace DL
open PySem PySem.Spec PyProof.Rows L2
section
variable {X : Cx} {W : WX} {O Ol O' : List Nat}
def rSetG (K : PySem.W.Frag) (P : Program) (w : World) : List V → Hp → VK → Prop := fun xs H Q => ∃ (l : Addr) (vs : List V) (ds : List Dt), xs = [.ref l] ∧ (SqL K H l vs ∨ SqT K H l vs) ∧ DpAll K H vs ds ∧ (∀ d ∈ ds, ∃ ts, d = .tuple ts) ∧ keyed ds = true ∧ ds.length < 1228 ∧
  ∀ (a : Addr) (T : List Trp), H a = none → (∀ x ∈ T, (V.ref x.1, x.2.2) ∈ vs.zip ds ∧ keyN 7 x.2.2 = some x.2.1) → (∀ d ∈ ds, ∃ x ∈ T, x.2.2 = d) → (T.map fun x => x.2.2).Nodup → Q (.ref a) (upd H a (GO P w a (T.map fun x => (x.1, x.2.1))))
theorem keys_of {K : PySem.W.Frag} {H : Hp} : ∀ {vs : List V} {ds : List Dt}, DpAll K H vs ds → (∀ d ∈ ds, ∃ ts, d = .tuple ts) → keyed ds = true → ∃ ks : List Trp, vs = ks.map (fun x => V.ref x.1) ∧ ds = ks.map (fun x => x.2.2) ∧ ∀ x ∈ ks, keyN 7 x.2.2 = some x.2.1
  | _, [], .nil, _, _ => ⟨[], rfl, rfl, fun _ h => nomatch h⟩
  | _, d :: ds, .cons h t, hT, hk => by
    have hk' := keyed_use hk
    obtain ⟨k, e⟩ := hk' d List.mem_cons_self
    obtain ⟨ts, rfl⟩ := hT d List.mem_cons_self
    have kk : keyed ds = true := by
      unfold keyed at hk ⊢
      rw [List.all_cons, Bool.and_eq_true] at hk
      exact hk.2
    obtain ⟨ks, e1, e2, e3⟩ := keys_of t (fun d hd => hT d (List.mem_cons_of_mem _ hd)) kk
    cases h with
    | tup hs ha =>
      rename_i a xs
      exact ⟨(a, k, .tuple ts) :: ks, by rw [List.map_cons, e1], by rw [List.map_cons, e2], fun x hx => by
        rcases List.mem_cons.mp hx with rfl | hx
        · exact e
        · exact e3 x hx⟩
theorem refs_vals : ∀ {ks : List Trp} {us : List Value}, Vals (ks.map fun x => V.ref x.1) us → us = ks.map fun x => Value.ref x.1
  | [], _, .nil => rfl
  | _ :: _, _, .cons r t => by
    cases r
    rw [refs_vals t]
    rfl
theorem zip_map {ks : List Trp} {x : Trp} (h : x ∈ ks) : (V.ref x.1, x.2.2) ∈ (ks.map fun x => V.ref x.1).zip (ks.map fun x => x.2.2) := by
  induction ks with
  | nil => cases h
  | cons y ks ih =>
    rw [List.map_cons, List.map_cons, List.zip_cons_cons]
    rcases List.mem_cons.mp h with rfl | h
    · exact List.mem_cons_self
    · exact List.mem_cons_of_mem _ (ih h)
theorem dp_zip {K : PySem.W.Frag} {H : Hp} : ∀ {vs : List V} {ds : List Dt}, DpAll K H vs ds → ∀ v d, (v, d) ∈ vs.zip ds → Dp K H v d
  | _, _, .nil, v, d, h => by simp at h
  | _, _, .cons a b, v, d, h => by
    rw [List.zip_cons_cons] at h
    rcases List.mem_cons.mp h with e | h
    · cases e; exact a
    · exact dp_zip b v d h
/-- every entry of the set was an item -/
theorem pull_back : ∀ {ks : List Trp} {L : List (Addr × NestedKey)}, (∀ e ∈ L, e ∈ ks.map fun x => (x.1, x.2.1)) → ∃ T : List Trp, T.map (fun x => (x.1, x.2.1)) = L ∧ ∀ x ∈ T, x ∈ ks
  | _, [], _ => ⟨[], rfl, fun _ h => nomatch h⟩
  | ks, e :: L, h => by
    obtain ⟨T, h1, h2⟩ := pull_back (ks := ks) (L := L) fun e he => h e (List.mem_cons_of_mem _ he)
    obtain ⟨x, hx, rfl⟩ := List.mem_map.mp (h e List.mem_cons_self)
    exact ⟨x :: T, by rw [List.map_cons, h1], fun y hy => by
      rcases List.mem_cons.mp hy with rfl | hy
      · exact hx
      · exact h2 y hy⟩
theorem cr_setG (hc : X.calm = true) (hu : X.A.units + 64 < cLine) : CallR X (.type "set") (rSetG X.K X.prog X.w) := by
  intro pins s σ H xs us Q I r h
  obtain ⟨l, vs, ds, rfl, hl, hd, hT, hk, hf, q⟩ := h
  obtain ⟨ks, rfl, rfl, hkey⟩ := keys_of hd hT hk
  rw [Vals.ref1 r]
  have hn : H s.heap.objs.size = none := I.hok.fresh (Nat.le_refl _)
  rw [List.length_map] at hf
  have isK : ∀ us, Vals (ks.map fun x => V.ref x.1) us → ∀ e ∈ ks.map (fun x => (x.1, x.2.1)), (nestKind X.prog X.w).is s.heap e.2 e.1 := fun us rv e he => by
    obtain ⟨x, hx, rfl⟩ := List.mem_map.mp he
    have dp := dp_zip hd _ _ (zip_map hx)
    have ok := keyN_ok 7 _ _ (hkey x hx)
    exact ⟨nest_of I 7 _ _ _ _ dp rfl (hkey x hx), by
      have mono : ∀ (n : Nat) (k : NestedKey), kiOk n k = true → kiOk (n + 1) k = true := by
        intro n
        induction n with
        | zero => intro k hk; cases k <;> first | rfl | cases hk
        | succ n ih => intro k hk; cases k with
          | num _ => rfl
          | tup ks => exact kiOk_mk fun k h => ih k (kiOk_tup hk k h)
          | none => cases hk
          | text _ => cases hk
      exact mono 7 _ ok⟩
  have room : ∀ B : Around, B = X.A.in1.in1.in1 → (nestKind X.prog X.w).room B := fun B e => by
    subst e
    show X.A.units + 1 + 1 + 1 + 8 < cLine
    omega
  have fin : ∀ (h' : Heap) (tk : Nat) (L : List (Addr × NestedKey)) es ep t, SetG (nestKind X.prog X.w) h' s.heap.objs.size L es ep t → Has0 (ks.map fun x => (x.1, x.2.1)) (ks.map fun x => (x.1, x.2.1)).length L → (∀ b o, s.heap.get? b = some o → h'.get? b = some o) →
      ∃ x H', Inv X pins σ H' { s with heap := h', toks := tk } ∧ RelV x (.ref s.heap.objs.size) ∧ Q x H' := by
    intro h' tk L es ep t R g k
    obtain ⟨T, e1, e2⟩ := pull_back (ks := ks) (L := L) fun e he => by
      have := g.from_ e he
      exact List.mem_of_mem_take this
    subst e1
    refine ⟨.ref s.heap.objs.size, _, I.laid (t' := tk) (o := GO X.prog X.w s.heap.objs.size (T.map fun x => (x.1, x.2.1))) k (Nat.le_refl _) (GO_new R.g0), rfl, q _ T hn (fun x hx => ⟨zip_map (e2 x hx), hkey x (e2 x hx)⟩) (fun d hd2 => ?_) ?_⟩
    · obtain ⟨x, hx, rfl⟩ := List.mem_map.mp hd2
      have z := g.each (x.1, x.2.1) (by rw [List.take_length]; exact List.mem_map.mpr ⟨x, hx, rfl⟩)
      obtain ⟨e, he, e3⟩ := List.mem_map.mp z
      obtain ⟨y, hy, rfl⟩ := List.mem_map.mp he
      refine ⟨y, hy, keyN_inj 7 _ _ x.2.1 ?_ (hkey x hx)⟩
      rw [hkey y (e2 y hy)]
      exact congrArg some e3
    · have once := R.once
      rw [List.map_map] at once
      refine List.pairwise_map.mpr (List.Pairwise.imp_of_mem (fun {x y} hx hy hne e => hne ?_) (List.pairwise_map.mp once))
      have a1 := hkey x (e2 x hx)
      have a2 := hkey y (e2 y hy)
      rw [e, a2] at a1
      exact (Option.some.inj a1).symm
  rcases hl with hl | hl
  · obtain ⟨its, rv, pl, hz⟩ := I.list hl
    exact set_of_list (kd := nestKind X.prog X.w) (ks.map fun x => (x.1, x.2.1)) (I.ok.hd hc) pl.isList (by rw [List.map_map]; exact refs_vals rv) (isK its rv) (by rw [List.length_map]; exact hf) (room _ rfl) fun h' tk L es ep t R g k => fin h' tk L es ep t R g k
  · obtain ⟨its, rv, pl, hz⟩ := I.tuple hl
    exact set_of_tuple (kd := nestKind X.prog X.w) (ks.map fun x => (x.1, x.2.1)) (I.ok.hd hc) pl (by rw [List.map_map]; exact refs_vals rv) (isK its rv) (by rw [List.length_map]; exact hf) (room _ rfl) fun h' tk L es ep t R g k => fin h' tk L es ep t R g k
end
end DL
set_option maxRecDepth 100000
set_option maxHeartbeats 4000000
namespace DL
open PySem PySem.Spec PyProof.Rows L2
theorem srtOk_sub {ds es : List Dt} (h : srtOk ds = true) (hs : ∀ d ∈ es, d ∈ ds) : srtOk es = true := by
  unfold srtOk allAlike at h ⊢
  simp only [Bool.and_eq_true, List.all_eq_true, Bool.or_eq_true] at h ⊢
  obtain ⟨⟨h1, h2⟩, h3⟩ := h
  exact ⟨⟨fun d hd e he => h1 d (hs d hd) e (hs e he), h2.elim (fun z => .inl fun d hd => z d (hs d hd)) fun z => .inr fun d hd => z d (hs d hd)⟩, fun d hd => h3 d (hs d hd)⟩
section
variable {X : Cx} {W : WX} {O Ol O' : List Nat}
def rSortG (K : PySem.W.Frag) (P : Program) (w : World) : List V → Hp → VK → Prop := fun xs H Q => ∃ (a : Addr) (T : List Trp), xs = [.ref a] ∧ H a = some (GO P w a (T.map fun x => (x.1, x.2.1))) ∧ (∀ x ∈ T, Dp K H (.ref x.1) x.2.2 ∧ keyN 7 x.2.2 = some x.2.1) ∧ srtOk (T.map fun x => x.2.2) = true ∧
  ∀ (T' : List Trp) (p : Addr), T'.Perm T → (T'.map fun x => x.2.2).Pairwise (fun d e => leD' d e = true) → T'.length < 1228 → H p = none → Q (.ref p) (upd H p (.lst (T'.map fun x => V.ref x.1)))
theorem kiOk_up : ∀ (n : Nat) (k : NestedKey), kiOk n k = true → kiOk (n + 1) k = true
  | 0, .num _, _ => rfl
  | n + 1, .num _, _ => rfl
  | n + 1, .tup ks, h => kiOk_mk fun k hk => kiOk_up n k (kiOk_tup h k hk)
  | 0, .tup _, h => by cases h
  | 0, .none, h => by cases h
  | 0, .text _, h => by cases h
  | n + 1, .none, h => by cases h
  | n + 1, .text _, h => by cases h
theorem vals_refs : ∀ (T : List Trp), Vals (T.map fun x => V.ref x.1) (T.map fun x => Value.ref x.1)
  | [] => .nil
  | _ :: T => .cons rfl (vals_refs T)
theorem cr_sortG (hc : X.calm = true) (hu : X.A.units + 64 < cLine) : CallR X (.builtin "sorted") (rSortG X.K X.prog X.w) := by
  intro pins s σ H xs us Q I r h
  obtain ⟨a, T, rfl, ha, hT, hk, q⟩ := h
  have R0 : G0 X.prog X.w s.heap a (T.map fun x => (x.1, x.2.1)) := (I.hok a _ ha).1
  obtain ⟨es, ep, t, R⟩ := R0.full fun e he => by
    obtain ⟨x, hx, rfl⟩ := List.mem_map.mp he
    exact ⟨nest_of I 7 _ _ _ _ (hT x hx).1 rfl (hT x hx).2, kiOk_up 7 _ (keyN_ok 7 _ _ (hT x hx).2)⟩
  rw [Vals.ref1 r]
  refine sortedG (n := 7) R (I.ok.hd hc) (fun x hx => Dp.reads I _ _ _ (hT x hx).1 rfl) (fun x hx => (hT x hx).2) hk (by omega) fun s2 p out c T' old g1 o1 hp hg hout pm pw => ?_
  have few : T'.length < 1228 := by
    have := R.few
    rw [List.length_map] at this
    rw [pm.length_eq]; exact this
  have hlen : (T'.map fun x => V.ref x.1).length ≤ sizeLine := by rw [List.length_map, sizeLine_eq]; omega
  have hn : H p = none := I.hok.fresh hp
  have hv : Vals (T'.map fun x => V.ref x.1) out.toList := by rw [hout]; exact vals_refs T'
  have J : Inv X pins σ (upd H p (.lst (T'.map fun x => V.ref x.1))) { s with heap := s2.heap, gens := s2.gens, drawn := s2.drawn, toks := s2.toks } :=
    I.call (ch := []) (Un.laid old hp hn) (I.hok.laid old hp ⟨hlen, out.toList, c, hv, hg⟩) (by rw [g1]; exact I.bare) (fun _ z => nomatch z)
  have e2 : s2 = { s with heap := s2.heap, gens := s2.gens, drawn := s2.drawn, toks := s2.toks } := by
    cases s2; cases s; cases o1; rfl
  rw [e2]
  exact ⟨.ref p, _, J, rfl, q T' p pm pw few hn⟩
def isTup0 : Dt → Bool
  | .tuple _ => true
  | _ => false
def setOk (ds : List Dt) : Bool := ds.all isTup0 && keyed ds && decide (ds.length < 1228) && srtOk ds
def setSortD : List Sl → Option Dt
  | [.d (.list ds)] => if setOk ds = true then some (.list (isort (nubD ds))) else none
  | [.d (.tuple ds)] => if setOk ds = true then some (.list (isort (nubD ds))) else none
  | _ => none
theorem setOk_use {ds : List Dt} (h : setOk ds = true) : (∀ d ∈ ds, ∃ ts, d = .tuple ts) ∧ keyed ds = true ∧ ds.length < 1228 ∧ srtOk ds = true := by
  unfold setOk at h
  simp only [Bool.and_eq_true, List.all_eq_true, decide_eq_true_eq] at h
  obtain ⟨⟨⟨h1, h2⟩, h3⟩, h4⟩ := h
  refine ⟨fun d hd => ?_, h2, h3, h4⟩
  have := h1 d hd
  unfold isTup0 at this
  split at this
  · exact ⟨_, rfl⟩
  · cases this
theorem srtOk_alike {ds : List Dt} (h : srtOk ds = true) : allAlike ds = true := by
  unfold srtOk at h
  simp only [Bool.and_eq_true] at h
  exact h.1.1
theorem de_sortedSet {e : Expr} {f : EnvD → Mo (List Sl)} {p p2 pos pos2} {k : Nat} (hr : Room k X.A) (hcm : X.calm = true) (hm : X.mg "sorted" = none) (hm2 : X.mg "set" = none) (ha : DA X W O [e] f) (hg : Gl X "sorted" := by rfl) (hg2 : Gl X "set" := by rfl)
    (he2 : starEach [e] X.env = (false, eval e X.env) :: starEach [] X.env := by rfl) (hpl : (backTo pos2 (starEach [] X.env)).any (·.1) = false := by rfl) (hpl2 : (backTo pos (starEach [] X.env)).any (·.1) = false := by rfl)
    (he3 : starEach [.Call (.Name "set" p2) [e] [] pos2] X.env = (false, eval (.Call (.Name "set" p2) [e] [] pos2) X.env) :: starEach [] X.env := by rfl) : DE X W O (.Call (.Name "sorted" p) [.Call (.Name "set" p2) [e] [] pos2] [] pos) (mThen f setSortD) := by
  obtain ⟨t, h1, h2⟩ := ha
  refine ⟨_, pe_callB (cr_sortG hcm hr.units) hg hm PyProof.Rows.boot_sorted (pa_cons (pe_callTy (cr_setG hcm hr.units) hg2 hm2 PyProof.Rows.boot_set h1 (by decide) (by decide) he2 hpl) pa_nil he3) (by decide) (by decide) he3 hpl2, fun B H0 G0 σ H G ρ b Q r b' I ee pp => ?_⟩
  unfold mThen at ee
  rcases mBind_some ee with ⟨er, q1, rfl⟩ | ⟨ss, b1, q1, ee⟩
  · exact h2 B H0 G0 σ H G ρ b _ _ _ I q1 pp
  obtain ⟨c, hc, rfl, rfl⟩ := mOpt_some ee
  refine h2 B H0 G0 σ H G ρ b _ _ _ I q1 fun xs H1 G1 s1 rv => ?_
  have main : ∀ (l : Addr) (vs : List V) (ds : List Dt), xs = [.ref l] → (G1 l = some (.lst vs) ∨ G1 l = some (.tup vs)) → RpAll G1 vs ds → setOk ds = true → c = .list (isort (nubD ds)) →
      rSetG X.K X.prog X.w xs H1 fun v H2 => rSortG X.K X.prog X.w [v] H2 Q := by
    intro l vs ds hx hl ra hk hcc
    obtain ⟨k1, k2, k3, k4⟩ := setOk_use hk
    refine ⟨l, vs, ds, hx, hl.imp (fun z => SqL.of (s1.sub _ _ z)) (fun z => SqT.of (s1.sub _ _ z)), ra.dp s1.sub, k1, k2, k3, fun a T hn hT hcov hnd => ?_⟩
    have in_ds : ∀ x ∈ T, x.2.2 ∈ ds := fun x hx => (List.of_mem_zip (hT x hx).1).2
    have st2 := Stp.addH (o := GO X.prog X.w a (T.map fun x => (x.1, x.2.1))) s1.sub s1.box hn
    refine ⟨a, T, rfl, upd_same, fun x hx => ⟨(ra.of_zip _ _ (hT x hx).1).dp st2.sub, (hT x hx).2⟩, srtOk_sub k4 (fun d hd => by
      obtain ⟨x, hx, rfl⟩ := List.mem_map.mp hd
      exact in_ds x hx), fun T' p pm pw few hp => ?_⟩
    have st3 := Stp.add (o := .lst (T'.map fun x => V.ref x.1)) st2.sub st2.box hp
    refine pp _ _ _ (s1.trans (st2.trans st3)) ?_
    subst hcc
    have eq : (T'.map fun x => x.2.2) = isort (nubD ds) := sorted_set_eq k2 (srtOk_alike k4) pw ((pm.map fun x => x.2.2).nodup_iff.mpr hnd) fun d => by
      constructor
      · intro hd
        obtain ⟨x, hx, rfl⟩ := List.mem_map.mp hd
        exact in_ds x (pm.mem_iff.mp hx)
      · intro hd
        obtain ⟨x, hx, rfl⟩ := hcov d hd
        exact List.mem_map.mpr ⟨x, pm.mem_iff.mpr hx, rfl⟩
    rw [← eq]
    have rp : ∀ T2 : List Trp, (∀ x ∈ T2, x ∈ T) → RpAll G1 (T2.map fun x => V.ref x.1) (T2.map fun x => x.2.2) := by
      intro T2
      induction T2 with
      | nil => intro _; exact .nil
      | cons x T2 ih => intro hx; exact .cons (ra.of_zip _ _ (hT x (hx x List.mem_cons_self)).1) (ih fun y hy => hx y (List.mem_cons_of_mem _ hy))
    exact .lst upd_same (by rw [List.length_map, sizeLine_eq]; omega) ((rp T' fun x hx => pm.mem_iff.mp hx).mono st3.grow)
  unfold setSortD at hc
  split at hc
  · rename_i ds
    by_cases hk : setOk ds = true
    · rw [if_pos hk] at hc
      cases hc
      obtain ⟨v, rfl, rw'⟩ := rv.one
      obtain ⟨a, vs, rfl, k1, k2, k3⟩ := rw'.inv_list
      exact main a vs ds rfl (.inl k1) k3 hk rfl
    · rw [if_neg hk] at hc; cases hc
  · rename_i ds
    by_cases hk : setOk ds = true
    · rw [if_pos hk] at hc
      cases hc
      obtain ⟨v, rfl, rw'⟩ := rv.one
      obtain ⟨a, vs, rfl, k1, k2, k3⟩ := rw'.inv_tup
      exact main a vs ds rfl (.inr k1) k3 hk rfl
    · rw [if_neg hk] at hc; cases hc
  · cases hc
end
end DL
set_option maxRecDepth 100000
set_option maxHeartbeats 4000000
namespace DL
open PySem PySem.Spec PyProof.Rows L2
section
variable {P : Program} {w : World} {A : Around} {E : Value → Shared → Prop} {s : Shared}
set_option maxRecDepth 100000 in
set_option maxHeartbeats 8000000 in
theorem set_of_ints {l : Addr} {items : Array Value} (ns : List Int) {Q : Value → Shared → Prop} (hh : A.handled = none) (hl : s.heap.IsList l items) (hit : IntsAre items.toList ns) (hb : ns.length + 1 < scanBound)
    (q : ∀ (h' : Heap) (tk c : Nat), SetR w h' s.heap.objs.size (fun j => decide (j ∈ ns)) c → c ≤ ns.length → (∀ b o, s.heap.get? b = some o → h'.get? b = some o) → Q (.ref s.heap.objs.size) { s with heap := h', toks := tk }) : wpAny (model P w) A (call (.type "set") [.ref l]) Q E s := by
  have hc : items.size = ns.length := by rw [← Array.length_toList]; exact IntsAre.length hit
  obtain ⟨c, tl, hmro⟩ := F.called_set.mro
  have f_made := F.called_set.made
  have f_sub := F.called_set.sub
  refine (wpAny_call (codeAny_of_tree ?_))
  show wpAny _ _ (callAny (.type "set") _) _ _ _
  refine (wpAny_pure ⟨Code.quiet_builtin _ (by decide +kernel), codeAny_builtin F.entry_type_call ?_⟩)
  rw [Around.under_plain (weight_type_call_type "set" [.ref l] []) rfl]
  have f_no := F.called_set.notType
  have f_can := F.called_set.canCreate
  have f_call := F.typeCall_set_1 (.ref l)
  repeat (any_goals (first | assumption | wp_step))
  refine codeAny_mono (code_set_led1 (.ref l) (E := E) (Q₁ := fun obj s1 => obj = .ref s.heap.objs.size ∧ s1 = { s with heap := s.heap.push (newSet w) }) ⟨rfl, rfl⟩) fun r s1 hr => ?_
  cases r with
  | error e => exact hr
  | ok fl =>
    cases fl with
    | ret obj =>
      obtain ⟨rfl, rfl⟩ := hr
      have atS : (s.heap.push (newSet w)).get? s.heap.objs.size = some (newSet w) := Heap.get?_push_size _ rfl
      have isS : Shared.TypeIs { s with heap := s.heap.push (newSet w) } (.ref s.heap.objs.size) "set" := ⟨_, atS, rfl⟩
      have f_look := F.called_set.init.lookup
      have f_bind := F.called_set.init.bind (.ref s.heap.objs.size)
      repeat (any_goals (first | assumption | wp_step))
      refine codeAny_mono (codeAny_call_builtin (R := wants (fun r s2 => r = .none ∧ ∃ h' tk c, s2 = { s with heap := h', toks := tk } ∧ SetR w h' s.heap.objs.size (fun j => decide (j ∈ ns)) c ∧ c ≤ ns.length ∧ (∀ b o, s.heap.get? b = some o → h'.get? b = some o)) E) F.called_set.init.plain F.entry_set_init (check_set_init_1 isS ?_)) fun r2 s2 hr2 => ?_
      · obtain ⟨⟨cl0, di0, da0, sl0⟩, hol, hcl, nl, hdl⟩ := hl
        dsimp only at hcl hdl
        subst hcl; subst hdl
        have hol1 : (s.heap.push (newSet w)).get? l = some { cls := .type "list", dict := di0, data := .seq items nl, slots := sl0 } := Heap.get?_push_of_some _ hol
        have f_s1 := F.sub_list_set
        have f_s2 := F.sub_list_frozenset
        have f_ne : (Value.type "list" == Value.type "dict") = false := by decide
        have hl1 : (s.heap.push (newSet w)).IsList l items := ⟨_, hol1, rfl, nl, rfl⟩
        unfold Builtin.«set.__init__» noKeywords Builtin.Frozenset.updateFrom
        generalize hPI : pyIter = PI
        wp_walk
        subst hPI
        refine wpAny_pyIter_list hl1 ?_
        refine (wpAny_bind (wpAny_runValue ?_))
        have old : l < s.heap.objs.size := Heap.lt_size hol
        have hh3 : A.in1.in1.in1.handled = none := by simp [hh]
        have sz1 : (s.heap.push (newSet w)).objs.size = s.heap.objs.size + 1 := Heap.size_push ..
        have fresh1 : l ≠ (s.heap.push (newSet w)).objs.size := by rw [sz1]; exact Nat.ne_of_lt (Nat.lt_succ_of_lt old)
        refine set_update_ints (Walks.list hh3 (s.heap.push (newSet w)).objs.size l fresh1 items).toS s.heap.objs.size (by rw [sz1]; simp only [List.mem_cons, List.not_mem_nil, or_false, not_or]; exact ⟨Nat.ne_of_lt (Nat.lt_succ_self _), Nat.ne_of_gt old⟩) ns hc hb (fun i v hv => ?_) (items.size - 0) 0 _ (by omega) (Nat.zero_le _)
          ⟨⟨_, Heap.get?_push_size _ rfl, rfl, rfl⟩, hl1.push _⟩ ⟨0, Nat.le_refl 0, setR_new_at (Heap.get?_push_of_some _ atS)⟩ fun s3 c3 hm hc3 hS => ?_
        · have hi : i < ns.length := by rw [← hc]; exact (Array.getElem?_eq_some_iff.mp hv).1
          obtain ⟨t, e⟩ := PyProof.Rows.IntsAre.int_at hit i v (by rw [Array.getElem?_toList]; exact hv)
          refine ⟨ns[i], t, List.getElem?_eq_getElem hi, ?_⟩
          rw [e, List.getD_eq_getElem?_getD, List.getElem?_eq_getElem hi]
          rfl
        · obtain ⟨h3, g3, d3, tk3, os3⟩ := s3
          obtain rfl : g3 = s.gens := hm.gens
          obtain rfl : d3 = s.drawn := hm.drawn
          obtain rfl : os3 = s.os := hm.os
          refine (wpAny_pure ?_)
          rw [hc] at hc3
          refine wpAny_pure ⟨rfl, h3, tk3, c3, rfl, hS, hc3, fun b o e => ?_⟩
          have b0 : b < s.heap.objs.size := Heap.lt_size e
          refine hm.heap b o ?_ (Heap.get?_push_of_some _ (Heap.get?_push_of_some _ e))
          rw [sz1]
          simp only [List.mem_cons, List.not_mem_nil, or_false, not_or]
          exact ⟨Nat.ne_of_lt b0, Nat.ne_of_lt (Nat.lt_succ_of_lt b0)⟩
      · cases r2 with
        | error e => exact hr2
        | ok fl2 =>
          cases fl2 with
          | ret r =>
            obtain ⟨rfl, h3, tk3, c3, rfl, hS, g, hkp⟩ := hr2
            repeat (any_goals (first | assumption | wp_step))
            exact q _ _ _ hS g hkp
          | _ => exact hr2.elim
    | _ => exact hr.elim

end
end DL
set_option maxRecDepth 100000
set_option maxHeartbeats 4000000
namespace DL
open PySem PySem.Spec PyProof.Rows L2
section
variable {X : Cx} {W : WX} {O Ol O' : List Nat}
def rSetI (K : PySem.W.Frag) (w : World) : List V → Hp → VK → Prop := fun xs H Q => ∃ (l : Addr) (ns : List Int), xs = [.ref l] ∧ (SqL K H l (ns.map V.int) ∨ SqT K H l (ns.map V.int)) ∧ ns.length < 64 ∧ ∀ (a : Addr) (c : Nat), H a = none → c ≤ ns.length → Q (.ref a) (upd H a (SetO w a (fun j => decide (j ∈ ns)) c))
theorem cr_setI (hc : X.calm = true) : CallR X (.type "set") (rSetI X.K X.w) := by
  intro pins s σ H xs us Q I r h
  obtain ⟨l, ns, rfl, hl, hf, q⟩ := h
  rw [Vals.ref1 r]
  have hn : H s.heap.objs.size = none := I.hok.fresh (Nat.le_refl _)
  have few : ns.length + 1 < scanBound := by unfold scanBound; omega
  rcases hl with hl | hl
  · obtain ⟨its, rv, pl, hz⟩ := I.list hl
    exact set_of_ints ns (I.ok.hd hc) pl.isList (by simpa using rv.ints) few fun h' tk c R hc' k => ⟨.ref _, upd H s.heap.objs.size (SetO X.w s.heap.objs.size (fun j => decide (j ∈ ns)) c), I.laid (t' := tk) k (Nat.le_refl _) (setO_new R), rfl, q _ c hn hc'⟩
  · obtain ⟨its, rv, pl, hz⟩ := I.tuple hl
    exact call_set_tupI ns (I.ok.hd hc) pl (by simpa using rv.ints) few fun h' tk c R hc' k => ⟨.ref _, upd H s.heap.objs.size (SetO X.w s.heap.objs.size (fun j => decide (j ∈ ns)) c), I.laid (t' := tk) k (Nat.le_refl _) (setO_new R), rfl, q _ c hn hc'⟩
theorem CallR.or2 {f : Value} {r r' : List V → Hp → VK → Prop} (h : CallR X f r) (h' : CallR X f r') : CallR X f (fun xs H Q => r xs H Q ∨ r' xs H Q) := by
  intro pins s σ H xs us Q I rv hh
  rcases hh with hh | hh
  · exact h pins s σ H xs us Q I rv hh
  · exact h' pins s σ H xs us Q I rv hh
def setSortI : List Sl → Option Dt
  | [.d (.list ds)] => match intsOf ds with
    | some ns => if ns.length < 64 then some (.list (isort (nubD ds))) else none
    | none => none
  | [.d (.tuple ds)] => match intsOf ds with
    | some ns => if ns.length < 64 then some (.list (isort (nubD ds))) else none
    | none => none
  | _ => none
theorem keyN_ints (n : Nat) (i : Int) : keyN n (.int i) = some (.num i) := by cases n <;> rfl
theorem sorted_ints_eq {ns ms : List Int} (h1 : ms.Pairwise (· < ·)) (h2 : ∀ k, k ∈ ms ↔ k ∈ ns) : ms.map PyData.int = isort (nubD (ns.map PyData.int)) := by
  refine sorted_set_eq (List.all_eq_true.mpr fun d hd => ?_) (List.all_eq_true.mpr fun d hd => List.all_eq_true.mpr fun e he => ?_) (List.pairwise_map.mpr (h1.imp fun {i j} hij => ?_)) (List.pairwise_map.mpr (h1.imp fun {i j} hij e => ?_)) fun d => ?_
  · obtain ⟨i, _, rfl⟩ := List.mem_map.mp hd
    rw [keyN_ints]
    rfl
  · obtain ⟨i, _, rfl⟩ := List.mem_map.mp hd
    obtain ⟨j, _, rfl⟩ := List.mem_map.mp he
    rfl
  · have z := PySem.W.dataLt_int j i
    show leD' (.int i) (.int j) = true
    have e : leD' (.int i) (.int j) = !PySem.W.dataLt (.int j) (.int i) := rfl
    rw [e, z]
    simp
    omega
  · cases e
    omega
  · constructor
    · intro h
      obtain ⟨i, hi, rfl⟩ := List.mem_map.mp h
      exact List.mem_map.mpr ⟨i, (h2 i).mp hi, rfl⟩
    · intro h
      obtain ⟨i, hi, rfl⟩ := List.mem_map.mp h
      exact List.mem_map.mpr ⟨i, (h2 i).mpr hi, rfl⟩
def ssetD (ss : List Sl) : Option Dt := (setSortI ss).or (setSortD ss)
theorem de_sset {e : Expr} {f : EnvD → Mo (List Sl)} {p p2 pos pos2} {k : Nat} (hr : Room k X.A) (hcm : X.calm = true) (hm : X.mg "sorted" = none) (hm2 : X.mg "set" = none) (ha : DA X W O [e] f) (hg : Gl X "sorted" := by rfl) (hg2 : Gl X "set" := by rfl)
    (he2 : starEach [e] X.env = (false, eval e X.env) :: starEach [] X.env := by rfl) (hpl : (backTo pos2 (starEach [] X.env)).any (·.1) = false := by rfl) (hpl2 : (backTo pos (starEach [] X.env)).any (·.1) = false := by rfl)
    (he3 : starEach [.Call (.Name "set" p2) [e] [] pos2] X.env = (false, eval (.Call (.Name "set" p2) [e] [] pos2) X.env) :: starEach [] X.env := by rfl) : DE X W O (.Call (.Name "sorted" p) [.Call (.Name "set" p2) [e] [] pos2] [] pos) (mThen f ssetD) := by
  obtain ⟨t, h1, h2⟩ := ha
  refine ⟨_, pe_callB (CallR.or2 (cr_sortG hcm hr.units) (cr_sortedSet hcm)) hg hm PyProof.Rows.boot_sorted (pa_cons (pe_callTy (CallR.or2 (cr_setG hcm hr.units) (cr_setI hcm)) hg2 hm2 PyProof.Rows.boot_set h1 (by decide) (by decide) he2 hpl) pa_nil he3) (by decide) (by decide) he3 hpl2, fun B H0 G0 σ H G ρ b Q r b' I ee pp => ?_⟩
  unfold mThen at ee
  rcases mBind_some ee with ⟨er, q1, rfl⟩ | ⟨ss, b1, q1, ee⟩
  · exact h2 B H0 G0 σ H G ρ b _ _ _ I q1 pp
  obtain ⟨c, hc, rfl, rfl⟩ := mOpt_some ee
  refine h2 B H0 G0 σ H G ρ b _ _ _ I q1 fun xs H1 G1 s1 rv => ?_
  have caseI : ∀ (l : Addr) (vs : List V) (ds : List Dt) (ns : List Int), xs = [.ref l] → (G1 l = some (.lst vs) ∨ G1 l = some (.tup vs)) → RpAll G1 vs ds → intsOf ds = some ns → ns.length < 64 → c = .list (isort (nubD ds)) →
      rSetI X.K X.w xs H1 fun v H2 => rSortedSet X.w [v] H2 Q := by
    intro l vs ds ns hx hl ra hi hf hcc
    have hds := intsOf_eq hi
    subst hds
    have hv := ra.ints
    subst hv
    refine ⟨l, ns, hx, hl.imp (fun z => SqL.of (s1.sub _ _ z)) (fun z => SqT.of (s1.sub _ _ z)), hf, fun a n hn hc' => ?_⟩
    have st2 := Stp.addH (o := SetO X.w a (fun j => decide (j ∈ ns)) n) s1.sub s1.box hn
    refine ⟨a, _, n, rfl, upd_same, by omega, fun ms p pw hmem hlen hp => ?_⟩
    have st3 := Stp.add (o := .lst (ms.map V.int)) st2.sub st2.box hp
    refine pp _ _ _ (s1.trans (st2.trans st3)) ?_
    subst hcc
    rw [← sorted_ints_eq (ns := ns) pw fun k => (hmem k).trans (by simp)]
    exact .lst upd_same (by rw [List.length_map, hlen, sizeLine_eq]; omega) (RpAll.of_ints ms)
  have caseT : ∀ (l : Addr) (vs : List V) (ds : List Dt), xs = [.ref l] → (G1 l = some (.lst vs) ∨ G1 l = some (.tup vs)) → RpAll G1 vs ds → setOk ds = true → c = .list (isort (nubD ds)) →
      rSetG X.K X.prog X.w xs H1 fun v H2 => rSortG X.K X.prog X.w [v] H2 Q := by
    intro l vs ds hx hl ra hk hcc
    obtain ⟨k1, k2, k3, k4⟩ := setOk_use hk
    refine ⟨l, vs, ds, hx, hl.imp (fun z => SqL.of (s1.sub _ _ z)) (fun z => SqT.of (s1.sub _ _ z)), ra.dp s1.sub, k1, k2, k3, fun a T hn hT hcov hnd => ?_⟩
    have in_ds : ∀ x ∈ T, x.2.2 ∈ ds := fun x hx => (List.of_mem_zip (hT x hx).1).2
    have st2 := Stp.addH (o := GO X.prog X.w a (T.map fun x => (x.1, x.2.1))) s1.sub s1.box hn
    refine ⟨a, T, rfl, upd_same, fun x hx => ⟨(ra.of_zip _ _ (hT x hx).1).dp st2.sub, (hT x hx).2⟩, srtOk_sub k4 (fun d hd => by
      obtain ⟨x, hx, rfl⟩ := List.mem_map.mp hd
      exact in_ds x hx), fun T' p pm pw few hp => ?_⟩
    have st3 := Stp.add (o := .lst (T'.map fun x => V.ref x.1)) st2.sub st2.box hp
    refine pp _ _ _ (s1.trans (st2.trans st3)) ?_
    subst hcc
    have eq : (T'.map fun x => x.2.2) = isort (nubD ds) := sorted_set_eq k2 (srtOk_alike k4) pw ((pm.map fun x => x.2.2).nodup_iff.mpr hnd) fun d => by
      constructor
      · intro hd
        obtain ⟨x, hx, rfl⟩ := List.mem_map.mp hd
        exact in_ds x (pm.mem_iff.mp hx)
      · intro hd
        obtain ⟨x, hx, rfl⟩ := hcov d hd
        exact List.mem_map.mpr ⟨x, pm.mem_iff.mpr hx, rfl⟩
    rw [← eq]
    have rp : ∀ T2 : List Trp, (∀ x ∈ T2, x ∈ T) → RpAll G1 (T2.map fun x => V.ref x.1) (T2.map fun x => x.2.2) := by
      intro T2
      induction T2 with
      | nil => intro _; exact .nil
      | cons x T2 ih => intro hx; exact .cons (ra.of_zip _ _ (hT x (hx x List.mem_cons_self)).1) (ih fun y hy => hx y (List.mem_cons_of_mem _ hy))
    exact .lst upd_same (by rw [List.length_map, sizeLine_eq]; omega) ((rp T' fun x hx => pm.mem_iff.mp hx).mono st3.grow)
  have imp : ∀ {r1 r2 : V → Hp → Prop}, (∀ v H2, r1 v H2 → r2 v H2) → (rSetG X.K X.prog X.w xs H1 r1 → rSetG X.K X.prog X.w xs H1 r2) ∧ (rSetI X.K X.w xs H1 r1 → rSetI X.K X.w xs H1 r2) := fun {r1 r2} hi =>
    ⟨fun ⟨l, vs, ds, a1, a2, a3, a4, a5, a6, a7⟩ => ⟨l, vs, ds, a1, a2, a3, a4, a5, a6, fun a T b1 b2 b3 b4 => hi _ _ (a7 a T b1 b2 b3 b4)⟩, fun ⟨l, ns, a1, a2, a3, a4⟩ => ⟨l, ns, a1, a2, a3, fun a n b1 b2 => hi _ _ (a4 a n b1 b2)⟩⟩
  show rSetG X.K X.prog X.w xs H1 (fun v H2 => rSortG X.K X.prog X.w [v] H2 Q ∨ rSortedSet X.w [v] H2 Q) ∨ rSetI X.K X.w xs H1 (fun v H2 => rSortG X.K X.prog X.w [v] H2 Q ∨ rSortedSet X.w [v] H2 Q)
  have goI : ∀ (l : Addr) (vs : List V) (ds : List Dt) (ns : List Int), xs = [.ref l] → (G1 l = some (.lst vs) ∨ G1 l = some (.tup vs)) → RpAll G1 vs ds → intsOf ds = some ns → ns.length < 64 → c = .list (isort (nubD ds)) →
      rSetG X.K X.prog X.w xs H1 (fun v H2 => rSortG X.K X.prog X.w [v] H2 Q ∨ rSortedSet X.w [v] H2 Q) ∨ rSetI X.K X.w xs H1 (fun v H2 => rSortG X.K X.prog X.w [v] H2 Q ∨ rSortedSet X.w [v] H2 Q) := fun l vs ds ns a1 a2 a3 a4 a5 a6 => .inr ((imp fun v H2 z => .inr z).2 (caseI l vs ds ns a1 a2 a3 a4 a5 a6))
  have goT : ∀ (l : Addr) (vs : List V) (ds : List Dt), xs = [.ref l] → (G1 l = some (.lst vs) ∨ G1 l = some (.tup vs)) → RpAll G1 vs ds → setOk ds = true → c = .list (isort (nubD ds)) →
      rSetG X.K X.prog X.w xs H1 (fun v H2 => rSortG X.K X.prog X.w [v] H2 Q ∨ rSortedSet X.w [v] H2 Q) ∨ rSetI X.K X.w xs H1 (fun v H2 => rSortG X.K X.prog X.w [v] H2 Q ∨ rSortedSet X.w [v] H2 Q) := fun l vs ds a1 a2 a3 a4 a5 => .inl ((imp fun v H2 z => .inl z).1 (caseT l vs ds a1 a2 a3 a4 a5))
  unfold ssetD at hc
  cases hI : setSortI ss with
  | some c' =>
    rw [hI] at hc
    cases hc
    unfold setSortI at hI
    split at hI
    · rename_i ds
      obtain ⟨v, rfl, rw'⟩ := rv.one
      obtain ⟨a, vs, rfl, k1, k2, k3⟩ := rw'.inv_list
      split at hI
      · rename_i ns hns
        by_cases hf : ns.length < 64
        · rw [if_pos hf] at hI
          cases hI
          exact goI a vs ds ns rfl (.inl k1) k3 hns hf rfl
        · rw [if_neg hf] at hI; cases hI
      · cases hI
    · rename_i ds
      obtain ⟨v, rfl, rw'⟩ := rv.one
      obtain ⟨a, vs, rfl, k1, k2, k3⟩ := rw'.inv_tup
      split at hI
      · rename_i ns hns
        by_cases hf : ns.length < 64
        · rw [if_pos hf] at hI
          cases hI
          exact goI a vs ds ns rfl (.inr k1) k3 hns hf rfl
        · rw [if_neg hf] at hI; cases hI
      · cases hI
    · cases hI
  | none =>
    rw [hI] at hc
    simp only [Option.none_or] at hc
    unfold setSortD at hc
    split at hc
    · rename_i ds
      by_cases hk : setOk ds = true
      · rw [if_pos hk] at hc
        cases hc
        obtain ⟨v, rfl, rw'⟩ := rv.one
        obtain ⟨a, vs, rfl, k1, k2, k3⟩ := rw'.inv_list
        exact goT a vs ds rfl (.inl k1) k3 hk rfl
      · rw [if_neg hk] at hc; cases hc
    · rename_i ds
      by_cases hk : setOk ds = true
      · rw [if_pos hk] at hc
        cases hc
        obtain ⟨v, rfl, rw'⟩ := rv.one
        obtain ⟨a, vs, rfl, k1, k2, k3⟩ := rw'.inv_tup
        exact goT a vs ds rfl (.inr k1) k3 hk rfl
      · rw [if_neg hk] at hc; cases hc
    · cases hc
end
end DL
set_option maxRecDepth 100000
set_option maxHeartbeats 2000000
namespace DL
open PySem PySem.Spec PyProof.Rows L2
/-- x is an own error class with one field f, set by its __init__ -/
def HasX (P : Program) (w : World) (K : PySem.W.Frag) (mg : Mg) (base : Heap) (x : Str) (k : Nat) (f : Str) : Prop :=
  ∃ (C fI : Addr) (fd : FuncData) (ps : List Str) (bmB : List Value) (Bn newId initId : String), ExcBaseFacts Bn newId initId bmB ∧ ExcX K mg x C fI f bmB newId ∧ FnOk P w K mg base (L2.CX P w) k fI fd ps (spIn C f) ∧ Binds K fd ps []
section
variable {X : Cx} {W : WX} {O Ol O' : List Nat}
theorem dst_raiseH {e : Expr} {fe : EnvD → Mo Dt} {f x : Str} {p pos pos2 : Pos} {k k' : Nat} (h : HasX X.prog X.w X.K X.mg X.base x k f) (hr : Room k' X.A) (hc : X.calm = true) (tk : Takes X W) (ha : DE X W O e fe) (hk : k + 1 ≤ k' := by decide) (hg : Gl X x := by rfl)
    (hdb : (x == ("__debug__" : Str)) = false := by decide) (he : starEach [e] X.env = (false, eval e X.env) :: starEach [] X.env := by rfl) (hpl : (backTo pos (starEach [] X.env)).any (·.1) = false := by rfl) :
    DSt X W O Ol (.Raise (some (.Call (.Name x p) [e] [] pos)) none pos2) O' (mRaise x f fe) := by
  obtain ⟨C, fI, fd, ps, bmB, Bn, newId, initId, FB, T, F1, hb⟩ := h
  exact dst_raise FB T F1 (hr.mono hk) hb (passes_call tk fun _ _ _ _ z => z.elim) hc tk ha hg hdb he hpl
/-- x is an own error class without a field -/
def HasX0 (K : PySem.W.Frag) (mg : Mg) (x : Str) : Prop :=
  ∃ (C : Addr) (bmB : List Value) (Bn newId initId : String), ExcBaseFacts Bn newId initId bmB ∧ PySem.W.excIn K C bmB newId = true ∧ mg x = some (.ref C) ∧ PySem.W.keepIn K (.ref C) = true ∧ PySem.W.subIn K (.ref C) (.type "BaseException") = some true ∧ PySem.W.typeIn K (.ref C) = some (.type "type")
theorem dst_raiseH0 {x : Str} {p pos pos2 : Pos} (h : HasX0 X.K X.mg x) (hc : X.calm = true) (tk : Takes X W) (hg : Gl X x := by rfl) (hdb : (x == ("__debug__" : Str)) = false := by decide) :
    DSt X W O Ol (.Raise (some (.Call (.Name x p) [] [] pos)) none pos2) O' (mRaise0 x) := by
  obtain ⟨C, bmB, Bn, newId, initId, FB, h1, h2, h3, h4, h5⟩ := h
  exact dst_raise0 FB h1 h2 h3 (raises_own h4 h5) hc tk hg hdb
end
end DL
set_option maxRecDepth 100000
set_option maxHeartbeats 2000000
namespace DL
open PySem PySem.Spec PyProof.Rows L2 HT
/-! ### t[::-1] of a tuple -/
section
variable {prog : Program} {w : World} {A : Around} {E : Value → Shared → Prop} {s : Shared}
theorem adjust_rev (n : Nat) : Builtin.Slice.sliceAdjust none none (-1) (n : Int) = ((n : Int) - 1, -1) := by
  unfold Builtin.Slice.sliceAdjust
  simp
theorem places_rev (n : Nat) : Builtin.Slice.slicePlaces ((n : Int) - 1) (-1) (-1) = n := by
  unfold Builtin.Slice.slicePlaces
  rw [if_neg (by decide)]
  by_cases h : (n : Int) - 1 > -1
  · rw [if_pos h]
    simp
  · rw [if_neg h]
    simp
    omega
theorem applied_rev {sl : Addr} {vs : Value} {n : Nat} {Q : Int × Int × Nat → Shared → Prop} (hs : s.heap.IsSliceOf sl .none .none vs) (ps : IsPart vs (some (-1))) (h : Q ((n : Int) - 1, -1, n) s) : wpAny (model prog w) A (Builtin.Slice.sliceApplied (.ref sl) (pure (n : Int))) Q E s := by
  obtain ⟨os, hos, hcs, hds⟩ := id hs
  unfold Builtin.Slice.sliceApplied Builtin.Slice.sliceFields
  refine wpAny_bind (wpAny_bind (wpAny_field hos hds (x := .none) rfl (wpAny_bind (wpAny_field hos hds (x := .none) rfl (wpAny_bind (wpAny_field hos hds (x := vs) rfl (wpAny_pure ?_)))))))
  refine wpAny_bind (slicePart_ ps ?_)
  show wpAny _ _ (if ((-1 : Int) == 0) = true then _ else _) _ _ s
  rw [if_neg (by decide)]
  refine wpAny_bind (slicePart_none (wpAny_bind (slicePart_none (wpAny_bind (wpAny_pure ?_)))))
  show wpAny _ _ (match Builtin.Slice.sliceAdjust none none (-1) (n : Int) with | (lo, hi) => pure (lo, (-1 : Int), Builtin.Slice.slicePlaces lo hi (-1))) _ _ s
  rw [adjust_rev]
  show wpAny _ _ (pure ((n : Int) - 1, (-1 : Int), Builtin.Slice.slicePlaces ((n : Int) - 1) (-1) (-1))) _ _ s
  rw [places_rev]
  exact wpAny_pure h
theorem pick_rev (xs : Array Value) : ((List.range xs.size).filterMap fun (m : Nat) => xs[(((xs.size : Nat) : Int) - 1 + (m : Int) * (-1)).toNat]?).toArray = xs.toList.reverse.toArray := by
  congr 1
  have key : ∀ k, k ≤ xs.size → ((List.range k).filterMap fun (m : Nat) => xs[(((xs.size : Nat) : Int) - 1 + (m : Int) * (-1)).toNat]?) = (xs.toList.reverse).take k := by
    intro k
    induction k with
    | zero => intro _; rfl
    | succ k ih =>
      intro hk
      rw [List.range_succ, List.filterMap_append, ih (by omega), List.take_succ]
      congr 1
      have e : (((xs.size : Nat) : Int) - 1 + (k : Int) * (-1)).toNat = xs.size - 1 - k := by omega
      have hlt : xs.size - 1 - k < xs.size := by omega
      have h2 : xs.toList.reverse[k]? = some xs[xs.size - 1 - k] := by
        rw [List.getElem?_reverse (by rw [Array.length_toList]; omega), Array.length_toList, Array.getElem?_toList, Array.getElem?_eq_getElem hlt]
      rw [List.filterMap_cons_some (by rw [e]; exact Array.getElem?_eq_getElem hlt), h2]
      rfl
  rw [key xs.size (Nat.le_refl _)]
  exact List.take_of_length_le (by rw [List.length_reverse, Array.length_toList]; exact Nat.le_refl _)
theorem item_rev {t sl : Addr} {items : Array Value} {vs : Value} {Q : Value → Shared → Prop} (ht : IsTup s.heap t items) (hs : s.heap.IsSliceOf sl .none .none vs) (ps : IsPart vs (some (-1)))
    (h : Q (.ref s.heap.objs.size) { s with heap := s.heap.push { cls := .type "tuple", data := .seq items.toList.reverse.toArray } }) (hsz : items.size ≤ sizeLine) : wpAny (model prog w) A (getItem (.ref t) (.ref sl)) Q E s := by
  have fits : sizeOk (.seq items.toList.reverse.toArray) := by
    show items.toList.reverse.toArray.size ≤ sizeLine
    rw [List.size_toArray, List.length_reverse, Array.length_toList]
    exact hsz
  obtain ⟨os, hos, hcs, hds⟩ := id hs
  have isS : s.TypeIs (.ref sl) "slice" := ⟨os, hos, hcs⟩
  unfold getItem
  try with_reducible refine wpAny_holding ?_
  first | refine wpAny_bind (wpAny_pure ?_) | skip
  refine wpAny_bind (wpAny_sequenceKey ht.typeIs (by decide) (wpAny_bind (wpAny_callSpecial?_slot (name := Str.ofString "__getitem__") ht.typeIs PyProof.Rows.slot_tuple_getitem (wpAny_call_entry PyProof.Rows.slot_tuple_getitem ht.typeIs entry_tuple_getitem ?_ (args_tuple_getitem _ _)))))
  show wpAny _ _ (Builtin.Tuple.tupleItemsOf (.ref t) >>= _) _ _ s
  refine wpAny_bind (tupleItemsOf_ ht (wpAny_bind (wpAny_typeOf isS ?_)))
  rw [if_pos (by decide)]
  refine wpAny_bind (applied_rev hs ps ?_)
  show wpAny _ _ (if (((items.size : Nat) : Int) - 1 == 0 && (-1 : Int) == 1 && items.size == items.size) = true then _ else _) _ _ s
  rw [if_neg (by simp), pick_rev]
  first
    | exact wpAny_bind (m := Builtin.Tuple.tupleExact _) (wpAny_newObj_type (wpAny_pure ⟨_, rfl, wpAny_pure h⟩) fits)
    | exact wpAny_bind (m := Builtin.Tuple.tupleExact _) (wpAny_newObj_type (wpAny_bind (wpAny_pure (wpAny_pure ⟨_, rfl, wpAny_pure h⟩))) fits)
    | exact wpAny_bind (wpAny_bind (m := Builtin.Tuple.tupleExact _) (wpAny_newObj_type (wpAny_pure (wpAny_pure ⟨_, rfl, wpAny_pure h⟩)) fits))
    | exact wpAny_bind (wpAny_bind (m := Builtin.Tuple.tupleExact _) (wpAny_newObj_type (wpAny_pure ⟨_, rfl, wpAny_pure h⟩) fits))
end
section
variable {X : Cx} {W : WX} {O Ol O' : List Nat}
def tRevT (K : PySem.W.Frag) (te : TE) : TE := fun σ H Q => te σ H fun x H1 => ∃ a xs, x = .ref a ∧ SqT K H1 a xs ∧ ∀ p, H1 p = none → Q (.ref p) (upd H1 p (.tup xs.reverse))
theorem pe_revT {e : Expr} {te : TE} {k : Nat} {p1 p2 p3 pos : Pos} (he : PE X e te) : PE X (.Subscript e (.Slice none none (some (.UnaryOp .USub (.Constant (.int 1) k p1) p2)) p3) pos) (tRevT X.K te) := by
  refine ⟨fun pins s σ H Q I h => Subscript_ (thn (he.run pins s σ H _ I h) fun v s1 z => ?_)⟩
  obtain ⟨x, H1, I1, r1, a, xs, rfl, hx, q⟩ := z
  cases r1
  have step : PO X (some (.UnaryOp .USub (.Constant (.int 1) k p1) p2)) (tPart (tUn (rU fun i => .int (-i)) (tC (.int 1)))) := po_some (pe_un un_neg pe_int)
  refine wpAny_Slice (thn (po_none.run pins s1 σ H1 (fun o H2 => o = none ∧ H2 = H1) I1 ⟨rfl, rfl⟩) fun vl s2 z => ?_)
  obtain ⟨l, H2, I2, pl, rfl, rfl⟩ := z
  refine thn (po_none.run pins s2 σ H2 (fun o H3 => o = none ∧ H3 = H2) I2 ⟨rfl, rfl⟩) fun vu s3 z => ?_
  obtain ⟨u, H3, I3, pu, rfl, rfl⟩ := z
  refine thn (step.run pins s3 σ H3 (fun o H4 => o = some (-1) ∧ H4 = H3) I3 ⟨1, rfl, -1, rfl, rfl, rfl⟩) fun vs s4 z => ?_
  obtain ⟨o, H4, I4, ps, rfl, rfl⟩ := z
  have I5 : Inv X pins σ H4 { s4 with heap := s4.heap.push { cls := .type "slice", data := .fields #[vl, vu, vs] } } := I4.kept (t' := s4.toks) fun b ob q => Heap.get?_push_of_some _ q
  obtain ⟨its, r, ht, hz⟩ := I5.tuple hx
  have len := r.length
  show wpAny (model X.prog X.w) X.A (subscriptTail e _ (.ref a) (.ref s4.heap.objs.size)) _ _ _
  refine tail_any (ops := [.ref a, .ref s4.heap.objs.size]) ht.typeIs (PyProof.Rows.slot_tuple_getitem.lookup) ?_ (by with_unfolding_all rfl)
  have nl : vl = .none := by cases pl; rfl
  have nu : vu = .none := by cases pu; rfl
  subst nl; subst nu
  refine item_rev ht (Heap.IsSliceOf.new _ _ _ vs) ps ?_ (by rw [List.size_toArray]; omega)
  exact ⟨.ref _, _, I5.laid (t' := s4.toks) (o := .tup xs.reverse) (fun b ob q => Heap.get?_push_of_some _ q) (Nat.le_refl _) ⟨by rw [List.length_reverse]; exact hz, _, r.reverse, IsTup.new _ _⟩, rfl, q _ (I5.hok.fresh (Nat.le_refl _))⟩
theorem pe_or {e : Expr} {t t' : TE} (h : PE X e t) (h' : PE X e t') : PE X e (fun σ H Q => t σ H Q ∨ t' σ H Q) :=
  ⟨fun pins s σ H Q I z => z.elim (fun z => h.run pins s σ H Q I z) fun z => h'.run pins s σ H Q I z⟩
def revD : Dt → Option Dt
  | .list ds => some (.list ds.reverse)
  | .tuple ds => some (.tuple ds.reverse)
  | _ => none
theorem RpAll.rev {G : Hp} : ∀ {vs : List V} {ds : List Dt}, RpAll G vs ds → RpAll G vs.reverse ds.reverse
  | _, _, .nil => .nil
  | _, _, .cons h t => by
    rw [List.reverse_cons, List.reverse_cons]
    exact (RpAll.rev t).append (.cons h .nil)
theorem de_rev {e : Expr} {f : EnvD → Mo Dt} {k : Nat} {p1 p2 p3 pos : Pos} (h : DE X W O e f) : DE X W O (.Subscript e (.Slice none none (some (.UnaryOp .USub (.Constant (.int 1) k p1) p2)) p3) pos) (mThen f revD) := by
  obtain ⟨t, h1, h2⟩ := h
  refine ⟨_, pe_or (pe_revL h1) (pe_revT h1), fun B H0 G0 σ H G ρ b Q r b' I ee pp => ?_⟩
  unfold mThen at ee
  rcases mBind_some ee with ⟨er, q1, rfl⟩ | ⟨d, b1, q1, ee⟩
  · exact .inl (h2 B H0 G0 σ H G ρ b _ _ _ I q1 pp)
  obtain ⟨c, hc, rfl, rfl⟩ := mOpt_some ee
  unfold revD at hc
  split at hc
  · cases hc
    refine .inl (h2 B H0 G0 σ H G ρ b _ _ _ I q1 fun v H1 G1 s1 rv => ?_)
    obtain ⟨a, vs, rfl, k1, k2, k3⟩ := rv.inv_list
    refine ⟨a, vs, rfl, SqL.of (s1.sub _ _ k1), fun p hp => ?_⟩
    have st := Stp.add (o := .lst vs.reverse) s1.sub s1.box hp
    exact pp _ _ _ (s1.trans st) (.lst upd_same (by rw [List.length_reverse]; exact k2) (k3.rev.mono st.grow))
  · cases hc
    refine .inr (h2 B H0 G0 σ H G ρ b _ _ _ I q1 fun v H1 G1 s1 rv => ?_)
    obtain ⟨a, vs, rfl, k1, k2, k3⟩ := rv.inv_tup
    refine ⟨a, vs, rfl, SqT.of (s1.sub _ _ k1), fun p hp => ?_⟩
    have st := Stp.add (o := .tup vs.reverse) s1.sub s1.box hp
    exact pp _ _ _ (s1.trans st) (.tup upd_same (by rw [List.length_reverse]; exact k2) (k3.rev.mono st.grow))
  · cases hc
end
end DL
set_option maxRecDepth 100000
set_option maxHeartbeats 2000000
namespace DL
open PySem PySem.Spec PyProof.Rows L2
section
variable {X : Cx} {W : WX} {O Ol O' : List Nat}
/-! ### the script: a list of ints that stands outside -/
open Classical in
noncomputable def scrAt (K : PySem.W.Frag) (i : Nat) (ρ : EnvD) : Option (List Int) := match ρ[i]? with
  | some (some (.scr K' ns)) => if K' = K then some ns else none
  | _ => none
theorem scrAt_some {K : PySem.W.Frag} {i : Nat} {ρ : EnvD} {ns : List Int} (h : scrAt K i ρ = some ns) : ρ[i]? = some (some (.scr K ns)) := by
  unfold scrAt at h
  split at h
  · rename_i K' ms hh
    by_cases hk : K' = K
    · rw [if_pos hk] at h
      cases h
      rw [hk] at hh
      exact hh
    · rw [if_neg hk] at h; cases h
  · cases h
theorem scrAt_mk {K : PySem.W.Frag} {i : Nat} {ρ : EnvD} {ns : List Int} (h : ρ[i]? = some (some (.scr K ns))) : scrAt K i ρ = some ns := by
  unfold scrAt
  rw [h]
  exact if_pos rfl
noncomputable def mScr (K : PySem.W.Frag) (i : Nat) (g h : EnvD → Mo (Option Int)) (ρ : EnvD) : Mo Dt := mBind (mOpt (scrAt K i ρ)) fun ns => mBind (g ρ) fun lo => mBind (h ρ) fun hi => mOpt (if ns.length ≤ sizeLine then some (.list (cutG (ns.map PyData.int) lo hi)) else none)
theorem cut_len {α : Type} (xs : List α) (lo hi : Option Int) : (cutG xs lo hi).length ≤ xs.length := by
  unfold cutG
  rw [List.length_take, List.length_drop]
  omega
theorem de_scr {i : Nat} {x : Str} {px : Pos} {lo hi : Option Expr} {g h : EnvD → Mo (Option Int)} {p2 pos} (hx : PE X (.Name x px) (tVar i)) (hl : DO X W O lo g) (hh : DO X W O hi h) (oi : i ∉ O := by decide) : DE X W O (.Subscript (.Name x px) (.Slice lo hi none p2) pos) (mScr X.K i g h) := by
  obtain ⟨tl, l1, l2⟩ := hl
  obtain ⟨th, h1, h2⟩ := hh
  refine ⟨_, pe_slice (sl_list.or sl_tupA) hx l1 h1, fun B H0 G0 σ H G ρ b Q q b' I ee p => ?_⟩
  unfold mScr at ee
  rcases mBind_some ee with ⟨er, q1, rfl⟩ | ⟨ns, b1, q1, ee2⟩
  · obtain ⟨_, _, z, _⟩ := mOpt_some q1; cases z
  obtain ⟨ns', hns, z, rfl⟩ := mOpt_some q1
  cases z
  clear ee q1
  obtain ⟨v, hv, a, rfl, hs⟩ := I.sl i _ oi (scrAt_some hns)
  refine ⟨_, hv, ?_⟩
  rcases mBind_some ee2 with ⟨er, q2, rfl⟩ | ⟨lo', b2, q2, ee⟩
  · exact l2.err I q2 p
  refine l2 B H0 G0 σ H G ρ b1 _ _ _ I q2 fun i' H2 G2 s2 r2 => ?_
  cases r2
  have I2 := I.step s2
  have p2 := p.after s2
  rcases mBind_some ee with ⟨er, q3, rfl⟩ | ⟨hi', b3, q3, ee⟩
  · exact h2.err I2 q3 p2
  refine h2 B H0 G0 σ H2 G2 ρ b2 _ _ _ I2 q3 fun j' H3 G3 s3 r3 => ?_
  cases r3
  have I3 := I2.step s3
  have p3 := p2.after s3
  obtain ⟨c, hc, rfl, rfl⟩ := mOpt_some ee
  by_cases hz : ns.length ≤ sizeLine
  · rw [if_pos hz] at hc
    cases hc
    have hs3 : SqL X.K H3 a (ns.map V.int) := I3.sub.seq (s3.grow.seq (s2.grow.seq hs))
    refine .inl ⟨a, ns.map V.int, rfl, hs3, fun p hp => p3 _ _ _ (Stp.add I3.sub I3.box hp) (.lst upd_same (Nat.le_trans (cutV_length _ _ _) (by rw [List.length_map]; exact hz)) ?_)⟩
    exact ((RpAll.of_ints ns).cut _ _).mono (Stp.add I3.sub I3.box hp (o := .lst (cutV (ns.map V.int) lo' hi')) (b := b')).grow
  · rw [if_neg hz] at hc; cases hc
/-! ### an owned list: xs[i], xs[i] = e -/
def mIxO (i : Nat) (fi : EnvD → Mo Dt) (ρ : EnvD) : Mo Dt := match slotL i ρ with
  | some ds => mBind (fi ρ) fun d => mOpt (match d with | .int z => L2.atI ds z | _ => none)
  | none => fun _ => none
theorem de_ixO {i : Nat} {x : Str} {px : Pos} {e : Expr} {fe : EnvD → Mo Dt} {pos} (hx : PE X (.Name x px) (tVar i)) (he : DE X W O e fe) (oi : i ∈ O := by decide) (hs : PlainIx e := by exact fun _ _ => rfl) : DE X W O (.Subscript (.Name x px) e pos) (mIxO i fe) := by
  obtain ⟨t, e1, e2⟩ := he
  refine ⟨_, pe_ix ix_seq hx e1 hs, fun B H0 G0 σ H G ρ b Q r b' I ee p => ?_⟩
  unfold mIxO at ee
  cases hq : slotL i ρ with
  | none => rw [hq] at ee; cases ee
  | some ds =>
    rw [hq] at ee
    obtain ⟨a, ds', vs, k1, k2, k3, k4, k5, k6, k7, k8⟩ := I.ow i _ oi (slotL_some hq)
    cases k1
    refine ⟨_, k2, ?_⟩
    rcases mBind_some ee with ⟨er, q1, rfl⟩ | ⟨d, b1, q1, ee⟩
    · exact e2.err I q1 p
    refine e2 B H0 G0 σ H G ρ b _ _ _ I q1 fun v H1 G1 s1 rv => ?_
    obtain ⟨c, hc, rfl, rfl⟩ := mOpt_some ee
    split at hc
    · rename_i z
      obtain ⟨u, h1, h2⟩ := (k7.mono s1.grow).atI hc
      exact .inl ⟨a, vs, _, u, rfl, rv.inv_int, SqL.of (s1.keep a _ k3 k6), h1, p u H1 G1 s1 h2⟩
    · cases hc
def mSetO (i : Nat) (fe fi : EnvD → Mo Dt) (ρ : EnvD) : MoS := match slotL i ρ with
  | some ds => mE (fe ρ) ρ fun d => mE (fi ρ) ρ fun z => match z with
    | .int z => match L2.ixN ds.length z with
      | some j => sOk .nx (ρ.set i (some (.d (.list (ds.set j d)))))
      | none => fun _ => none
    | _ => fun _ => none
  | none => fun _ => none
theorem RpAll.set {G : Hp} : ∀ {vs : List V} {ds : List Dt} {j : Nat} {v : V} {d : Dt}, RpAll G vs ds → Rp G v d → RpAll G (vs.set j v) (ds.set j d)
  | _, _, _, _, _, .nil, _ => by simpa using RpAll.nil
  | _, _, 0, _, _, .cons h t, r => by simpa using RpAll.cons r t
  | _, _, j + 1, _, _, .cons h t, r => by simpa using RpAll.cons h (RpAll.set t r)
theorem dst_setO {i : Nat} {x : Str} {px ps pos : Pos} {e k : Expr} {fe fk : EnvD → Mo Dt} (hx : PE X (.Name x px) (tVar i)) (he : DE X W O e fe) (hk : DE X W O k fk) (oi : i ∈ O := by decide)
    (ha : ∀ v, assign (.Subscript (.Name x px) k ps) X.env v = (do
      let ov ← holding [v] (eval (.Name x px) X.env)
      let iv ← holding [v, ov] (eval k X.env)
      standAt ps
      (holding [v, ov, iv] (setItem ov iv v))
      release [v, ov, iv] []) := by intro _; rfl)
    (hs : swapsWithSole [.Subscript (.Name x px) k ps] e pos.line X.env = pure false := by rfl) (hw : swappedStores [.Subscript (.Name x px) k ps] e X.env = pure none := by rfl) (h1 : (assignEach [.Subscript (.Name x px) k ps] X.env).map (·.2) = [assign (.Subscript (.Name x px) k ps) X.env] := by rfl) :
    DSt X W O Ol (.Assign [.Subscript (.Name x px) k ps] e pos) O (mSetO i fe fk) := by
  obtain ⟨t, t1, t2⟩ := he
  obtain ⟨u, u1, u2⟩ := hk
  refine ⟨_, ps_asg t1 (pg_sub hx u1 set_list ha) hs hw h1, fun B H0 G0 σ H G ρ b D r b' I ee p => ?_⟩
  unfold mSetO at ee
  cases hq : slotL i ρ with
  | none => rw [hq] at ee; cases ee
  | some ds =>
    rw [hq] at ee
    have hq' := slotL_some hq
    obtain ⟨a, ds', vs, k1, k2, k3, k4, k5, k6, k7, k8⟩ := I.ow i _ oi hq'
    cases k1
    rcases mE_some ee with ⟨er, q1, rfl⟩ | ⟨d, b1, q1, ee⟩
    · exact t2 B H0 G0 σ H G ρ b _ _ _ I q1 (SPost.err I p)
    refine t2 B H0 G0 σ H G ρ b _ _ _ I q1 fun v H1 G1 s1 rv => ?_
    have I1 := I.step s1
    refine ⟨_, k2, ?_⟩
    rcases mE_some ee with ⟨er, q2, rfl⟩ | ⟨z, b2, q2, ee⟩
    · exact u2 B H0 G0 σ H1 G1 ρ b1 _ _ _ I1 q2 (SPost.err I1 (p.later s1.grow))
    refine u2 B H0 G0 σ H1 G1 ρ b1 _ _ _ I1 q2 fun w H2 G2 s2 rw2 => ?_
    have I2 := I1.step s2
    have st := s1.trans s2
    split at ee
    · rename_i z
      cases hj : L2.ixN ds.length z with
      | none => simp only [hj] at ee; cases ee
      | some j =>
        simp only [hj] at ee
        obtain ⟨rfl, rfl⟩ := sOk_some ee
        have z1 := st.keep a _ k3 k6
        have g1 := st.new a _ k3 k4
        have hlen : vs.length = ds.length := k7.length
        refine ⟨a, vs, z, j, rfl, rw2.inv_int, z1, by rw [hlen]; exact hj, ?_⟩
        exact p σ _ G2 (I2.mod oi k2 z1 g1 k5 k6 ((k7.mono st.grow).set (rv.mono s2.grow)) (by rw [List.length_set]; exact k8) ⟨_, hq'⟩) st.grow
    · cases ee
/-! ### a new list, or another one -/
def mOrL (f g : EnvD → Mo (List Dt)) (ρ : EnvD) : Mo (List Dt) := mBind (f ρ) fun ds => match ds with
  | [] => g ρ
  | d :: r => mOk (d :: r)
theorem del_or {a b' : Expr} {f g : EnvD → Mo (List Dt)} {pos} (h : DEL X W O a f) (h' : DEL X W O b' g) : DEL X W O (.BoolOp .Or [a, b'] pos) (mOrL f g) := by
  obtain ⟨t, h1, h2⟩ := h
  obtain ⟨u, k1, k2⟩ := h'
  refine ⟨_, pe_orT h1 (pe_one k1), fun B H0 G0 σ H G ρ b Q r b' I ee p => ?_⟩
  unfold mOrL at ee
  rcases mBind_some ee with ⟨er, q1, rfl⟩ | ⟨ds, b1, q1, ee⟩
  · exact h2 B H0 G0 σ H G ρ b _ _ _ I q1 p
  refine h2 B H0 G0 σ H G ρ b _ _ _ I q1 fun l vs H1 G1 s1 z0 z1 z2 z3 z4 z5 => ?_
  cases ds with
  | nil =>
    have e0 := z4.inv_nil
    subst e0
    refine ⟨false, .inl ⟨_, SqL.of z1, rfl⟩, iteF ?_⟩
    have key := k2 B H0 G0 σ H1 G1 ρ b1 Q r b' (I.step s1) ee
    refine key ?_
    cases r with
    | error e => exact fun C dd H' G' m s q => p C dd H' G' m (s1.trans s) q
    | ok es => exact fun a vs H' G' s y0 y1 y2 y3 y4 y5 => p a vs H' G' (s1.trans s) (s1.none y0).1 y1 y2 y3 y4 y5
  | cons d ds =>
    obtain ⟨rfl, rfl⟩ := mOk_some ee
    obtain ⟨v, ws, rfl, _, _⟩ := z4.inv_cons
    exact ⟨true, .inl ⟨_, SqL.of z1, rfl⟩, iteT (p l _ H1 G1 s1 z0 z1 z2 z3 z4 z5)⟩
end
end DL
set_option maxRecDepth 100000
set_option maxHeartbeats 2000000
namespace DL
open PySem PySem.Spec PyProof.Rows L2
/-! ### a def that returns a new list, which becomes the box of a call -/
def spN (mg : Mg) (f : List Sl → Mo (List Dt)) : Sp := fun vs H Q E => ∃ B G b sls r b', Same G H ∧ BoxAt B H G b ∧ RSs B G vs sls ∧ f sls b = some (r, b') ∧ match r with
  | .ok ds => ∀ a ws H' G', Stp B H G H' G' b' → H a = none → H' a = some (.lst ws) → G' a = none → B ≠ some a → RpAll G' ws ds → ws.length ≤ sizeLine → Q (.ref a) H'
  | .error e => ∀ C dd H' G', mg e.cls = some (.ref C) → Stp B H G H' G' b' → ExAt H' G' dd e → E (.ref C) dd H'
def HasN (P : Program) (w : World) (K : PySem.W.Frag) (mg : Mg) (base : Heap) (x : Str) (st : Stmt) (k : Nat) (ps : List Str) (M : List Sl → Mo (List Dt)) : Prop :=
  ∃ (f : Addr) (fd : FuncData), FnOk P w K mg base (L2.CX P w) k f fd ps (spN mg M) ∧ mg x = some (.ref f) ∧ Fun K x x st f fd ∧ Binds K fd ps []
def mDefN (np N : Nat) (f1 : EnvD → MoS) (fe : EnvD → Mo (List Dt)) : List Sl → Mo (List Dt) := fun sls b => if sls.length = np then (match f1 (sls.map some ++ List.replicate (N - np) none) b with
  | some (.ok (.nx, ρ1), b1) => fe ρ1 b1
  | some (.error (e, _), b1) => some (.error e, b1)
  | _ => none) else none
section
variable {P : Program} {w : World} {K : PySem.W.Frag} {mg : Mg} {base : Heap}
theorem has_new {x : Str} {st s1 : Stmt} {e : Expr} {pos : Pos} {N ps : List Str} {f : Addr} {fd : FuncData} {k : Nat} {f1 : EnvD → MoS} {fe : EnvD → Mo (List Dt)} {O1 : List Nat} (D : Dv K mg x st ps f fd) (S : FnScope N ps (defScope st)) (hbody : defBody st = [s1, .Return (some e) pos])
    (hb : ∀ (cdv : Value) (A : Around) (outer : List Env) (s : Shared) (H : Hp) (E : XK), Room k (A.deeper (envOfC x (defScope st) s.heap.objs.size f cdv)) →
      DSt (cxOf (L2.CX P w) P w K mg base N x (defScope st) f cdv A outer s H E) (fun cls d _ H => E cls d H) [] [] s1 O1 f1 ∧ DEL (cxOf (L2.CX P w) P w K mg base N x (defScope st) f cdv A outer s H E) (fun cls d _ H => E cls d H) O1 e fe) :
    HasN P w K mg base x st (k + 1) ps (mDefN ps.length N.length f1 fe) := by
  refine ⟨f, fd, D.fn.okX S (fun vs H Q E h => ?_) (fun cdv A outer s H vs Q E hr h => ?_), D.mgf, D.fn, D.bd⟩
  · obtain ⟨B, G, b, sls, r, b', hs, bx, rs, e, q⟩ := h
    unfold mDefN at e
    split at e
    · rename_i hl; rw [rs.length]; exact hl
    · cases e
  · obtain ⟨⟨t, h1, h2⟩, u, k1, k2⟩ := hb cdv A outer s H E hr
    rw [hbody]
    refine ⟨_, pss_cons h1 (pss_one (ps_ret k1)), ?_⟩
    obtain ⟨B, G, b, sls, r, b', hs, bx, rs, e, q⟩ := h
    unfold mDefN at e
    split at e
    · rename_i hl
      have J := start_ok (N := N) hs bx rs
      rw [hl] at J
      split at e
      · rename_i ρ1 b1 e1
        refine h2 B H G _ H G _ b _ _ _ J e1 fun σ' H' G' I' gg => ?_
        refine k2 B H G σ' H' G' ρ1 b1 _ r b' I' e ?_
        cases r with
        | error er => exact fun C dd H2 G2 m s2 ex => q C dd H2 G2 m (I'.stp.trans s2) ex
        | ok ds => exact fun a ws H2 G2 s2 z0 z1 z2 z3 z4 z5 => q a ws H2 G2 (I'.stp.trans s2) (I'.stp.none z0).1 z1 z2 z3 z4 z5
      · rename_i er ρ' b1 e1
        simp only [Option.some.injEq, Prod.mk.injEq] at e
        obtain ⟨rfl, rfl⟩ := e
        exact h2 B H G _ H G _ b _ _ _ J e1 fun C dd σ' H' G' hm I' ex => q C dd H' G' hm I'.stp ex
      · cases e
    · cases e
end
/-- a call whose box is a new list: as seen from outside -/
theorem Stp.inner {B : Option Addr} {H G H1 G1 H2 G2 : Hp} {b1 b2 : Bx} {a : Addr} (x : Stp B H G H1 G1 b1) (ha : H a = Option.none) (hB : B ≠ some a) (y : Stp (some a) H1 G1 H2 G2 b2) : Stp B H G H2 G2 b1 where
  keep := fun c o e n => y.keep c o (x.keep c o e n) fun z => by
    cases z
    rw [ha] at e; cases e
  grow := x.grow.trans y.grow
  sub := y.sub
  new := fun c o e n => by
    by_cases hc : B = some c
    · obtain ⟨z1, z2⟩ := x.box c hc
      exact y.new c _ z1 z2
    · exact y.new c o (x.keep c o e hc) (x.new c o e n)
  box := fun c hc => by
    obtain ⟨z1, z2⟩ := x.box c hc
    exact ⟨y.keep c _ z1 fun z => hB (z ▸ hc), y.new c _ z1 z2⟩
section
variable {X : Cx} {W : WX} {O Ol O' : List Nat}
def mBoxCall (Mf : List Sl → Mo Dt) (Mb : List Sl → Mo (List Dt)) (fa : EnvD → Mo (List Sl)) (ρ : EnvD) : Mo Dt := mBind (fa ρ) fun sls b => match Mb sls b with
  | some (.ok [.int x, .int y, .int z], b1) => match Mf [.box] ⟨x, y, z⟩ with
    | some (.ok d, _) => some (.ok d, b1)
    | _ => none
  | _ => none
theorem de_callBox {f g : Str} {stf stg : Stmt} {kf kg k' : Nat} {psf psg : List Str} {Mf : List Sl → Mo Dt} {Mb : List Sl → Mo (List Dt)} {e : Expr} {es : List Expr} {fa : EnvD → Mo (List Sl)} {p p2 pos pos2 : Pos} (hf : Has X.prog X.w X.K X.mg X.base f stf kf psf Mf) (hg : HasN X.prog X.w X.K X.mg X.base g stg kg psg Mb) (hr : Room k' X.A) (tk : Takes X W) (ha : DA X W O (e :: es) fa) (hkf : kf ≤ k' := by decide) (hkg : kg ≤ k' := by decide)
    (gf : Gl X f := by rfl) (gg : Gl X g := by rfl) (df : (f == ("__debug__" : Str)) = false := by decide) (dg : (g == ("__debug__" : Str)) = false := by decide) (he : starEach (e :: es) X.env = (false, eval e X.env) :: starEach es X.env := by rfl) (hpl : (backTo pos2 (starEach es X.env)).any (·.1) = false := by rfl)
    (he2 : starEach [.Call (.Name g p2) (e :: es) [] pos2] X.env = (false, eval (.Call (.Name g p2) (e :: es) [] pos2) X.env) :: starEach [] X.env := by rfl) (hpl2 : (backTo pos (starEach [] X.env)).any (·.1) = false := by rfl) :
    DE X W O (.Call (.Name f p) [.Call (.Name g p2) (e :: es) [] pos2] [] pos) (mBoxCall Mf Mb fa) := by
  obtain ⟨af, fdf, f1, f2, f3, f4⟩ := hf
  obtain ⟨ag, fdg, g1, g2, g3, g4⟩ := hg
  obtain ⟨t, t1, t2⟩ := ha
  refine ⟨_, pe_callS f1 (hr.mono hkf) gf f2 f3.kp f4 (fun σ => passAt tk σ) (pa_cons (pe_callS g1 (hr.mono hkg) gg g2 g3.kp g4 (fun σ => passAt tk σ) t1 dg he hpl) pa_nil he2) df he2 hpl2, fun B H0 G0 σ H G ρ b Q r b' I ee pp => ?_⟩
  unfold mBoxCall at ee
  rcases mBind_some ee with ⟨er, q1, rfl⟩ | ⟨sls, b1, q1, ee⟩
  · exact t2 B H0 G0 σ H G ρ b _ _ _ I q1 pp
  refine t2 B H0 G0 σ H G ρ b _ _ _ I q1 fun vs H1 G1 s1 r1 => ?_
  split at ee
  · rename_i x y z b2 hb
    split at ee
    · rename_i d b3 hf'
      simp only [Option.some.injEq, Prod.mk.injEq] at ee
      obtain ⟨rfl, rfl⟩ := ee
      refine ⟨B, G1, b1, sls, _, b2, s1.sub, s1.box, r1, hb, fun a ws H2 G2 s2 z0 z1 z2 z3 z4 z5 => ?_⟩
      have hws : ws = [.int x, .int y, .int z] := by
        have := RpAll.ints (ns := [x, y, z]) z4
        simpa using this
      subst hws
      refine ⟨some a, G2, ⟨x, y, z⟩, [.box], .ok d, b3, s2.sub, fun c hc => ?_, .cons ⟨a, rfl, rfl⟩ .nil, hf', fun v H3 G3 s3 r3 => ?_⟩
      · cases hc
        exact ⟨z1, z2⟩
      · exact pp v H3 G3 (s1.trans (s2.inner z0 z3 s3)) r3
    · cases ee
  · cases ee
end
end DL
set_option maxRecDepth 100000
set_option maxHeartbeats 2000000
namespace DL
open PySem PySem.Spec PyProof.Rows L2
theorem Has.fn {P : Program} {w : World} {K : PySem.W.Frag} {mg : Mg} {base : Heap} {x : Str} {st : Stmt} {k : Nat} {ps : List Str} {M : List Sl → Mo Dt} {f : Addr} {fd : FuncData} (h : Has P w K mg base x st k ps M) (D : Dv K mg x st ps f fd) : FnOk P w K mg base (L2.CX P w) k f fd ps (spM mg M) := by
  obtain ⟨f', fd', q1, q2, q3, q4⟩ := h
  have e := q2.symm.trans D.mgf
  cases e
  obtain ⟨_, _, _, _, _, _, _, _, _, rfl, z1, _⟩ := q3.ex
  obtain ⟨_, _, _, _, _, _, _, _, _, rfl, z2, _⟩ := D.fn.ex
  rw [z1] at z2
  simp only [Option.some.injEq, Obj.mk.injEq, Data.func.injEq] at z2
  rw [← z2.2.2.1]
  exact q1
/-- law's promise: a list of at most 63 ints is handed in, True comes out -/
def spLawK (K : PySem.W.Frag) : Sp := fun vs H Q _ => ∃ (a : Addr) (ns : List Int), vs = [.ref a] ∧ SqL K H a (ns.map V.int) ∧ ns.length ≤ 63 ∧ ∀ H', Q (.bl true) H'
def b0 : Bx := ⟨0, 0, 0⟩
theorem law_imp {P : Program} {w : World} {K : PySem.W.Frag} {mg : Mg} {base : Heap} {k : Nat} {f : Addr} {fd : FuncData} {ps : List Str} {M : List Sl → Mo Dt} (F : FnOk P w K mg base (L2.CX P w) k f fd ps (spM mg M))
    (math : ∀ ns : List Int, ns.length ≤ 63 → ∃ b', M [.scr K ns] b0 = some (.ok (.bool true), b')) : FnOk P w K mg base (L2.CX P w) k f fd ps (spLawK K) := by
  refine F.imp fun vs H Q E h => ?_
  obtain ⟨a, ns, rfl, hs, hl, q⟩ := h
  obtain ⟨b', e⟩ := math ns hl
  refine ⟨none, H, b0, [.scr K ns], _, b', fun _ _ z => z, fun _ z => (nomatch z), .cons ⟨a, rfl, hs⟩ .nil, e, fun v H' G' s r => ?_⟩
  rw [r.inv_bool]
  exact q H'
theorem walkD {l : PySem.W.OpenLaw} {q : Program} {loose : List Str} {XP : (Str → Option Value) → Heap → Prop} {YP : World → Heap → Prop} {d : DefRec} {K : Params → PySem.W.Frag} {k : Nat} {x : Str} (hr : Room k callerA) (hn : l.most = some 63) (hdf : d.params.defaults = []) (hY : ∀ (w : World) (h : Heap), YP w h → (K w.params).In h)
    (F : ∀ (w : World) (mg : Str → Option Value) (fa : Addr) (h : Heap), (K w.params).In h → h.Ns mainGlobals mg → mg d.name = some (.ref fa) →
      ∃ fd : FuncData, (∀ (s : Shared) (u : Value), BindsTo s fd ⟨[u], []⟩ [(x, u)]) ∧ ∀ base : Heap, (K w.params).In base → base.Ns mainGlobals mg → FnOk l.prog w (K w.params) mg base (L2.CX l.prog w) k fa fd [x] (spLawK (K w.params))) :
    PySem.W.WalkO q loose XP YP l.row.toRowW d [] (fun f vs => PySem.call f vs) := by
  refine L2.walk_of (n := 63) (k := k) (x := x) (CX := fun w => L2.CX l.prog w) (sp := fun w => spLawK (K w.params)) hn (by decide) hdf hr hY F (fun _ _ a ns hl _ hS => ⟨a, ns, rfl, hS, hl, fun _ => rfl⟩) fun w H s e s' z => ?_
  obtain ⟨_, _, _, _, _, _, _, _, _, _, _, _, z⟩ := z
  obtain ⟨_, _, _, _, _, _, _, _, _, _, _, _, z⟩ := z
end DL
set_option maxRecDepth 100000
set_option maxHeartbeats 1000000
namespace DL
open PySem PySem.Spec PyProof.Rows L2
/-! ### a list comprehension of two clauses -/
section
variable {X : Cx} {W : WX} {O : List Nat}
theorem DI.can {tg e : Expr} {f : EnvD → Mo (List Dt)} (h : DI X W O tg e f) : PI X tg e (can X.mg W O RI f) := by
  obtain ⟨t, h1, h2⟩ := h
  exact ⟨fun pins s σ H R I ⟨B, H0, G0, G, ρ, b, r, b', J, e, p⟩ => h1.run pins s σ H R I (h2 B H0 G0 σ H G ρ b R r b' J e p)⟩
def lcLoop2 (g : Dt → EnvD → Option EnvD) (ft : EnvD → Mo Bool) (fi1 : EnvD → Mo (List Dt)) (vs1 : List Nat) (g1 : Dt → EnvD → Option EnvD) (ft1 : EnvD → Mo Bool) (fe : EnvD → Mo Dt) (ρ : EnvD) : List Dt → Mo (List Dt)
  | [] => mOk []
  | d :: r => match g d ρ with
    | none => fun _ => none
    | some ρ1 => mNo (ft ρ1) fun k => if k = true then mNo (fi1 ρ1) fun ds1 => mNo (lcLoop g1 ft1 fe (wipeE ρ1 vs1) ds1) fun xs => mNo (lcLoop2 g ft fi1 vs1 g1 ft1 fe ρ r) fun ys => mOk (xs ++ ys) else lcLoop2 g ft fi1 vs1 g1 ft1 fe ρ r
theorem lcLoop2_ok {g : Dt → EnvD → Option EnvD} {ft : EnvD → Mo Bool} {fi1 : EnvD → Mo (List Dt)} {vs1 : List Nat} {g1 : Dt → EnvD → Option EnvD} {ft1 : EnvD → Mo Bool} {fe : EnvD → Mo Dt} {ρ : EnvD} : ∀ {ds : List Dt} {b : Bx} {r : Except Ex (List Dt)} {b' : Bx}, lcLoop2 g ft fi1 vs1 g1 ft1 fe ρ ds b = some (r, b') → ∃ ys, r = .ok ys
  | [], b, r, b', h => ⟨_, (mOk_some h).1⟩
  | d :: ds, b, r, b', h => by
    cases hg : g d ρ with
    | none => simp only [lcLoop2, hg] at h; cases h
    | some ρ1 =>
      simp only [lcLoop2, hg] at h
      obtain ⟨k, b1, _, h⟩ := mNo_some h
      split at h
      · obtain ⟨y, b2, _, h⟩ := mNo_some h
        obtain ⟨xs, b3, _, h⟩ := mNo_some h
        obtain ⟨ys, b3, _, h⟩ := mNo_some h
        exact ⟨_, (mOk_some h).1⟩
      · exact lcLoop2_ok h
def mFew (m : Mo (List Dt)) : Mo (List Dt) := fun b => match m b with
  | some (.ok zs, b') => if zs.length ≤ sizeLine then some (.ok zs, b') else none
  | x => x
def mLc2 (fi : EnvD → Mo (List Dt)) (vs : List Nat) (g : Dt → EnvD → Option EnvD) (ft : EnvD → Mo Bool) (fi1 : EnvD → Mo (List Dt)) (vs1 : List Nat) (g1 : Dt → EnvD → Option EnvD) (ft1 : EnvD → Mo Bool) (fe : EnvD → Mo Dt) (ρ : EnvD) : Mo (List Dt) :=
  mBind (fi ρ) fun ds => mFew (lcLoop2 g ft fi1 vs1 g1 ft1 fe (wipeE ρ vs) ds)
/-- what a target stores is at its own slots -/
def GoodG (is : List Nat) (g : Dt → EnvD → Option EnvD) : Prop := ∀ d ρ ρ', g d ρ = some ρ' → ∀ i, i ∉ is → ρ'[i]? = ρ[i]?
theorem good_n {i : Nat} : GoodG [i] (gN i) := fun d ρ ρ' e j hj => by
  cases e
  exact List.getElem?_set_ne (fun z => hj (by simp [z]))
def GoodGs (is : List Nat) (g : List Dt → EnvD → Option EnvD) : Prop := ∀ ds ρ ρ', g ds ρ = some ρ' → ∀ i, i ∉ is → ρ'[i]? = ρ[i]?
theorem goods_nil : GoodGs [] gNil := fun ds ρ ρ' e i _ => by
  unfold gNil at e
  cases ds with
  | nil => cases e; rfl
  | cons _ _ => cases e
theorem goods_cons {is js : List Nat} {g : Dt → EnvD → Option EnvD} {h : List Dt → EnvD → Option EnvD} (hg : GoodG is g) (hh : GoodGs js h) : GoodGs (is ++ js) (gConsD g h) := fun ds ρ ρ' e i hi => by
  unfold gConsD at e
  cases ds with
  | nil => cases e
  | cons d ds =>
    cases x : g d ρ with
    | none => simp [x] at e
    | some ρ1 =>
      simp [x] at e
      exact (hh ds ρ1 ρ' e i (fun z => hi (List.mem_append_right _ z))).trans (hg d ρ ρ1 x i (fun z => hi (List.mem_append_left _ z)))
theorem good_tup {is : List Nat} {n : Nat} {h : List Dt → EnvD → Option EnvD} (hh : GoodGs is h) : GoodG is (gTupD n h) := fun d ρ ρ' e i hi => by
  unfold gTupD at e
  split at e <;> first | (split at e <;> first | exact hh _ _ _ e i hi | cases e) | exact hh _ _ _ e i hi | cases e
theorem StOk.inner {B : Option Addr} {H0 G0 H1 G1 H3 G3 H7 G7 : Hp} {σ1 σ2 : L2.St} {ρ1 ρ2 : EnvD} {b1 b3 b7 : Bx} (I : StOk B O H0 G0 σ1 H1 G1 ρ1 b1) (J : StOk B O H0 G0 σ2 H3 G3 ρ2 b3) (st : Stp B H1 G1 H7 G7 b7) (gr : Same G3 G7)
    (hσ : ∀ i ∈ O, σ2[i]? = σ1[i]?) (hρ : ∀ i ∈ O, ∀ s, ρ2[i]? = some (some s) → ρ1[i]? = some (some s)) : StOk B O H0 G0 σ2 H7 G7 ρ2 b7 where
  stp := I.stp.trans st
  len := J.len
  sl := fun i s hi e => by
    obtain ⟨v, h1, h2⟩ := J.sl i s hi e
    exact ⟨v, h1, h2.mono gr⟩
  ow := fun i s hi e => by
    obtain ⟨a, ds, vs, h1, h2, h3, h4, h5, h6, h7, h8⟩ := I.ow i s hi (hρ i hi s e)
    exact ⟨a, ds, vs, h1, (hσ i hi).trans h2, st.keep a _ h3 h6, st.new a _ h3 h4, h5, h6, h7.mono st.grow, h8⟩
  ap := J.ap
theorem wipeE_out {ρ : EnvD} {i : Nat} : ∀ {vs : List Nat}, i ∉ vs → (wipeE ρ vs)[i]? = ρ[i]?
  | [], _ => rfl
  | v :: vs, h => by
    show ((wipeE ρ vs).set v none)[i]? = _
    rw [List.getElem?_set_ne (fun e => h (by simp [e]))]
    exact wipeE_out fun m => h (List.mem_cons_of_mem _ m)
theorem ev_lc2 {mg : Mg} {wi : TI} {fi fi1 : EnvD → Mo (List Dt)} {is is1 : List Nat} {g g1 : Dt → EnvD → Option EnvD} {ft ft1 : EnvD → Mo Bool} {fe : EnvD → Mo Dt} {vs vs1 : List Nat} (hi : Ev mg W O wi RI fi) (his : ∀ i ∈ is, i ∈ vs) (his1 : ∀ i ∈ is1, i ∈ vs1) (hgo : GoodG is g) (hO : ∀ i ∈ O, i ∉ is) (hO1 : ∀ i ∈ O, i ∉ vs1) :
    EvL mg W O (tLc2 wi (canG O is g) (can mg Wn O RB ft) (can mg Wn O RI fi1) (canG O is1 g1) (can mg Wn O RB ft1) (can mg Wn O RD fe) vs vs1) (mLc2 fi vs g ft fi1 vs1 g1 ft1 fe) := by
  intro B H0 G0 σ H G ρ b Q r b' I e p
  unfold mLc2 at e
  rcases mBind_some e with ⟨er, q1, rfl⟩ | ⟨ds, b1, q1, e⟩
  · exact hi.err (R' := RI) (Q' := fun _ _ => True) I q1 p
  unfold mFew at e
  cases hx : lcLoop2 g ft fi1 vs1 g1 ft1 fe (wipeE ρ vs) ds b1 with
  | none => rw [hx] at e; cases e
  | some z =>
  obtain ⟨z, b2⟩ := z
  obtain ⟨zs, rfl⟩ := lcLoop2_ok hx
  rw [hx] at e
  simp only at e
  split at e
  case isFalse => cases e
  rename_i hfew
  simp only [Option.some.injEq, Prod.mk.injEq] at e
  obtain ⟨rfl, rfl⟩ := e
  have e := hx
  refine hi B H0 G0 σ H G ρ b _ _ _ I q1 fun J H1 G1 s1 ⟨it, hl⟩ D hD => ?_
  have Iw := (I.step s1).wipe vs
  obtain ⟨hD0, hB⟩ := s1.none hD
  have gD : G1 D = none := Same.free s1.sub hD
  refine ⟨fun i m H' => m = ds.length - i ∧ i ≤ ds.length ∧ ∃ G' bi accV accD ys, Stp B H1 G1 H' G' bi ∧ H' D = some (.lst accV) ∧ G' D = none ∧ RpAll G' accV accD ∧ lcLoop2 g ft fi1 vs1 g1 ft1 fe (wipeE ρ vs) (ds.drop i) bi = some (.ok ys, b2) ∧ accD ++ ys = zs,
    ⟨ds.length, by simp, Nat.zero_le _, G1, b1, [], [], zs, Stp.addH s1.sub s1.box hD, upd_same, gD, .nil, by simpa using e, rfl⟩, ?_⟩
  rintro i m H' ⟨rfl, hi', G', bi, accV, accD, ys, st, hH, hG, ra, hloop, hzs⟩
  obtain ⟨hstop, hgo0⟩ := it H' G' st.grow st.sub
  by_cases hlt : i < ds.length
  case neg =>
    have ei : i = ds.length := by omega
    subst ei
    rw [List.drop_length] at hloop
    obtain ⟨hy, rfl⟩ := mOk_some hloop
    cases hy
    rw [List.append_nil] at hzs
    subst hzs
    exact .inl ⟨hstop, p D accV H' G' (s1.trans st) hD0 hH hG hB ra (by rw [ra.length]; exact hfew)⟩
  have hd : ds[i]? = some ds[i] := List.getElem?_eq_getElem hlt
  obtain ⟨k1, k2⟩ := hgo0 i ds[i] hd
  refine .inr ⟨k1, fun H'' => i + 1 ≤ ds.length ∧ ∃ G'' bj accV' accD' ys', Stp B H1 G1 H'' G'' bj ∧ H'' D = some (.lst accV') ∧ G'' D = none ∧ RpAll G'' accV' accD' ∧ lcLoop2 g ft fi1 vs1 g1 ft1 fe (wipeE ρ vs) (ds.drop (i + 1)) bj = some (.ok ys', b2) ∧ accD' ++ ys' = zs,
    fun H'' w => ⟨ds.length - (i + 1), by omega, rfl, w⟩, fun x H3 y => ?_⟩
  obtain ⟨G3, s3, r3⟩ := k2 x H3 y
  have st3 := st.trans (s3 B bi st.box)
  rw [List.drop_eq_getElem_cons hlt] at hloop
  cases hg1 : g ds[i] (wipeE ρ vs) with
  | none => simp only [lcLoop2, hg1] at hloop; cases hloop
  | some ρ1 =>
  simp only [lcLoop2, hg1] at hloop
  obtain ⟨k, b3, ht, hloop⟩ := mNo_some hloop
  have J3 := Iw.step st3
  refine ⟨B, H0, G0, G3, wipeE ρ vs, bi, ds[i], ρ1, J3, r3, hg1, fun σ2 J4 hw => ⟨(hw vs his).trans (wipe_sub vs fun _ h => h), B, H0, G0, G3, ρ1, bi, .ok k, b3, J4, ht, ?_⟩⟩
  intro k' H4 G4 s4 rk
  cases rk
  have st4 := st3.trans s4
  have J5 := J4.step s4
  have hH4 : H4 D = some (.lst accV) := s4.keep D _ ((s3 B bi st.box).keep D _ hH hB) hB
  have hG4 : G4 D = none := s4.new D _ ((s3 B bi st.box).keep D _ hH hB) ((s3 B bi st.box).new D _ hH hG)
  have grow4 : Same G' G4 := (s3 B bi st.box).grow.trans s4.grow
  cases k with
  | false =>
    simp only [Bool.false_eq_true, if_false] at hloop
    exact iteF ⟨hlt, G4, b3, accV, accD, ys, st4, hH4, hG4, ra.mono grow4, hloop, hzs⟩
  | true =>
  simp only [if_true] at hloop
  obtain ⟨ds1, b4, h4, hloop⟩ := mNo_some hloop
  obtain ⟨xs, b5, h5, hloop⟩ := mNo_some hloop
  obtain ⟨ys', b6, hrest, hloop⟩ := mNo_some hloop
  obtain ⟨hy, rfl⟩ := mOk_some hloop
  cases hy
  refine iteT ⟨B, H0, G0, G4, ρ1, b3, .ok ds1, b4, J5, h4, ?_⟩
  intro J1 H5 G5 s5 ⟨it1, hl1⟩
  have st5 := st4.trans s5
  have hH5 : H5 D = some (.lst accV) := s5.keep D _ hH4 hB
  have hG5 : G5 D = none := s5.new D _ hH4 hG4
  have Iw5 := (J5.step s5).wipe vs1
  have hS : ∀ i ∈ O, (L2.wipe σ2 vs1)[i]? = (L2.wipe σ vs)[i]? := fun i hi => by
    rw [wipe_out (hO1 i hi)]
    have := congrArg (fun l : L2.St => l[i]?) (hw is fun _ h => h)
    simp only [wipe_out (hO i hi)] at this
    exact this
  have hR : ∀ i ∈ O, ∀ s, (wipeE ρ1 vs1)[i]? = some (some s) → (wipeE ρ vs)[i]? = some (some s) := fun i hi s e => by
    rw [wipeE_out (hO1 i hi), hgo _ _ _ hg1 i (hO i hi)] at e
    exact e
  refine ⟨fun j n H' => n = ds1.length - j ∧ j ≤ ds1.length ∧ ∃ G' bj accV' accD' xs', Same G5 G' ∧ Stp B H1 G1 H' G' bj ∧ H' D = some (.lst accV') ∧ G' D = none ∧ RpAll G' accV' accD' ∧ lcLoop g1 ft1 fe (wipeE ρ1 vs1) (ds1.drop j) bj = some (.ok xs', b5) ∧ accD' ++ (xs' ++ ys') = zs,
    ⟨ds1.length, by simp, Nat.zero_le _, G5, b4, accV, accD, xs, Same.refl _, st5, hH5, hG5, ra.mono (grow4.trans s5.grow), by simpa using h5, hzs⟩, ?_⟩
  rintro j n H6 ⟨rfl, hj, G6, bj, accV6, accD6, xs6, sA, sB, hH6, hG6, ra6, hl6, hz6⟩
  obtain ⟨hstop1, hgo1⟩ := it1 H6 G6 sA sB.sub
  by_cases hlt1 : j < ds1.length
  case neg =>
    have ej : j = ds1.length := by omega
    subst ej
    rw [List.drop_length] at hl6
    obtain ⟨hy, rfl⟩ := mOk_some hl6
    cases hy
    rw [List.nil_append] at hz6
    exact .inl ⟨hstop1, hlt, G6, _, accV6, accD6, ys', sB, hH6, hG6, ra6, hrest, hz6⟩
  have hd1 : ds1[j]? = some ds1[j] := List.getElem?_eq_getElem hlt1
  obtain ⟨m1, m2⟩ := hgo1 j ds1[j] hd1
  refine .inr ⟨m1, fun H'' => j + 1 ≤ ds1.length ∧ ∃ G' bj accV' accD' xs', Same G5 G' ∧ Stp B H1 G1 H'' G' bj ∧ H'' D = some (.lst accV') ∧ G' D = none ∧ RpAll G' accV' accD' ∧ lcLoop g1 ft1 fe (wipeE ρ1 vs1) (ds1.drop (j + 1)) bj = some (.ok xs', b5) ∧ accD' ++ (xs' ++ ys') = zs,
    fun H'' w => ⟨ds1.length - (j + 1), by omega, rfl, w⟩, fun x H7 y => ?_⟩
  obtain ⟨G7, s7, r7⟩ := m2 x H7 y
  have sA7 := sA.trans (s7 B bj sB.box).grow
  have sB7 := sB.trans (s7 B bj sB.box)
  rw [List.drop_eq_getElem_cons hlt1] at hl6
  cases hg7 : g1 ds1[j] (wipeE ρ1 vs1) with
  | none => simp only [lcLoop, hg7] at hl6; cases hl6
  | some ρ7 =>
  simp only [lcLoop, hg7] at hl6
  obtain ⟨k, b7, ht7, hl6⟩ := mNo_some hl6
  have J7 := Iw.inner Iw5 sB7 sA7 hS hR
  refine ⟨B, H0, G0, G7, wipeE ρ1 vs1, bj, ds1[j], ρ7, J7, r7, hg7, fun σ3 J8 hw3 => ⟨(hw3 vs1 his1).trans (wipe_sub vs1 fun _ h => h), B, H0, G0, G7, ρ7, bj, .ok k, b7, J8, ht7, ?_⟩⟩
  intro k' H8 G8 s8 rk
  cases rk
  have hH7 : H7 D = some (.lst accV6) := (s7 B bj sB.box).keep D _ hH6 hB
  have hG7 : G7 D = none := (s7 B bj sB.box).new D _ hH6 hG6
  have hH8 : H8 D = some (.lst accV6) := s8.keep D _ hH7 hB
  have hG8 : G8 D = none := s8.new D _ hH7 hG7
  have grow8 : Same G6 G8 := (s7 B bj sB.box).grow.trans s8.grow
  have sA8 := sA7.trans s8.grow
  have sB8 := sB7.trans s8
  cases k with
  | false =>
    simp only [Bool.false_eq_true, if_false] at hl6
    exact iteF ⟨hlt1, G8, b7, accV6, accD6, xs6, sA8, sB8, hH8, hG8, ra6.mono grow8, hl6, hz6⟩
  | true =>
    simp only [if_true] at hl6
    obtain ⟨y', b8, he, hl6⟩ := mNo_some hl6
    obtain ⟨xs', b9, hrest1, hl6⟩ := mNo_some hl6
    obtain ⟨hy, rfl⟩ := mOk_some hl6
    cases hy
    refine iteT ⟨B, H0, G0, G8, ρ7, b7, .ok y', b8, J8.step s8, he, ?_⟩
    intro u H9 G9 s9 r9
    have hH9 : H9 D = some (.lst accV6) := s9.keep D _ hH8 hB
    have hG9 : G9 D = none := s9.new D _ hH8 hG8
    have fresh : H5 D ≠ none := by rw [hH5]; simp
    have low : accV6.length < sizeLine := by
      have := congrArg List.length hz6
      simp at this
      have := ra6.length
      omega
    refine ⟨accV6, hH9, low, hlt1, G9, b8, accV6 ++ [u], accD6 ++ [y'], xs', sA8.trans s9.grow, (sB8.trans s9).mod hD hG9 hB, upd_same, hG9, (ra6.mono (grow8.trans s9.grow)).append (.cons r9 .nil), hrest1, ?_⟩
    rw [← hz6]
    simp
theorem del_lc2 {elt tg iter tg1 iter1 : Expr} {ifs ifs1 : List Expr} {scope : Scope} {own : List (Str × Nat)} {vs1 : List Nat} {pos : Pos} {fi fi1 : EnvD → Mo (List Dt)} {is is1 : List Nat} {g g1 : Dt → EnvD → Option EnvD} {ft ft1 : EnvD → Mo Bool} {fe : EnvD → Mo Dt} (hc : X.calm = true) (hN : X.N.Nodup) (hi : DI X W O tg iter fi) (ok : BlkOk X.N X.env.scope scope own)
    (hgo : GoodG is g) (hv : ∀ i ∈ vs1, i ∈ own.map (·.2)) (his : ∀ i ∈ is, i ∈ own.map (·.2)) (his1 : ∀ i ∈ is1, i ∈ vs1) (hO : ∀ i ∈ O, i ∉ is) (hO1 : ∀ i ∈ O, i ∉ vs1)
    (hg : ∀ (s : Shared) (H : Hp) (C : Addr) (cl : List (Str × Addr)) (fp : List Addr), DG (X.blk s H scope (compEnvC scope cl C X.env) fp) O tg is g) (ht : ∀ (s : Shared) (H : Hp) (C : Addr) (cl : List (Str × Addr)) (fp : List Addr), DTs (X.blk s H scope (compEnvC scope cl C X.env) fp) Wn O ifs ft)
    (hi1 : ∀ (s : Shared) (H : Hp) (C : Addr) (cl : List (Str × Addr)) (fp : List Addr), DI (X.blk s H scope (compEnvC scope cl C X.env) fp) Wn O tg1 iter1 fi1)
    (hg1 : ∀ (s : Shared) (H : Hp) (C : Addr) (cl : List (Str × Addr)) (fp : List Addr), DG (X.blk s H scope (compEnvC scope cl C X.env) fp) O tg1 is1 g1) (ht1 : ∀ (s : Shared) (H : Hp) (C : Addr) (cl : List (Str × Addr)) (fp : List Addr), DTs (X.blk s H scope (compEnvC scope cl C X.env) fp) Wn O ifs1 ft1)
    (he : ∀ (s : Shared) (H : Hp) (C : Addr) (cl : List (Str × Addr)) (fp : List Addr), DE (X.blk s H scope (compEnvC scope cl C X.env) fp) Wn O elt fe) (hs : ∀ x, foldedSetIterable iter X.env x = pure x := by intro _; rfl) (hs1 : ∀ env x, foldedSetIterable iter1 env x = pure x := by intro _ _; rfl) :
    DEL X W O (.ListComp elt [⟨tg, iter, ifs, 0⟩, ⟨tg1, iter1, ifs1, 0⟩] scope pos) (mLc2 fi (own.map (·.2)) g ft fi1 vs1 g1 ft1 fe) := by
  obtain ⟨wi, i1, i2⟩ := hi
  exact ⟨_, pe_lc2 (vs1 := vs1) hc hN i1 ok hv (fun s H C cl fp => (hg s H C cl fp).can) (fun s H C cl fp => (ht s H C cl fp).can) (fun s H C cl fp => (hi1 s H C cl fp).can) (fun s H C cl fp => (hg1 s H C cl fp).can) (fun s H C cl fp => (ht1 s H C cl fp).can) (fun s H C cl fp => (he s H C cl fp).can) hs hs1, ev_lc2 i2 his his1 hgo hO hO1⟩
end
end DL
set_option maxRecDepth 100000
set_option maxHeartbeats 1000000
namespace DL
open PySem PySem.Spec PyProof.Rows L2
section
variable {X : Cx} {W : WX} {O : List Nat}
/-! ### list(range(..)), tuple(range(..)) -/
theorem rg_rp {G : Hp} (a b : Int) : RpAll G (rgV a b) (rngD a (b - a).toNat) := by
  unfold rgV rngD
  have := RpAll.of_ints (G := G) ((List.range (b - a).toNat).map fun i => a + ((i : Nat) : Int))
  simpa [List.map_map, Function.comp_def] using this
def rgB (a b : Int) : Bool := decide (-16777216 ≤ a) && decide (a ≤ 16777216) && decide (-16777216 ≤ b) && decide (b ≤ 16777216) && decide (b - a ≤ 16777216)
theorem rgB_ok {a b : Int} (h : rgB a b = true) : RgOk a b := by
  simp only [rgB, Bool.and_eq_true, decide_eq_true_eq] at h
  obtain ⟨⟨⟨⟨h1, h2⟩, h3⟩, h4⟩, h5⟩ := h
  exact ⟨by omega, by omega, by omega, by omega, by omega⟩
theorem rgB_len {a b : Int} (h : rgB a b = true) : (rgV a b).length ≤ sizeLine := by
  rw [rgV_length, sizeLine_eq]
  simp only [rgB, Bool.and_eq_true, decide_eq_true_eq] at h
  omega
def rgL1 : Dt → Option Dt
  | .int n => if rgB 0 n = true then some (.list (rngD 0 n.toNat)) else none
  | _ => none
def rgT1 : Dt → Option Dt
  | .int n => if rgB 0 n = true then some (.tuple (rngD 0 n.toNat)) else none
  | _ => none
def rgL2 : Dt → Dt → Option Dt := opII fun i j => if rgB i j = true then some (.list (rngD i (j - i).toNat)) else none
theorem Stp.laid {B : Option Addr} {H G : Hp} {b : Bx} {q : Addr} {o : HO} (s : Same G H) (x : BoxAt B H G b) (hq : H q = Option.none) : Stp B H G (upd H q o) (upd G q o) b := Stp.add s x hq
theorem ok_rgL1 : OneOk RD (fun x H Q => ∃ n, x = .int n ∧ RgOk 0 n ∧ ∀ q, H q = none → Q (.ref q) (upd H q (.lst (rgV 0 n)))) rgL1 := by
  intro B H G x d b c Q s hb rd e p
  unfold rgL1 at e
  split at e <;> try cases e
  rename_i n
  split at e <;> try cases e
  rename_i hr
  have hx : x = .int n := Rp.inv_int rd
  subst hx
  refine ⟨n, rfl, rgB_ok hr, fun q hq => p _ _ _ (Stp.laid s hb hq) (.lst upd_same (rgB_len hr) ?_)⟩
  have := rg_rp (G := upd G q (.lst (rgV 0 n))) 0 n
  simpa using this
theorem ok_rgT1 : OneOk RD (fun x H Q => ∃ n, x = .int n ∧ RgOk 0 n ∧ ∀ q, H q = none → Q (.ref q) (upd H q (.tup (rgV 0 n)))) rgT1 := by
  intro B H G x d b c Q s hb rd e p
  unfold rgT1 at e
  split at e <;> try cases e
  rename_i n
  split at e <;> try cases e
  rename_i hr
  have hx : x = .int n := Rp.inv_int rd
  subst hx
  refine ⟨n, rfl, rgB_ok hr, fun q hq => p _ _ _ (Stp.laid s hb hq) (.tup upd_same (rgB_len hr) ?_)⟩
  have := rg_rp (G := upd G q (.tup (rgV 0 n))) 0 n
  simpa using this
theorem ok_rgL2 : OpOk (fun x y H Q => ∃ i j, x = .int i ∧ y = .int j ∧ RgOk i j ∧ ∀ q, H q = none → Q (.ref q) (upd H q (.lst (rgV i j)))) rgL2 := by
  intro B H G x y d e' b c Q s hb rd re e p
  obtain ⟨i, j, rfl, rfl, e2⟩ := opII_inv e
  split at e2 <;> try cases e2
  rename_i hr
  have hx : x = .int i := Rp.inv_int rd
  have hy : y = .int j := Rp.inv_int re
  subst hx hy
  exact ⟨i, j, rfl, rfl, rgB_ok hr, fun q hq => p _ _ _ (Stp.laid s hb hq) (.lst upd_same (rgB_len hr) (rg_rp i j))⟩
theorem de_listRg1 {e : Expr} {f : EnvD → Mo Dt} {p p2 pos2 pos : Pos} (hc : X.calm = true) (hm : X.mg "list" = none) (hm2 : X.mg "range" = none) (h : DE X W O e f) (hg : Gl X "list" := by rfl) (hg2 : Gl X "range" := by rfl)
    (na : starEach [e] X.env = (false, eval e X.env) :: starEach [] X.env := by rfl) (nb : starEach [.Call (.Name "range" p2) [e] [] pos2] X.env = (false, eval (.Call (.Name "range" p2) [e] [] pos2) X.env) :: starEach [] X.env := by rfl) :
    DE X W O (.Call (.Name "list" p) [.Call (.Name "range" p2) [e] [] pos2] [] pos) (mThen f rgL1) := by
  obtain ⟨t, h1, h2⟩ := h
  have ev := ev_one (W := W) (O := O) ok_rgL1 h2
  exact ⟨_, pe_listRg hc hg hm (prg_1 hg2 hm2 h1 na) nb, ev⟩
theorem de_tupRg1 {e : Expr} {f : EnvD → Mo Dt} {p p2 pos2 pos : Pos} (hc : X.calm = true) (hm : X.mg "tuple" = none) (hm2 : X.mg "range" = none) (h : DE X W O e f) (hg : Gl X "tuple" := by rfl) (hg2 : Gl X "range" := by rfl)
    (na : starEach [e] X.env = (false, eval e X.env) :: starEach [] X.env := by rfl) (nb : starEach [.Call (.Name "range" p2) [e] [] pos2] X.env = (false, eval (.Call (.Name "range" p2) [e] [] pos2) X.env) :: starEach [] X.env := by rfl) :
    DE X W O (.Call (.Name "tuple" p) [.Call (.Name "range" p2) [e] [] pos2] [] pos) (mThen f rgT1) := by
  obtain ⟨t, h1, h2⟩ := h
  have ev := ev_one (W := W) (O := O) ok_rgT1 h2
  exact ⟨_, pe_tupRg hc hg hm (prg_1 hg2 hm2 h1 na) nb, ev⟩
theorem de_listRg2 {e e2 : Expr} {f f2 : EnvD → Mo Dt} {p p2 pos2 pos : Pos} (hc : X.calm = true) (hm : X.mg "list" = none) (hm2 : X.mg "range" = none) (h : DE X W O e f) (h' : DE X W O e2 f2) (hg : Gl X "list" := by rfl) (hg2 : Gl X "range" := by rfl)
    (na : starEach [e, e2] X.env = (false, eval e X.env) :: starEach [e2] X.env := by rfl) (na2 : starEach [e2] X.env = (false, eval e2 X.env) :: starEach [] X.env := by rfl) (hp : (backTo pos2 (starEach [e2] X.env)).any (·.1) = false := by rfl) (nb : starEach [.Call (.Name "range" p2) [e, e2] [] pos2] X.env = (false, eval (.Call (.Name "range" p2) [e, e2] [] pos2) X.env) :: starEach [] X.env := by rfl) :
    DE X W O (.Call (.Name "list" p) [.Call (.Name "range" p2) [e, e2] [] pos2] [] pos) (mBin rgL2 f f2) := by
  obtain ⟨t, h1, h2⟩ := h
  obtain ⟨t', h1', h2'⟩ := h'
  have ev := ev_bin (W := W) (O := O) ok_rgL2 h2 h2'
  exact ⟨_, pe_listRg hc hg hm (prg_2 hg2 hm2 h1 h1' na na2 hp) nb, ev⟩
/-! ### xs.index(x) -/
theorem room65 {X : Cx} {k : Nat} (hr : Room k X.A) : X.A.units + 65 < cLine := by have := hr.un; omega
theorem ty_lstIx : typeOf (.builtin "list.index") = pure (.type "method_descriptor") := by
  show builtinType _ = _
  rw [builtinType_eq_fast]
  kernel_rfl
def indexD : Dt → Dt → Option Dt
  | .list ds, d => if SeqAt.shaped (.list ds) = true ∧ SeqAt.shaped d = true then (ds.findIdx? fun z => PyData.eqv z d).map fun j => .int (j : Nat) else none
  | _, _ => none
def mIxL (f : Mo Dt) : Dt → Mo Dt
  | .list ds => mBind f fun y => mOpt (indexD (.list ds) y)
  | _ => fun _ => none
def mIndex (fo fe : EnvD → Mo Dt) (ρ : EnvD) : Mo Dt := mBind (fo ρ) (mIxL (fe ρ))
theorem de_index {o e : Expr} {fo fe : EnvD → Mo Dt} {pa pc : Pos} {k : Nat} (hr : Room k X.A) (ho : DE X W O o fo) (he : DE X W O e fe)
    (hp : ∀ {to : TE} {ta : TA}, PE X o to → PA X [e] ta → PE X (.Call (.Attribute o "index" pa) [e] [] pc) (tBM X.K "list" (rIndexD X.K) to ta) := by intro _ _ h1 h2; exact (pe_bm PySem.F.plainAttrs_list PySem.F.slot_list_index DL.ty_lstIx (mt_indexD (DL.room65 hr)) h1 h2))
    (hs1 : starEach [e] X.env = (false, eval e X.env) :: starEach [] X.env := by rfl) : DE X W O (.Call (.Attribute o "index" pa) [e] [] pc) (mIndex fo fe) := by
  obtain ⟨t, h1, h2⟩ := ho
  obtain ⟨u, k1, k2⟩ := he
  refine ⟨_, hp h1 (pa_cons k1 pa_nil hs1), fun B H0 G0 σ H G ρ b Q r b' I ee p => ?_⟩
  unfold mIndex at ee
  rcases mBind_some ee with ⟨er, q1, rfl⟩ | ⟨x, b1, q1, ee⟩
  · exact h2 B H0 G0 σ H G ρ b _ _ _ I q1 p
  refine h2 B H0 G0 σ H G ρ b _ _ _ I q1 fun v H1 G1 s1 rx => ?_
  have I1 := I.step s1
  unfold mIxL at ee
  split at ee
  case h_2 => cases ee
  rename_i ds
  obtain ⟨a, xs, rfl, ga, la, ra⟩ := Rp.inv_list rx
  refine ⟨Or.inl ⟨rfl, _, Or.inl (Or.inl (s1.sub _ _ ga))⟩, ?_⟩
  rcases mBind_some ee with ⟨er, q2, rfl⟩ | ⟨y, b2, q2, ee⟩
  · exact k2 B H0 G0 σ H1 G1 ρ b1 _ _ _ I1 q2 (p.after s1)
  refine k2 B H0 G0 σ H1 G1 ρ b1 _ _ _ I1 q2 fun w H2 G2 s2 ry => ?_
  unfold mOpt at ee
  cases hi : indexD (.list ds) y with
  | none => rw [hi] at ee; cases ee
  | some c =>
    rw [hi] at ee
    simp only [Option.map_some, Option.some.injEq, Prod.mk.injEq] at ee
    obtain ⟨rfl, rfl⟩ := ee
    simp only [indexD] at hi
    split at hi
    case isFalse => cases hi
    rename_i hsh
    cases hj : ds.findIdx? fun z => PyData.eqv z y with
    | none => rw [hj] at hi; cases hi
    | some j =>
      rw [hj] at hi
      cases hi
      obtain ⟨j1, j2, j3⟩ := List.findIdx?_eq_some_iff_getElem.mp hj
      have S2 := s1.trans s2
      refine ⟨a, w, y, ds, j, ds[j], rfl, rfl, (rx.mono s2.grow).dp s2.sub, ry.dp s2.sub, hsh.1, hsh.2, List.getElem?_eq_getElem j1, j2, fun m z' hm hz' => ?_, p _ _ _ S2 (.int _)⟩
      have hml : m < ds.length := by omega
      rw [List.getElem?_eq_getElem hml] at hz'
      cases hz'
      simpa using j3 m hm
theorem dst_lc2 {Ol : List Nat} {i : Nat} {y : Str} {py : Pos} {elt tg iter tg1 iter1 : Expr} {ifs ifs1 : List Expr} {scope : Scope} {own : List (Str × Nat)} {vs1 : List Nat} {pos spos : Pos} {fi fi1 : EnvD → Mo (List Dt)} {is is1 : List Nat} {g g1 : Dt → EnvD → Option EnvD} {ft ft1 : EnvD → Mo Bool} {fe : EnvD → Mo Dt} (hc : X.calm = true) (hN : X.N.Nodup) (hy : X.N[i]? = some y) (hyl : X.env.scope.names.lookup y = some .local)
    (hsw : swapsWith (.ListComp elt [⟨tg, iter, ifs, 0⟩, ⟨tg1, iter1, ifs1, 0⟩] scope pos) (some (.Name y py)) spos.line X.env = pure true) (hi : DI X W O tg iter fi) (ok : BlkOk X.N X.env.scope scope own)
    (hgo : GoodG is g) (hv : ∀ i ∈ vs1, i ∈ own.map (·.2)) (his : ∀ i ∈ is, i ∈ own.map (·.2)) (his1 : ∀ i ∈ is1, i ∈ vs1) (hO : ∀ i ∈ O, i ∉ is) (hO1 : ∀ i ∈ O, i ∉ vs1)
    (hg : ∀ (s : Shared) (H : Hp) (C : Addr) (cl : List (Str × Addr)) (fp : List Addr), DG (X.blk s H scope (compEnvC scope cl C X.env) fp) O tg is g) (ht : ∀ (s : Shared) (H : Hp) (C : Addr) (cl : List (Str × Addr)) (fp : List Addr), DTs (X.blk s H scope (compEnvC scope cl C X.env) fp) Wn O ifs ft)
    (hi1 : ∀ (s : Shared) (H : Hp) (C : Addr) (cl : List (Str × Addr)) (fp : List Addr), DI (X.blk s H scope (compEnvC scope cl C X.env) fp) Wn O tg1 iter1 fi1)
    (hg1 : ∀ (s : Shared) (H : Hp) (C : Addr) (cl : List (Str × Addr)) (fp : List Addr), DG (X.blk s H scope (compEnvC scope cl C X.env) fp) O tg1 is1 g1) (ht1 : ∀ (s : Shared) (H : Hp) (C : Addr) (cl : List (Str × Addr)) (fp : List Addr), DTs (X.blk s H scope (compEnvC scope cl C X.env) fp) Wn O ifs1 ft1)
    (he : ∀ (s : Shared) (H : Hp) (C : Addr) (cl : List (Str × Addr)) (fp : List Addr), DE (X.blk s H scope (compEnvC scope cl C X.env) fp) Wn O elt fe) (hs : ∀ x, foldedSetIterable iter X.env x = pure x := by intro _; rfl) (hs1 : ∀ env x, foldedSetIterable iter1 env x = pure x := by intro _ _; rfl) (ho : i ∉ O := by decide) :
    DSt X W O Ol (.Assign [.Name y py] (.ListComp elt [⟨tg, iter, ifs, 0⟩, ⟨tg1, iter1, ifs1, 0⟩] scope pos) spos) (i :: O) (mSetL i (mLc2 fi (own.map (·.2)) g ft fi1 vs1 g1 ft1 fe)) := by
  obtain ⟨wi, i1, i2⟩ := hi
  exact ⟨_, ps_setLc2 (vs1 := vs1) hc hN hy hyl hsw i1 ok hv (fun s H C cl fp => (hg s H C cl fp).can) (fun s H C cl fp => (ht s H C cl fp).can) (fun s H C cl fp => (hi1 s H C cl fp).can) (fun s H C cl fp => (hg1 s H C cl fp).can) (fun s H C cl fp => (ht1 s H C cl fp).can) (fun s H C cl fp => (he s H C cl fp).can) hs hs1, evs_setL (ev_lc2 i2 his his1 hgo hO hO1) ho⟩
end
end DL
set_option maxRecDepth 100000
set_option maxHeartbeats 1000000
namespace DL
open PySem PySem.Spec PyProof.Rows L2
/-! ### enumerate(a tuple) -/
set_option maxHeartbeats 1000000 in
theorem meets_enum1 {v : Value} {o : Obj} {N : Heap → Prop} (B : Begins v o N) :
    Meets (Builtin.«enumerate.__new__» ⟨[.type "enumerate", v], []⟩) (fun _ R s => N s.heap ∧
      R (.ok (.ret (.ref (s.heap.push o).objs.size))) { s with heap := (s.heap.push o).push { cls := .type "enumerate", data := .fields #[.none, .bool false, .ref s.heap.objs.size, rawInt 0, .none, .none] } }) :=
  .of_wp fun prog w A R s h => by
    obtain ⟨hp, g, d, tk, os⟩ := s
    obtain ⟨h1, h⟩ := h
    have hsub := sub_enumerate
    have it : ∀ {A' : Around} {E : Value → Shared → Prop} {Q : Value → Shared → Prop}, Q (.ref hp.objs.size) ⟨hp.push o, g, d, tk, os⟩ → wpAny (model prog w) A' (pyIter v) Q E ⟨hp, g, d, tk, os⟩ :=
      fun q => B.iter prog w _ _ ⟨hp, g, d, tk, os⟩ _ h1 q
    wp_walk using it
    refine wpAny_stack_any fun st => wpAny_pure ?_
    split
    · rename_i c _ _ _ _ _
      cases (c == Value.type "enumerate")
      all_goals
        wp_walk using it
        exact ⟨_, rfl, h⟩
    · wp_walk using it
      exact ⟨_, rfl, h⟩
theorem enum_made {prog : Program} {w : World} {A : Around} {E : Value → Shared → Prop} {s : Shared} {v : Value} {o : Obj} {N : Heap → Prop} {Q : Value → Shared → Prop} (B : Begins v o N) (h1 : N s.heap)
    (h : ∀ h', IsEnum h' (s.heap.objs.size + 1) s.heap.objs.size 0 .none → h'.get? s.heap.objs.size = some o → (∀ b u, s.heap.get? b = some u → h'.get? b = some u) → Q (.ref (s.heap.objs.size + 1)) { s with heap := h' }) :
    wpAny (model prog w) A (call (.type "enumerate") [v]) Q E s := by
  refine callType_new F.called_enumerate (by decide) (F.typeCall_enumerate_1 _) (F.newCall_enumerate_1 _) (fun obj => F.args_object_init_2 obj _) F.entry_enumerate_new (meets_enum1 B) ⟨h1, ?_⟩
  have z : (s.heap.push o).objs.size = s.heap.objs.size + 1 := Heap.size_push ..
  show _ ∧ _
  rw [z]
  have e : IsEnum ((s.heap.push o).push { cls := .type "enumerate", data := .fields #[.none, .bool false, .ref s.heap.objs.size, rawInt 0, .none, .none] }) (s.heap.objs.size + 1) s.heap.objs.size 0 .none := by
    rw [← z]
    exact Heap.get?_push_size _ rfl
  exact ⟨⟨_, e, rfl⟩, h _ e (Heap.get?_push_of_some _ (Heap.get?_push_size _ B.free)) fun b u q => Heap.get?_push_of_some _ (Heap.get?_push_of_some _ q)⟩
/-- the tuple at a, each item in a new pair -/
def IteT (K : PySem.W.Frag) (a : Addr) : It where
  go := fun i H => ∃ (xs : List V) (x : V), SqT K H a xs ∧ xs[i]? = some x
  yld := fun i H v H' => ∃ T x, v = .ref T ∧ H T = none ∧ H' = upd H T (.tup [.int (i : Nat), x]) ∧ ∀ xs, SqT K H a xs → xs[i]? = some x
  stop := fun i H => ∃ xs : List V, SqT K H a xs ∧ xs.length ≤ i
theorem turn_enumT {P : Program} {w : World} {K : PySem.W.Frag} {elts : List Expr} {kk : Nat} {tpos : Pos} {a e it : Addr} (hne : e ≠ it) (hea : e ≠ a) (hia : a ≠ it) :
    Turn P w K (.Tuple elts kk tpos) (IteT K a) [e, it] e (fun i h => (∃ old, IsEnum h e it ((i : Nat) : Int) old) ∧ h.IsTupleIter it a i) where
  mem := by simp
  obj := fun i h ⟨⟨old, u⟩, ⟨o, v, _, y⟩⟩ b hb => by
    rcases List.mem_cons.mp hb with rfl | hb
    · exact ⟨_, u, fun _ q => nomatch q⟩
    · rw [List.mem_singleton.mp hb]
      exact ⟨o, v, fun _ q => by rw [y] at q; cases q⟩
  keep := fun i h h' ⟨⟨old, u⟩, v⟩ k => ⟨⟨old, k e (by simp) _ u⟩, v.at fun o q => k it (by simp) o q⟩
  item := by
    intro X hP hw hK hc i pins s σ H E I hf ⟨⟨old, he⟩, hit⟩ ⟨xs, x, hq, hx⟩
    subst hP hw hK
    obtain ⟨its, rv, p, hz⟩ := I.tuple hq
    obtain ⟨u, hu, ru⟩ := rv.get hx
    have lte : e < s.heap.objs.size := Heap.lt_size he
    have lti : it < s.heap.objs.size := by obtain ⟨_, q, _⟩ := hit; exact Heap.lt_size q
    have D := Draws.tuple (prog := X.prog) (w := X.w) (A := X.A.in1) (by simp [I.ok.hd hc]) it a hia its.toArray
    have hlt : i < its.toArray.size := by
      have := (List.getElem?_eq_some_iff.mp hu).1
      simpa using this
    refine wpAny_pyNext_enum_itemD D he ⟨hit, p⟩ hlt hne (by simp [hne, hea]) fun y h' tk hy ho hst hT hsz hk => ?_
    have hyu : y = u := by
      have : its[i]? = some y := by simpa using hy
      rw [hu] at this
      exact (Option.some.inj this).symm
    subst hyu
    refine ⟨_, rfl, wpAny_letOwnedTupleGo_enum (s := { s with heap := h', toks := tk + 1 }) ho fun h'' he' sb => ?_⟩
    have T2 : h''.get? s.heap.objs.size = some { cls := .type "tuple", data := .seq #[.int i tk, y] } := (sb.2 _ (Nat.ne_of_gt lte)).trans hT
    have made : ObjOk X.prog X.w (upd H s.heap.objs.size (.tup [.int (i : Nat), x])) h'' s.heap.objs.size (.tup [.int (i : Nat), x]) :=
      ⟨by show 2 ≤ sizeLine; decide, [.int i tk, y], .cons ⟨_, rfl⟩ (.cons ru .nil), ⟨_, T2, rfl, _, rfl⟩⟩
    have I1 : Inv X pins σ (upd H s.heap.objs.size (.tup [.int (i : Nat), x])) { s with heap := h'', toks := tk + 1 } :=
      I.turnedNew (ch := [e, it]) (fun b ob hb q => (sb.2 b (fun z => hb (by simp [z]))).trans (hk b ob (fun z => hb (by simp [z])) (fun z => hb (by simp [z])) q)) hf (Nat.le_refl _) made
    refine ⟨.ref s.heap.objs.size, _, I1, rfl, ⟨_, x, rfl, I.hok.fresh (Nat.le_refl _), rfl, fun ys hy => by rw [I.tuple_inj hy hq]; exact hx⟩, ⟨⟨y, ?_⟩, hst.1.at fun o q => (sb.2 it (Ne.symm hne)).trans q⟩, fun b hb => ?_⟩
    · rw [show ((i + 1 : Nat) : Int) = (i : Int) + 1 by omega]
      exact he'
    · have : b < s.heap.objs.size := by
        rcases List.mem_cons.mp hb with rfl | hb
        · exact lte
        · rw [List.mem_singleton.mp hb]; exact lti
      rw [upd_ne (Nat.ne_of_lt this)]
      exact (hf b hb).1
  done := by
    intro X hP hw hK hc i pins s σ H E I hf ⟨⟨old, he⟩, hit⟩ ⟨xs, hq, hx⟩
    subst hP hw hK
    obtain ⟨its, rv, p, hz⟩ := I.tuple hq
    obtain ⟨f0, f1, f2, f3, f4, f5⟩ := hf it (by simp)
    have hl := rv.length
    have isE : s.TypeIs (.ref e) "enumerate" := ⟨_, he, rfl⟩
    unfold pyNext
    refine wpAny_bind (wpAny_attempt (wpAny_callSpecial?_slot (name := Str.ofString "__next__") isE F.slot_enumerate_next (wpAny_call_entry F.slot_enumerate_next isE F.entry_enumerate_next ?_ (F.args_enumerate_next_1 _))))
    show wpAny _ _ (field (.ref e) 2 >>= _) _ _ _
    refine wpAny_bind (wpAny_field he rfl (x := .ref it) rfl ?_)
    refine wpAny_bind (RZ.nextOf_tuple_end (by simp [I.ok.hd hc]) hit p (by simp; omega) fun h' z eb ⟨o, ho, cl⟩ => ?_)
    refine wpAny_bind (wpAny_isInstance (T := "StopIteration") (b := true) ⟨o, ho, cl⟩ isSubtype_stop ?_)
    exact wpAny_pure ⟨rfl, I.turned (t' := s.toks) (fun b o hb q => eb b o hb q) f0 f1 f3 f4 f5⟩
  self := fun A i s Q E ⟨⟨_, he⟩, _⟩ h => wpAny_pyIter_enum he h
def iEnumT (K : PySem.W.Frag) (ta : TA) : TI := fun σ H R => ta σ H fun vs H1 => ∃ a xs, vs = [.ref a] ∧ SqT K H1 a xs ∧ R (IteT K a) H1
theorem pi_enumT {X : Cx} {e : Expr} {ta : TA} {p pos tpos : Pos} {elts : List Expr} {kk : Nat} (hg : Gl X "enumerate") (hm : X.mg "enumerate" = none) (ha : PA X [e] ta) (hs : starEach [e] X.env = [(false, eval e X.env)] := by rfl) :
    PI X (.Tuple elts kk tpos) (.Call (.Name "enumerate" p) [e] [] pos) (iEnumT X.K ta) := by
  refine ⟨fun pins s σ H R I h => ?_⟩
  refine Call_ (ld_blt I hg hm boot_enumerate (PyProof.Rows.callWith_type1 (thn (ha.run pos pins s σ H _ I h) fun us s1 ⟨vs, H1, I1, r1, a, xs, ev, hq, q⟩ => ?_) hs rfl))
  subst ev
  cases r1 with
  | cons ra rr =>
    cases rr
    cases ra
    obtain ⟨its, rv, p', hz⟩ := I1.tuple hq
    have lta : a < s1.heap.objs.size := by obtain ⟨_, q, _⟩ := p'; exact Heap.lt_size q
    refine enum_made (begins_tuple a its.toArray) p' fun h' he hit hk => wpAny_pyIter_enum he ?_
    have I2 : Inv X pins σ H1 { s1 with heap := h' } := I1.kept (t' := s1.toks) hk
    refine ⟨s1.heap.objs.size + 1, [s1.heap.objs.size + 1, s1.heap.objs.size], _, _, H1, rfl, I2, turn_enumT (a := a) (e := s1.heap.objs.size + 1) (it := s1.heap.objs.size) (Nat.succ_ne_self _) (Nat.ne_of_gt (Nat.lt_succ_of_lt lta)) (Nat.ne_of_lt lta), ⟨⟨.none, he⟩, ⟨_, hit, rfl, rfl⟩⟩, fun b hb => ?_, q⟩
    have le : s1.heap.objs.size ≤ b := by
      rcases List.mem_cons.mp hb with rfl | hb
      · exact Nat.le_succ _
      · rw [List.mem_singleton.mp hb]; exact Nat.le_refl _
    exact I1.fpOk le (I1.hok.fresh le)
theorem walk_enumT {K : PySem.W.Frag} {a : Addr} {xs : List V} : Walk (IteT K a) xs.length (fun H => SqT K H a xs) (YPair (fun i => some (V.int (i : Nat))) (fun i => xs[i]?)) := by
  refine ⟨fun i _ hi q => ⟨xs, xs[i], q, List.getElem?_eq_getElem hi⟩, fun _ q => ⟨xs, q, Nat.le_refl _⟩, fun i H v H' hi q y => ?_⟩
  obtain ⟨T, x, rfl, hT, hH, hx⟩ := y
  exact ⟨T, V.int (i : Nat), x, rfl, hT, hH, rfl, hx xs q⟩
section
variable {X : Cx} {W : WX} {O : List Nat}
def enumTD : List Sl → Option (List Dt)
  | [.d (.tuple xs)] => some (enumP xs)
  | _ => none
def mEnumA (f : EnvD → Mo (List Sl)) (ρ : EnvD) : Mo (List Dt) := mBind (f ρ) fun d => mOpt ((enumD d).or (enumTD d))
theorem di_enumA {a : Expr} {f : EnvD → Mo (List Sl)} {elts : List Expr} {kk} {tpos p pos : Pos} (hm : X.mg "enumerate" = none) (ha : DA X W O [a] f) (hg : Gl X "enumerate" := by rfl) (hs : starEach [a] X.env = [(false, eval a X.env)] := by rfl) :
    DI X W O (.Tuple elts kk tpos) (.Call (.Name "enumerate" p) [a] [] pos) (mEnumA f) := by
  obtain ⟨t, h1, h2⟩ := ha
  refine ⟨_, DL.PI.or (pi_enum hg hm h1 hs) (pi_enumT hg hm h1 hs), fun B H0 G0 σ H G ρ b R r b' I e p => ?_⟩
  unfold mEnumA at e
  rcases mBind_some e with ⟨er, q1, rfl⟩ | ⟨d, b1, q1, e⟩
  · exact .inl (h2.err I q1 p)
  obtain ⟨ds, hd, rfl, rfl⟩ := mOpt_some e
  cases hL : enumD d with
  | some es =>
    rw [hL] at hd
    cases hd
    refine .inl (h2 B H0 G0 σ H G ρ b _ _ _ I q1 fun v H1 G1 s1 r1 => ?_)
    have s' := s1.sub
    unfold enumD at hL
    split at hL
    · cases hL
      obtain ⟨v', rfl, rv⟩ := r1.one
      obtain ⟨a, vs, rfl, k1, k2, k3⟩ := rv.inv_list
      refine ⟨a, vs, rfl, SqL.of (s' _ _ k1), p _ H1 G1 s1 ⟨itOk_pair (walk_enum (K := X.K)) (by rw [rngD_len, Nat.min_self, k3.length]) (fun H2 q => SqL.of (q _ _ k1)) (fun i x v h3 h4 => ?_) k3.atP, ?_⟩⟩
      · cases h4
        have hi := (List.getElem?_eq_some_iff.mp h3).1
        rw [rngD_len] at hi
        simp [rngD, hi] at h3
        subst h3
        exact .int _
      · unfold enumP
        rw [zipP_len, rngD_len, Nat.min_self, ← k3.length]
        exact k2
    · cases hL
  | none =>
    rw [hL] at hd
    simp only [Option.none_or] at hd
    refine .inr (h2 B H0 G0 σ H G ρ b _ _ _ I q1 fun v H1 G1 s1 r1 => ?_)
    have s' := s1.sub
    unfold enumTD at hd
    split at hd
    · cases hd
      obtain ⟨v', rfl, rv⟩ := r1.one
      obtain ⟨a, vs, rfl, k1, k2, k3⟩ := rv.inv_tup
      refine ⟨a, vs, rfl, SqT.of (s' _ _ k1), p _ H1 G1 s1 ⟨itOk_pair (walk_enumT (K := X.K)) (by rw [rngD_len, Nat.min_self, k3.length]) (fun H2 q => SqT.of (q _ _ k1)) (fun i x v h3 h4 => ?_) k3.atP, ?_⟩⟩
      · cases h4
        have hi := (List.getElem?_eq_some_iff.mp h3).1
        rw [rngD_len] at hi
        simp [rngD, hi] at h3
        subst h3
        exact .int _
      · unfold enumP
        rw [zipP_len, rngD_len, Nat.min_self, ← k3.length]
        exact k2
    · cases hd
end
end DL
set_option maxRecDepth 100000
namespace DL
open PySem L2
/-! ### reckoning with mirrors: whole functions of the box, no box named -/
section
variable {α β : Type}
@[simp] theorem m_bind_ok {a : α} {k : α → Mo β} : mBind (mOk a) k = k a := by
  funext b
  rfl
@[simp] theorem m_opt_some {a : α} : mOpt (some a) = mOk a := by
  funext b
  rfl
@[simp] theorem m_e_ok {a : α} {ρ : EnvD} {k : α → MoS} : mE (mOk a) ρ k = k a := by
  funext b
  rfl
@[simp] theorem m_no_ok {a : α} {k : α → Mo β} : mNo (mOk a) k = k a := by
  funext b
  rfl
theorem m_bind_assoc {γ : Type} {m : Mo α} {f : α → Mo β} {g : β → Mo γ} : mBind (mBind m f) g = mBind m fun a => mBind (f a) g := by
  funext b
  simp only [mBind]
  cases m b with
  | none => rfl
  | some q =>
    obtain ⟨q, b1⟩ := q
    cases q <;> rfl
/-- a statement, then others -/
def sBind (m : MoS) (k : EnvD → MoS) : MoS := fun b => match m b with
  | some (.ok (.nx, ρ1), b1) => k ρ1 b1
  | x => x
theorem m_thenS {f g : EnvD → MoS} {ρ : EnvD} : mThenS f g ρ = sBind (f ρ) g := by
  funext b
  rfl
@[simp] theorem s_bind_nx {ρ : EnvD} {k : EnvD → MoS} : sBind (sOk .nx ρ) k = k ρ := by
  funext b
  rfl
@[simp] theorem s_bind_rt {d : Dt} {ρ : EnvD} {k : EnvD → MoS} : sBind (sOk (.rt d) ρ) k = sOk (.rt d) ρ := by
  funext b
  rfl
@[simp] theorem s_bind_bk {ρ : EnvD} {k : EnvD → MoS} : sBind (sOk .bk ρ) k = sOk .bk ρ := by
  funext b
  rfl
@[simp] theorem s_bind_ct {ρ : EnvD} {k : EnvD → MoS} : sBind (sOk .ct ρ) k = sOk .ct ρ := by
  funext b
  rfl
theorem s_bind_e {m : Mo α} {ρ : EnvD} {k : α → MoS} {j : EnvD → MoS} : sBind (mE m ρ k) j = mE m ρ fun a => sBind (k a) j := by
  funext b
  simp only [sBind, mE]
  cases m b with
  | none => rfl
  | some q =>
    obtain ⟨q, b1⟩ := q
    cases q <;> rfl
/-- the end of a def -/
def sFin (m : MoS) : Mo Dt := fun b => match m b with
  | some (.ok (.rt d, _), b') => some (.ok d, b')
  | some (.ok (.nx, _), b') => some (.ok .none, b')
  | some (.error (e, _), b') => some (.error e, b')
  | _ => none
theorem m_def {np N : Nat} {f : EnvD → MoS} {sls : List Sl} (h : sls.length = np) : mDef np N f sls = sFin (f (sls.map some ++ List.replicate (N - np) none)) := by
  funext b
  simp only [mDef, h, if_true]
  rfl
@[simp] theorem s_fin_rt {d : Dt} {ρ : EnvD} : sFin (sOk (.rt d) ρ) = mOk d := by
  funext b
  rfl
@[simp] theorem s_fin_nx {ρ : EnvD} : sFin (sOk .nx ρ) = mOk .none := by
  funext b
  rfl
theorem s_fin_e {m : Mo α} {ρ : EnvD} {k : α → MoS} : sFin (mE m ρ k) = mBind m fun a => sFin (k a) := by
  funext b
  simp only [sFin, mE, mBind]
  cases m b with
  | none => rfl
  | some q =>
    obtain ⟨q, b1⟩ := q
    cases q <;> rfl
theorem m_call0 {mf : List Sl → Mo Dt} {ρ : EnvD} {d : Dt} (h : mf [] = mOk d) : mCall0 mf ρ = mOk d := by
  funext b
  simp only [mCall0, h, mOk]
end
/-! loops -/
section
variable {g : Dt → EnvD → Option EnvD} {ft : EnvD → Mo Bool} {fe : EnvD → Mo Dt} {ρ : EnvD}
@[simp] theorem lc_nil : lcLoop g ft fe ρ [] = mOk [] := by
  funext b
  rfl
/-- each item by itself, without draws -/
theorem lc_map {h : Dt → Dt} : ∀ {ds : List Dt} (H : ∀ d ∈ ds, ∃ ρ1, g d ρ = some ρ1 ∧ ft ρ1 = mOk true ∧ fe ρ1 = mOk (h d)), lcLoop g ft fe ρ ds = mOk (ds.map h)
  | [], _ => rfl
  | d :: ds, H => by
    obtain ⟨ρ1, h1, h2, h3⟩ := H d List.mem_cons_self
    simp only [lcLoop, h1, h2, h3, m_no_ok, if_true, List.map_cons]
    rw [lc_map fun e he => H e (List.mem_cons_of_mem _ he)]
    rfl
theorem lc_filter {p : Dt → Bool} {h : Dt → Dt} : ∀ {ds : List Dt}, (∀ d ∈ ds, ∃ ρ1, g d ρ = some ρ1 ∧ ft ρ1 = mOk (p d) ∧ (p d = true → fe ρ1 = mOk (h d))) → lcLoop g ft fe ρ ds = mOk ((ds.filter p).map h)
  | [], _ => rfl
  | d :: ds, H => by
    obtain ⟨ρ1, h1, h2, h3⟩ := H d List.mem_cons_self
    have ih := lc_filter fun e he => H e (List.mem_cons_of_mem _ he)
    cases hp : p d with
    | false => simp only [lcLoop, h1, h2, hp, m_no_ok, Bool.false_eq_true, if_false, List.filter_cons, ih]
    | true =>
      simp only [lcLoop, h1, h2, hp, h3 hp, m_no_ok, if_true, List.filter_cons, List.map_cons, ih]
theorem lc2_map {fi1 : EnvD → Mo (List Dt)} {vs1 : List Nat} {g1 : Dt → EnvD → Option EnvD} {ft1 : EnvD → Mo Bool} {h : Dt → List Dt} : ∀ {ds : List Dt}, (∀ d ∈ ds, ∃ ρ1 ds1, g d ρ = some ρ1 ∧ ft ρ1 = mOk true ∧ fi1 ρ1 = mOk ds1 ∧ lcLoop g1 ft1 fe (wipeE ρ1 vs1) ds1 = mOk (h d)) → lcLoop2 g ft fi1 vs1 g1 ft1 fe ρ ds = mOk (ds.flatMap h)
  | [], _ => rfl
  | d :: ds, H => by
    obtain ⟨ρ1, ds1, h1, h2, h3, h4⟩ := H d List.mem_cons_self
    simp only [lcLoop2, h1, h2, h3, h4, m_no_ok, if_true, List.flatMap_cons]
    rw [lc2_map fun e he => H e (List.mem_cons_of_mem _ he)]
    rfl
theorem m_few {zs : List Dt} (h : zs.length ≤ sizeLine) : mFew (mOk zs) = mOk zs := by
  funext b
  simp only [mFew, mOk, h, if_true]
@[simp] theorem for_nil {fb : EnvD → MoS} : forLoop g fb [] ρ = sOk .nx ρ := by
  funext b
  rfl
theorem for_cons {fb : EnvD → MoS} {d : Dt} {ds : List Dt} {ρ1 ρ2 : EnvD} (h1 : g d ρ = some ρ1) (h2 : fb ρ1 = sOk .nx ρ2) : forLoop g fb (d :: ds) ρ = forLoop g fb ds ρ2 := by
  funext b
  simp only [forLoop, h1, h2, sOk]
end
/-- nothing but the mirrors' own words -/
theorem sz_of {n : Nat} (h : n ≤ 1000000) : n ≤ sizeLine := by rw [sizeLine_eq]; omega
theorem sz_lt {n : Nat} (h : n ≤ 1000000) : n < sizeLine := by rw [sizeLine_eq]; omega
/-! ### draws -/
/-- a box in bounds, of at least n more draws -/
def Bd (n : Nat) (b : Bx) : Prop := 0 ≤ b.a ∧ 0 ≤ b.b ∧ b.b < 2 ^ 62 ∧ 0 ≤ b.c ∧ b.c + n < 2 ^ 60
/-- whatever the box: at most n draws, an answer with Q -/
def Go {α : Type} (n : Nat) (m : Mo α) (Q : α → Prop) : Prop := ∀ N b, n ≤ N → Bd N b → ∃ a b', m b = some (.ok a, b') ∧ Bd (N - n) b' ∧ Q a
def GoS (n : Nat) (m : MoS) (Q : Fl → EnvD → Prop) : Prop := ∀ N b, n ≤ N → Bd N b → ∃ f ρ b', m b = some (.ok (f, ρ), b') ∧ Bd (N - n) b' ∧ Q f ρ
theorem Bd.le {n k : Nat} {b : Bx} (h : Bd n b) (l : k ≤ n) : Bd k b := ⟨h.1, h.2.1, h.2.2.1, h.2.2.2.1, by have := h.2.2.2.2; omega⟩
section
variable {α β : Type} {n k : Nat}
theorem Go.mono {m : Mo α} {Q R : α → Prop} (h : Go n m Q) (hk : n ≤ k) (hQ : ∀ a, Q a → R a) : Go k m R := by
  intro N b hN hb
  obtain ⟨a, b', e, h1, q⟩ := h N b (Nat.le_trans hk hN) hb
  exact ⟨a, b', e, h1.le (by omega), hQ a q⟩
theorem Go.pure {a : α} {Q : α → Prop} (h : Q a) : Go 0 (mOk a) Q := fun N b _ hb => ⟨a, b, rfl, hb, h⟩
theorem Go.bind {m : Mo α} {f : α → Mo β} {Q : α → Prop} {R : β → Prop} (h : Go n m Q) (hf : ∀ a, Q a → Go k (f a) R) : Go (n + k) (mBind m f) R := by
  intro N b hN hb
  obtain ⟨a, b1, e, h1, q⟩ := h N b (by omega) hb
  obtain ⟨c, b2, e2, h2, r⟩ := hf a q (N - n) b1 (by omega) h1
  exact ⟨c, b2, by unfold mBind; rw [e]; exact e2, by rw [Nat.sub_sub] at h2; exact h2, r⟩
theorem Go.no {m : Mo α} {f : α → Mo β} {Q : α → Prop} {R : β → Prop} (h : Go n m Q) (hf : ∀ a, Q a → Go k (f a) R) : Go (n + k) (mNo m f) R := by
  intro N b hN hb
  obtain ⟨a, b1, e, h1, q⟩ := h N b (by omega) hb
  obtain ⟨c, b2, e2, h2, r⟩ := hf a q (N - n) b1 (by omega) h1
  exact ⟨c, b2, by unfold mNo; rw [e]; exact e2, by rw [Nat.sub_sub] at h2; exact h2, r⟩
theorem Go.e {m : Mo α} {ρ : EnvD} {f : α → MoS} {Q : α → Prop} {R : Fl → EnvD → Prop} (h : Go n m Q) (hf : ∀ a, Q a → GoS k (f a) R) : GoS (n + k) (mE m ρ f) R := by
  intro N b hN hb
  obtain ⟨a, b1, e, h1, q⟩ := h N b (by omega) hb
  obtain ⟨c, ρ', b2, e2, h2, r⟩ := hf a q (N - n) b1 (by omega) h1
  exact ⟨c, ρ', b2, by unfold mE; rw [e]; exact e2, by rw [Nat.sub_sub] at h2; exact h2, r⟩
theorem GoS.mono {m : MoS} {Q R : Fl → EnvD → Prop} (h : GoS n m Q) (hk : n ≤ k) (hQ : ∀ f ρ, Q f ρ → R f ρ) : GoS k m R := by
  intro N b hN hb
  obtain ⟨a, ρ, b', e, h1, q⟩ := h N b (Nat.le_trans hk hN) hb
  exact ⟨a, ρ, b', e, h1.le (by omega), hQ a ρ q⟩
theorem GoS.ok {f : Fl} {ρ : EnvD} {Q : Fl → EnvD → Prop} (h : Q f ρ) : GoS 0 (sOk f ρ) Q := fun N b _ hb => ⟨f, ρ, b, rfl, hb, h⟩
/-- a statement that ends in nx alone, then others -/
theorem GoS.seq {m : MoS} {j : EnvD → MoS} {Q : EnvD → Prop} {R : Fl → EnvD → Prop} (h : GoS n m fun f ρ => f = .nx ∧ Q ρ) (hj : ∀ ρ, Q ρ → GoS k (j ρ) R) : GoS (n + k) (sBind m j) R := by
  intro N b hN hb
  obtain ⟨f, ρ, b1, e, h1, rfl, q⟩ := h N b (by omega) hb
  obtain ⟨c, ρ', b2, e2, h2, r⟩ := hj ρ q (N - n) b1 (by omega) h1
  exact ⟨c, ρ', b2, by unfold sBind; rw [e]; exact e2, by rw [Nat.sub_sub] at h2; exact h2, r⟩
theorem GoS.fin {m : MoS} {Q : Dt → Prop} (h : GoS n m fun f ρ => ∃ d, f = .rt d ∧ Q d) : Go n (sFin m) Q := by
  intro N b hN hb
  obtain ⟨f, ρ, b1, e, h1, d, rfl, q⟩ := h N b hN hb
  exact ⟨d, b1, by unfold sFin; rw [e], h1, q⟩
end
section
variable {g : Dt → EnvD → Option EnvD} {ft : EnvD → Mo Bool} {fe : EnvD → Mo Dt} {ρ : EnvD}
/-- a comprehension whose items draw, none left out -/
theorem Go.lc {k : Nat} {P : Dt → Prop} : ∀ {ds : List Dt}, (∀ d ∈ ds, ∃ ρ1, g d ρ = some ρ1 ∧ ft ρ1 = mOk true ∧ Go k (fe ρ1) P) → Go (ds.length * k) (lcLoop g ft fe ρ ds) (fun es => es.length = ds.length ∧ ∀ e ∈ es, P e)
  | [], _ => (Go.pure (by simp)).mono (by simp) fun _ h => h
  | d :: ds, H => by
    obtain ⟨ρ1, h1, h2, h3⟩ := H d List.mem_cons_self
    simp only [lcLoop, h1, h2, m_no_ok, if_true]
    refine (Go.no h3 fun y hy => Go.no (Go.lc fun e he => H e (List.mem_cons_of_mem _ he)) fun ys hys => Go.pure (Q := fun es : List Dt => es.length = (d :: ds).length ∧ ∀ e ∈ es, P e) ⟨by simp [hys.1], fun e he => ?_⟩).mono (by rw [List.length_cons, Nat.succ_mul]; omega) fun _ h => h
    rcases List.mem_cons.mp he with rfl | he
    · exact hy
    · exact hys.2 e he
/-- .. whose tests draw; the items by themselves -/
theorem Go.lcf {k : Nat} {h : Dt → Dt} : ∀ {ds : List Dt}, (∀ d ∈ ds, ∃ ρ1, g d ρ = some ρ1 ∧ Go k (ft ρ1) (fun _ => True) ∧ fe ρ1 = mOk (h d)) → Go (ds.length * k) (lcLoop g ft fe ρ ds) (fun es => es.length ≤ ds.length ∧ ∀ e ∈ es, ∃ d ∈ ds, e = h d)
  | [], _ => (Go.pure (by simp)).mono (by simp) fun _ h => h
  | d :: ds, H => by
    obtain ⟨ρ1, h1, h2, h3⟩ := H d List.mem_cons_self
    simp only [lcLoop, h1, h3, m_no_ok]
    have ih := Go.lcf fun e he => H e (List.mem_cons_of_mem _ he)
    refine (Go.no (k := ds.length * k) h2 fun c _ => ?_).mono (by rw [List.length_cons, Nat.succ_mul]; omega) fun _ h => h
    cases c with
    | false =>
      simp only [Bool.false_eq_true, if_false]
      exact ih.mono (Nat.le_refl _) fun es he => ⟨Nat.le_succ_of_le he.1, fun e m => by
        obtain ⟨d', m', e'⟩ := he.2 e m
        exact ⟨d', List.mem_cons_of_mem _ m', e'⟩⟩
    | true =>
      simp only [if_true]
      refine (Go.no (k := 0) ih fun ys he => Go.pure (Q := fun es : List Dt => es.length ≤ (d :: ds).length ∧ ∀ e ∈ es, ∃ d' ∈ d :: ds, e = h d') ⟨by simpa using he.1, fun e m => ?_⟩).mono (Nat.le_refl _) fun _ h => h
      rcases List.mem_cons.mp m with rfl | m
      · exact ⟨d, List.mem_cons_self, rfl⟩
      · obtain ⟨d', m', e'⟩ := he.2 e m
        exact ⟨d', List.mem_cons_of_mem _ m', e'⟩
/-- a for whose body draws, an invariant of the slots -/
theorem GoS.loop {fb : EnvD → MoS} {k : Nat} (I : List Dt → EnvD → Prop) : ∀ {ds : List Dt} {ρ : EnvD}, I ds ρ → (∀ d r ρ, I (d :: r) ρ → ∃ ρ1, g d ρ = some ρ1 ∧ GoS k (fb ρ1) fun f ρ2 => f = .nx ∧ I r ρ2) → GoS (ds.length * k) (forLoop g fb ds ρ) fun f ρ => f = .nx ∧ I [] ρ
  | [], ρ, h, _ => (GoS.ok ⟨rfl, h⟩).mono (by simp) fun _ _ h => h
  | d :: ds, ρ, h, H => by
    obtain ⟨ρ1, h1, h2⟩ := H d ds ρ h
    intro N b hN hb
    have hN' : ds.length * k + k ≤ N := by rw [List.length_cons, Nat.succ_mul] at hN; exact hN
    obtain ⟨f, ρ2, b1, e, q1, rfl, q2⟩ := h2 N b (by omega) hb
    obtain ⟨f', ρ3, b2, e2, q3, q4⟩ := GoS.loop (k := k) I q2 H (N - k) b1 (by omega) q1
    refine ⟨f', ρ3, b2, ?_, by rw [List.length_cons, Nat.succ_mul, Nat.add_comm, ← Nat.sub_sub]; exact q3, q4⟩
    simp only [forLoop, h1, e]
    exact e2
end
/-! ### words with bounds within, by themselves -/
theorem rng1_ok {j : Int} (h0 : 0 ≤ j) (h1 : j ≤ 1000000) : rng1D [.d (.int j)] = some (rngD 0 j.toNat) := by
  show (if _ then _ else none) = _
  rw [if_pos ⟨by omega, by omega, sz_of (by omega)⟩]
theorem rng1_nat {n : Nat} (h1 : n ≤ 1000000) : rng1D [.d (.int (n : Int))] = some (rngD 0 n) := by
  rw [rng1_ok (by omega) (by omega)]
  rfl
theorem rng2_ok {i j : Int} (h0 : 0 ≤ i) (h1 : i ≤ 1000000) (h2 : 0 ≤ j) (h3 : j ≤ 1000000) : rng2D [.d (.int i), .d (.int j)] = some (rngD i (j - i).toNat) := by
  show (if _ then _ else none) = _
  rw [if_pos ⟨by omega, by omega, by omega, by omega, sz_of (by omega)⟩]
def popK (i j : Nat) (ds es : List Dt) (ρ : EnvD) (d : Dt) : MoS := match d with
  | .int z => if 0 ≤ z ∧ z < es.length ∧ z < 2 ^ 63 ∧ ds.length < sizeLine then match es[z.toNat]? with
    | some y => sOk .nx ((ρ.set j (some (.d (.list (es.eraseIdx z.toNat))))).set i (some (.d (.list (ds ++ [y])))))
    | none => fun _ => none
    else fun _ => none
  | _ => fun _ => none
theorem appPop_eq {i j : Nat} {fe : EnvD → Mo Dt} {ρ : EnvD} {ds es : List Dt} (h1 : slotL i ρ = some ds) (h2 : slotL j ρ = some es) : mAppPop i j fe ρ = mE (fe ρ) ρ (popK i j ds es ρ) := by
  unfold mAppPop
  rw [h1, h2]
  rfl
theorem popK_ok {i j : Nat} {ds es : List Dt} {ρ : EnvD} {z : Int} (h0 : 0 ≤ z) (h1 : z.toNat < es.length) (h2 : es.length ≤ 1000000) (h3 : ds.length ≤ 1000000) :
    popK i j ds es ρ (.int z) = sOk .nx ((ρ.set j (some (.d (.list (es.eraseIdx z.toNat))))).set i (some (.d (.list (ds ++ [es[z.toNat]]))))) := by
  unfold popK
  dsimp only
  rw [if_pos ⟨h0, by omega, by omega, sz_lt h3⟩, List.getElem?_eq_getElem h1]
theorem app_eq {i : Nat} {fe : EnvD → Mo Dt} {ρ : EnvD} {ds : List Dt} (h1 : slotL i ρ = some ds) (h2 : ds.length ≤ 1000000) : mApp i fe ρ = mE (fe ρ) ρ fun d => sOk .nx (ρ.set i (some (.d (.list (ds ++ [d]))))) := by
  unfold mApp
  rw [h1]
  simp only [if_pos (sz_lt h2)]
theorem atI_ok {α : Type} {ds : List α} {r : Int} (h0 : 0 ≤ r) (h1 : r.toNat < ds.length) : L2.atI ds r = some ds[r.toNat] := by
  unfold L2.atI L2.ixN
  rw [if_pos h0, if_pos (by omega)]
  simp [List.getElem?_eq_getElem h1]
theorem fewL {ds : List Dt} (h : ds.length ≤ 1000000) : (if ds.length ≤ sizeLine then some (PyData.list ds) else none) = some (PyData.list ds) := if_pos (sz_of h)
end DL
set_option maxRecDepth 100000
set_option maxHeartbeats 1000000
namespace DL
open PySem L2
/-! ### more words of the mirrors, their bounds seen to -/
theorem add_ll {xs ys : List Dt} (h : xs.length + ys.length ≤ 1000000) : addD (.list xs) (.list ys) = some (.list (xs ++ ys)) := by
  show ((none : Option Dt).or ((if _ then _ else _ : Option Dt).or _)) = _
  rw [if_pos (sz_of h)]
  rfl
theorem add_tt {xs ys : List Dt} (h : xs.length + ys.length ≤ 1000000) : addD (.tuple xs) (.tuple ys) = some (.tuple (xs ++ ys)) := by
  show ((none : Option Dt).or ((none : Option Dt).or ((if _ then _ else _ : Option Dt).or _))) = _
  rw [if_pos (sz_of h)]
  rfl
theorem add_ii (i j : Int) : addD (.int i) (.int j) = some (.int (i + j)) := by
  show ((some _ : Option Dt).or _) = _
  rfl
theorem mul_ii {i j : Int} (h : -(2 ^ 64) < i ∧ i < 2 ^ 64) : mulD (.int i) (.int j) = some (.int (i * j)) := by
  show ((if _ then _ else _ : Option Dt).or _) = _
  rw [if_pos (show CMul i j from .inl h)]
  rfl
theorem mul_t1 (xs : List Dt) : mulD (.tuple xs) (.int 1) = some (.tuple xs) := by
  simp [mulD, mulI, opII, repL, repT, repT1]
theorem mul_tk {xs : List Dt} {k : Int} (h0 : xs ≠ []) (h1 : 2 ≤ k) (h2 : k ≤ 1000) (h3 : xs.length ≤ 1000) : mulD (.tuple xs) (.int k) = some (.tuple (List.replicate k.toNat xs).flatten) := by
  simp [mulD, mulI, opII, repL, repT, h0, h1, h2, h3]
theorem ix_t {ds : List Dt} {r : Int} (h0 : 0 ≤ r) (h1 : r.toNat < ds.length) : ixD (.tuple ds) (.int r) = some ds[r.toNat] := atI_ok h0 h1
theorem ix_l {ds : List Dt} {r : Int} (h0 : 0 ≤ r) (h1 : r.toNat < ds.length) : ixD (.list ds) (.int r) = some ds[r.toNat] := atI_ok h0 h1
theorem tup_few {ds : List Dt} (h : ds.length ≤ 1000000) : (if ds.length ≤ sizeLine then some (PyData.tuple ds) else none) = some (PyData.tuple ds) := if_pos (sz_of h)
/-- a loop without draws, an invariant of the slots -/
theorem for_inv {g : Dt → EnvD → Option EnvD} {fb : EnvD → MoS} (I : List Dt → EnvD → Prop) : ∀ {ds : List Dt} {ρ : EnvD}, I ds ρ → (∀ d r ρ, I (d :: r) ρ → ∃ ρ1 ρ2, g d ρ = some ρ1 ∧ fb ρ1 = sOk .nx ρ2 ∧ I r ρ2) → ∃ ρ', forLoop g fb ds ρ = sOk .nx ρ' ∧ I [] ρ'
  | [], ρ, h, _ => ⟨ρ, for_nil, h⟩
  | d :: ds, ρ, h, H => by
    obtain ⟨ρ1, ρ2, h1, h2, h3⟩ := H d ds ρ h
    obtain ⟨ρ3, h4, h5⟩ := for_inv I h3 H
    exact ⟨ρ3, (for_cons h1 h2).trans h4, h5⟩
theorem seq_for {α : Type} {F : MoS → α} {g : Dt → EnvD → Option EnvD} {fb k : EnvD → MoS} {ds : List Dt} {ρ : EnvD} {r : α} (I : List Dt → EnvD → Prop) (h0 : I ds ρ) (hs : ∀ d r ρ, I (d :: r) ρ → ∃ ρ1 ρ2, g d ρ = some ρ1 ∧ fb ρ1 = sOk .nx ρ2 ∧ I r ρ2)
    (hk : ∀ ρ', I [] ρ' → F (k ρ') = r) : F (sBind (forLoop g fb ds ρ) k) = r := by
  obtain ⟨ρ', e, h⟩ := for_inv I h0 hs
  rw [e, s_bind_nx]
  exact hk ρ' h
theorem fin_for {g : Dt → EnvD → Option EnvD} {fb k : EnvD → MoS} {ds : List Dt} {ρ : EnvD} {r : Mo Dt} (I : List Dt → EnvD → Prop) (h0 : I ds ρ) (hs : ∀ d r ρ, I (d :: r) ρ → ∃ ρ1 ρ2, g d ρ = some ρ1 ∧ fb ρ1 = sOk .nx ρ2 ∧ I r ρ2)
    (hk : ∀ ρ', I [] ρ' → sFin (k ρ') = r) : sFin (sBind (forLoop g fb ds ρ) k) = r := seq_for (F := sFin) I h0 hs hk
theorem bind_for {g : Dt → EnvD → Option EnvD} {fb k : EnvD → MoS} {ds : List Dt} {ρ : EnvD} {r : MoS} (I : List Dt → EnvD → Prop) (h0 : I ds ρ) (hs : ∀ d r ρ, I (d :: r) ρ → ∃ ρ1 ρ2, g d ρ = some ρ1 ∧ fb ρ1 = sOk .nx ρ2 ∧ I r ρ2)
    (hk : ∀ ρ', I [] ρ' → k ρ' = r) : sBind (forLoop g fb ds ρ) k = r := seq_for (F := id) I h0 hs hk
/-- all rows of n of the items, the last one changing first -/
def teamsL {α : Type} (ms : List α) : Nat → List (List α)
  | 0 => [[]]
  | n + 1 => (teamsL ms n).flatMap fun c => ms.map fun m => c ++ [m]
theorem flatMap_len {α β : Type} {k : Nat} (f : α → List β) (h : ∀ a, (f a).length = k) : ∀ l : List α, (l.flatMap f).length = l.length * k
  | [] => by simp
  | a :: l => by rw [List.flatMap_cons, List.length_append, h, flatMap_len f h l, List.length_cons, Nat.succ_mul]; omega
theorem teams_len {α : Type} (ms : List α) : ∀ n, (teamsL ms n).length = ms.length ^ n
  | 0 => rfl
  | n + 1 => by
    rw [teamsL, flatMap_len _ (fun c => List.length_map _), teams_len ms n, Nat.pow_succ]
theorem teams_each {α : Type} {ms : List α} : ∀ {n : Nat} {c : List α}, c ∈ teamsL ms n → c.length = n ∧ ∀ x ∈ c, x ∈ ms
  | 0, c, h => by simp [teamsL] at h; subst h; simp
  | n + 1, c, h => by
    simp only [teamsL, List.mem_flatMap, List.mem_map] at h
    obtain ⟨d, hd, m, hm, rfl⟩ := h
    obtain ⟨h1, h2⟩ := teams_each hd
    refine ⟨by simp [h1], fun x hx => ?_⟩
    rcases List.mem_append.mp hx with hx | hx
    · exact h2 x hx
    · rw [List.mem_singleton.mp hx]; exact hm
theorem pow_le {a n : Nat} (ha : a ≤ 9) (hn : n ≤ 3) : a ^ n ≤ 729 := by
  have h1 : a ^ n ≤ 9 ^ n := Nat.pow_le_pow_left ha n
  have h2 : (9 : Nat) ^ n ≤ 9 ^ 3 := Nat.pow_le_pow_right (by decide) hn
  omega
theorem flatMap_map {α β γ : Type} (f : α → β) (g : β → List γ) (l : List α) : (l.map f).flatMap g = l.flatMap fun a => g (f a) := by
  induction l with
  | nil => rfl
  | cons a l ih => simp [ih]
theorem var_eq {ρ : EnvD} {i : Nat} {x : Dt} (h : ρ[i]? = some (some (.d x))) : mVar i ρ = mOk x := by
  unfold mVar
  rw [h, m_opt_some]
theorem bin_eq {op : Dt → Dt → Option Dt} {f g : EnvD → Mo Dt} {ρ : EnvD} {x y : Dt} (h1 : f ρ = mOk x) (h2 : g ρ = mOk y) : mBin op f g ρ = mOpt (op x y) := by
  unfold mBin
  rw [h1, m_bind_ok, h2, m_bind_ok]
theorem mul_ij {i j : Int} (h : -(2 ^ 64) < j ∧ j < 2 ^ 64) : mulD (.int i) (.int j) = some (.int (i * j)) := by
  show ((if _ then _ else _ : Option Dt).or _) = _
  rw [if_pos (show CMul i j from .inr h)]
  rfl
theorem teams_map {α β : Type} (f : α → β) (ms : List α) : ∀ n, teamsL (ms.map f) n = (teamsL ms n).map fun r => r.map f
  | 0 => rfl
  | n + 1 => by
    rw [teamsL, teams_map f ms n, flatMap_map, teamsL, List.map_flatMap]
    congr 1
    funext r
    simp [Function.comp_def]
/-- pairs of a number and an item, from i on -/
def enumFrom (i : Nat) : List Dt → List Dt
  | [] => []
  | x :: xs => .tuple [.int (i : Nat), x] :: enumFrom (i + 1) xs
theorem rngD_succ (lo : Int) (n : Nat) : rngD lo (n + 1) = .int lo :: rngD (lo + 1) n := by
  unfold rngD
  rw [List.range_succ_eq_map, List.map_cons, List.map_map]
  congr 1
  · simp
  · refine List.map_congr_left fun i _ => ?_
    simp only [Function.comp]
    congr 1
    omega
theorem enum_go : ∀ (xs : List Dt) (i : Nat), zipP (rngD (i : Int) xs.length) xs = enumFrom i xs
  | [], i => by simp [zipP, enumFrom]
  | x :: xs, i => by
    have ih := enum_go xs (i + 1)
    rw [List.length_cons, rngD_succ, enumFrom, ← ih]
    simp [zipP]
theorem enumP_eq (xs : List Dt) : enumP xs = enumFrom 0 xs := enum_go xs 0
/-- each item by itself, the items given by others -/
theorem lc_at {g : Dt → EnvD → Option EnvD} {ft : EnvD → Mo Bool} {fe : EnvD → Mo Dt} {ρ : EnvD} {τ : Type} {f h : τ → Dt} : ∀ {ts : List τ}, (∀ t ∈ ts, ∃ ρ1, g (f t) ρ = some ρ1 ∧ ft ρ1 = mOk true ∧ fe ρ1 = mOk (h t)) → lcLoop g ft fe ρ (ts.map f) = mOk (ts.map h)
  | [], _ => rfl
  | t :: ts, H => by
    obtain ⟨ρ1, h1, h2, h3⟩ := H t List.mem_cons_self
    simp only [List.map_cons, lcLoop, h1, h2, h3, m_no_ok, if_true]
    rw [lc_at fun e he => H e (List.mem_cons_of_mem _ he)]
    rfl
/-! shapes -/
theorem canLayAll_iff : ∀ {ds : List Dt}, PyData.canLayAll0 ds = true ↔ ∀ d ∈ ds, PyData.canLay0 d = true
  | [] => by simp [PyData.canLayAll0]
  | d :: ds => by simp [PyData.canLayAll0, canLayAll_iff (ds := ds)]
theorem depthAll_le {k : Nat} : ∀ {ds : List Dt}, (∀ d ∈ ds, d.depth ≤ k) → PyData.depthAll ds ≤ k
  | [], _ => Nat.zero_le _
  | d :: ds, h => by
    unfold PyData.depthAll
    exact Nat.max_le.mpr ⟨h d List.mem_cons_self, depthAll_le fun e he => h e (List.mem_cons_of_mem _ he)⟩
/-- data of at most so many levels, without texts that can't be laid -/
def Sh (k : Nat) (d : Dt) : Prop := PyData.canLay0 d = true ∧ d.depth ≤ k
theorem Sh.le {k l : Nat} {d : Dt} (h : Sh k d) (hl : k ≤ l) : Sh l d := ⟨h.1, Nat.le_trans h.2 hl⟩
theorem Sh.shaped {k : Nat} {d : Dt} (h : Sh k d) (hk : k ≤ 64) : SeqAt.shaped d = true := by
  unfold SeqAt.shaped
  rw [h.1]
  have := Nat.le_trans h.2 hk
  simpa using this
theorem sh_int (i : Int) : Sh 0 (.int i) := ⟨rfl, Nat.le_refl _⟩
theorem sh_bool (i : Bool) : Sh 0 (.bool i) := ⟨rfl, Nat.le_refl _⟩
theorem sh_tup {k : Nat} {ds : List Dt} (h : ∀ d ∈ ds, Sh k d) : Sh (k + 1) (.tuple ds) := ⟨canLayAll_iff.mpr fun d hd => (h d hd).1, Nat.succ_le_succ (depthAll_le fun d hd => (h d hd).2)⟩
theorem sh_lst {k : Nat} {ds : List Dt} (h : ∀ d ∈ ds, Sh k d) : Sh (k + 1) (.list ds) := ⟨canLayAll_iff.mpr fun d hd => (h d hd).1, Nat.succ_le_succ (depthAll_le fun d hd => (h d hd).2)⟩
theorem sh_ints (xs : List Int) : Sh 1 (.tuple (xs.map .int)) := sh_tup fun d hd => by
  obtain ⟨i, _, rfl⟩ := List.mem_map.mp hd
  exact sh_int i
end DL
set_option maxRecDepth 100000
set_option maxHeartbeats 1000000
namespace DL
open PySem L2
/-! ### ascending data -/
theorem lt_le {x y : Dt} (h : PySem.W.dataLt x y = true) : leD' x y = true := by
  have e : leD' y x = !PySem.W.dataLt x y := rfl
  have t := leD_total x y
  rw [e, h] at t
  simpa using t
theorem lt_asym {x y : Dt} (h : PySem.W.dataLt x y = true) : leD' y x = false := by
  have e : leD' y x = !PySem.W.dataLt x y := rfl
  rw [e, h]; rfl
theorem lt_not {x y : Dt} (h : leD' y x = false) : PySem.W.dataLt x y = true := by
  have e : leD' y x = !PySem.W.dataLt x y := rfl
  rw [e] at h
  simpa using h
theorem lt_irr (x : Dt) : PySem.W.dataLt x x = false := by
  have t := leD_total x x
  rw [Bool.or_self] at t
  have e : leD' x x = !PySem.W.dataLt x x := rfl
  rw [e] at t
  simpa using t
theorem lt_tr {x y z : Dt} (h1 : PySem.W.dataLt x y = true) (h2 : PySem.W.dataLt y z = true) : PySem.W.dataLt x z = true := by
  refine lt_not ?_
  cases h : leD' z x with
  | false => rfl
  | true =>
    have := leD_trans _ _ _ (lt_le h2) h
    rw [lt_asym h1] at this
    cases this
def ascB : List Dt → Bool
  | x :: y :: r => PySem.W.dataLt x y && ascB (y :: r)
  | _ => true
theorem asc_pair : ∀ {ds : List Dt}, ascB ds = true → ds.Pairwise fun x y => PySem.W.dataLt x y = true
  | [], _ => .nil
  | [x], _ => by simp
  | x :: y :: r, h => by
    simp only [ascB, Bool.and_eq_true] at h
    have p := asc_pair h.2
    refine List.pairwise_cons.mpr ⟨fun z hz => ?_, p⟩
    rcases List.mem_cons.mp hz with rfl | hz
    · exact h.1
    · exact lt_tr h.1 ((List.pairwise_cons.mp p).1 z hz)
theorem pair_asc : ∀ {ds : List Dt}, (ds.Pairwise fun x y => PySem.W.dataLt x y = true) → ascB ds = true
  | [], _ => rfl
  | [x], _ => rfl
  | x :: y :: r, h => by
    obtain ⟨h1, h2⟩ := List.pairwise_cons.mp h
    simp only [ascB, Bool.and_eq_true]
    exact ⟨h1 y List.mem_cons_self, pair_asc h2⟩
theorem asc_iff {ds : List Dt} (hk : keyed ds = true) (hs : allAlike ds = true) : ascB ds = true ↔ ds = isort (nubD ds) := by
  have kk := keyed_use hk
  have al : ∀ d ∈ ds, ∀ e ∈ ds, PySem.W.alike d e = true := fun d hd e he => List.all_eq_true.mp (List.all_eq_true.mp hs d hd) e he
  constructor
  · intro h
    have p := asc_pair h
    exact sorted_set_eq hk hs (p.imp fun h => lt_le h) (p.imp fun h e => by rw [e, lt_irr] at h; cases h) fun d => Iff.rfl
  · intro h
    have nd : (nubD ds).Nodup := nubD_nodup fun d hd => by
      obtain ⟨k, hk⟩ := kk d hd
      exact eqv_self hk (al d hd d hd)
    have p1 : ds.Pairwise fun a b => leD' a b = true := by
      rw [h]
      exact isort_sorted
    have p2 : ds.Nodup := by
      rw [h]
      exact (isort_perm _).nodup_iff.mpr nd
    refine pair_asc (List.Pairwise.imp_of_mem (fun {x y} hx hy h => ?_) (p1.and p2))
    obtain ⟨h1, h2⟩ := h
    refine lt_not ?_
    cases h3 : leD' y x with
    | false => rfl
    | true =>
      obtain ⟨k, hk⟩ := kk x hx
      obtain ⟨j, hj⟩ := kk y hy
      exact (h2 (leD_anti hk hj (al x hx y hy) h1 h3)).elim
theorem eqv_iff {n : Nat} {x y : Dt} {k j : NestedKey} (h1 : keyN n x = some k) (h2 : keyN n y = some j) (ha : PySem.W.alike x y = true) : PyData.eqv x y = true ↔ x = y := by
  constructor
  · intro h
    have t := (PySem.W.toks_eqv x y ha).1 h
    have e1 : leD' x y = true := by
      show (!PyProof.Rows.lexLt PyProof.Rows.itemOrd (PySem.W.keyToks y) (PySem.W.keyToks x)) = true
      rw [t]
      exact congrArg not (lt_irr y)
    have e2 : leD' y x = true := by
      show (!PyProof.Rows.lexLt PyProof.Rows.itemOrd (PySem.W.keyToks x) (PySem.W.keyToks y)) = true
      rw [t]
      exact congrArg not (lt_irr y)
    exact leD_anti h1 h2 ha e1 e2
  · rintro rfl
    exact PySem.W.eqv_refl_alike x ha
theorem eqvAll_iff : ∀ {xs ys : List Dt}, (∀ x ∈ xs, ∀ y ∈ ys, PyData.eqv x y = true ↔ x = y) → (PyData.eqvAll xs ys = true ↔ xs = ys)
  | [], [], _ => by simp [PyData.eqvAll]
  | [], _ :: _, _ => by simp [PyData.eqvAll]
  | _ :: _, [], _ => by simp [PyData.eqvAll]
  | x :: xs, y :: ys, h => by
    have ih := eqvAll_iff (xs := xs) (ys := ys) fun a ha b hb => h a (List.mem_cons_of_mem _ ha) b (List.mem_cons_of_mem _ hb)
    have hx := h x List.mem_cons_self y List.mem_cons_self
    simp [PyData.eqvAll, ih, hx]
theorem eqv_lists {xs ys : List Dt} (h : ∀ x ∈ xs, ∀ y ∈ ys, PyData.eqv x y = true ↔ x = y) : PyData.eqv (.list xs) (.list ys) = true ↔ xs = ys := by
  have e : PyData.eqv (.list xs) (.list ys) = PyData.eqvAll xs ys := by simp [PyData.eqv]
  rw [e]
  exact eqvAll_iff h
/-- the law's word for ascending: the list is its own sorted set -/
theorem own_set {ds : List Dt} (hk : keyed ds = true) (hs : allAlike ds = true) : PyData.eqv (.list ds) (.list (isort (nubD ds))) = ascB ds := by
  have kk := keyed_use hk
  have al : ∀ d ∈ ds, ∀ e ∈ ds, PySem.W.alike d e = true := fun d hd e he => List.all_eq_true.mp (List.all_eq_true.mp hs d hd) e he
  rw [Bool.eq_iff_iff, eqv_lists, asc_iff hk hs]
  intro x hx y hy
  have hy' : y ∈ ds := (nubD_mem kk).mp (isort_mem.mp hy)
  obtain ⟨k, hk⟩ := kk x hx
  obtain ⟨j, hj⟩ := kk y hy'
  exact eqv_iff hk hj (al x hx y hy')
/-! neighbours -/
def lt2 : Dt → Dt
  | .tuple [a, b] => .bool (PySem.W.dataLt a b)
  | _ => .none
def ltsB : List Dt → List Bool
  | x :: y :: r => PySem.W.dataLt x y :: ltsB (y :: r)
  | _ => []
theorem zip_lts : ∀ ds : List Dt, (zipP ds ds.tail).map lt2 = (ltsB ds).map PyData.bool
  | [] => rfl
  | [x] => rfl
  | x :: y :: r => by
    have ih := zip_lts (y :: r)
    simp only [zipP, List.tail_cons, List.zip_cons_cons, List.map_cons, ltsB] at ih ⊢
    rw [ih]
    rfl
theorem lts_all : ∀ ds : List Dt, (ltsB ds).all id = ascB ds
  | [] => rfl
  | [x] => rfl
  | x :: y :: r => by simp [ltsB, ascB, lts_all (y :: r)]
theorem eqv_intsT (cs ds : List Int) : PyData.eqv (.tuple (cs.map .int)) (.tuple (ds.map .int)) = decide (cs = ds) := by
  have e : PyData.eqv (.tuple (cs.map .int)) (.tuple (ds.map .int)) = PyData.eqvAll (cs.map .int) (ds.map .int) := by simp [PyData.eqv]
  rw [e]
  have h := eqvAll_iff (xs := cs.map PyData.int) (ys := ds.map PyData.int) fun x hx y hy => by
    obtain ⟨i, _, rfl⟩ := List.mem_map.mp hx
    obtain ⟨j, _, rfl⟩ := List.mem_map.mp hy
    simp [PyData.eqv]
  have inj : cs.map PyData.int = ds.map PyData.int ↔ cs = ds := List.map_inj_right fun a b h => by injection h
  rw [inj] at h
  by_cases hx : cs = ds
  · rw [h.mpr hx, decide_eq_true hx]
  · cases hb : PyData.eqvAll (cs.map PyData.int) (ds.map PyData.int) with
    | false => simp [hx]
    | true => exact (hx (h.mp hb)).elim
end DL
set_option maxRecDepth 100000
set_option maxHeartbeats 2000000
namespace DL
open PySem PySem.Spec PyProof.Rows L2
/-! ### try with several except clauses, with a name or without -/
/-- a clause: its class, the slot of its name, what its suite wishes -/
structure Clz where
  cl : Value
  at_ : Option Nat
  ts : Addr → Value → Option Addr → TS
def clearE : Option Nat → Ends → Ends
  | none, D => D
  | some j, D => ⟨fun ρ G => D.nx (ρ.set j none) G, D.rt, fun ρ G => D.bk (ρ.set j none) G, fun ρ G => D.ct (ρ.set j none) G⟩
def heldE : Option Nat → Addr → L2.St → L2.St
  | none, _, ρ => ρ
  | some j, a, ρ => ρ.set j (some (.ref a))
def wClz (K : PySem.W.Frag) (Wo : WX) (D : Ends) : List Clz → WX
  | [] => Wo
  | q :: qs => fun cls d ρ G => ∃ hit, PySem.W.exmOne K cls q.cl = some hit ∧ (hit = true → ∀ a, G a = none → q.ts a cls d (clearE q.at_ D) (heldE q.at_ a ρ) G) ∧ (hit = false → wClz K Wo D qs cls d ρ G)
/-- the slot of a clause's name -/
def SlotN (X : Cx) : Option Str → Option Nat → Prop
  | none, none => True
  | some n, some j => X.N[j]? = some n ∧ X.env.kindOf n = some .local
  | _, _ => False
inductive ClzOk (X : Cx) : List ExceptHandler → List Clz → Prop
  | nil : ClzOk X [] []
  | cons {x : Str} {nm : Option Str} {q : Clz} {b : Stmt} {bs : List Stmt} {p p' : Pos} {hs : List ExceptHandler} {qs : List Clz} (hc : Names X x q.cl) (hn : SlotN X nm q.at_)
      (hb : ∀ a ob cls d pn, Zc cls d ob → (∃ vs, ob.data = .fields vs) → PSs (X.suite a ((a, ob) :: pn)) (b :: bs) (q.ts a cls d)) (r : ClzOk X hs qs) :
      ClzOk X (.ExceptHandler (some (.Name x p)) nm (b :: bs) p' :: hs) (q :: qs)
section
variable {X : Cx} {Wo : WX} {D : Ends}
theorem try_clz {body : List Stmt} {h₀ : ExceptHandler} {hs : List ExceptHandler} {qs : List Clz} {pos : Pos} {tb : WX → TS} (es : X.stack = X.env :: X.outer) (ef : X.env.frame = some X.env.locals) (hN : X.N.Nodup) (tk : Takes X Wo)
    (hb : ∀ W pn xe, Takes (X.tr pn xe) W → PassesOwn (model X.prog X.w) X.A X.env xe → PSs (X.tr pn xe) body (tb W)) (hh : ClzOk X (h₀ :: hs) qs) :
    PS X (.Try body (h₀ :: hs) [] [] pos) (fun D ρ G => tb (wClz X.K Wo D qs) D ρ G) := by
  constructor
  intro pins s ρ G D I z
  have ok := I.ok
  have efr : X.A.frames = some (X.env :: X.outer) := ok.frames.trans (congrArg some es)
  apply wpAny_Try_except
  let xe' : Value → Shared → Prop := fun e s1 => wpAny (model X.prog X.w) X.A (noteFrame e X.env) (fun _ s2 =>
    wpAny (model X.prog X.w) X.A (setFlight e none) (fun _ s3 => wpAny (model X.prog X.w) X.A (handleBy e X.env (h₀ :: hs)) (SP X pins D) X.xe s3) X.xe s2) X.xe s1
  have caught : Takes (X.tr (X.pn ++ pins) xe') (wClz X.K Wo D qs) := by
    rintro u s1 ⟨a, B, sI, pins1, ρ1, G1, cls, d, rfl, J1, nb, up, sky, na, os, ag, w⟩
    have J : Inv X pins ρ1 G1 sI := J1.ofTry ok
    rw [show (X.tr (X.pn ++ pins) xe').stack = X.env :: X.outer from es] at sky
    show wpAny (model X.prog X.w) X.A (noteFrame (.ref a) X.env) _ _ _
    refine Sky.land Zc.steady efr ef sky fun h3 fl up3 => ?_
    have K3 : Inv X pins ρ1 G1 { s1 with heap := h3 } := J.landed nb fl.1 (up.trans up3) os ag
    obtain ⟨ob, fs, g3, zc, dat⟩ := fl.there
    have out : a ∉ frs (X.env :: X.outer) := by
      intro hm
      obtain ⟨_, o2, g2, no⟩ := fl.2.2.1.mem hm
      rw [g3] at g2
      cases g2
      exact no _ dat
    have n1 : a ≠ X.env.locals := by
      rintro rfl
      exact out (List.mem_filterMap.mpr ⟨X.env, List.mem_cons_self, ef⟩)
    have n2 : a ∉ X.fs := by
      intro hm
      obtain ⟨ev, m1, m2⟩ := List.mem_filterMap.mp hm
      exact out (List.mem_filterMap.mpr ⟨ev, List.mem_cons_of_mem _ m1, m2⟩)
    have S3 := K3.suite g3 dat na n1 n2
    have LT : PySem.W.Looks (model X.prog X.w) h3 (typeOf (.ref a)) cls := by
      intro A Q E t k q
      refine wpAny_typeOf_ref (k _ _ g3) ?_
      rw [zc.1]
      exact q
    clear hb
    suffices each : ∀ {hs' : List ExceptHandler} {qs' : List Clz}, ClzOk X hs' qs' → wClz X.K Wo D qs' cls d ρ1 G1 → wpAny (model X.prog X.w) X.A (handleBy (.ref a) X.env hs') (SP X pins D) X.xe { s1 with heap := h3 } from each hh w
    intro hs' qs' ck
    induction ck with
    | nil =>
      intro w
      apply wpAny_handleBy_nil
      obtain ⟨_, _, _, o4, v4, T4, oT, ts4, t1, t2, t3, t4, t5⟩ := id fl
      unfold PySem.passOn
      apply wpAny_bind
      apply wpAny_field t1 t3 t4
      rw [if_neg (by simp)]
      have goes : wpAny (model X.prog X.w) X.A (setFlight (.ref a) X.env.frame) (fun _ s4 => wpAny (model X.prog X.w) X.A (throw (.ref a) : Sem Flow) (SP X pins D) X.xe s4) X.xe { s1 with heap := h3 } := by
        rw [ef]
        refine HandSPX.setFlight_upZ fl fun h4 sk4 up4 => wpAny_throw (tk _ _ ⟨a, B, sI, pins, ρ1, G1, cls, d, rfl, J, nb, (up.trans up3).trans up4, .inr (.inr ?_), na, os, ag, w⟩)
        rw [es]
        exact sk4
      first
        | exact wpAny_bind (wpAny_pure (wpAny_bind goes))
        | exact wpAny_bind goes
    | @cons x nm q b bs p p' hs2 qs2 hc hn hsu _ ih =>
      rintro ⟨hit, h1, yes, no⟩
      refine wpAny_handleBy_cons (codeAny_handlers_test ?_) (by intro k; cases k)
      have M1 := PySem.W.exm_one (M := model X.prog X.w) K3.kIn LT h1
      have look : ∀ {Q E : Value → Shared → Prop}, Q q.cl { s1 with heap := h3 } → wpAny (model X.prog X.w) (X.A.mark (some (.ref a))) (eval (.Name x p) X.env) Q E { s1 with heap := h3 } := by
        intro Q E k
        obtain ⟨c1, c2, c3 | ⟨c3, c4, c5⟩⟩ := hc
        · exact ld_glob (X := X.suite a ((a, ob) :: (X.pn ++ pins))) S3 c1 c3 k c2
        · exact ld_blt (X := X.suite a ((a, ob) :: (X.pn ++ pins))) S3 c1 c3 c4 k c5 c2
      apply look
      apply M1.here
      cases hit with
      | false => exact ih (no rfl)
      | true =>
        obtain ⟨cl, at_, ts⟩ := q
        cases nm with
        | none =>
          cases at_ with
          | some j => exact hn.elim
          | none =>
            apply codeAny_handlers_suite
            refine HandSPX.lands_againZ fl fun h4 fl4 up4 => ?_
            have K4 : Inv X pins ρ1 G1 { s1 with heap := h4 } := J.landed nb fl4.1 ((up.trans up3).trans up4) os ag
            obtain ⟨ob4, fs4, g4, zc4, dat4⟩ := fl4.there
            have S4 := K4.suite g4 dat4 na n1 n2
            refine wpAny_mono ((hsu a ob4 cls d (X.pn ++ pins) zc4 ⟨_, dat4⟩).run [] _ _ G1 _ S4 (yes rfl a na)) (fun f s6 r => ?_) (fun _ _ z => z.elim)
            cases f with
            | ret u => obtain ⟨v6, ρ6, G6, S6, r6, q6⟩ := r; exact ⟨_, _, _, S6.unsuite ok, r6, q6⟩
            | next => obtain ⟨ρ6, G6, S6, q6⟩ := r; exact ⟨_, _, S6.unsuite ok, q6⟩
            | brk => obtain ⟨ρ6, G6, S6, q6⟩ := r; exact ⟨_, _, S6.unsuite ok, q6⟩
            | cont => obtain ⟨ρ6, G6, S6, q6⟩ := r; exact ⟨_, _, S6.unsuite ok, q6⟩
        | some n =>
          cases at_ with
          | none => exact hn.elim
          | some j =>
            obtain ⟨nj, nl⟩ := hn
            apply codeAny_handlers_suite_as
            refine HandSPX.lands_againZ fl fun h4 fl4 up4 => ?_
            have K4 : Inv X pins ρ1 G1 { s1 with heap := h4 } := J.landed nb fl4.1 ((up.trans up3).trans up4) os ag
            obtain ⟨ob4, fs4, g4, zc4, dat4⟩ := fl4.there
            have S4 := K4.suite g4 dat4 na n1 n2
            refine store_ok (X := X.suite a ((a, ob4) :: (X.pn ++ pins))) (v := .ref a) S4 hN nj (.inl nl) rfl (fun s5 S5 => ?_) (.inr nl)
            refine wpAny_mono ((hsu a ob4 cls d (X.pn ++ pins) zc4 ⟨_, dat4⟩).run [] s5 _ G1 _ S5 (yes rfl a na)) (fun f s6 r => ?_) (fun _ _ z => z.elim)
            cases f with
            | ret u => obtain ⟨v6, ρ6, G6, S6, r6, q6⟩ := r; exact gone_ok (S6.unsuite ok) hN nj nl fun s7 K7 => ⟨_, _, _, K7, r6, q6⟩
            | next => obtain ⟨ρ6, G6, S6, q6⟩ := r; exact gone_ok (S6.unsuite ok) hN nj nl fun s7 K7 => ⟨_, _, K7, q6⟩
            | brk => obtain ⟨ρ6, G6, S6, q6⟩ := r; exact gone_ok (S6.unsuite ok) hN nj nl fun s7 K7 => ⟨_, _, K7, q6⟩
            | cont => obtain ⟨ρ6, G6, S6, q6⟩ := r; exact gone_ok (S6.unsuite ok) hN nj nl fun s7 K7 => ⟨_, _, K7, q6⟩
  refine wpAny_mono ((hb _ _ xe' caught PassesOwn.looking).run [] s ρ G D (I.toTry _) z) (fun f s1 r => ?_) (fun _ _ e => e)
  cases f with
  | ret u => obtain ⟨v, ρ', G', J', r, q⟩ := r; exact ⟨v, ρ', G', J'.ofTry ok, r, q⟩
  | next => obtain ⟨ρ', G', J', q⟩ := r; exact wpAny_execs_nil ⟨ρ', G', J'.ofTry ok, q⟩
  | brk => obtain ⟨ρ', G', J', q⟩ := r; exact ⟨ρ', G', J'.ofTry ok, q⟩
  | cont => obtain ⟨ρ', G', J', q⟩ := r; exact ⟨ρ', G', J'.ofTry ok, q⟩
end
end DL
set_option maxRecDepth 100000
set_option maxHeartbeats 2000000
namespace DL
open PySem PySem.Spec PyProof.Rows L2
/-! ### try, on plain data -/
/-- a clause of the mirror: the class's name, what its suite does with the exception -/
structure MClz where
  name : Str
  go : Ex → EnvD → MoS
def pickM : List MClz → Ex → Option MClz
  | [], _ => none
  | q :: qs, e => if e.cls = q.name then some q else pickM qs e
/-- only errors of these classes are looked at -/
def mTry (own : List Str) (fb : EnvD → MoS) (qs : List MClz) : EnvD → MoS := fun ρ b => match fb ρ b with
  | some (.error (e, ρ1), b1) => if e.cls ∈ own then match pickM qs e with
    | some q => q.go e ρ1 b1
    | none => some (.error (e, ρ1), b1)
    else none
  | x => x
/-- the reading that says just what f reckons -/
def canS (mg : Mg) (W : WX) (O Ol O' : List Nat) (f : EnvD → MoS) : TS := fun D σ H => ∃ B H0 G0 G ρ b r b', StOk B O H0 G0 σ H G ρ b ∧ f ρ b = some (r, b') ∧ SPost mg W B O' Ol H0 G0 G D r b'
section
variable {X : Cx} {W : WX} {O Ol O' : List Nat}
theorem DSs.can {st : List Stmt} {f : EnvD → MoS} (h : DSs X W O Ol st O' f) : PSs X st (canS X.mg W O Ol O' f) := by
  obtain ⟨t, h1, h2⟩ := h
  exact ⟨fun pins s σ H D I ⟨B, H0, G0, G, ρ, b, r, b', J, e, p⟩ => h1.run pins s σ H D I (h2 B H0 G0 σ H G ρ b D r b' J e p)⟩
theorem StOk.under {B : Option Addr} {H0 G0 H G H' G' : Hp} {σ' : L2.St} {ρ' : EnvD} {b b' : Bx} (s : Stp B H0 G0 H G b) (J : StOk B O H G σ' H' G' ρ' b') : StOk B O H0 G0 σ' H' G' ρ' b' where
  stp := s.trans J.stp
  len := J.len
  sl := J.sl
  ow := fun i x hi e => by
    obtain ⟨a, ds, vs, h1, h2, h3, h4, h5, h6, h7⟩ := J.ow i x hi e
    refine ⟨a, ds, vs, h1, h2, h3, h4, ?_, h6, h7⟩
    cases hh : H0 a with
    | none => rfl
    | some o =>
      have := s.keep a o hh h6
      rw [h5] at this
      cases this
  ap := J.ap
theorem SPost.under {mg : Mg} {B : Option Addr} {H0 G0 H G Gs : Hp} {D : Ends} {r : RsS} {b b' : Bx} (s : Stp B H0 G0 H G b) (p : SPost mg W B O' Ol H0 G0 Gs D r b') : SPost mg W B O' Ol H G Gs D r b' := by
  unfold SPost at *
  split at p
  · exact fun σ' H' G' J q => p σ' H' G' (J.under s) q
  · exact fun σ' H' G' J q => p σ' H' G' (J.under s) q
  · exact fun σ' H' G' J q => p σ' H' G' (J.under s) q
  · exact fun v H' G' J q => p v H' G' (s.trans J) q
  · exact fun C dd σ' H' G' hm J ea => p C dd σ' H' G' hm (J.under s) ea
/-- what a suite does with the exception that its clause has caught, its name in slot j -/
def EvX (mg : Mg) (Ol O' : List Nat) (nm : Str) (j : Option Nat) (ts : Addr → Value → Option Addr → TS) (f : Ex → EnvD → MoS) : Prop :=
  ∀ B H0 G0 σ H G ρ b D r b' e C d a, e.cls = nm → mg e.cls = some (.ref C) → StOk B [] H0 G0 σ H G ρ b → ExAt H G d e → H a = none → f e ρ b = some (r, b') → SPost mg (fun _ _ _ _ => False) B O' Ol H0 G0 G D r b' → ts a (.ref C) d (clearE j D) (heldE j a σ) H
/-- the clauses: names of own classes that are told apart, suites -/
inductive ClzD (X : Cx) (Ol O' : List Nat) (own : List Str) : List ExceptHandler → List Clz → List MClz → Prop
  | nil : ClzD X Ol O' own [] [] []
  | cons {x : Str} {nm : Option Str} {C : Addr} {j : Option Nat} {ts : Addr → Value → Option Addr → TS} {b : Stmt} {bs : List Stmt} {p p' : Pos} {hs : List ExceptHandler} {qs : List Clz} {ms : List MClz} {f : Ex → EnvD → MoS} (hc : Names X x (.ref C)) (hn : SlotN X nm j)
      (hx : ∀ y ∈ own, ∀ C', X.mg y = some (.ref C') → PySem.W.exmOne X.K (.ref C') (.ref C) = some (decide (y = x)))
      (hb : ∀ a ob cls d pn, Zc cls d ob → (∃ vs, ob.data = .fields vs) → PSs (X.suite a ((a, ob) :: pn)) (b :: bs) (ts a cls d)) (hf : EvX X.mg Ol O' x j ts f) (r : ClzD X Ol O' own hs qs ms) :
      ClzD X Ol O' own (.ExceptHandler (some (.Name x p)) nm (b :: bs) p' :: hs) (⟨.ref C, j, ts⟩ :: qs) (⟨x, f⟩ :: ms)
theorem ClzD.ok {own : List Str} {hs : List ExceptHandler} {qs : List Clz} {ms : List MClz} (h : ClzD X Ol O' own hs qs ms) : ClzOk X hs qs := by
  induction h with
  | nil => exact .nil
  | cons hc hn hx hb hf _ ih => exact .cons (q := ⟨_, _, _⟩) hc hn hb ih
theorem ClzD.met {own : List Str} {hs : List ExceptHandler} {qs : List Clz} {ms : List MClz} (h : ClzD X Ol O' own hs qs ms) {B : Option Addr} {H0 G0 Gs : Hp} {D : Ends} {e : Ex} {ρ : EnvD} {b b' : Bx} {r : RsS} {C : Addr} {d : Option Addr} {σ : L2.St} {H G : Hp}
    (ho : e.cls ∈ own) (hC : X.mg e.cls = some (.ref C)) (J : StOk B [] H0 G0 σ H G ρ b) (sg : Same Gs G) (ea : ExAt H G d e) :
    (match pickM ms e with | some q => q.go e ρ b | none => some (.error (e, ρ), b)) = some (r, b') → SPost X.mg W B O' Ol H0 G0 Gs D r b' → (∀ q ∈ ms, ∀ e ρ b r b', q.go e ρ b = some (r, b') → ∃ fl ρ', r = .ok (fl, ρ')) → wClz X.K W D qs (.ref C) d σ H := by
  induction h with
  | nil =>
    intro er sp _
    simp only [pickM, Option.some.injEq, Prod.mk.injEq] at er
    obtain ⟨rfl, rfl⟩ := er
    exact sp C d σ H G hC J ea
  | @cons x nm C0 j ts bb bs p p' hs qs ms f hc hn hx hb hf _ ih =>
    intro er sp hq
    refine ⟨decide (e.cls = x), hx _ ho _ hC, fun hit a na => ?_, fun no => ?_⟩
    · have hit := of_decide_eq_true hit
      simp only [pickM, hit, if_true] at er
      obtain ⟨fl, ρ', rfl⟩ := hq _ List.mem_cons_self _ _ _ _ _ er
      refine hf B H0 G0 σ H G ρ b D _ b' e C d a hit hC J ea na er ?_
      have sp' := sp.later sg
      cases fl <;> exact sp'
    · have no := of_decide_eq_false no
      simp only [pickM, no, if_false] at er
      exact ih er sp fun q hm => hq q (List.mem_cons_of_mem _ hm)
theorem dst_try {body : List Stmt} {h₀ : ExceptHandler} {hs : List ExceptHandler} {own : List Str} {qs : List Clz} {ms : List MClz} {pos : Pos} {fb : EnvD → MoS} (es : X.stack = X.env :: X.outer) (ef : X.env.frame = some X.env.locals) (hN : X.N.Nodup) (tk : Takes X W)
    (hb : ∀ W pn xe, Takes (X.tr pn xe) W → PassesOwn (model X.prog X.w) X.A X.env xe → DSs (X.tr pn xe) W [] Ol body O' fb) (hh : ClzD X Ol O' own (h₀ :: hs) qs ms)
    (hq : ∀ q ∈ ms, ∀ e ρ b r b', q.go e ρ b = some (r, b') → ∃ fl ρ', r = .ok (fl, ρ')) : DSt X W [] Ol (.Try body (h₀ :: hs) [] [] pos) O' (mTry own fb ms) := by
  refine ⟨_, try_clz (tb := fun W => canS X.mg W [] Ol O' fb) es ef hN tk (fun W pn xe t po => (hb W pn xe t po).can) hh.ok, ?_⟩
  intro B H0 G0 σ H G ρ b D r b' I er sp
  unfold mTry at er
  cases hm : fb ρ b with
  | none => rw [hm] at er; cases er
  | some q =>
    obtain ⟨q, b1⟩ := q
    rw [hm] at er
    refine ⟨B, H, G, G, ρ, b, q, b1, ⟨I.refl, I.len, I.sl, (fun i x hi => nomatch hi), (fun i j a x y hi => nomatch hi)⟩, hm, ?_⟩
    cases q with
    | ok v =>
      simp only [Option.some.injEq, Prod.mk.injEq] at er
      obtain ⟨rfl, rfl⟩ := er
      obtain ⟨fl, ρ1⟩ := v
      cases fl <;> exact sp.under I.stp
    | error v =>
      obtain ⟨e, ρ1⟩ := v
      intro C d σ1 H1 G1 hC J ea
      dsimp only at er
      split at er
      · rename_i ho
        exact hh.met ho hC (J.under I.stp) J.stp.grow ea er sp hq
      · cases er
end
end DL
set_option maxRecDepth 100000
set_option maxHeartbeats 2000000
namespace DL
open PySem PySem.Spec PyProof.Rows L2
/-! ### what an except suite says of the exception that it holds -/
/-- isinstance of it, with a dict or without -/
def rIsF (K : PySem.W.Frag) (D a : Addr) (d : Option Addr) : List V → Hp → VK → Prop := fun xs H Q => ∃ (c : V) (u : Value) (k : Bool), xs = [.ref a, c] ∧ (∀ z, RelV c z → z = u) ∧ PySem.W.kitOne K (.ref D) u = some k ∧ (∀ dd, d = some dd → ∃ fs, H dd = some (.xd fs)) ∧ Q (.bl k) H
theorem call_isF {X : Cx} {a D : Addr} {ob : Obj} {d : Option Addr} {pn : List (Addr × Obj)} (T : ExcC X.K D) (hz : Zc (.ref D) d ob) (hf : ∃ vs, ob.data = .fields vs) : CallR (X.suite a ((a, ob) :: pn)) (.builtin "isinstance") (rIsF X.K D a d) := by
  intro pins s σ H xs us Q I r h
  obtain ⟨c, u, k, rfl, hu, hk, hd, q⟩ := h
  obtain _ | ⟨rx, r2⟩ := r
  obtain _ | ⟨rc, r3⟩ := r2
  cases r3
  obtain rfl := hu _ rc
  cases rx
  obtain ⟨g1, _⟩ := I.pin (a, ob) (List.mem_append_left _ List.mem_cons_self)
  obtain ⟨vs, hv⟩ := hf
  have cl : (PySem.W.clsIn X.K D).isSome = true := by
    obtain ⟨cd, e, _⟩ := PySem.W.any_some T.hd
    rw [e]
    rfl
  have J : ∃ od, PySem.W.InstAt s.heap a ob D od := by
    cases d with
    | none => exact ⟨none, g1, hz.1, by unfold PySem.W.notCls; rw [hv] <;> rfl, by rw [hz.2]; trivial⟩
    | some dd =>
      obtain ⟨fs, e⟩ := hd dd rfl
      have x : ObjOk X.prog X.w H s.heap dd (.xd fs) := I.hok dd _ e
      obtain ⟨m, hn, _⟩ := x
      obtain ⟨od, ho, _⟩ := lookIn_ns hn
      exact ⟨some od, g1, hz.1, by unfold PySem.W.notCls; rw [hv] <;> rfl, by rw [hz.2]; exact ho⟩
  obtain ⟨od, J⟩ := J
  exact PySem.W.kia_one (PySem.W.kitx_exc cl T.hg T.hk T.hs T.ha T.hn T.ht T.hm) I.kIn J hk (by intro z; cases z) fun tk => ⟨.bl k, H, I.kept (t' := tk) fun _ _ z => z, rfl, q⟩
/-- what an expression of a suite is worth, the exception's name in slot j -/
def EvI (a : Addr) (d : Option Addr) (e : Ex) (j : Nat) (t : TE) (o : Option Dt) : Prop :=
  ∀ B G σ H b Q x, Stp B H G H G b → σ[j]? = some (some (V.ref a)) → ExAt H G d e → o = some x → (∀ v H' G', Stp B H G H' G' b → Rp G' v x → Q v H') → t σ H Q
def EvIs (a : Addr) (d : Option Addr) (e : Ex) (j : Nat) (t : TA) (o : Option (List Dt)) : Prop :=
  ∀ B G σ H b Q x, Stp B H G H G b → σ[j]? = some (some (V.ref a)) → ExAt H G d e → o = some x → (∀ v H' G', Stp B H G H' G' b → RpAll G' v x → Q v H') → t σ H Q
theorem ExAt.step {B : Option Addr} {H G H' G' : Hp} {b b' : Bx} {d : Option Addr} {e : Ex} (h : ExAt H G d e) (x : BoxAt B H G b) (s : Stp B H G H' G' b') : ExAt H' G' d e := by
  unfold ExAt at *
  split
  · rename_i z
    rw [z] at h
    exact h
  · rename_i f y z
    rw [z] at h
    obtain ⟨a, v, h1, h2, h3⟩ := h
    refine ⟨a, v, h1, s.keep a _ h2 ?_, h3.mono s.grow⟩
    intro w
    have := (x a w).1
    rw [h2] at this
    cases this
section
variable {X : Cx} {a : Addr} {ob : Obj} {d : Option Addr} {pn : List (Addr × Obj)} {e : Ex} {j : Nat}
theorem evi_str {s : Str} {k pos} : ∃ t, PE X (.Constant (.str s) k pos) t ∧ EvI a d e j t (some (.str s)) := ⟨_, pe_str, fun B G σ H b Q x st hj ea ex q => by
  cases ex
  exact q _ H G st (.str s)⟩
theorem evi_fld {C : Addr} {pos : Pos} {f : Str} {x : Str} {p : Pos} (T : XfC X.K C) (hno : PySem.W.findIn X.K (.ref C) f = some none) (hz : Zc (.ref C) d ob) (hf : ∃ vs, ob.data = .fields vs) (hv : PE (X.suite a ((a, ob) :: pn)) (.Name x p) (tVar j))
    (hb : attributeBase (.Name x p) f X.env (eval (.Name x p) X.env) = eval (.Name x p) X.env := by rfl) :
    ∃ t, PE (X.suite a ((a, ob) :: pn)) (.Attribute (.Name x p) f pos) t ∧ EvI a d e j t (match e.val with | some (g, y) => if g = f then some y else none | none => none) := by
  refine ⟨_, pe_xf (cls := .ref C) T hno hz hf hv hb, fun B G σ H b Q x st hj ea ex q => ?_⟩
  cases hval : e.val with
  | none => rw [hval] at ex; cases ex
  | some gy =>
    obtain ⟨g, y⟩ := gy
    rw [hval] at ex
    dsimp only at ex
    split at ex
    · rename_i hg
      subst hg
      cases ex
      unfold ExAt at ea
      rw [hval] at ea
      obtain ⟨dd, v, h1, h2, h3⟩ := ea
      exact ⟨_, hj, rfl, rfl, dd, [(g, v)], v, h1, h2, by simp [List.lookup], q v H G st h3⟩
    · cases ex
theorem evi_isi {D : Addr} {x T : Str} {N : String} {k : Bool} {p p1 p2 pos : Pos} (C : ExcC X.K D) (hz : Zc (.ref D) d ob) (hf : ∃ vs, ob.data = .fields vs) (hv : PE (X.suite a ((a, ob) :: pn)) (.Name x p1) (tVar j)) (hm : X.mg "isinstance" = none) (hmT : X.mg T = none)
    (boot : bootBuiltins T = some (.type N)) (nn : T ≠ "__name__") (hk : PySem.W.kitOne X.K (.ref D) (.type N) = some k) (hg : Gl X "isinstance" := by rfl) (hgT : Gl X T := by rfl) (hdb : (T == ("__debug__" : Str)) = false := by decide)
    (hs : starEach [.Name x p1, .Name T p2] X.env = (false, eval (.Name x p1) X.env) :: starEach [.Name T p2] X.env := by rfl) (hs2 : starEach [.Name T p2] X.env = (false, eval (.Name T p2) X.env) :: starEach [] X.env := by rfl) (hpl : (backTo pos (starEach [.Name T p2] X.env)).any (·.1) = false := by rfl) :
    ∃ t, PE (X.suite a ((a, ob) :: pn)) (.Call (.Name "isinstance" p) [.Name x p1, .Name T p2] [] pos) t ∧ EvI a d e j t (some (.bool k)) := by
  refine ⟨_, pe_callB (call_isF C hz hf) hg hm boot_isinstance (pa_cons hv (pa_cons (pe_bltn (v := .ty N) hgT hmT boot rfl nn hdb) pa_nil hs2) hs) (by decide) (by decide) hs hpl, fun B G σ H b Q x st hj ea ex q => ?_⟩
  cases ex
  refine ⟨_, hj, .ty N, .type N, k, rfl, fun z hz => hz, hk, fun dd hd => ?_, q _ H G st (.bl k)⟩
  unfold ExAt at ea
  cases hval : e.val with
  | none => rw [hval] at ea; rw [ea] at hd; cases hd
  | some gy =>
    obtain ⟨g, y⟩ := gy
    rw [hval] at ea
    obtain ⟨dd', v, h1, h2, h3⟩ := ea
    rw [h1] at hd
    cases hd
    exact ⟨_, h2⟩
theorem evi_nil : ∃ t, PA X [] t ∧ EvIs a d e j t (some []) := ⟨_, pa_nil, fun B G σ H b Q x st hj ea ex q => by
  cases ex
  exact q [] H G st .nil⟩
theorem evi_cons {x : Expr} {xs : List Expr} {o : Option Dt} {os : Option (List Dt)} (h1 : ∃ t, PE X x t ∧ EvI a d e j t o) (h2 : ∃ t, PA X xs t ∧ EvIs a d e j t os) (hs : starEach (x :: xs) X.env = (false, eval x X.env) :: starEach xs X.env := by rfl) :
    ∃ t, PA X (x :: xs) t ∧ EvIs a d e j t (o.bind fun y => os.map fun ys => y :: ys) := by
  obtain ⟨t1, a1, b1⟩ := h1
  obtain ⟨t2, a2, b2⟩ := h2
  refine ⟨_, pa_cons a1 a2 hs, fun B G σ H b Q z st hj ea ex q => ?_⟩
  cases o with
  | none => cases ex
  | some y =>
    cases os with
    | none => cases ex
    | some ys =>
      simp only [Option.bind_some, Option.map_some, Option.some.injEq] at ex
      subst ex
      refine b1 B G σ H b _ y st hj ea rfl fun v H1 G1 s1 r1 => b2 B G1 σ H1 b _ ys (.refl s1.sub s1.box) hj (ea.step st.box s1) rfl fun vs H2 G2 s2 r2 => q _ H2 G2 (s1.trans s2) (.cons (r1.mono s2.grow) r2)
theorem evi_lst {xs : List Expr} {os : Option (List Dt)} {pos : Pos} (h : ∃ t, PA X xs t ∧ EvIs a d e j t os) (hl : xs.length ≤ 1000) (ho : ∀ ys, os = some ys → ys.length ≤ 1000) : ∃ t, PE X (.List xs pos) t ∧ EvI a d e j t (os.map PyData.list) := by
  obtain ⟨t, a1, b1⟩ := h
  refine ⟨_, pe_lst a1, fun B G σ H b Q z st hj ea ex q => ?_⟩
  cases os with
  | none => cases ex
  | some ys =>
    cases ex
    have l := ho ys rfl
    refine b1 B G σ H b _ ys st hj ea rfl fun vs H1 G1 s1 r1 => ?_
    have lv : vs.length ≤ sizeLine := by rw [r1.length]; exact sz_of (by omega)
    refine ⟨lv, fun p hp => ?_⟩
    have s2 := Stp.add (o := .lst vs) s1.sub s1.box hp
    exact q _ _ _ (s1.trans s2) (.lst upd_same lv (r1.mono s2.grow))
end
/-! suites -/
/-- the reading of a suite that says just what f reckons; the exception's name in slot j -/
def canX (mg : Mg) (j : Nat) (nm : Str) (f : Ex → EnvD → MoS) : Addr → Value → Option Addr → TS := fun a cls d D' σ' H => ∃ B H0 G0 σ G ρ b r b' e C D, cls = .ref C ∧ D' = clearE (some j) D ∧ σ' = heldE (some j) a σ ∧ e.cls = nm ∧ mg e.cls = some (.ref C) ∧ StOk B [] H0 G0 σ H G ρ b ∧ ExAt H G d e ∧ f e ρ b = some (r, b') ∧ SPost mg (fun _ _ _ _ => False) B [] [] H0 G0 G D r b'
theorem evx_can {mg : Mg} {j : Nat} {nm : Str} {f : Ex → EnvD → MoS} : EvX mg [] [] nm (some j) (canX mg j nm f) f := fun B H0 G0 σ H G ρ b D r b' e C d a h1 h2 I ea na er sp => ⟨B, H0, G0, σ, G, ρ, b, r, b', e, C, D, rfl, rfl, rfl, h1, h2, I, ea, er, sp⟩
theorem StOk.off {B : Option Addr} {H0 G0 H G : Hp} {σ σ2 : L2.St} {ρ : EnvD} {b : Bx} {j : Nat} (I : StOk B [] H0 G0 σ H G ρ b) (hl : σ2.length = σ.length) (hs : ∀ k, k ≠ j → σ2[k]? = σ[k]?) : StOk B [] H0 G0 σ2 H G (ρ.set j none) b where
  stp := I.stp
  len := by rw [List.length_set, I.len, hl]
  sl := fun k x hk e => by
    by_cases h : k = j
    · subst h
      by_cases hlt : k < ρ.length
      · rw [List.getElem?_set_self hlt] at e
        cases e
      · rw [List.getElem?_eq_none (by rw [List.length_set]; omega)] at e
        cases e
    · rw [List.getElem?_set_ne (Ne.symm h)] at e
      obtain ⟨v, h1, h2⟩ := I.sl k x hk e
      exact ⟨v, (hs k h).trans h1, h2⟩
  ow := fun k x hk => nomatch hk
  ap := fun k l a x y hk => nomatch hk
/-- x = e, of the exception e -/
def mXset (i j : Nat) (fx : Ex → Option Dt) (e : Ex) (ρ : EnvD) : MoS := fun b => if j < ρ.length then (fx e).map fun x => (.ok (.nx, (ρ.set i (some (.d x))).set j none), b) else none
def mXret (j : Nat) (fx : Ex → Option Dt) (e : Ex) (ρ : EnvD) : MoS := fun b => if j < ρ.length then (fx e).map fun x => (.ok (.rt x, ρ), b) else none
section
variable {X : Cx} {a : Addr} {ob : Obj} {cls : Value} {d : Option Addr} {pn : List (Addr × Obj)} {j : Nat} {nm : Str} {fx : Ex → Option Dt} {ex : Expr}
theorem held_at {σ : L2.St} (h : j < σ.length) : (heldE (some j) a σ)[j]? = some (some (V.ref a)) := by
  show (σ.set j _)[j]? = _
  rw [List.getElem?_set_self h]
theorem suite_set {i : Nat} {y : Str} {pos pos' : Pos} (hN : X.N.Nodup) (hi : X.N[i]? = some y) (hy : Loc X.env.scope y) (hij : i ≠ j)
    (he : ∀ e C, e.cls = nm → X.mg e.cls = some (.ref C) → cls = .ref C → ∃ t, PE (X.suite a ((a, ob) :: pn)) ex t ∧ EvI a d e j t (fx e))
    (hs : swapsWith ex (some (.Name y pos')) pos.line X.env = pure false := by rfl) (hf : X.fn y = true ∨ X.env.scope.names.lookup y = some .local := by first | exact .inl rfl | exact .inr rfl | assumption) :
    PSs (X.suite a ((a, ob) :: pn)) [.Assign [.Name y pos'] ex pos] (canX X.mg j nm (mXset i j fx) a cls d) := by
  constructor
  rintro pins s σ' H D' I ⟨B, H0, G0, σ, G, ρ, b, r, b', e, C, D, rfl, rfl, rfl, h1, h2, J, ea, er, sp⟩
  obtain ⟨t, t1, t2⟩ := he e C h1 h2 rfl
  unfold mXset at er
  split at er
  · rename_i hj
    cases hx : fx e with
    | none => rw [hx] at er; cases er
    | some x =>
      rw [hx] at er
      simp only [Option.map_some, Option.some.injEq, Prod.mk.injEq] at er
      obtain ⟨rfl, rfl⟩ := er
      have hj' : j < σ.length := by rw [← J.len]; exact hj
      refine (pss_one (ps_set (X := X.suite a ((a, ob) :: pn)) hN hi hy t1 hs hf)).run pins s _ H _ I ?_
      refine t2 B G _ H b _ x J.refl (held_at hj') ea hx fun v H1 G1 s1 r1 => ?_
      refine sp _ H1 G1 (((J.step s1).put (i := i) (v := v) (s := .d x) (fun z => nomatch z) r1).off (j := j) ?_ fun k hk => ?_) s1.grow
      · simp [heldE]
      · rw [List.getElem?_set_ne (Ne.symm hk)]
        by_cases hki : k = i
        · subst hki
          by_cases hlt : k < σ.length
          · rw [List.getElem?_set_self (by simpa [heldE] using hlt), List.getElem?_set_self hlt]
          · rw [List.getElem?_eq_none (by simp [heldE]; omega), List.getElem?_eq_none (by simp; omega)]
        · rw [List.getElem?_set_ne (Ne.symm hki), List.getElem?_set_ne (Ne.symm hki)]
          show (σ.set j _)[k]? = _
          rw [List.getElem?_set_ne (Ne.symm hk)]
  · cases er
theorem suite_ret {pos : Pos} (he : ∀ e C, e.cls = nm → X.mg e.cls = some (.ref C) → cls = .ref C → ∃ t, PE (X.suite a ((a, ob) :: pn)) ex t ∧ EvI a d e j t (fx e)) :
    PSs (X.suite a ((a, ob) :: pn)) [.Return (some ex) pos] (canX X.mg j nm (mXret j fx) a cls d) := by
  constructor
  rintro pins s σ' H D' I ⟨B, H0, G0, σ, G, ρ, b, r, b', e, C, D, rfl, rfl, rfl, h1, h2, J, ea, er, sp⟩
  obtain ⟨t, t1, t2⟩ := he e C h1 h2 rfl
  unfold mXret at er
  split at er
  · rename_i hj
    cases hx : fx e with
    | none => rw [hx] at er; cases er
    | some x =>
      rw [hx] at er
      simp only [Option.map_some, Option.some.injEq, Prod.mk.injEq] at er
      obtain ⟨rfl, rfl⟩ := er
      have hj' : j < σ.length := by rw [← J.len]; exact hj
      refine (pss_one (ps_ret (X := X.suite a ((a, ob) :: pn)) t1)).run pins s _ H _ I ?_
      exact t2 B G _ H b _ x J.refl (held_at hj') ea hx fun v H1 G1 s1 r1 => sp v H1 G1 (J.stp.trans s1) r1
  · cases er
end
end DL
set_option maxRecDepth 100000
set_option maxHeartbeats 2000000
namespace DL
open PySem PySem.Spec PyProof.Rows L2
/-! ### own error classes in except clauses -/
/-- what the class at C says: its fields fs, the built-in classes Ts above it, told apart from the others -/
structure ClsAt (K : PySem.W.Frag) (mg : Mg) (own : List Str) (x : Str) (fs : List Str) (Ts : List String) (C : Addr) : Prop where
  at_ : mg x = some (.ref C)
  xf : XfC K C
  ex : ExcC K C
  no : ∀ f ∈ fs, PySem.W.findIn K (.ref C) f = some none
  kit : ∀ T ∈ Ts, PySem.W.kitOne K (.ref C) (.type T) = some true
  one : ∀ y ∈ own, ∀ C', mg y = some (.ref C') → PySem.W.exmOne K (.ref C') (.ref C) = some (decide (y = x))
def HasC (K : PySem.W.Frag) (mg : Mg) (own : List Str) (x : Str) (fs : List Str) (Ts : List String) : Prop := ∃ C, ClsAt K mg own x fs Ts C
def ClzE (X : Cx) (own : List Str) (hs : List ExceptHandler) (ms : List MClz) : Prop := ∃ qs, ClzD X [] [] own hs qs ms
theorem clze_nil {X : Cx} {own : List Str} : ClzE X own [] [] := ⟨[], .nil⟩
section
variable {X : Cx} {own : List Str} {hs : List ExceptHandler} {ms : List MClz} {x n : Str} {fs : List Str} {Ts : List String} {j : Nat} {fx : Ex → Option Dt} {ex : Expr} {p pos pos' : Pos}
theorem clze_set {i : Nat} {y : Str} {p' : Pos} (c : HasC X.K X.mg own x fs Ts) (hN : X.N.Nodup) (hj : X.N[j]? = some n) (hl : X.env.kindOf n = some .local) (hi : X.N[i]? = some y) (hy : Loc X.env.scope y) (hij : i ≠ j)
    (he : ∀ C, ClsAt X.K X.mg own x fs Ts C → ∀ a ob d pn e, Zc (.ref C) d ob → (∃ vs, ob.data = .fields vs) → ∃ t, PE (X.suite a ((a, ob) :: pn)) ex t ∧ EvI a d e j t (fx e)) (r : ClzE X own hs ms)
    (hg : Gl X x := by rfl) (hdb : (x == ("__debug__" : Str)) = false := by decide) (hsw : swapsWith ex (some (.Name y p')) pos.line X.env = pure false := by rfl) (hf : X.fn y = true ∨ X.env.scope.names.lookup y = some .local := by first | exact .inl rfl | exact .inr rfl | assumption) :
    ClzE X own (.ExceptHandler (some (.Name x p)) (some n) [.Assign [.Name y p'] ex pos] pos' :: hs) (⟨x, mXset i j fx⟩ :: ms) := by
  obtain ⟨C, cx⟩ := c
  obtain ⟨qs, r⟩ := r
  refine ⟨⟨.ref C, some j, canX X.mg j x (mXset i j fx)⟩ :: qs, .cons ⟨hg, hdb, .inl cx.at_⟩ ⟨hj, hl⟩ cx.one (fun a ob cls d pn hz hfl => suite_set hN hi hy hij (fun e C' h1 h2 h3 => ?_) hsw hf) evx_can r⟩
  rw [h1, cx.at_] at h2
  cases h2
  subst h3
  exact he C cx a ob d pn e hz hfl
theorem clze_ret (c : HasC X.K X.mg own x fs Ts) (hj : X.N[j]? = some n) (hl : X.env.kindOf n = some .local)
    (he : ∀ C, ClsAt X.K X.mg own x fs Ts C → ∀ a ob d pn e, Zc (.ref C) d ob → (∃ vs, ob.data = .fields vs) → ∃ t, PE (X.suite a ((a, ob) :: pn)) ex t ∧ EvI a d e j t (fx e)) (r : ClzE X own hs ms)
    (hg : Gl X x := by rfl) (hdb : (x == ("__debug__" : Str)) = false := by decide) :
    ClzE X own (.ExceptHandler (some (.Name x p)) (some n) [.Return (some ex) pos] pos' :: hs) (⟨x, mXret j fx⟩ :: ms) := by
  obtain ⟨C, cx⟩ := c
  obtain ⟨qs, r⟩ := r
  refine ⟨⟨.ref C, some j, canX X.mg j x (mXret j fx)⟩ :: qs, .cons ⟨hg, hdb, .inl cx.at_⟩ ⟨hj, hl⟩ cx.one (fun a ob cls d pn hz hfl => suite_ret fun e C' h1 h2 h3 => ?_) evx_can r⟩
  rw [h1, cx.at_] at h2
  cases h2
  subst h3
  exact he C cx a ob d pn e hz hfl
/-- every suite ends without an error -/
def Calm (ms : List MClz) : Prop := ∀ q ∈ ms, ∀ e ρ b r b', q.go e ρ b = some (r, b') → ∃ fl ρ', r = .ok (fl, ρ')
theorem calm_nil : Calm [] := fun _ h => nomatch h
theorem calm_set {i : Nat} (h : Calm ms) : Calm (⟨x, mXset i j fx⟩ :: ms) := by
  intro q hq e ρ b r b' er
  rcases List.mem_cons.mp hq with rfl | hq
  · simp only [mXset] at er
    split at er
    · cases hx : fx e with
      | none => rw [hx] at er; cases er
      | some y =>
        rw [hx] at er
        simp only [Option.map_some, Option.some.injEq, Prod.mk.injEq] at er
        exact ⟨_, _, er.1.symm⟩
    · cases er
  · exact h q hq e ρ b r b' er
theorem calm_ret (h : Calm ms) : Calm (⟨x, mXret j fx⟩ :: ms) := by
  intro q hq e ρ b r b' er
  rcases List.mem_cons.mp hq with rfl | hq
  · simp only [mXret] at er
    split at er
    · cases hx : fx e with
      | none => rw [hx] at er; cases er
      | some y =>
        rw [hx] at er
        simp only [Option.map_some, Option.some.injEq, Prod.mk.injEq] at er
        exact ⟨_, _, er.1.symm⟩
    · cases er
  · exact h q hq e ρ b r b' er
theorem dst_tryE {W : WX} {body : List Stmt} {h₀ : ExceptHandler} {fb : EnvD → MoS} (es : X.stack = X.env :: X.outer) (ef : X.env.frame = some X.env.locals) (hN : X.N.Nodup) (tk : Takes X W)
    (hb : ∀ W pn xe, Takes (X.tr pn xe) W → PassesOwn (model X.prog X.w) X.A X.env xe → DSs (X.tr pn xe) W [] [] body [] fb) (hh : ClzE X own (h₀ :: hs) ms) (hq : Calm ms) : DSt X W [] [] (.Try body (h₀ :: hs) [] [] pos) [] (mTry own fb ms) := by
  obtain ⟨qs, hh⟩ := hh
  exact dst_try es ef hN tk hb hh hq
end
/-! words of the mirrors of suites -/
def exFld (f : Str) (e : Ex) : Option Dt := match e.val with | some (g, y) => if g = f then some y else none | none => none
def exCons (o : Option Dt) (os : Option (List Dt)) : Option (List Dt) := o.bind fun y => os.map fun ys => y :: ys
def exLst (os : Option (List Dt)) : Option Dt := os.map PyData.list
def ExLen (n : Nat) (os : Option (List Dt)) : Prop := ∀ ys, os = some ys → ys.length = n
theorem exl_nil : ExLen 0 (some []) := fun ys h => by cases h; rfl
theorem exl_cons {n : Nat} {o : Option Dt} {os : Option (List Dt)} (h : ExLen n os) : ExLen (n + 1) (exCons o os) := fun zs e => by
  cases o with
  | none => cases e
  | some y =>
    cases os with
    | none => cases e
    | some ys =>
      simp only [exCons, Option.bind_some, Option.map_some, Option.some.injEq] at e
      subst e
      simp [h ys rfl]
theorem evi_lstN {X : Cx} {a : Addr} {d : Option Addr} {e : Ex} {j n : Nat} {xs : List Expr} {os : Option (List Dt)} {pos : Pos} (h : ∃ t, PA X xs t ∧ EvIs a d e j t os) (hn : ExLen n os) (hl : xs.length ≤ 1000 := by decide) (h2 : n ≤ 1000 := by decide) : ∃ t, PE X (.List xs pos) t ∧ EvI a d e j t (exLst os) :=
  evi_lst h hl fun ys e => by rw [hn ys e]; exact h2
end DL
set_option maxRecDepth 100000
set_option maxHeartbeats 2000000
namespace DL
open PySem PySem.Spec PyProof.Rows L2
/-! ### own error classes, from their texts -/
/-- the i-th row of a class's body -/
def inCls (st : Stmt) (i : Nat) : Stmt := match st with
  | .ClassDef _ _ _ body _ _ _ _ _ _ _ => body.getD i (.Pass ⟨0, 0, 0, 0⟩)
  | _ => .Pass ⟨0, 0, 0, 0⟩
/-- an __init__ that hands its one argument to the class above and keeps it: what its two rows wish, from the start on -/
theorem init_start {K : PySem.W.Frag} {C : Addr} {bmB : List Value} {newId : String} {f : Str} {vs : List V} {H : Hp} {Q : VK} {E : XK} (T : ExB K C bmB newId) (noF : PySem.W.findIn K (.ref C) f = some none) (h : spIn C f vs H Q E) {D : Ends} {σ : L2.St} (hD : ∀ σ H', Q .non H' → D.nx σ H') (hσ : ∀ a v, vs = [a, v] → σ[0]? = some (some a) ∧ σ[1]? = some (some v)) :
    tSeq (tDrop (tBI K bmB newId (tCons (tVar 0) (tCons (tVar 1) tNil)))) (tSeq (tOne K bmB newId f (tVar 0) (tVar 1)) tNext) D σ H := by
  obtain ⟨a, v, rfl, ea, q⟩ := h
  obtain ⟨h0, h1⟩ := hσ _ _ rfl
  exact ⟨V.ref a, h0, v, h1, a, C, [v], rfl, by simp, T, ea, v, h1, V.ref a, h0, a, C, rfl, T, noF, ea, fun dx hd ne => hD _ _ (q dx hd ne)⟩
theorem exo_of {K : PySem.W.Frag} {C : Addr} {cls : Value} {k : Bool} (h1 : PySem.W.subIn K (.ref C) (.type "BaseException") = some true) (h2 : PySem.W.hasDictIn K C = true) (h3 : PySem.W.typeIn K (.ref C) = some (.type "type")) (h4 : PySem.W.subIn K cls (.ref C) = some k) : PySem.W.exmOne K cls (.ref C) = some k := PySem.W.exm_ref h1 h2 h3 h4
theorem kit_of {K : PySem.W.Frag} {C : Addr} {T : String} {k : Bool} (h1 : PySem.W.kitMeta T = true) (h2 : PySem.W.subIn K (.ref C) (.type T) = some k) : PySem.W.kitOne K (.ref C) (.type T) = some k := by
  unfold PySem.W.kitOne
  rw [if_neg (by simp)]
  show (if _ then _ else _) = _
  rw [if_pos h1]
  exact h2
theorem HasC.less {K : PySem.W.Frag} {mg : Mg} {own : List Str} {x : Str} {fs fs' : List Str} {Ts Ts' : List String} (h : HasC K mg own x fs Ts) (h1 : ∀ f ∈ fs', f ∈ fs) (h2 : ∀ T ∈ Ts', T ∈ Ts) : HasC K mg own x fs' Ts' := by
  obtain ⟨C, h⟩ := h
  exact ⟨C, h.at_, h.xf, h.ex, fun f hf => h.no f (h1 f hf), fun T hT => h.kit T (h2 T hT), h.one⟩
end DL
set_option maxRecDepth 100000
set_option maxHeartbeats 1000000
namespace DL
open PySem L2
/-! ### reckoning with errors -/
def mErr {α : Type} (e : Ex) : Mo α := fun b => some (.error e, b)
def sErr (e : Ex) (ρ : EnvD) : MoS := fun b => some (.error (e, ρ), b)
section
variable {α β : Type} {e : Ex} {ρ : EnvD}
@[simp] theorem m_bind_err {k : α → Mo β} : mBind (mErr e) k = mErr e := by
  funext b
  rfl
@[simp] theorem m_e_err {k : α → MoS} : mE (mErr e) ρ k = sErr e ρ := by
  funext b
  rfl
@[simp] theorem s_bind_err {k : EnvD → MoS} : sBind (sErr e ρ) k = sErr e ρ := by
  funext b
  rfl
@[simp] theorem s_fin_err : sFin (sErr e ρ) = mErr e := by
  funext b
  rfl
theorem raise_eq {x f : Str} {fe : EnvD → Mo Dt} {d : Dt} (h : fe ρ = mOk d) : mRaise x f fe ρ = sErr ⟨x, some (f, d)⟩ ρ := by
  unfold mRaise
  rw [h, m_e_ok]
  rfl
theorem raise0_eq {x : Str} : mRaise0 x ρ = sErr ⟨x, none⟩ ρ := rfl
theorem try_ok {own : List Str} {fb : EnvD → MoS} {ms : List MClz} {fl : Fl} {ρ1 : EnvD} (h : fb ρ = sOk fl ρ1) : mTry own fb ms ρ = sOk fl ρ1 := by
  funext b
  unfold mTry
  rw [h]
  rfl
theorem try_err {own : List Str} {fb : EnvD → MoS} {ms : List MClz} {ρ1 : EnvD} {q : MClz} (h : fb ρ = sErr e ρ1) (ho : e.cls ∈ own) (hq : pickM ms e = some q) : mTry own fb ms ρ = q.go e ρ1 := by
  funext b
  unfold mTry
  rw [h]
  show (if e.cls ∈ own then _ else _) = _
  rw [if_pos ho, hq]
theorem xset_eq {i j : Nat} {fx : Ex → Option Dt} {d : Dt} (hj : j < ρ.length) (h : fx e = some d) : mXset i j fx e ρ = sOk .nx ((ρ.set i (some (.d d))).set j none) := by
  funext b
  unfold mXset
  rw [if_pos hj, h]
  rfl
theorem xret_eq {j : Nat} {fx : Ex → Option Dt} {d : Dt} (hj : j < ρ.length) (h : fx e = some d) : mXret j fx e ρ = sOk (.rt d) ρ := by
  funext b
  unfold mXret
  rw [if_pos hj, h]
  rfl
/-- a loop: some items without an error, then one that raises, or none -/
theorem for_err {g : Dt → EnvD → Option EnvD} {fb : EnvD → MoS} {d : Dt} {ds : List Dt} {ρ1 ρ2 : EnvD} (h1 : g d ρ = some ρ1) (h2 : fb ρ1 = sErr e ρ2) : forLoop g fb (d :: ds) ρ = sErr e ρ2 := by
  funext b
  simp only [forLoop, h1, h2, sErr]
theorem for_rt {g : Dt → EnvD → Option EnvD} {fb : EnvD → MoS} {d r : Dt} {ds : List Dt} {ρ1 ρ2 : EnvD} (h1 : g d ρ = some ρ1) (h2 : fb ρ1 = sOk (.rt r) ρ2) : forLoop g fb (d :: ds) ρ = sOk (.rt r) ρ2 := by
  funext b
  simp only [forLoop, h1, h2, sOk]
end
section
variable {g : Dt → EnvD → Option EnvD} {ft : EnvD → Mo Bool} {fe : EnvD → Mo Dt} {ρ : EnvD}
/-- a comprehension whose tests draw: some of the items, in their order -/
theorem Go.lcs {k : Nat} {h : Dt → Dt} : ∀ {ds : List Dt}, (∀ d ∈ ds, ∃ ρ1, g d ρ = some ρ1 ∧ Go k (ft ρ1) (fun _ => True) ∧ fe ρ1 = mOk (h d)) → Go (ds.length * k) (lcLoop g ft fe ρ ds) (fun es => es.Sublist (ds.map h))
  | [], _ => (Go.pure (by simp)).mono (by simp) fun _ h => h
  | d :: ds, H => by
    obtain ⟨ρ1, h1, h2, h3⟩ := H d List.mem_cons_self
    simp only [lcLoop, h1, h3, m_no_ok]
    have ih := Go.lcs fun e he => H e (List.mem_cons_of_mem _ he)
    refine (Go.no (k := ds.length * k) h2 fun c _ => ?_).mono (by rw [List.length_cons, Nat.succ_mul]; omega) fun _ h => h
    cases c with
    | false =>
      simp only [Bool.false_eq_true, if_false]
      exact ih.mono (Nat.le_refl _) fun es he => .cons _ he
    | true =>
      simp only [if_true]
      exact (Go.no (k := 0) ih fun ys he => Go.pure (Q := fun es : List Dt => es.Sublist ((d :: ds).map h)) (.cons₂ _ he)).mono (Nat.le_refl _) fun _ h => h
end
theorem asc_set {ds : List Dt} (hk : keyed ds = true) (hs : allAlike ds = true) : ascB (isort (nubD ds)) = true := by
  have kk := keyed_use hk
  have al : ∀ d ∈ ds, ∀ e ∈ ds, PySem.W.alike d e = true := fun d hd e he => List.all_eq_true.mp (List.all_eq_true.mp hs d hd) e he
  have nd : (nubD ds).Nodup := nubD_nodup fun d hd => by
    obtain ⟨k, hk⟩ := kk d hd
    exact eqv_self hk (al d hd d hd)
  have p2 : (isort (nubD ds)).Nodup := (isort_perm _).nodup_iff.mpr nd
  have mem : ∀ d ∈ isort (nubD ds), d ∈ ds := fun d hd => (nubD_mem kk).mp (isort_mem.mp hd)
  refine pair_asc (List.Pairwise.imp_of_mem (fun {x y} hx hy h => ?_) (isort_sorted.and p2))
  obtain ⟨h1, h2⟩ := h
  refine lt_not ?_
  cases h3 : leD' y x with
  | false => rfl
  | true =>
    obtain ⟨k, hk⟩ := kk x (mem x hx)
    obtain ⟨j, hj⟩ := kk y (mem y hy)
    exact (h2 (leD_anti hk hj (al x (mem x hx) y (mem y hy)) h1 h3)).elim
/-- sorting what is each once is its sorted set -/
theorem isort_set {ds : List Dt} (hk : keyed ds = true) (hs : allAlike ds = true) (nd : ds.Nodup) : isort ds = isort (nubD ds) :=
  sorted_set_eq hk hs isort_sorted ((isort_perm _).nodup_iff.mpr nd) fun _ => isort_mem
theorem asc_nodup {ds : List Dt} (h : ascB ds = true) : ds.Nodup := (asc_pair h).imp fun {x y} hxy e => by
  subst e
  rw [lt_irr] at hxy
  cases hxy
end DL
set_option maxRecDepth 100000
set_option maxHeartbeats 2000000
namespace DL
open PySem PySem.Spec PyProof.Rows L2
/-! ### sorted of a tuple -/
section
open PySem.W
variable {prog : Program} {w : World} {A : Around} {E : Value → Shared → Prop} {s : Shared}
def gatherH (h : Heap) (us : List Value) : Heap := (h.push (seqObj "list" #[] 0)).update h.objs.size (Obj.mapSeq (· ++ us.toArray))
theorem gather_tup {t : Addr} {us : List Value} {Q : List Value → Shared → Prop} (ht : s.heap.IsTuple t us.toArray) (hz : us.length ≤ sizeLine) (k : Q us { s with heap := gatherH s.heap us }) : wpAny (model prog w) A (collect (.ref t)) Q E s := by
  obtain ⟨ob, e1, e2, m, e3⟩ := ht
  have e4 : (s.heap.push (seqObj "list" #[] 0)).get? t = some ob := Heap.get?_push_of_some _ e1
  have tt : (Value.type "tuple" == Value.type "tuple") = true := rfl
  unfold collect
  refine wpAny_bind (wpAny_runValue (codeAny_builtin entry_proto_collect' (?_ : wpAny _ _ (newList [] >>= fun l => again (.builtin "list.__iadd__" ⟨[l, .ref t], []⟩)) _ _ s)))
  refine wpAny_bind (wpAny_newList (wpAny_pure ⟨Code.quiet_builtin _ (by decide +kernel), codeAny_builtin entry_list_iadd' (?_ : wpAny _ _ (Builtin.List.listExtendWith (.ref s.heap.objs.size) (.ref t) (.ref s.heap.objs.size)) _ _ { s with heap := s.heap.push (seqObj "list" #[] 0) })⟩))
  unfold Builtin.List.listExtendWith
  refine wpAny_bind (wpAny_typeOf (T := "tuple") ⟨ob, e4, e2⟩ ?_)
  rw [if_pos (by rw [tt]; simp)]
  refine wpAny_bind (listItems_at e4 e3 (wpAny_bind (listItems_at (xs := #[]) (n := 0) (Heap.get?_push_size _ rfl) rfl ?_)))
  rw [if_neg (by simp)]
  refine wpAny_bind (listUpdate_at (xs := #[]) (n := 0) (Heap.get?_push_size _ rfl) rfl (wpAny_pure ?_) (Nat.zero_le _) (by show (#[] ++ us.toArray).size ≤ sizeLine + 1; simp; omega))
  refine (?_ : wpAny (model prog w) A (load s.heap.objs.size >>= fun o => match o.data with | .seq xs _ => pure xs.toList | _ => unsupported "internal:collect") Q E { s with heap := gatherH s.heap us })
  refine wpAny_bind (wpAny_load (get?_update_seq (Heap.get?_push_size _ rfl) _) (?_ : wpAny _ _ (pure ((#[] : Array Value) ++ us.toArray).toList) Q E _))
  have e5 : ((#[] : Array Value) ++ us.toArray).toList = us := by simp
  rw [e5]
  exact wpAny_pure k
theorem sorted_tupOf {t : Addr} {us : List Value} {Q : Value → Shared → Prop} (ht : s.heap.IsTuple t us.toArray) (hz : us.length ≤ sizeLine)
    (body : ∀ E' : Value → Shared → Prop, wpAny (model prog w) A.in1.in1 (Builtin.«list.sort» ⟨[.ref (s.heap.objs.size + 1)], []⟩) (fun f s' => f = .done (.ret .none) ∧ Q (.ref (s.heap.objs.size + 1)) s') E' { s with heap := copyHeap s.heap us }) :
    wpAny (model prog w) A (call (.builtin "sorted") [.ref t]) Q E s := by
  refine call_function_entry_kw kind_sorted plain_sorted entry_sorted (args_sorted1 _) ?_
  unfold Builtin.«sorted»
  refine wpAny_bind (m := checkCount "sorted" 1 1 _) (wpAny_pure (wpAny_bind (gather_tup ht hz (wpAny_bind (wpAny_newList ?_ hz)))))
  have big : (gatherH s.heap us).objs.size = s.heap.objs.size + 1 := (Heap.size_update ..).trans (size_push' ..)
  refine (?_ : wpAny _ _ _ _ _ { s with heap := copyHeap s.heap us })
  rw [big]
  refine wpAny_bind (wpAny_holding (wpAny_call_entry_kw slot_list_sort ⟨_, copyHeap_at s.heap us, rfl⟩ entry_list_sort (?_ : wpAny (model prog w) A.in1.in1 (Builtin.«list.sort» ⟨[.ref (s.heap.objs.size + 1)], []⟩) _ _ _) (args_list_sort _)))
  refine wpAny_mono (body _) ?_ fun _ _ e => e
  rintro f s' ⟨rfl, hq⟩
  exact ⟨_, rfl, wpAny_pure ⟨_, rfl, hq⟩⟩
variable {α : Type} {bs : List α} {us : List Value} {enc : α → Dt} {R : Value → α → Prop}
theorem sorted_tupData {t : Addr} {Q : Value → Shared → Prop} (ht : s.heap.IsTuple t us.toArray) (e : EachIs R us bs) (rd : EachIs (fun v b => ∃ as, Reads s.heap v (enc b) as) us bs) (hal : AllAlike (bs.map enc)) (hk : Sortable (bs.map enc)) (hz : bs.length ≤ sizeLine)
    (hu : ∀ b ∈ bs, A.units + 2 + (enc b).depth < cLine) (k : ∀ out, out.length = bs.length → EachIs R out (bs.mergeSort (dataLe false enc)) → Q (.ref (s.heap.objs.size + 1)) { s with heap := sortedAll s.heap us out.toArray }) :
    wpAny (model prog w) A (call (.builtin "sorted") [.ref t]) Q E s := by
  have hz' : us.length ≤ sizeLine := by rw [e.length]; exact hz
  have rd' := rd.mono (R' := fun v b => ∃ as, Reads (sortingHeap (copyHeap s.heap us) (s.heap.objs.size + 1) us) v (enc b) as) fun _ _ ⟨as, r⟩ => ⟨as, PyProof.Rows.Reads.keeps (fun _ _ => sorting_copy_old) r⟩
  refine sorted_tupOf ht hz' fun E' => list_sort_vals (s := { s with heap := copyHeap s.heap us }) (copyHeap_at s.heap us) (SortsAt.data (s := { s with heap := sortingHeap (copyHeap s.heap us) (s.heap.objs.size + 1) us }) (each_map (R := fun v d => ∃ as, Reads (sortingHeap (copyHeap s.heap us) (s.heap.objs.size + 1) us) v d as) enc rd') hal hk ?_) hz' ⟨rfl, ?_⟩
  · intro d hd
    obtain ⟨b, hb, rfl⟩ := List.mem_map.mp hd
    have := hu b hb
    exact this
  · exact k _ ((sortVals_length false rfl).trans e.length) (sortVals_data false e rd' hal)
end
def rSortedT (K : PySem.W.Frag) : List V → Hp → VK → Prop := fun xs H Q => ∃ (a : Addr) (vs : List V) (ds : List Dt), xs = [.ref a] ∧ SqT K H a vs ∧ DpAll K H vs ds ∧ srtOk ds = true ∧
  ∀ (ws : List (V × Dt)) (p : Addr), (∀ v d, (v, d) ∈ ws → (v, d) ∈ vs.zip ds) → ws.map (·.2) = isort ds → H p = none → Q (.ref p) (upd H p (.lst (ws.map (·.1))))
section
variable {X : Cx} {W : WX} {O Ol O' : List Nat}
theorem cr_sortedT (hu : X.A.units + 64 < cLine) : CallR X (.builtin "sorted") (rSortedT X.K) := by
  intro pins s σ H xs us Q I r h
  obtain ⟨a, vs, ds, rfl, hs, hd, hk, q⟩ := h
  obtain ⟨k1, k2, k3⟩ := srtOk_use hk
  obtain ⟨its, rv, hl, hz⟩ := I.tuple hs
  have hlen := dpAll_len hd
  have snd : (vs.zip ds).map Prod.snd = ds := List.map_snd_zip (by omega)
  have few : (vs.zip ds).length ≤ sizeLine := by rw [List.length_zip]; omega
  rw [Vals.ref1 r]
  refine sorted_tupData (bs := vs.zip ds) (enc := Prod.snd) hl (each_zip rv hlen) (each_reads I rv hd) (snd.symm ▸ k1) (snd.symm ▸ k2) few (fun b hb => ?_) fun out ho he => ?_
  · have := k3 b.2 (snd ▸ List.mem_map.mpr ⟨b, hb, rfl⟩)
    omega
  · obtain ⟨ep, at_⟩ := PyProof.Rows.sortedAll_at s.heap its out.toArray
    have hm : ((vs.zip ds).mergeSort (PySem.W.dataLe false Prod.snd)).map Prod.snd = isort ds := by
      have z := List.map_mergeSort (r := PySem.W.dataLe false (Prod.snd : V × Dt → Dt)) (s := PySem.W.dataLe false fun d : Dt => d) (f := Prod.snd) (l := vs.zip ds) (fun a _ b _ => rfl)
      rw [snd] at z
      rw [isort_eq, ← z]
    have h2 : (((vs.zip ds).mergeSort (PySem.W.dataLe false Prod.snd)).map (·.1)).length ≤ sizeLine := by rw [List.length_map, List.length_mergeSort]; exact few
    exact ⟨.ref _, upd H (s.heap.objs.size + 1) (.lst (((vs.zip ds).mergeSort (PySem.W.dataLe false Prod.snd)).map (·.1))), I.laid (t' := s.toks) (fun _ _ => PyProof.Rows.sortedAll_old) (Nat.le_succ _) ⟨h2, out, ep, each_fst he, at_⟩, rfl,
      q _ _ (fun v d hh => List.mem_mergeSort.mp hh) hm (I.hok.fresh (Nat.le_succ _))⟩
def sortTD : List Sl → Option Dt
  | [.d (.tuple ds)] => if srtOk ds = true then some (.list (isort ds)) else none
  | _ => none
/-- of a list or a tuple -/
def sortAD (ss : List Sl) : Option Dt := (sortedD ss).or (sortTD ss)
theorem de_sortA {e : Expr} {f : EnvD → Mo (List Sl)} {p pos} {k : Nat} (hr : Room k X.A) (hm : X.mg "sorted" = none) (ha : DA X W O [e] f) (hg : Gl X "sorted" := by rfl) (he : starEach [e] X.env = (false, eval e X.env) :: starEach [] X.env := by rfl) (hpl : (backTo pos (starEach [] X.env)).any (·.1) = false := by rfl) : DE X W O (.Call (.Name "sorted" p) [e] [] pos) (mThen f sortAD) := by
  refine de_callB ((cr_sortedA hr.units).or (cr_sortedT hr.units)) (fun B H G x d b c Q s bx rd hc q => ?_) hg hm PyProof.Rows.boot_sorted ha (by decide) (by decide) he hpl
  unfold sortAD at hc
  cases h1 : sortedD d with
  | some y =>
    rw [h1] at hc
    cases hc
    refine .inl ?_
    unfold sortedD at h1
    split at h1
    · rename_i ds
      split at h1
      · rename_i hk
        cases h1
        obtain ⟨v, rfl, rv⟩ := rd.one
        obtain ⟨a, vs, rfl, k1, k2, k3⟩ := rv.inv_list
        refine ⟨a, vs, ds, rfl, SqL.of (s _ _ k1), k3.dp s, hk, fun ws p hw hq hp => q _ _ _ (Stp.add s bx hp) (.lst upd_same ?_ ?_)⟩
        · rw [List.length_map, ← List.length_map (f := fun x : V × Dt => x.2), hq, isort_len, ← k3.length]; exact k2
        · exact hq ▸ (RpAll.of_pairs fun v d hh => k3.of_zip v d (hw v d hh)).mono (Stp.add s bx hp (o := .lst (ws.map (·.1))) (b := b)).grow
      · cases h1
    · cases h1
  | none =>
    rw [h1, Option.none_or] at hc
    refine .inr ?_
    unfold sortTD at hc
    split at hc
    · rename_i ds
      split at hc
      · rename_i hk
        cases hc
        obtain ⟨v, rfl, rv⟩ := rd.one
        obtain ⟨a, vs, rfl, k1, k2, k3⟩ := rv.inv_tup
        refine ⟨a, vs, ds, rfl, SqT.of (s _ _ k1), k3.dp s, hk, fun ws p hw hq hp => q _ _ _ (Stp.add s bx hp) (.lst upd_same ?_ ?_)⟩
        · rw [List.length_map, ← List.length_map (f := fun x : V × Dt => x.2), hq, isort_len, ← k3.length]; exact k2
        · exact hq ▸ (RpAll.of_pairs fun v d hh => k3.of_zip v d (hw v d hh)).mono (Stp.add s bx hp (o := .lst (ws.map (·.1))) (b := b)).grow
      · cases hc
    · cases hc
end
end DL
set_option maxRecDepth 100000
set_option maxHeartbeats 2000000
namespace DL
open PySem PySem.Spec PyProof.Rows L2
/-! ### xs.extend(list) -/
section
variable {X : Cx} {W : WX} {O Ol O' : List Nat}
theorem ty_lstExt : typeOf (.builtin "list.extend") = pure (.type "method_descriptor") := by rfl
def mExt (i : Nat) (fe : EnvD → Mo Dt) (ρ : EnvD) : MoS := match slotL i ρ with
  | some ds => mE (fe ρ) ρ fun d => match d with
    | .list es => if ds.length + es.length ≤ sizeLine then sOk .nx (ρ.set i (some (.d (.list (ds ++ es))))) else fun _ => none
    | _ => fun _ => none
  | none => fun _ => none
theorem dst_ext {i : Nat} {x : Str} {e : Expr} {fe : EnvD → Mo Dt} {px pa pc pos : Pos} (hx : PE X (.Name x px) (tVar i)) (he : DE X W O e fe) (hi : i ∈ O := by decide)
    (hp : ∀ {to : TE} {ta : TA}, PE X (.Name x px) to → PA X [e] ta → PE X (.Call (.Attribute (.Name x px) "extend" pa) [e] [] pc) (tBM X.K "list" rExtend to ta) := by intro _ _ h1 h2; exact (pe_bm PySem.F.plainAttrs_list PySem.F.slot_list_extend DL.ty_lstExt mt_extend h1 h2))
    (hs1 : starEach [e] X.env = (false, eval e X.env) :: starEach [] X.env := by rfl) (hs : swapsWith (.Call (.Attribute (.Name x px) "extend" pa) [e] [] pc) none pos.line X.env = pure false := by rfl) :
    DSt X W O Ol (.Expr (.Call (.Attribute (.Name x px) "extend" pa) [e] [] pc) pos) O (mExt i fe) := by
  obtain ⟨t, h1, h2⟩ := he
  refine ⟨_, ps_expr (hp hx (pa_cons h1 pa_nil hs1)) hs, fun B H0 G0 σ H G ρ b D r b' I ee p => ?_⟩
  unfold mExt at ee
  cases hq : slotL i ρ with
  | none => rw [hq] at ee; cases ee
  | some ds =>
  rw [hq] at ee
  have hs' := slotL_some hq
  obtain ⟨a, ds', vs, k1, k2, k3, k4, k5, k6, k7, k8⟩ := I.ow i _ hi hs'
  cases k1
  refine ⟨.ref a, k2, Or.inl ⟨rfl, _, Or.inl (Or.inl k3)⟩, ?_⟩
  rcases mE_some ee with ⟨er, q1, rfl⟩ | ⟨d, b1, q1, ee⟩
  · exact h2 B H0 G0 σ H G ρ b _ _ _ I q1 (SPost.err I p)
  split at ee
  · rename_i es
    split at ee
    · rename_i hl
      obtain ⟨rfl, rfl⟩ := sOk_some ee
      refine h2 B H0 G0 σ H G ρ b _ _ _ I q1 fun v H1 G1 s1 rv => ?_
      have I1 := I.step s1
      have z1 := s1.keep a _ k3 k6
      have g1 := s1.new a _ k3 k4
      obtain ⟨c, zs, rfl, c1, c2, c3⟩ := rv.inv_list
      have hv : vs.length + zs.length ≤ sizeLine := by rw [k7.length, c3.length]; exact hl
      refine ⟨a, c, vs, zs, rfl, rfl, z1, s1.sub _ _ c1, hv, p σ _ G1 (I1.mod hi k2 z1 g1 k5 k6 ((k7.mono s1.grow).append c3) (by rw [List.length_append]; exact hv) ⟨_, hs'⟩) s1.grow⟩
    · cases ee
  · cases ee
end
end DL
set_option maxRecDepth 100000
set_option maxHeartbeats 2000000
namespace DL
open PySem PySem.Spec PyProof.Rows L2
/-! ### while: so many turns at most -/
def whileLoop (fc : EnvD → Mo Bool) (fb : EnvD → MoS) : Nat → EnvD → MoS
  | 0, _ => fun _ => none
  | n + 1, ρ => mE (fc ρ) ρ fun k => if k = true then (fun b => match fb ρ b with
      | some (.ok (.nx, ρ2), b2) => whileLoop fc fb n ρ2 b2
      | some (.ok (.ct, ρ2), b2) => whileLoop fc fb n ρ2 b2
      | some (.ok (.bk, ρ2), b2) => some (.ok (.nx, ρ2), b2)
      | x => x) else sOk .nx ρ
section
variable {X : Cx} {W : WX} {O Ol O' : List Nat}
theorem dst_while {c : Expr} {body : List Stmt} {fc : EnvD → Mo Bool} {fb : EnvD → MoS} {pos : Pos} (N : Nat) (hp : PassesOwn (model X.prog X.w) X.A X.env X.xe) (hc : DT X W O c fc) (hb : DSs X W O O body O fb) :
    DSt X W O Ol (.While c body [] pos) O (whileLoop fc fb N) := by
  obtain ⟨tc, c1, c2⟩ := hc
  obtain ⟨tb, b1, b2⟩ := hb
  refine ⟨_, ps_while hp c1 b1, fun B H0 G0 σ H G ρ b D r b' I e p => ?_⟩
  refine ⟨fun m σ' H' => ∃ G' ρ' c', StOk B O H0 G0 σ' H' G' ρ' c' ∧ Same G G' ∧ whileLoop fc fb m ρ' c' = some (r, b'), ⟨N, G, ρ, b, I, Same.refl _, e⟩, ?_⟩
  rintro m σ' H' ⟨G', ρ', c', J, sg, e'⟩
  cases m with
  | zero => cases e'
  | succ m =>
    unfold whileLoop at e'
    rcases mE_some e' with ⟨er, q1, rfl⟩ | ⟨k, d1, q1, e2⟩
    · exact c2 B H0 G0 σ' H' G' ρ' c' _ _ _ J q1 (SPost.err J p)
    refine c2 B H0 G0 σ' H' G' ρ' c' _ _ _ J q1 fun k' H2 G2 s2 hk => ?_
    cases hk
    have J2 := J.step s2
    have sg2 : Same G G2 := sg.trans s2.grow
    cases k with
    | false =>
      rw [if_neg (by decide)] at e2
      obtain ⟨hy, rfl⟩ := sOk_some e2
      cases hy
      rw [if_neg (by decide)]
      exact p σ' H2 G2 J2 sg2
    | true =>
      rw [if_pos rfl] at e2
      rw [if_pos rfl]
      refine ⟨fun σ'' H'' => ∃ G'' ρ'' c'', StOk B O H0 G0 σ'' H'' G'' ρ'' c'' ∧ Same G G'' ∧ whileLoop fc fb m ρ'' c'' = some (r, b'), fun σ'' H'' w => ⟨m, Nat.lt_succ_self m, w⟩, ?_⟩
      cases hb1 : fb ρ' d1 with
      | none => rw [hb1] at e2; cases e2
      | some q =>
        obtain ⟨q, d2⟩ := q
        rw [hb1] at e2
        refine b2 B H0 G0 σ' H2 G2 ρ' d1 _ q d2 J2 hb1 ?_
        cases q with
        | error er =>
          obtain ⟨er, ρe⟩ := er
          simp only [Option.some.injEq, Prod.mk.injEq] at e2
          obtain ⟨rfl, rfl⟩ := e2
          exact p
        | ok fl =>
          obtain ⟨fl, ρ2⟩ := fl
          cases fl with
          | nx => exact fun σ'' H'' G'' J3 s4 => ⟨G'', ρ2, d2, J3, sg2.trans s4, e2⟩
          | ct => exact fun σ'' H'' G'' J3 s4 => ⟨G'', ρ2, d2, J3, sg2.trans s4, e2⟩
          | bk =>
            simp only [Option.some.injEq, Prod.mk.injEq] at e2
            obtain ⟨rfl, rfl⟩ := e2
            exact fun σ'' H'' G'' J3 s4 => p σ'' H'' G'' J3 (sg2.trans s4)
          | rt d =>
            simp only [Option.some.injEq, Prod.mk.injEq] at e2
            obtain ⟨rfl, rfl⟩ := e2
            exact p
end
/-! reckoning with it -/
theorem while_end {fc : EnvD → Mo Bool} {fb : EnvD → MoS} {n : Nat} {ρ : EnvD} (h : fc ρ = mOk false) : whileLoop fc fb (n + 1) ρ = sOk .nx ρ := by
  funext b
  unfold whileLoop
  rw [h, m_e_ok, if_neg (by decide)]
theorem while_step {fc : EnvD → Mo Bool} {fb : EnvD → MoS} {n : Nat} {ρ ρ2 : EnvD} (h : fc ρ = mOk true) (h2 : fb ρ = sOk .nx ρ2) : whileLoop fc fb (n + 1) ρ = whileLoop fc fb n ρ2 := by
  funext b
  rw [whileLoop, h, m_e_ok, if_pos rfl, h2]
  rfl
/-- a while that draws: an invariant with the turns that it may still take -/
theorem GoS.while {fc : EnvD → Mo Bool} {fb : EnvD → MoS} {k : Nat} (I : Nat → EnvD → Prop) (hI : ∀ m ρ, I m ρ → fc ρ = mOk false ∨ (fc ρ = mOk true ∧ ∃ m', m = m' + 1 ∧ GoS k (fb ρ) fun f ρ2 => f = .nx ∧ I m' ρ2)) : ∀ {m n : Nat} {ρ : EnvD}, m < n → I m ρ → GoS (m * k) (whileLoop fc fb n ρ) fun f ρ2 => f = .nx ∧ ∃ m', I m' ρ2 ∧ fc ρ2 = mOk false
  | m, 0, ρ, h, _ => by omega
  | m, n + 1, ρ, h, i => by
    rcases hI m ρ i with e | ⟨e, m', rfl, g⟩
    · rw [while_end e]
      exact (GoS.ok ⟨rfl, m, i, e⟩).mono (Nat.zero_le _) fun _ _ h => h
    · intro N b hN hb
      have hN' : m' * k + k ≤ N := by rw [Nat.succ_mul] at hN; exact hN
      obtain ⟨f, ρ2, b1, e1, q1, rfl, q2⟩ := g N b (by omega) hb
      obtain ⟨f', ρ3, b2, e2, q3, q4⟩ := GoS.while I hI (m := m') (n := n) (by omega) q2 (N - k) b1 (by omega) q1
      refine ⟨f', ρ3, b2, ?_, by rw [Nat.succ_mul, Nat.add_comm, ← Nat.sub_sub]; exact q3, q4⟩
      rw [whileLoop, e, m_e_ok, if_pos rfl, e1]
      exact e2
end DL
set_option maxRecDepth 100000
set_option maxHeartbeats 4000000
namespace K08
open PySem PySem.Spec PyProof.Rows L2 DL
def top (i : Nat) : Stmt := PySem.Challenge.pw_blendworlds_k08_free_puzzles.main.body.getD i (.Pass ⟨0, 0, 0, 0⟩)
structure Bl (mg : Mg) : Prop where
  abs : mg "abs" = none
  all : mg "all" = none
  bool : mg "bool" = none
  enumerate : mg "enumerate" = none
  int : mg "int" = none
  isinstance : mg "isinstance" = none
  len : mg "len" = none
  list : mg "list" = none
  range : mg "range" = none
  set : mg "set" = none
  sorted : mg "sorted" = none
  str : mg "str" = none
  tuple : mg "tuple" = none
  zip : mg "zip" = none
section
variable {P : Program} {w : World} {K : PySem.W.Frag} {mg : Mg} {base : Heap}
abbrev N_tupled : List Str := ["given", "part"]
abbrev P_tupled : List Str := ["given"]
theorem sc_tupled : FnScope N_tupled P_tupled (defScope (top 1)) := ⟨rfl, rfl, rfl, by decide +kernel, rfl, by decide +kernel, by decide +kernel⟩
def m_tupled : Nat → List Sl → Mo Dt
  | 0 => mStuck
  | n + 1 => mDef 1 2 (mThenS (mIfS (mThenB (mIsi (mVar 0) fun d => isListD d || isTupD d) truD) (mRet (mThen (mCons (mD (mList (mLc (mSeq (mVar 0)) [1] (gN 1) mYes (mIf (mThenB (mIsi (mVar 1) isIntD) truD) (mVar 1) (mCall (m_tupled n) (mCons (mD (mVar 1)) mNil)))))) mNil) tupD)) mNx) (mRet (mVar 0)))
theorem ok_tupled {f : Addr} {fd : FuncData} (Z : Bl mg) (D : Dv K mg "tupled" (top 1) P_tupled f fd) : ∀ n, Has P w K mg base "tupled" (top 1) (0 + n) P_tupled (m_tupled n)
  | 0 => has_stuck D _
  | n + 1 => by
    have ih := ok_tupled Z D n
    refine Has.mono (j := 0 + n + 1) (has_def (N := N_tupled) (ps := P_tupled) (k := 0 + n) (O' := []) D sc_tupled fun cdv A outer s H E hr => ?_) (by omega)
    exact (dss_cons (dst_if (dt_truth (de_isi2 isT_list isT_tuple Z.isinstance Z.list Z.tuple (de_var (pv 0)))) (dss_one (dst_ret (de_tuple Z.tuple (da_cons (ds_d (del_de (del_lc rfl sc_tupled.nd (di_seq (de_var (pv 0))) (own := [("part", 1)]) (blkOk_by (N := N_tupled) (sc := defScope (top 1)) (by decide +kernel)) (by decide) (fun _ _ _ _ _ => (dg_name (pg_name (i := 1) sc_tupled.nd rfl (by first | exact Or.inl rfl | exact Or.inr rfl)))) (fun _ _ _ _ _ => dts_nil) (fun _ _ _ _ _ => (de_if (dt_truth (de_isi isT_int Z.isinstance Z.int (de_var (pv 1)))) (de_var (pv 1)) (de_ch ih hr takes_n (da_cons (ds_d (de_var (pv 1))) da_nil) (by omega))))))) da_nil)))) dss_nil) (dss_one (dst_ret (de_var (pv 0)))))
abbrev N_choices : List Str := ["members", "length", "found", "_", "chosen", "member"]
abbrev P_choices : List Str := ["members", "length"]
theorem sc_choices : FnScope N_choices P_choices (defScope (top 3)) := ⟨rfl, rfl, rfl, by decide +kernel, rfl, by decide +kernel, by decide +kernel⟩
def m_choices : List Sl → Mo Dt := mDef 2 6 (mThenS (mSet 2 (mLst (mCons (mD (mTup mNil)) mNil))) (mThenS (mFor (mRng1 (mCons (mD (mVar 1)) mNil)) (gN 3) (mSetL 2 (mLc2 (mSeq (mVar 2)) [4, 5] (gN 4) mYes (mSeq (mVar 0)) [5] (gN 5) mYes (mBin addD (mVar 4) (mTup (mCons (mD (mVar 5)) mNil)))))) (mRet (mVar 2))))
theorem ok_choices {f : Addr} {fd : FuncData} (Z : Bl mg) (D : Dv K mg "choices" (top 3) P_choices f fd) : Has P w K mg base "choices" (top 3) 1 P_choices (m_choices) := by
  refine has_def (N := N_choices) (ps := P_choices) (O' := []) D sc_choices fun cdv A outer s H E hr => ?_
  exact (dss_cons (dst_set (i := 2) sc_choices.nd rfl (by first | exact Or.inl rfl | exact Or.inr rfl) (de_lst (da_cons (ds_d (de_tup da_nil)) da_nil))) (dss_cons (dst_for (passes_of rfl) rfl (di_range1 Z.range (da_cons (ds_d (de_var (pv 1))) da_nil)) (dg_name (pg_name (i := 3) sc_choices.nd rfl (by first | exact Or.inl rfl | exact Or.inr rfl))) (dss_out (O1 := [2]) (dss_one (dst_lc2 (i := 2) rfl sc_choices.nd rfl rfl (sw_true rfl rfl rfl (by decide +kernel)) (di_seq (de_var (pv 2))) (own := [("chosen", 4), ("member", 5)]) (vs1 := [5]) (blkOk_by (N := N_choices) (sc := defScope (top 3)) (by decide +kernel)) good_n (by decide) (by decide) (by decide) (by decide) (by decide) (fun _ _ _ _ _ => (dg_name (pg_name (i := 4) sc_choices.nd rfl (by first | exact Or.inl rfl | exact Or.inr rfl)))) (fun _ _ _ _ _ => dts_nil) (fun _ _ _ _ _ => (di_seq (de_var (pv 0)))) (fun _ _ _ _ _ => (dg_name (pg_name (i := 5) sc_choices.nd rfl (by first | exact Or.inl rfl | exact Or.inr rfl)))) (fun _ _ _ _ _ => dts_nil) (fun _ _ _ _ _ => (de_add (de_var (pv 4)) (de_tup (da_cons (ds_d (de_var (pv 5))) da_nil)))))) (by decide))) (dss_one (dst_ret (de_var (pv 2))))))
abbrev N_number_of : List Str := ["many", "values", "number", "value"]
abbrev P_number_of : List Str := ["many", "values"]
theorem sc_number_of : FnScope N_number_of P_number_of (defScope (top 4)) := ⟨rfl, rfl, rfl, by decide +kernel, rfl, by decide +kernel, by decide +kernel⟩
def m_number_of : List Sl → Mo Dt := mDef 2 4 (mThenS (mSet 2 (mC (.int 0))) (mThenS (mFor (mSeq (mVar 1)) (gN 3) (mSet 2 (mBin addD (mBin mulD (mVar 2) (mVar 0)) (mVar 3)))) (mRet (mVar 2))))
theorem ok_number_of {f : Addr} {fd : FuncData} (Z : Bl mg) (D : Dv K mg "number_of" (top 4) P_number_of f fd) : Has P w K mg base "number_of" (top 4) 1 P_number_of (m_number_of) := by
  refine has_def (N := N_number_of) (ps := P_number_of) (O' := []) D sc_number_of fun cdv A outer s H E hr => ?_
  exact (dss_cons (dst_set (i := 2) sc_number_of.nd rfl (by first | exact Or.inl rfl | exact Or.inr rfl) de_int) (dss_cons (dst_for (passes_of rfl) rfl (di_seq (de_var (pv 1))) (dg_name (pg_name (i := 3) sc_number_of.nd rfl (by first | exact Or.inl rfl | exact Or.inr rfl))) (dss_one (dst_set (i := 2) sc_number_of.nd rfl (by first | exact Or.inl rfl | exact Or.inr rfl) (de_add (de_mul (de_var (pv 2)) (de_var (pv 0))) (de_var (pv 3)))))) (dss_one (dst_ret (de_var (pv 2))))))
abbrev N_tuples_of : List Str := ["book", "k"]
abbrev P_tuples_of : List Str := ["book", "k"]
theorem sc_tuples_of : FnScope N_tuples_of P_tuples_of (defScope (top 6)) := ⟨rfl, rfl, rfl, by decide +kernel, rfl, by decide +kernel, by decide +kernel⟩
def m_tuples_of : List Sl → Mo Dt := mDef 2 2 (mRet (mCall (m_choices) (mCons (mD (mThen (mBin ixD (mVar 0) (mC (.int 0))) rgL1)) (mCons (mD (mVar 1)) mNil))))
theorem ok_tuples_of {f : Addr} {fd : FuncData} (Z : Bl mg) (D : Dv K mg "tuples_of" (top 6) P_tuples_of f fd) (h_choices : Has P w K mg base "choices" (top 3) 1 P_choices (m_choices)) : Has P w K mg base "tuples_of" (top 6) 2 P_tuples_of (m_tuples_of) := by
  refine has_def (N := N_tuples_of) (ps := P_tuples_of) (O' := []) D sc_tuples_of fun cdv A outer s H E hr => ?_
  exact (dss_one (dst_ret (de_ch h_choices hr (takes_of rfl rfl rfl rfl) (da_cons (ds_d (de_listRg1 rfl Z.list Z.range (de_ix (de_var (pv 0)) de_int))) (da_cons (ds_d (de_var (pv 1))) da_nil)))))
abbrev N_place_of : List Str := ["book", "values"]
abbrev P_place_of : List Str := ["book", "values"]
theorem sc_place_of : FnScope N_place_of P_place_of (defScope (top 7)) := ⟨rfl, rfl, rfl, by decide +kernel, rfl, by decide +kernel, by decide +kernel⟩
def m_place_of : List Sl → Mo Dt := mDef 2 2 (mRet (mCall (m_number_of) (mCons (mD (mBin ixD (mVar 0) (mC (.int 0)))) (mCons (mD (mVar 1)) mNil))))
theorem ok_place_of {f : Addr} {fd : FuncData} (Z : Bl mg) (D : Dv K mg "place_of" (top 7) P_place_of f fd) (h_number_of : Has P w K mg base "number_of" (top 4) 1 P_number_of (m_number_of)) : Has P w K mg base "place_of" (top 7) 2 P_place_of (m_place_of) := by
  refine has_def (N := N_place_of) (ps := P_place_of) (O' := []) D sc_place_of fun cdv A outer s H E hr => ?_
  exact (dss_one (dst_ret (de_ch h_number_of hr (takes_of rfl rfl rfl rfl) (da_cons (ds_d (de_ix (de_var (pv 0)) de_int)) (da_cons (ds_d (de_var (pv 1))) da_nil)))))
abbrev N_codes_behind : List Str := ["many", "codes", "rows", "first", "row", "code", "value"]
abbrev P_codes_behind : List Str := ["many", "codes", "rows"]
theorem sc_codes_behind : FnScope N_codes_behind P_codes_behind (defScope (top 8)) := ⟨rfl, rfl, rfl, by decide +kernel, rfl, by decide +kernel, by decide +kernel⟩
def m_codes_behind : List Sl → Mo Dt := mDef 3 7 (mRet (mList (mLc2 (mSeq (mVar 1)) [3, 4] (gN 3) mYes (mSeq (mVar 2)) [4] (gN 4) mYes (mThen (mCons (mD (mList (mLc (mZip (mCons (mD (mVar 3)) (mCons (mD (mVar 4)) mNil))) [5, 6] (gTupD 2 (gConsD (gN 5) (gConsD (gN 6) gNil))) mYes (mBin addD (mBin mulD (mVar 5) (mVar 0)) (mVar 6))))) mNil) tupD))))
theorem ok_codes_behind {f : Addr} {fd : FuncData} (Z : Bl mg) (D : Dv K mg "codes_behind" (top 8) P_codes_behind f fd) : Has P w K mg base "codes_behind" (top 8) 1 P_codes_behind (m_codes_behind) := by
  refine has_def (N := N_codes_behind) (ps := P_codes_behind) (O' := []) D sc_codes_behind fun cdv A outer s H E hr => ?_
  exact (dss_one (dst_ret (del_de (del_lc2 rfl sc_codes_behind.nd (di_seq (de_var (pv 1))) (own := [("first", 3), ("row", 4)]) (vs1 := [4]) (blkOk_by (N := N_codes_behind) (sc := defScope (top 8)) (by decide +kernel)) good_n (by decide) (by decide) (by decide) (by decide) (by decide) (fun _ _ _ _ _ => (dg_name (pg_name (i := 3) sc_codes_behind.nd rfl (by first | exact Or.inl rfl | exact Or.inr rfl)))) (fun _ _ _ _ _ => dts_nil) (fun _ _ _ _ _ => (di_seq (de_var (pv 2)))) (fun _ _ _ _ _ => (dg_name (pg_name (i := 4) sc_codes_behind.nd rfl (by first | exact Or.inl rfl | exact Or.inr rfl)))) (fun _ _ _ _ _ => dts_nil) (fun _ _ _ _ _ => (de_tuple Z.tuple (da_cons (ds_d (del_de (del_lc rfl sc_codes_behind.nd (di_zip Z.zip (da_cons (ds_d (de_var (pv 3))) (da_cons (ds_d (de_var (pv 4))) da_nil))) (own := [("code", 5), ("value", 6)]) (blkOk_by (by rfl)) (by decide) (fun _ _ _ _ _ => (dg_tup (k := 0) rfl (dgs_cons (dg_name (pg_name (i := 5) sc_codes_behind.nd rfl (by first | exact Or.inl rfl | exact Or.inr rfl))) (dgs_cons (dg_name (pg_name (i := 6) sc_codes_behind.nd rfl (by first | exact Or.inl rfl | exact Or.inr rfl))) dgs_nil')))) (fun _ _ _ _ _ => dts_nil) (fun _ _ _ _ _ => (de_add (de_mul (de_var (pv 5)) (de_var (pv 0))) (de_var (pv 6))))))) da_nil)))))))
abbrev N_codes_of : List Str := ["book", "k", "number", "codes", "_", "width", "rows"]
abbrev P_codes_of : List Str := ["book", "k", "number"]
theorem sc_codes_of : FnScope N_codes_of P_codes_of (defScope (top 9)) := ⟨rfl, rfl, rfl, by decide +kernel, rfl, by decide +kernel, by decide +kernel⟩
def m_codes_of : List Sl → Mo Dt := mDef 3 7 (mThenS (mAsg (mBin ixD (mBin ixD (mVar 0) (mC (.int 2))) (mVar 2)) (gTupD 2 (gConsD (gN 5) (gConsD (gN 6) gNil)))) (mThenS (mSet 3 (mLst (mCons (mD (mBin mulD (mTup (mCons (mD (mC (.int 0))) mNil)) (mVar 5))) mNil))) (mThenS (mFor (mRng1 (mCons (mD (mVar 1)) mNil)) (gN 4) (mSet 3 (mCall (m_codes_behind) (mCons (mD (mBin ixD (mVar 0) (mC (.int 0)))) (mCons (mD (mVar 3)) (mCons (mD (mVar 6)) mNil)))))) (mRet (mVar 3)))))
theorem ok_codes_of {f : Addr} {fd : FuncData} (Z : Bl mg) (D : Dv K mg "codes_of" (top 9) P_codes_of f fd) (h_codes_behind : Has P w K mg base "codes_behind" (top 8) 1 P_codes_behind (m_codes_behind)) : Has P w K mg base "codes_of" (top 9) 2 P_codes_of (m_codes_of) := by
  refine has_def (N := N_codes_of) (ps := P_codes_of) (O' := []) D sc_codes_of fun cdv A outer s H E hr => ?_
  exact (dss_cons (dst_asg (de_ix (de_ix (de_var (pv 0)) de_int) (de_var (pv 2))) (dg_tup (k := 0) rfl (dgs_cons (dg_name (pg_name (i := 5) sc_codes_of.nd rfl (by first | exact Or.inl rfl | exact Or.inr rfl))) (dgs_cons (dg_name (pg_name (i := 6) sc_codes_of.nd rfl (by first | exact Or.inl rfl | exact Or.inr rfl))) dgs_nil')))) (dss_cons (dst_set (i := 3) sc_codes_of.nd rfl (by first | exact Or.inl rfl | exact Or.inr rfl) (de_lst (da_cons (ds_d (de_mul (de_tup (da_cons (ds_d de_int) da_nil)) (de_var (pv 5)))) da_nil))) (dss_cons (dst_for (passes_of rfl) rfl (di_range1 Z.range (da_cons (ds_d (de_var (pv 1))) da_nil)) (dg_name (pg_name (i := 4) sc_codes_of.nd rfl (by first | exact Or.inl rfl | exact Or.inr rfl))) (dss_one (dst_set (i := 3) sc_codes_of.nd rfl (by first | exact Or.inl rfl | exact Or.inr rfl) (de_ch h_codes_behind hr (takes_of rfl rfl rfl rfl) (da_cons (ds_d (de_ix (de_var (pv 0)) de_int)) (da_cons (ds_d (de_var (pv 3))) (da_cons (ds_d (de_var (pv 6))) da_nil))))))) (dss_one (dst_ret (de_var (pv 3)))))))
abbrev N_free_ties : List Str := ["book", "k", "ties", "number", "spots"]
abbrev P_free_ties : List Str := ["book", "k"]
theorem sc_free_ties : FnScope N_free_ties P_free_ties (defScope (top 10)) := ⟨rfl, rfl, rfl, by decide +kernel, rfl, by decide +kernel, by decide +kernel⟩
def m_free_ties : List Sl → Mo Dt := mDef 2 5 (mThenS (mSetL 2 (mLstL mNil)) (mThenS (mFor (mRng1 (mCons (mD (mThen (mCons (mD (mBin ixD (mVar 0) (mC (.int 2)))) mNil) lenD)) mNil)) (gN 3) (mExt 2 (mList (mLc (mSeq (mThen (mCons (mD (mCall (m_codes_of) (mCons (mD (mVar 0)) (mCons (mD (mVar 1)) (mCons (mD (mVar 3)) mNil))))) mNil) sortedD)) [4] (gN 4) mYes (mTup (mCons (mD (mVar 3)) (mCons (mD (mVar 4)) mNil))))))) (mRet (mThen (mCons (mD (mVar 2)) mNil) tupD))))
theorem ok_free_ties {f : Addr} {fd : FuncData} (Z : Bl mg) (D : Dv K mg "free_ties" (top 10) P_free_ties f fd) (h_codes_of : Has P w K mg base "codes_of" (top 9) 2 P_codes_of (m_codes_of)) : Has P w K mg base "free_ties" (top 10) 3 P_free_ties (m_free_ties) := by
  refine has_def (N := N_free_ties) (ps := P_free_ties) (O' := []) D sc_free_ties fun cdv A outer s H E hr => ?_
  exact (dss_cons (dst_setL (i := 2) sc_free_ties.nd rfl (by first | exact Or.inl rfl | exact Or.inr rfl) (del_lst da_nil)) (dss_cons (dst_for (passes_of rfl) rfl (di_range1 Z.range (da_cons (ds_d (de_len Z.len (da_cons (ds_d (de_ix (de_var (pv 0)) de_int)) da_nil))) da_nil)) (dg_name (pg_name (i := 3) sc_free_ties.nd rfl (by first | exact Or.inl rfl | exact Or.inr rfl))) (dss_one (dst_ext (i := 2) (pv 2) (del_de (del_lc rfl sc_free_ties.nd (di_seq (de_sorted hr Z.sorted (da_cons (ds_d (de_ch h_codes_of hr (takes_of rfl rfl rfl rfl) (da_cons (ds_d (de_var (pv 0))) (da_cons (ds_d (de_var (pv 1))) (da_cons (ds_d (de_var (pv 3))) da_nil))))) da_nil))) (own := [("spots", 4)]) (blkOk_by (N := N_free_ties) (sc := defScope (top 10)) (by decide +kernel)) (by decide) (fun _ _ _ _ _ => (dg_name (pg_name (i := 4) sc_free_ties.nd rfl (by first | exact Or.inl rfl | exact Or.inr rfl)))) (fun _ _ _ _ _ => dts_nil) (fun _ _ _ _ _ => (de_tup (da_cons (ds_d (de_var (pv 3))) (da_cons (ds_d (de_var (pv 4))) da_nil))))))))) (dss_one (dst_less (O1 := []) (dst_ret (de_tuple Z.tuple (da_cons (ds_d (de_var (pv 2))) da_nil))) (by decide)))))
abbrev N_free_puzzle : List Str := ["book", "k", "told", "value"]
abbrev P_free_puzzle : List Str := ["book", "k"]
theorem sc_free_puzzle : FnScope N_free_puzzle P_free_puzzle (defScope (top 11)) := ⟨rfl, rfl, rfl, by decide +kernel, rfl, by decide +kernel, by decide +kernel⟩
def m_free_puzzle : List Sl → Mo Dt := mDef 2 4 (mThenS (mSet 0 (mCall (m_tupled 14) (mCons (mD (mVar 0)) mNil))) (mThenS (mSetL 2 (mLc (mRng1 (mCons (mD (mBin ixD (mVar 0) (mC (.int 0)))) mNil)) [3] (gN 3) (mThenB (mBin ixD (mVar 0) (mC (.int 1))) truD) (mTup (mCons (mD (mCall (m_place_of) (mCons (mD (mVar 0)) (mCons (mD (mBin mulD (mTup (mCons (mD (mVar 3)) mNil)) (mVar 1))) mNil)))) (mCons (mD (mVar 3)) mNil))))) (mRet (mTup (mCons (mD (mThen (mCons (mD (mCall (m_tuples_of) (mCons (mD (mVar 0)) (mCons (mD (mVar 1)) mNil)))) mNil) lenD)) (mCons (mD (mCall (m_free_ties) (mCons (mD (mVar 0)) (mCons (mD (mVar 1)) mNil)))) (mCons (mD (mThen (mCons (mD (mVar 2)) mNil) tupD)) (mCons (mD (mTup mNil)) mNil))))))))
theorem ok_free_puzzle {f : Addr} {fd : FuncData} (Z : Bl mg) (D : Dv K mg "free_puzzle" (top 11) P_free_puzzle f fd) (h_tupled : Has P w K mg base "tupled" (top 1) 14 P_tupled (m_tupled 14)) (h_free_ties : Has P w K mg base "free_ties" (top 10) 3 P_free_ties (m_free_ties)) (h_place_of : Has P w K mg base "place_of" (top 7) 2 P_place_of (m_place_of)) (h_tuples_of : Has P w K mg base "tuples_of" (top 6) 2 P_tuples_of (m_tuples_of)) : Has P w K mg base "free_puzzle" (top 11) 15 P_free_puzzle (m_free_puzzle) := by
  refine has_def (N := N_free_puzzle) (ps := P_free_puzzle) (O' := []) D sc_free_puzzle fun cdv A outer s H E hr => ?_
  exact (dss_cons (dst_set (i := 0) sc_free_puzzle.nd rfl (by first | exact Or.inl rfl | exact Or.inr rfl) (de_ch h_tupled hr (takes_of rfl rfl rfl rfl) (da_cons (ds_d (de_var (pv 0))) da_nil))) (dss_cons (dst_lc (i := 2) rfl sc_free_puzzle.nd rfl rfl (sw_true rfl rfl rfl (by decide +kernel)) (di_range1 Z.range (da_cons (ds_d (de_ix (de_var (pv 0)) de_int)) da_nil)) (own := [("value", 3)]) (blkOk_by (N := N_free_puzzle) (sc := defScope (top 11)) (by decide +kernel)) (by decide) (fun _ _ _ _ _ => (dg_name (pg_name (i := 3) sc_free_puzzle.nd rfl (by first | exact Or.inl rfl | exact Or.inr rfl)))) (fun _ _ _ _ _ => (dts_one (dt_truth (de_ix (de_var (pv 0)) de_int)))) (fun _ _ _ _ _ => (de_tup (da_cons (ds_d (de_ch h_place_of hr takes_n (da_cons (ds_d (de_var (pv 0))) (da_cons (ds_d (de_mul (de_tup (da_cons (ds_d (de_var (pv 3))) da_nil)) (de_var (pv 1)))) da_nil)))) (da_cons (ds_d (de_var (pv 3))) da_nil))))) (dss_one (dst_less (O1 := []) (dst_ret (de_tup (da_cons (ds_d (de_len Z.len (da_cons (ds_d (de_ch h_tuples_of hr (takes_of rfl rfl rfl rfl) (da_cons (ds_d (de_var (pv 0))) (da_cons (ds_d (de_var (pv 1))) da_nil)))) da_nil))) (da_cons (ds_d (de_ch h_free_ties hr (takes_of rfl rfl rfl rfl) (da_cons (ds_d (de_var (pv 0))) (da_cons (ds_d (de_var (pv 1))) da_nil)))) (da_cons (ds_d (de_tuple Z.tuple (da_cons (ds_d (de_var (pv 2))) da_nil))) (da_cons (ds_d (de_tup da_nil)) da_nil)))))) (by decide)))))
abbrev N__law_box : List Str := ["_law_script", "_law_nth_so", "_law_cell"]
abbrev P__law_box : List Str := ["_law_script", "_law_nth_so"]
theorem sc__law_box : FnScope N__law_box P__law_box (defScope (top 13)) := ⟨rfl, rfl, rfl, by decide +kernel, rfl, by decide +kernel, by decide +kernel⟩
def m__law_box : List Sl → Mo (List Dt) := mDefN 2 3 (mSet 2 (mIf (mThenB (mBin ltD (mVar 1) (mThen (mCons (mSl 0) mNil) lenD)) asBool) (mBin ixD (mVar 0) (mVar 1)) (mC (.int 0)))) (mLstL (mCons (mD (mBin mulD (mThen (mCons (mD (mVar 2)) mNil) absD) (mThen (mCons (mD (mBin geD (mThen (mCons (mD (mVar 2)) mNil) absD) (mBin powD (mC (.int 10)) (mC (.int 18))))) mNil) intD))) (mCons (mD (mBin addD (mBin addD (mBin modD (mThen (mCons (mD (mVar 2)) mNil) intD) (mC (.int 2305843009213693951))) (mBin mulD (mC (.int 39373)) (mVar 1))) (mC (.int 1073008)))) (mCons (mD (mC (.int 0))) mNil))))
theorem ok__law_box {f : Addr} {fd : FuncData} (Z : Bl mg) (D : Dv K mg "_law_box" (top 13) P__law_box f fd) : HasN P w K mg base "_law_box" (top 13) 1 P__law_box m__law_box := by
  refine has_new (N := N__law_box) (ps := P__law_box) (O1 := []) D sc__law_box rfl fun cdv A outer s H E hr => ⟨?_, ?_⟩
  · exact (dst_set (i := 2) sc__law_box.nd rfl (by first | exact Or.inl rfl | exact Or.inr rfl) (de_if (dt_lt hr (de_var (pv 1)) (de_len Z.len (da_cons (ds_var (pv 0)) da_nil))) (de_ix (de_var (pv 0)) (de_var (pv 1))) de_int))
  · exact (del_lst (da_cons (ds_d (de_mul (de_abs Z.abs (da_cons (ds_d (de_var (pv 2))) da_nil)) (de_int1 Z.int (da_cons (ds_d (de_ge (de_abs Z.abs (da_cons (ds_d (de_var (pv 2))) da_nil)) (de_pow de_int de_int))) da_nil)))) (da_cons (ds_d (de_add (de_add (de_mod (de_int1 Z.int (da_cons (ds_d (de_var (pv 2))) da_nil)) de_int) (de_mul de_int (de_var (pv 1)))) de_int)) (da_cons (ds_d de_int) da_nil))))
abbrev N__law_take : List Str := ["_law_box_here", "_law_below_so", "_law_once", "_law_far", "_law_twice", "_law_drawn"]
abbrev P__law_take : List Str := ["_law_box_here", "_law_below_so"]
theorem sc__law_take : FnScope N__law_take P__law_take (defScope (top 14)) := ⟨rfl, rfl, rfl, by decide +kernel, rfl, by decide +kernel, by decide +kernel⟩
def m__law_take : List Sl → Mo Dt := mDef 2 6 (mThenS (mIfS (mThenB (mBin gtD (mBoxIx 0 0) (mC (.int 0))) asBool) (mThenS (mSet 5 (mBin modD (mThen (mCons (mD (mBoxIx 0 0)) mNil) intD) (mVar 1))) (mThenS (mBoxSet 0 0 (mBin divD (mBoxIx 0 0) (mVar 1))) (mRet (mVar 5)))) mNx) (mThenS (mBoxSet 0 2 (mBin addD (mBoxIx 0 2) (mC (.int 1)))) (mThenS (mSet 2 (mBin modD (mThen (mCons (mD (mBin mulD (mBin addD (mBoxIx 0 1) (mBin mulD (mC (.int 48271)) (mBoxIx 0 2))) (mBin addD (mC (.int 39373)) (mBoxIx 0 2)))) mNil) intD) (mC (.int 2147483647)))) (mThenS (mSet 3 (mBin addD (mBin modD (mThen (mCons (mD (mVar 2)) mNil) intD) (mC (.int 40009))) (mC (.int 7)))) (mThenS (mSet 4 (mBin modD (mThen (mCons (mD (mBin mulD (mBin addD (mBin addD (mVar 2) (mBoxIx 0 2)) (mBin divD (mBoxIx 0 1) (mC (.int 1000003)))) (mVar 3))) mNil) intD) (mC (.int 2147483629)))) (mRet (mBin modD (mThen (mCons (mD (mBin divD (mBin modD (mThen (mCons (mD (mBin addD (mBin mulD (mVar 4) (mC (.int 48271))) (mVar 2))) mNil) intD) (mC (.int 2147483587))) (mC (.int 64)))) mNil) intD) (mVar 1))))))))
theorem ok__law_take {f : Addr} {fd : FuncData} (Z : Bl mg) (D : Dv K mg "_law_take" (top 14) P__law_take f fd) : Has P w K mg base "_law_take" (top 14) 1 P__law_take (m__law_take) := by
  refine has_def (N := N__law_take) (ps := P__law_take) (O' := []) D sc__law_take fun cdv A outer s H E hr => ?_
  exact (dss_cons (dst_if (dt_gt (de_boxIx (k := 0) (pv 0)) de_int) (dss_cons (dst_set (i := 5) sc__law_take.nd rfl (by first | exact Or.inl rfl | exact Or.inr rfl) (de_mod (de_int1 Z.int (da_cons (ds_d (de_boxIx (k := 0) (pv 0))) da_nil)) (de_var (pv 1)))) (dss_cons (dst_boxSet (k := 0) (pv 0) (de_fdiv (de_boxIx (k := 0) (pv 0)) (de_var (pv 1)))) (dss_one (dst_ret (de_var (pv 5)))))) dss_nil) (dss_cons (dst_boxSet (k := 2) (pv 0) (de_add (de_boxIx (k := 2) (pv 0)) de_int)) (dss_cons (dst_set (i := 2) sc__law_take.nd rfl (by first | exact Or.inl rfl | exact Or.inr rfl) (de_mod (de_int1 Z.int (da_cons (ds_d (de_mul (de_add (de_boxIx (k := 1) (pv 0)) (de_mul de_int (de_boxIx (k := 2) (pv 0)))) (de_add de_int (de_boxIx (k := 2) (pv 0))))) da_nil)) de_int)) (dss_cons (dst_set (i := 3) sc__law_take.nd rfl (by first | exact Or.inl rfl | exact Or.inr rfl) (de_add (de_mod (de_int1 Z.int (da_cons (ds_d (de_var (pv 2))) da_nil)) de_int) de_int)) (dss_cons (dst_set (i := 4) sc__law_take.nd rfl (by first | exact Or.inl rfl | exact Or.inr rfl) (de_mod (de_int1 Z.int (da_cons (ds_d (de_mul (de_add (de_add (de_var (pv 2)) (de_boxIx (k := 2) (pv 0))) (de_fdiv (de_boxIx (k := 1) (pv 0)) de_int)) (de_var (pv 3)))) da_nil)) de_int)) (dss_one (dst_ret (de_mod (de_int1 Z.int (da_cons (ds_d (de_fdiv (de_mod (de_int1 Z.int (da_cons (ds_d (de_add (de_mul (de_var (pv 4)) de_int) (de_var (pv 2)))) da_nil)) de_int) de_int)) da_nil)) (de_var (pv 1))))))))))
abbrev N__law_cells : List Str := ["_law_script", "_law_top_so", "_law_cells_so", "_law_nth_so", "_law_cell", "_law_at_so"]
abbrev P__law_cells : List Str := ["_law_script", "_law_top_so"]
theorem sc__law_cells : FnScope N__law_cells P__law_cells (defScope (top 15)) := ⟨rfl, rfl, rfl, by decide +kernel, rfl, by decide +kernel, by decide +kernel⟩
noncomputable def m__law_cells (K : PySem.W.Frag) : List Sl → Mo Dt := mDef 2 6 (mThenS (mSetL 2 (mOrL (mListL (mCons (mD (mScr K 0 mNoPart (mPart (mVar 1)))) mNil)) (mLstL (mCons (mD (mC (.int 0))) mNil)))) (mThenS (mFor (mEnumA (mCons (mD (mScr K 0 (mPart (mVar 1)) (mPart (mC (.int 63))))) mNil)) (gTupD 2 (gConsD (gN 3) (gConsD (gN 4) gNil))) (mThenS (mSet 5 (mBin modD (mThen (mCons (mD (mVar 3)) mNil) intD) (mVar 1))) (mSetO 2 (mBin addD (mIxO 2 (mVar 5)) (mBin mulD (mVar 4) (mBin addD (mVar 3) (mC (.int 2))))) (mVar 5)))) (mRet (mVar 2))))
theorem ok__law_cells {f : Addr} {fd : FuncData} (Z : Bl mg) (D : Dv K mg "_law_cells" (top 15) P__law_cells f fd) : Has P w K mg base "_law_cells" (top 15) 1 P__law_cells (m__law_cells K) := by
  refine has_def (N := N__law_cells) (ps := P__law_cells) (O' := []) D sc__law_cells fun cdv A outer s H E hr => ?_
  exact (dss_cons (dst_setL (i := 2) sc__law_cells.nd rfl (by first | exact Or.inl rfl | exact Or.inr rfl) (del_or (del_list Z.list (da_cons (ds_d (de_scr (i := 0) (pv 0) do_none (do_some (de_var (pv 1))))) da_nil)) (del_lst (da_cons (ds_d de_int) da_nil)))) (dss_cons (dst_for (passes_of rfl) rfl (di_enumA Z.enumerate (da_cons (ds_d (de_scr (i := 0) (pv 0) (do_some (de_var (pv 1))) (do_some de_int))) da_nil)) (dg_tup (k := 0) rfl (dgs_cons (dg_name (pg_name (i := 3) sc__law_cells.nd rfl (by first | exact Or.inl rfl | exact Or.inr rfl))) (dgs_cons (dg_name (pg_name (i := 4) sc__law_cells.nd rfl (by first | exact Or.inl rfl | exact Or.inr rfl))) dgs_nil'))) (dss_cons (dst_set (i := 5) sc__law_cells.nd rfl (by first | exact Or.inl rfl | exact Or.inr rfl) (de_mod (de_int1 Z.int (da_cons (ds_d (de_var (pv 3))) da_nil)) (de_var (pv 1)))) (dss_one (dst_setO (i := 2) (pv 2) (de_add (de_ixO (i := 2) (pv 2) (de_var (pv 5))) (de_mul (de_var (pv 4)) (de_add (de_var (pv 3)) de_int))) (de_var (pv 5)))))) (dss_one (dst_less (O1 := []) (dst_ret (de_var (pv 2))) (by decide)))))
abbrev N__law_same : List Str := ["_law_got", "_law_due", "_law_mine", "_law_its"]
abbrev P__law_same : List Str := ["_law_got", "_law_due"]
theorem sc__law_same : FnScope N__law_same P__law_same (defScope (top 16)) := ⟨rfl, rfl, rfl, by decide +kernel, rfl, by decide +kernel, by decide +kernel⟩
def m__law_same : Nat → List Sl → Mo Dt
  | 0 => mStuck
  | n + 1 => mDef 2 4 (mThenS (mIfS (mThenB (mIsi (mVar 1) fun d => isListD d || isTupD d) truD) (mThenS (mIfS (mOr (mThenB (mBin neD (mIsi (mVar 0) isListD) (mIsi (mVar 1) isListD)) asBool) (mThenB (mBin neD (mIsi (mVar 0) isTupD) (mIsi (mVar 1) isTupD)) asBool)) (mRet (mC (.bool false))) mNx) (mRet (mAndV (mBin eqD (mThen (mCons (mD (mVar 0)) mNil) lenD) (mThen (mCons (mD (mVar 1)) mNil) lenD)) (mThen (mCons (mD (mList (mLc (mZip (mCons (mD (mVar 0)) (mCons (mD (mVar 1)) mNil))) [3, 2] (gTupD 2 (gConsD (gN 2) (gConsD (gN 3) gNil))) mYes (mCall (m__law_same n) (mCons (mD (mVar 2)) (mCons (mD (mVar 3)) mNil)))))) mNil) allD)))) mNx) (mThenS (mIfS (mOr (mThenB (mBin (isN false) (mVar 1) (mC .none)) asBool) (mThenB (mIsi (mVar 1) fun d => isBoolD d || isStrD d) truD)) (mRet (mAndV (mBin eqD (mVar 0) (mVar 1)) (mAndV (mBin eqD (mIsi (mVar 0) isBoolD) (mIsi (mVar 1) isBoolD)) (mBin eqD (mBin (isN false) (mVar 0) (mC .none)) (mBin (isN false) (mVar 1) (mC .none)))))) mNx) (mRet (mAndV (mIsi (mVar 0) isIntD) (mAndV (mThen (mIsi (mVar 0) isBoolD) notV) (mBin eqD (mVar 0) (mVar 1)))))))
theorem ok__law_same {f : Addr} {fd : FuncData} (Z : Bl mg) (D : Dv K mg "_law_same" (top 16) P__law_same f fd) : ∀ n, Has P w K mg base "_law_same" (top 16) (0 + n) P__law_same (m__law_same n)
  | 0 => has_stuck D _
  | n + 1 => by
    have ih := ok__law_same Z D n
    refine Has.mono (j := 0 + n + 1) (has_def (N := N__law_same) (ps := P__law_same) (k := 0 + n) (O' := []) D sc__law_same fun cdv A outer s H E hr => ?_) (by omega)
    exact (dss_cons (dst_if (dt_truth (de_isi2 isT_list isT_tuple Z.isinstance Z.list Z.tuple (de_var (pv 1)))) (dss_cons (dst_if (dt_w (dw_or (dt_ne hr (de_isi isT_list Z.isinstance Z.list (de_var (pv 0))) (de_isi isT_list Z.isinstance Z.list (de_var (pv 1)))) (dw_or1 (dt_ne hr (de_isi isT_tuple Z.isinstance Z.tuple (de_var (pv 0))) (de_isi isT_tuple Z.isinstance Z.tuple (de_var (pv 1))))))) (dss_one (dst_ret de_bl)) dss_nil) (dss_one (dst_ret (de_and (de_eq hr (de_len Z.len (da_cons (ds_d (de_var (pv 0))) da_nil)) (de_len Z.len (da_cons (ds_d (de_var (pv 1))) da_nil))) (de_one (de_all rfl Z.all (da_cons (ds_d (del_de (del_lc rfl sc__law_same.nd (di_zip Z.zip (da_cons (ds_d (de_var (pv 0))) (da_cons (ds_d (de_var (pv 1))) da_nil))) (own := [("_law_its", 3), ("_law_mine", 2)]) (blkOk_by (N := N__law_same) (sc := defScope (top 16)) (by decide +kernel)) (by decide) (fun _ _ _ _ _ => (dg_tup (k := 0) rfl (dgs_cons (dg_name (pg_name (i := 2) sc__law_same.nd rfl (by first | exact Or.inl rfl | exact Or.inr rfl))) (dgs_cons (dg_name (pg_name (i := 3) sc__law_same.nd rfl (by first | exact Or.inl rfl | exact Or.inr rfl))) dgs_nil')))) (fun _ _ _ _ _ => dts_nil) (fun _ _ _ _ _ => (de_ch ih hr takes_n (da_cons (ds_d (de_var (pv 2))) (da_cons (ds_d (de_var (pv 3))) da_nil)) (by omega)))))) da_nil))))))) dss_nil) (dss_cons (dst_if (dt_w (dw_or (dt_is (de_var (pv 1)) de_non) (dw_or1 (dt_truth (de_isi2 isT_bool isT_str Z.isinstance Z.bool Z.str (de_var (pv 1))))))) (dss_one (dst_ret (de_and (de_eq hr (de_var (pv 0)) (de_var (pv 1))) (de_and (de_eq hr (de_isi isT_bool Z.isinstance Z.bool (de_var (pv 0))) (de_isi isT_bool Z.isinstance Z.bool (de_var (pv 1)))) (de_one (de_eq hr (de_is (de_var (pv 0)) de_non) (de_is (de_var (pv 1)) de_non))))))) dss_nil) (dss_one (dst_ret (de_and (de_isi isT_int Z.isinstance Z.int (de_var (pv 0))) (de_and (de_not (de_isi isT_bool Z.isinstance Z.bool (de_var (pv 0)))) (de_one (de_eq hr (de_var (pv 0)) (de_var (pv 1))))))))))
abbrev N__law_lists : List Str := ["_law_matter_so", "_law_bit"]
abbrev P__law_lists : List Str := ["_law_matter_so"]
theorem sc__law_lists : FnScope N__law_lists P__law_lists (defScope (top 17)) := ⟨rfl, rfl, rfl, by decide +kernel, rfl, by decide +kernel, by decide +kernel⟩
def m__law_lists : Nat → List Sl → Mo Dt
  | 0 => mStuck
  | n + 1 => mDef 1 2 (mRet (mIf (mThenB (mIsi (mVar 0) fun d => isListD d || isTupD d) truD) (mList (mLc (mSeq (mVar 0)) [1] (gN 1) mYes (mCall (m__law_lists n) (mCons (mD (mVar 1)) mNil)))) (mVar 0)))
theorem ok__law_lists {f : Addr} {fd : FuncData} (Z : Bl mg) (D : Dv K mg "_law_lists" (top 17) P__law_lists f fd) : ∀ n, Has P w K mg base "_law_lists" (top 17) (0 + n) P__law_lists (m__law_lists n)
  | 0 => has_stuck D _
  | n + 1 => by
    have ih := ok__law_lists Z D n
    refine Has.mono (j := 0 + n + 1) (has_def (N := N__law_lists) (ps := P__law_lists) (k := 0 + n) (O' := []) D sc__law_lists fun cdv A outer s H E hr => ?_) (by omega)
    exact (dss_one (dst_ret (de_if (dt_truth (de_isi2 isT_list isT_tuple Z.isinstance Z.list Z.tuple (de_var (pv 0)))) (del_de (del_lc rfl sc__law_lists.nd (di_seq (de_var (pv 0))) (own := [("_law_bit", 1)]) (blkOk_by (N := N__law_lists) (sc := defScope (top 17)) (by decide +kernel)) (by decide) (fun _ _ _ _ _ => (dg_name (pg_name (i := 1) sc__law_lists.nd rfl (by first | exact Or.inl rfl | exact Or.inr rfl)))) (fun _ _ _ _ _ => dts_nil) (fun _ _ _ _ _ => (de_ch ih hr takes_n (da_cons (ds_d (de_var (pv 1))) da_nil) (by omega))))) (de_var (pv 0)))))
abbrev N__law_of : List Str := ["_law_box_here", "_law_pool_so"]
abbrev P__law_of : List Str := ["_law_box_here", "_law_pool_so"]
theorem sc__law_of : FnScope N__law_of P__law_of (defScope (top 18)) := ⟨rfl, rfl, rfl, by decide +kernel, rfl, by decide +kernel, by decide +kernel⟩
def m__law_of : List Sl → Mo Dt := mDef 2 2 (mRet (mBin ixD (mVar 1) (mCall (m__law_take) (mCons (mSl 0) (mCons (mD (mThen (mCons (mD (mVar 1)) mNil) lenD)) mNil)))))
theorem ok__law_of {f : Addr} {fd : FuncData} (Z : Bl mg) (D : Dv K mg "_law_of" (top 18) P__law_of f fd) (h__law_take : Has P w K mg base "_law_take" (top 14) 1 P__law_take (m__law_take)) : Has P w K mg base "_law_of" (top 18) 2 P__law_of (m__law_of) := by
  refine has_def (N := N__law_of) (ps := P__law_of) (O' := []) D sc__law_of fun cdv A outer s H E hr => ?_
  exact (dss_one (dst_ret (de_ix (de_var (pv 1)) (de_ch h__law_take hr (takes_of rfl rfl rfl rfl) (da_cons (ds_var (pv 0)) (da_cons (ds_d (de_len Z.len (da_cons (ds_d (de_var (pv 1))) da_nil))) da_nil))))))
abbrev N__law_mixed : List Str := ["_law_box_here", "_law_rows_so", "_law_lap", "_law_rest_so", "_law_found"]
abbrev P__law_mixed : List Str := ["_law_box_here", "_law_rows_so"]
theorem sc__law_mixed : FnScope N__law_mixed P__law_mixed (defScope (top 19)) := ⟨rfl, rfl, rfl, by decide +kernel, rfl, by decide +kernel, by decide +kernel⟩
def m__law_mixed : List Sl → Mo Dt := mDef 2 5 (mThenS (mParN2 true true 3 4 (mConsL (mListL (mCons (mD (mVar 1)) mNil)) (mConsL (mLstL mNil) mNilN))) (mThenS (mFor (mRng1 (mCons (mD (mThen (mCons (mD (mVar 1)) mNil) lenD)) mNil)) (gN 2) (mAppPop 4 3 (mCall (m__law_take) (mCons (mSl 0) (mCons (mD (mLenO 3)) mNil))))) (mRet (mVar 4))))
theorem ok__law_mixed {f : Addr} {fd : FuncData} (Z : Bl mg) (D : Dv K mg "_law_mixed" (top 19) P__law_mixed f fd) (h__law_take : Has P w K mg base "_law_take" (top 14) 1 P__law_take (m__law_take)) : Has P w K mg base "_law_mixed" (top 19) 2 P__law_mixed (m__law_mixed) := by
  refine has_def (N := N__law_mixed) (ps := P__law_mixed) (O' := [3]) D sc__law_mixed fun cdv A outer s H E hr => ?_
  exact (dss_cons (dst_parN2 (i := 3) (j := 4) (k1 := true) (k2 := true) rfl sc__law_mixed.nd rfl rfl (by decide) rfl rfl (dn_l (del_list Z.list (da_cons (ds_d (de_var (pv 1))) da_nil)) (dn_l (del_lst da_nil) dn_nil)) (by rfl)) (dss_cons (dst_for (passes_of rfl) rfl (di_range1 Z.range (da_cons (ds_d (de_len Z.len (da_cons (ds_d (de_var (pv 1))) da_nil))) da_nil)) (dg_name (pg_name (i := 2) sc__law_mixed.nd rfl (by first | exact Or.inl rfl | exact Or.inr rfl))) (dss_one (dst_appPop (i := 4) (j := 3) (pv 4) (pv 3) (by decide) (de_ch h__law_take hr (takes_of rfl rfl rfl rfl) (da_cons (ds_var (pv 0)) (da_cons (ds_d (de_lenO (pv 3) Z.len)) da_nil)))))) (dss_one (dst_less (O1 := [3]) (dst_ret (de_var (pv 4))) (by decide)))))
abbrev N__law_tuples : List Str := ["_law_many_so", "_law_width_so", "_law_found", "_law_lap", "_law_longer_so", "_law_own", "_law_bit"]
abbrev P__law_tuples : List Str := ["_law_many_so", "_law_width_so"]
theorem sc__law_tuples : FnScope N__law_tuples P__law_tuples (defScope (top 20)) := ⟨rfl, rfl, rfl, by decide +kernel, rfl, by decide +kernel, by decide +kernel⟩
def m__law_tuples : List Sl → Mo Dt := mDef 2 7 (mThenS (mSet 2 (mLst (mCons (mD (mTup mNil)) mNil))) (mThenS (mFor (mRng1 (mCons (mD (mVar 1)) mNil)) (gN 3) (mThenS (mSet 4 (mLst mNil)) (mThenS (mFor (mSeq (mVar 2)) (gN 5) (mSet 4 (mBin addD (mVar 4) (mList (mLc (mRng1 (mCons (mD (mVar 0)) mNil)) [6] (gN 6) mYes (mBin addD (mVar 5) (mTup (mCons (mD (mVar 6)) mNil)))))))) (mSet 2 (mVar 4))))) (mRet (mVar 2))))
theorem ok__law_tuples {f : Addr} {fd : FuncData} (Z : Bl mg) (D : Dv K mg "_law_tuples" (top 20) P__law_tuples f fd) : Has P w K mg base "_law_tuples" (top 20) 1 P__law_tuples (m__law_tuples) := by
  refine has_def (N := N__law_tuples) (ps := P__law_tuples) (O' := []) D sc__law_tuples fun cdv A outer s H E hr => ?_
  exact (dss_cons (dst_set (i := 2) sc__law_tuples.nd rfl (by first | exact Or.inl rfl | exact Or.inr rfl) (de_lst (da_cons (ds_d (de_tup da_nil)) da_nil))) (dss_cons (dst_for (passes_of rfl) rfl (di_range1 Z.range (da_cons (ds_d (de_var (pv 1))) da_nil)) (dg_name (pg_name (i := 3) sc__law_tuples.nd rfl (by first | exact Or.inl rfl | exact Or.inr rfl))) (dss_cons (dst_set (i := 4) sc__law_tuples.nd rfl (by first | exact Or.inl rfl | exact Or.inr rfl) (de_lst da_nil)) (dss_cons (dst_for (passes_of rfl) rfl (di_seq (de_var (pv 2))) (dg_name (pg_name (i := 5) sc__law_tuples.nd rfl (by first | exact Or.inl rfl | exact Or.inr rfl))) (dss_one (dst_set (i := 4) sc__law_tuples.nd rfl (by first | exact Or.inl rfl | exact Or.inr rfl) (de_add (de_var (pv 4)) (del_de (del_lc rfl sc__law_tuples.nd (di_range1 Z.range (da_cons (ds_d (de_var (pv 0))) da_nil)) (own := [("_law_bit", 6)]) (blkOk_by (N := N__law_tuples) (sc := defScope (top 20)) (by decide +kernel)) (by decide) (fun _ _ _ _ _ => (dg_name (pg_name (i := 6) sc__law_tuples.nd rfl (by first | exact Or.inl rfl | exact Or.inr rfl)))) (fun _ _ _ _ _ => dts_nil) (fun _ _ _ _ _ => (de_add (de_var (pv 5)) (de_tup (da_cons (ds_d (de_var (pv 6))) da_nil)))))))))) (dss_one (dst_set (i := 2) sc__law_tuples.nd rfl (by first | exact Or.inl rfl | exact Or.inr rfl) (de_var (pv 4))))))) (dss_one (dst_ret (de_var (pv 2))))))
abbrev N__law_kind : List Str := ["_law_box_here", "_law_many_so", "_law_width_so", "_law_every_so", "_law_keep_so", "_law_rows_so", "_law_own"]
abbrev P__law_kind : List Str := ["_law_box_here", "_law_many_so"]
theorem sc__law_kind : FnScope N__law_kind P__law_kind (defScope (top 21)) := ⟨rfl, rfl, rfl, by decide +kernel, rfl, by decide +kernel, by decide +kernel⟩
def m__law_kind : List Sl → Mo Dt := mDef 2 7 (mThenS (mSet 2 (mCall (m__law_of) (mCons (mSl 0) (mCons (mD (mLst (mCons (mD (mC (.int 1))) (mCons (mD (mC (.int 2))) (mCons (mD (mC (.int 2))) (mCons (mD (mC (.int 2))) (mCons (mD (mIf (mThenB (mBin eqD (mVar 1) (mC (.int 2))) asBool) (mC (.int 3)) (mC (.int 2)))) mNil))))))) mNil)))) (mThenS (mSet 3 (mCall (m__law_tuples) (mCons (mD (mVar 1)) (mCons (mD (mVar 2)) mNil)))) (mThenS (mSet 4 (mBin addD (mC (.int 2)) (mCall (m__law_take) (mCons (mSl 0) (mCons (mD (mC (.int 2))) mNil))))) (mThenS (mSetL 5 (mLc (mSeq (mVar 3)) [6] (gN 6) (mThenB (mBin gtD (mCall (m__law_take) (mCons (mSl 0) (mCons (mD (mVar 4)) mNil))) (mC (.int 0))) asBool) (mVar 6))) (mRet (mTup (mCons (mD (mVar 2)) (mCons (mD (mThen (mCons (mD (mThen (mCons (mD (mSlice (mCall (m__law_mixed) (mCons (mSl 0) (mCons (mD (mVar 5)) mNil))) mNoPart (mPart (mC (.int 6))))) mNil) sortedD)) mNil) tupD)) mNil))))))))
theorem ok__law_kind {f : Addr} {fd : FuncData} (Z : Bl mg) (D : Dv K mg "_law_kind" (top 21) P__law_kind f fd) (h__law_of : Has P w K mg base "_law_of" (top 18) 2 P__law_of (m__law_of)) (h__law_tuples : Has P w K mg base "_law_tuples" (top 20) 1 P__law_tuples (m__law_tuples)) (h__law_take : Has P w K mg base "_law_take" (top 14) 1 P__law_take (m__law_take)) (h__law_mixed : Has P w K mg base "_law_mixed" (top 19) 2 P__law_mixed (m__law_mixed)) : Has P w K mg base "_law_kind" (top 21) 3 P__law_kind (m__law_kind) := by
  refine has_def (N := N__law_kind) (ps := P__law_kind) (O' := []) D sc__law_kind fun cdv A outer s H E hr => ?_
  exact (dss_cons (dst_set (i := 2) sc__law_kind.nd rfl (by first | exact Or.inl rfl | exact Or.inr rfl) (de_ch h__law_of hr (takes_of rfl rfl rfl rfl) (da_cons (ds_var (pv 0)) (da_cons (ds_d (de_lst (da_cons (ds_d de_int) (da_cons (ds_d de_int) (da_cons (ds_d de_int) (da_cons (ds_d de_int) (da_cons (ds_d (de_if (dt_eq hr (de_var (pv 1)) de_int) de_int de_int)) da_nil))))))) da_nil)))) (dss_cons (dst_set (i := 3) sc__law_kind.nd rfl (by first | exact Or.inl rfl | exact Or.inr rfl) (de_ch h__law_tuples hr (takes_of rfl rfl rfl rfl) (da_cons (ds_d (de_var (pv 1))) (da_cons (ds_d (de_var (pv 2))) da_nil)))) (dss_cons (dst_set (i := 4) sc__law_kind.nd rfl (by first | exact Or.inl rfl | exact Or.inr rfl) (de_add de_int (de_ch h__law_take hr (takes_of rfl rfl rfl rfl) (da_cons (ds_var (pv 0)) (da_cons (ds_d de_int) da_nil))))) (dss_cons (dst_lc (i := 5) rfl sc__law_kind.nd rfl rfl (sw_true rfl rfl rfl (by decide +kernel)) (di_seq (de_var (pv 3))) (own := [("_law_own", 6)]) (blkOk_by (N := N__law_kind) (sc := defScope (top 21)) (by decide +kernel)) (by decide) (fun _ _ _ _ _ => (dg_name (pg_name (i := 6) sc__law_kind.nd rfl (by first | exact Or.inl rfl | exact Or.inr rfl)))) (fun _ _ _ _ _ => (dts_one (dt_gt (de_ch h__law_take hr takes_n (da_cons (ds_var (pv 0)) (da_cons (ds_d (de_var (pv 4))) da_nil))) de_int))) (fun _ _ _ _ _ => (de_var (pv 6)))) (dss_one (dst_less (O1 := []) (dst_ret (de_tup (da_cons (ds_d (de_var (pv 2))) (da_cons (ds_d (de_tuple Z.tuple (da_cons (ds_d (de_sorted hr Z.sorted (da_cons (ds_d (de_slice (de_ch h__law_mixed hr (takes_of rfl rfl rfl rfl) (da_cons (ds_var (pv 0)) (da_cons (ds_d (de_var (pv 5))) da_nil))) do_none (do_some de_int))) da_nil))) da_nil))) da_nil)))) (by decide)))))))
abbrev N__law_known : List Str := ["_law_even_so", "_law_only_so", "_law_unlike_so", "_law_like_so", "_law_climb_so", "_law_either_so", "_law_other_so", "_law_third_so", "_law_step_so"]
abbrev P__law_known : List Str := []
theorem sc__law_known : FnScope N__law_known P__law_known (defScope (top 22)) := ⟨rfl, rfl, rfl, by decide +kernel, rfl, by decide +kernel, by decide +kernel⟩
def m__law_known : List Sl → Mo Dt := mDef 0 9 (mThenS (mAsg (mTup (mCons (mD (mTup (mCons (mD (mC (.int 2))) (mCons (mD (mTup (mCons (mD (mTup (mCons (mD (mC (.int 0))) (mCons (mD (mC (.int 0))) mNil)))) (mCons (mD (mTup (mCons (mD (mC (.int 1))) (mCons (mD (mC (.int 1))) mNil)))) mNil)))) mNil)))) (mCons (mD (mTup (mCons (mD (mC (.int 2))) (mCons (mD (mTup (mCons (mD (mTup (mCons (mD (mC (.int 0))) (mCons (mD (mC (.int 0))) mNil)))) (mCons (mD (mTup (mCons (mD (mC (.int 0))) (mCons (mD (mC (.int 1))) mNil)))) (mCons (mD (mTup (mCons (mD (mC (.int 1))) (mCons (mD (mC (.int 1))) mNil)))) mNil))))) mNil)))) mNil))) (gTupD 2 (gConsD (gN 3) (gConsD (gN 4) gNil)))) (mThenS (mAsg (mTup (mCons (mD (mTup (mCons (mD (mC (.int 2))) (mCons (mD (mTup (mCons (mD (mTup (mCons (mD (mC (.int 0))) (mCons (mD (mC (.int 1))) mNil)))) (mCons (mD (mTup (mCons (mD (mC (.int 1))) (mCons (mD (mC (.int 0))) mNil)))) (mCons (mD (mTup (mCons (mD (mC (.int 1))) (mCons (mD (mC (.int 1))) mNil)))) mNil))))) mNil)))) (mCons (mD (mTup (mCons (mD (mC (.int 2))) (mCons (mD (mTup (mCons (mD (mTup (mCons (mD (mC (.int 0))) (mCons (mD (mC (.int 1))) mNil)))) (mCons (mD (mTup (mCons (mD (mC (.int 1))) (mCons (mD (mC (.int 0))) mNil)))) mNil)))) mNil)))) mNil))) (gTupD 2 (gConsD (gN 5) (gConsD (gN 6) gNil)))) (mThenS (mSet 0 (mTup (mCons (mD (mC (.int 3))) (mCons (mD (mTup (mCons (mD (mTup (mCons (mD (mC (.int 0))) (mCons (mD (mC (.int 0))) (mCons (mD (mC (.int 0))) mNil))))) (mCons (mD (mTup (mCons (mD (mC (.int 0))) (mCons (mD (mC (.int 1))) (mCons (mD (mC (.int 1))) mNil))))) (mCons (mD (mTup (mCons (mD (mC (.int 1))) (mCons (mD (mC (.int 0))) (mCons (mD (mC (.int 1))) mNil))))) (mCons (mD (mTup (mCons (mD (mC (.int 1))) (mCons (mD (mC (.int 1))) (mCons (mD (mC (.int 0))) mNil))))) mNil)))))) mNil)))) (mThenS (mSet 1 (mTup (mCons (mD (mC (.int 3))) (mCons (mD (mTup (mCons (mD (mTup (mCons (mD (mC (.int 0))) (mCons (mD (mC (.int 0))) (mCons (mD (mC (.int 1))) mNil))))) (mCons (mD (mTup (mCons (mD (mC (.int 0))) (mCons (mD (mC (.int 1))) (mCons (mD (mC (.int 0))) mNil))))) (mCons (mD (mTup (mCons (mD (mC (.int 1))) (mCons (mD (mC (.int 0))) (mCons (mD (mC (.int 0))) mNil))))) mNil))))) mNil)))) (mThenS (mSet 2 (mTup (mCons (mD (mC (.int 2))) (mCons (mD (mTup (mCons (mD (mTup (mCons (mD (mC (.int 0))) (mCons (mD (mC (.int 1))) mNil)))) (mCons (mD (mTup (mCons (mD (mC (.int 0))) (mCons (mD (mC (.int 2))) mNil)))) (mCons (mD (mTup (mCons (mD (mC (.int 1))) (mCons (mD (mC (.int 0))) mNil)))) (mCons (mD (mTup (mCons (mD (mC (.int 1))) (mCons (mD (mC (.int 2))) mNil)))) (mCons (mD (mTup (mCons (mD (mC (.int 2))) (mCons (mD (mC (.int 0))) mNil)))) (mCons (mD (mTup (mCons (mD (mC (.int 2))) (mCons (mD (mC (.int 1))) mNil)))) mNil)))))))) mNil)))) (mThenS (mAsg (mTup (mCons (mD (mTup (mCons (mD (mC (.int 2))) (mCons (mD (mTup (mCons (mD (mTup (mCons (mD (mC (.int 0))) (mCons (mD (mC (.int 0))) mNil)))) (mCons (mD (mTup (mCons (mD (mC (.int 1))) (mCons (mD (mC (.int 2))) mNil)))) (mCons (mD (mTup (mCons (mD (mC (.int 2))) (mCons (mD (mC (.int 1))) mNil)))) mNil))))) mNil)))) (mCons (mD (mTup (mCons (mD (mC (.int 2))) (mCons (mD (mTup (mCons (mD (mTup (mCons (mD (mC (.int 0))) (mCons (mD (mC (.int 1))) mNil)))) (mCons (mD (mTup (mCons (mD (mC (.int 1))) (mCons (mD (mC (.int 2))) mNil)))) (mCons (mD (mTup (mCons (mD (mC (.int 2))) (mCons (mD (mC (.int 0))) mNil)))) mNil))))) mNil)))) mNil))) (gTupD 2 (gConsD (gN 7) (gConsD (gN 8) gNil)))) (mRet (mLst (mCons (mD (mTup (mCons (mD (mC (.int 2))) (mCons (mD (mVar 3)) mNil)))) (mCons (mD (mTup (mCons (mD (mC (.int 2))) (mCons (mD (mVar 4)) mNil)))) (mCons (mD (mTup (mCons (mD (mC (.int 2))) (mCons (mD (mVar 5)) mNil)))) (mCons (mD (mTup (mCons (mD (mC (.int 2))) (mCons (mD (mVar 6)) mNil)))) (mCons (mD (mTup (mCons (mD (mC (.int 2))) (mCons (mD (mVar 0)) mNil)))) (mCons (mD (mTup (mCons (mD (mC (.int 2))) (mCons (mD (mVar 1)) mNil)))) (mCons (mD (mTup (mCons (mD (mC (.int 3))) (mCons (mD (mVar 2)) mNil)))) (mCons (mD (mTup (mCons (mD (mC (.int 3))) (mCons (mD (mVar 7)) mNil)))) (mCons (mD (mTup (mCons (mD (mC (.int 3))) (mCons (mD (mVar 8)) mNil)))) mNil)))))))))))))))))
theorem ok__law_known {f : Addr} {fd : FuncData} (Z : Bl mg) (D : Dv K mg "_law_known" (top 22) P__law_known f fd) : Has P w K mg base "_law_known" (top 22) 1 P__law_known (m__law_known) := by
  refine has_def (N := N__law_known) (ps := P__law_known) (O' := []) D sc__law_known fun cdv A outer s H E hr => ?_
  exact (dss_cons (dst_asg (de_tup (da_cons (ds_d (de_tup (da_cons (ds_d de_int) (da_cons (ds_d (de_tup (da_cons (ds_d (de_tup (da_cons (ds_d de_int) (da_cons (ds_d de_int) da_nil)))) (da_cons (ds_d (de_tup (da_cons (ds_d de_int) (da_cons (ds_d de_int) da_nil)))) da_nil)))) da_nil)))) (da_cons (ds_d (de_tup (da_cons (ds_d de_int) (da_cons (ds_d (de_tup (da_cons (ds_d (de_tup (da_cons (ds_d de_int) (da_cons (ds_d de_int) da_nil)))) (da_cons (ds_d (de_tup (da_cons (ds_d de_int) (da_cons (ds_d de_int) da_nil)))) (da_cons (ds_d (de_tup (da_cons (ds_d de_int) (da_cons (ds_d de_int) da_nil)))) da_nil))))) da_nil)))) da_nil))) (dg_tup (k := 0) rfl (dgs_cons (dg_name (pg_name (i := 3) sc__law_known.nd rfl (by first | exact Or.inl rfl | exact Or.inr rfl))) (dgs_cons (dg_name (pg_name (i := 4) sc__law_known.nd rfl (by first | exact Or.inl rfl | exact Or.inr rfl))) dgs_nil')))) (dss_cons (dst_asg (de_tup (da_cons (ds_d (de_tup (da_cons (ds_d de_int) (da_cons (ds_d (de_tup (da_cons (ds_d (de_tup (da_cons (ds_d de_int) (da_cons (ds_d de_int) da_nil)))) (da_cons (ds_d (de_tup (da_cons (ds_d de_int) (da_cons (ds_d de_int) da_nil)))) (da_cons (ds_d (de_tup (da_cons (ds_d de_int) (da_cons (ds_d de_int) da_nil)))) da_nil))))) da_nil)))) (da_cons (ds_d (de_tup (da_cons (ds_d de_int) (da_cons (ds_d (de_tup (da_cons (ds_d (de_tup (da_cons (ds_d de_int) (da_cons (ds_d de_int) da_nil)))) (da_cons (ds_d (de_tup (da_cons (ds_d de_int) (da_cons (ds_d de_int) da_nil)))) da_nil)))) da_nil)))) da_nil))) (dg_tup (k := 0) rfl (dgs_cons (dg_name (pg_name (i := 5) sc__law_known.nd rfl (by first | exact Or.inl rfl | exact Or.inr rfl))) (dgs_cons (dg_name (pg_name (i := 6) sc__law_known.nd rfl (by first | exact Or.inl rfl | exact Or.inr rfl))) dgs_nil')))) (dss_cons (dst_set (i := 0) sc__law_known.nd rfl (by first | exact Or.inl rfl | exact Or.inr rfl) (de_tup (da_cons (ds_d de_int) (da_cons (ds_d (de_tup (da_cons (ds_d (de_tup (da_cons (ds_d de_int) (da_cons (ds_d de_int) (da_cons (ds_d de_int) da_nil))))) (da_cons (ds_d (de_tup (da_cons (ds_d de_int) (da_cons (ds_d de_int) (da_cons (ds_d de_int) da_nil))))) (da_cons (ds_d (de_tup (da_cons (ds_d de_int) (da_cons (ds_d de_int) (da_cons (ds_d de_int) da_nil))))) (da_cons (ds_d (de_tup (da_cons (ds_d de_int) (da_cons (ds_d de_int) (da_cons (ds_d de_int) da_nil))))) da_nil)))))) da_nil)))) (dss_cons (dst_set (i := 1) sc__law_known.nd rfl (by first | exact Or.inl rfl | exact Or.inr rfl) (de_tup (da_cons (ds_d de_int) (da_cons (ds_d (de_tup (da_cons (ds_d (de_tup (da_cons (ds_d de_int) (da_cons (ds_d de_int) (da_cons (ds_d de_int) da_nil))))) (da_cons (ds_d (de_tup (da_cons (ds_d de_int) (da_cons (ds_d de_int) (da_cons (ds_d de_int) da_nil))))) (da_cons (ds_d (de_tup (da_cons (ds_d de_int) (da_cons (ds_d de_int) (da_cons (ds_d de_int) da_nil))))) da_nil))))) da_nil)))) (dss_cons (dst_set (i := 2) sc__law_known.nd rfl (by first | exact Or.inl rfl | exact Or.inr rfl) (de_tup (da_cons (ds_d de_int) (da_cons (ds_d (de_tup (da_cons (ds_d (de_tup (da_cons (ds_d de_int) (da_cons (ds_d de_int) da_nil)))) (da_cons (ds_d (de_tup (da_cons (ds_d de_int) (da_cons (ds_d de_int) da_nil)))) (da_cons (ds_d (de_tup (da_cons (ds_d de_int) (da_cons (ds_d de_int) da_nil)))) (da_cons (ds_d (de_tup (da_cons (ds_d de_int) (da_cons (ds_d de_int) da_nil)))) (da_cons (ds_d (de_tup (da_cons (ds_d de_int) (da_cons (ds_d de_int) da_nil)))) (da_cons (ds_d (de_tup (da_cons (ds_d de_int) (da_cons (ds_d de_int) da_nil)))) da_nil)))))))) da_nil)))) (dss_cons (dst_asg (de_tup (da_cons (ds_d (de_tup (da_cons (ds_d de_int) (da_cons (ds_d (de_tup (da_cons (ds_d (de_tup (da_cons (ds_d de_int) (da_cons (ds_d de_int) da_nil)))) (da_cons (ds_d (de_tup (da_cons (ds_d de_int) (da_cons (ds_d de_int) da_nil)))) (da_cons (ds_d (de_tup (da_cons (ds_d de_int) (da_cons (ds_d de_int) da_nil)))) da_nil))))) da_nil)))) (da_cons (ds_d (de_tup (da_cons (ds_d de_int) (da_cons (ds_d (de_tup (da_cons (ds_d (de_tup (da_cons (ds_d de_int) (da_cons (ds_d de_int) da_nil)))) (da_cons (ds_d (de_tup (da_cons (ds_d de_int) (da_cons (ds_d de_int) da_nil)))) (da_cons (ds_d (de_tup (da_cons (ds_d de_int) (da_cons (ds_d de_int) da_nil)))) da_nil))))) da_nil)))) da_nil))) (dg_tup (k := 0) rfl (dgs_cons (dg_name (pg_name (i := 7) sc__law_known.nd rfl (by first | exact Or.inl rfl | exact Or.inr rfl))) (dgs_cons (dg_name (pg_name (i := 8) sc__law_known.nd rfl (by first | exact Or.inl rfl | exact Or.inr rfl))) dgs_nil')))) (dss_one (dst_ret (de_lst (da_cons (ds_d (de_tup (da_cons (ds_d de_int) (da_cons (ds_d (de_var (pv 3))) da_nil)))) (da_cons (ds_d (de_tup (da_cons (ds_d de_int) (da_cons (ds_d (de_var (pv 4))) da_nil)))) (da_cons (ds_d (de_tup (da_cons (ds_d de_int) (da_cons (ds_d (de_var (pv 5))) da_nil)))) (da_cons (ds_d (de_tup (da_cons (ds_d de_int) (da_cons (ds_d (de_var (pv 6))) da_nil)))) (da_cons (ds_d (de_tup (da_cons (ds_d de_int) (da_cons (ds_d (de_var (pv 0))) da_nil)))) (da_cons (ds_d (de_tup (da_cons (ds_d de_int) (da_cons (ds_d (de_var (pv 1))) da_nil)))) (da_cons (ds_d (de_tup (da_cons (ds_d de_int) (da_cons (ds_d (de_var (pv 2))) da_nil)))) (da_cons (ds_d (de_tup (da_cons (ds_d de_int) (da_cons (ds_d (de_var (pv 7))) da_nil)))) (da_cons (ds_d (de_tup (da_cons (ds_d de_int) (da_cons (ds_d (de_var (pv 8))) da_nil)))) da_nil))))))))))))))))))
abbrev N__law_book : List Str := ["_law_box_here", "_law_most_so", "_law_lap", "_law_many_so", "_law_kinds_so", "_law_pool_so", "_law_own"]
abbrev P__law_book : List Str := ["_law_box_here", "_law_most_so"]
theorem sc__law_book : FnScope N__law_book P__law_book (defScope (top 23)) := ⟨rfl, rfl, rfl, by decide +kernel, rfl, by decide +kernel, by decide +kernel⟩
def m__law_book : List Sl → Mo Dt := mDef 2 7 (mThenS (mParN2 false true 3 4 (mConsS (mD (mCall (m__law_of) (mCons (mSl 0) (mCons (mD (mLst (mCons (mD (mC (.int 2))) (mCons (mD (mC (.int 2))) (mCons (mD (mC (.int 2))) (mCons (mD (mC (.int 3))) mNil)))))) mNil)))) (mConsL (mLstL mNil) mNilN))) (mThenS (mFor (mRng1 (mCons (mD (mBin addD (mC (.int 1)) (mCall (m__law_take) (mCons (mSl 0) (mCons (mD (mVar 1)) mNil))))) mNil)) (gN 2) (mThenS (mSetL 5 (mLc (mSeq (mCall0 (m__law_known))) [6] (gN 6) (mThenB (mBin eqD (mBin ixD (mVar 6) (mC (.int 0))) (mVar 3)) asBool) (mBin ixD (mVar 6) (mC (.int 1))))) (mApp 4 (mIf (mThenB (mBin eqD (mCall (m__law_take) (mCons (mSl 0) (mCons (mD (mC (.int 2))) mNil))) (mC (.int 0))) asBool) (mCall (m__law_of) (mCons (mSl 0) (mCons (mD (mVar 5)) mNil))) (mCall (m__law_kind) (mCons (mSl 0) (mCons (mD (mVar 3)) mNil))))))) (mRet (mTup (mCons (mD (mVar 3)) (mCons (mD (mBin eqD (mCall (m__law_take) (mCons (mSl 0) (mCons (mD (mC (.int 2))) mNil))) (mC (.int 0)))) (mCons (mD (mThen (mCons (mD (mVar 4)) mNil) tupD)) mNil)))))))
theorem ok__law_book {f : Addr} {fd : FuncData} (Z : Bl mg) (D : Dv K mg "_law_book" (top 23) P__law_book f fd) (h__law_of : Has P w K mg base "_law_of" (top 18) 2 P__law_of (m__law_of)) (h__law_take : Has P w K mg base "_law_take" (top 14) 1 P__law_take (m__law_take)) (h__law_known : Has P w K mg base "_law_known" (top 22) 1 P__law_known (m__law_known)) (h__law_kind : Has P w K mg base "_law_kind" (top 21) 3 P__law_kind (m__law_kind)) : Has P w K mg base "_law_book" (top 23) 4 P__law_book (m__law_book) := by
  refine has_def (N := N__law_book) (ps := P__law_book) (O' := []) D sc__law_book fun cdv A outer s H E hr => ?_
  exact (dss_cons (dst_parT2 (k1 := false) (k2 := true) rfl (by decide) (pg_name (i := 3) sc__law_book.nd rfl (by first | exact Or.inl rfl | exact Or.inr rfl)) (pg_name (i := 4) sc__law_book.nd rfl (by first | exact Or.inl rfl | exact Or.inr rfl)) (dn_s (ds_d (de_ch h__law_of hr (takes_of rfl rfl rfl rfl) (da_cons (ds_var (pv 0)) (da_cons (ds_d (de_lst (da_cons (ds_d de_int) (da_cons (ds_d de_int) (da_cons (ds_d de_int) (da_cons (ds_d de_int) da_nil)))))) da_nil)))) (dn_l (del_lst da_nil) dn_nil))) (dss_cons (dst_for (passes_of rfl) rfl (di_range1 Z.range (da_cons (ds_d (de_add de_int (de_ch h__law_take hr (takes_of rfl rfl rfl rfl) (da_cons (ds_var (pv 0)) (da_cons (ds_d (de_var (pv 1))) da_nil))))) da_nil)) (dg_name (pg_name (i := 2) sc__law_book.nd rfl (by first | exact Or.inl rfl | exact Or.inr rfl))) (dss_cons (dst_lc (i := 5) rfl sc__law_book.nd rfl rfl (sw_true rfl rfl rfl (by decide +kernel)) (di_seq (de_ch0 h__law_known hr)) (own := [("_law_own", 6)]) (blkOk_by (N := N__law_book) (sc := defScope (top 23)) (by decide +kernel)) (by decide) (fun _ _ _ _ _ => (dg_name (pg_name (i := 6) sc__law_book.nd rfl (by first | exact Or.inl rfl | exact Or.inr rfl)))) (fun _ _ _ _ _ => (dts_one (dt_eq hr (de_ix (de_var (pv 6)) de_int) (de_var (pv 3))))) (fun _ _ _ _ _ => (de_ix (de_var (pv 6)) de_int))) (dss_one (dst_less (O1 := [4]) (dst_app (i := 4) (pv 4) (de_if (dt_eq hr (de_ch h__law_take hr (takes_of rfl rfl rfl rfl) (da_cons (ds_var (pv 0)) (da_cons (ds_d de_int) da_nil))) de_int) (de_ch h__law_of hr (takes_of rfl rfl rfl rfl) (da_cons (ds_var (pv 0)) (da_cons (ds_d (de_var (pv 5))) da_nil))) (de_ch h__law_kind hr (takes_of rfl rfl rfl rfl) (da_cons (ds_var (pv 0)) (da_cons (ds_d (de_var (pv 3))) da_nil))))) (by decide))))) (dss_one (dst_less (O1 := []) (dst_ret (de_tup (da_cons (ds_d (de_var (pv 3))) (da_cons (ds_d (de_eq hr (de_ch h__law_take hr (takes_of rfl rfl rfl rfl) (da_cons (ds_var (pv 0)) (da_cons (ds_d de_int) da_nil))) de_int)) (da_cons (ds_d (de_tuple Z.tuple (da_cons (ds_d (de_var (pv 4))) da_nil))) da_nil))))) (by decide)))))
abbrev N__law_teams : List Str := ["_law_rows_so", "_law_count_so", "_law_found", "_law_lap", "_law_longer_so", "_law_own", "_law_bit"]
abbrev P__law_teams : List Str := ["_law_rows_so", "_law_count_so"]
theorem sc__law_teams : FnScope N__law_teams P__law_teams (defScope (top 24)) := ⟨rfl, rfl, rfl, by decide +kernel, rfl, by decide +kernel, by decide +kernel⟩
def m__law_teams : List Sl → Mo Dt := mDef 2 7 (mThenS (mSet 2 (mLst (mCons (mD (mTup mNil)) mNil))) (mThenS (mFor (mRng1 (mCons (mD (mVar 1)) mNil)) (gN 3) (mThenS (mSet 4 (mLst mNil)) (mThenS (mFor (mSeq (mVar 2)) (gN 5) (mSet 4 (mBin addD (mVar 4) (mList (mLc (mSeq (mVar 0)) [6] (gN 6) mYes (mBin addD (mVar 5) (mTup (mCons (mD (mVar 6)) mNil)))))))) (mSet 2 (mVar 4))))) (mRet (mVar 2))))
theorem ok__law_teams {f : Addr} {fd : FuncData} (Z : Bl mg) (D : Dv K mg "_law_teams" (top 24) P__law_teams f fd) : Has P w K mg base "_law_teams" (top 24) 1 P__law_teams (m__law_teams) := by
  refine has_def (N := N__law_teams) (ps := P__law_teams) (O' := []) D sc__law_teams fun cdv A outer s H E hr => ?_
  exact (dss_cons (dst_set (i := 2) sc__law_teams.nd rfl (by first | exact Or.inl rfl | exact Or.inr rfl) (de_lst (da_cons (ds_d (de_tup da_nil)) da_nil))) (dss_cons (dst_for (passes_of rfl) rfl (di_range1 Z.range (da_cons (ds_d (de_var (pv 1))) da_nil)) (dg_name (pg_name (i := 3) sc__law_teams.nd rfl (by first | exact Or.inl rfl | exact Or.inr rfl))) (dss_cons (dst_set (i := 4) sc__law_teams.nd rfl (by first | exact Or.inl rfl | exact Or.inr rfl) (de_lst da_nil)) (dss_cons (dst_for (passes_of rfl) rfl (di_seq (de_var (pv 2))) (dg_name (pg_name (i := 5) sc__law_teams.nd rfl (by first | exact Or.inl rfl | exact Or.inr rfl))) (dss_one (dst_set (i := 4) sc__law_teams.nd rfl (by first | exact Or.inl rfl | exact Or.inr rfl) (de_add (de_var (pv 4)) (del_de (del_lc rfl sc__law_teams.nd (di_seq (de_var (pv 0))) (own := [("_law_bit", 6)]) (blkOk_by (N := N__law_teams) (sc := defScope (top 24)) (by decide +kernel)) (by decide) (fun _ _ _ _ _ => (dg_name (pg_name (i := 6) sc__law_teams.nd rfl (by first | exact Or.inl rfl | exact Or.inr rfl)))) (fun _ _ _ _ _ => dts_nil) (fun _ _ _ _ _ => (de_add (de_var (pv 5)) (de_tup (da_cons (ds_d (de_var (pv 6))) da_nil)))))))))) (dss_one (dst_set (i := 2) sc__law_teams.nd rfl (by first | exact Or.inl rfl | exact Or.inr rfl) (de_var (pv 4))))))) (dss_one (dst_ret (de_var (pv 2))))))
abbrev N__law_columns : List Str := ["_law_rows_so", "_law_wide_so", "_law_spot_so", "_law_own"]
abbrev P__law_columns : List Str := ["_law_rows_so"]
theorem sc__law_columns : FnScope N__law_columns P__law_columns (defScope (top 25)) := ⟨rfl, rfl, rfl, by decide +kernel, rfl, by decide +kernel, by decide +kernel⟩
def m__law_columns : List Sl → Mo Dt := mDef 1 4 (mThenS (mSet 1 (mIf (mThenB (mBin neD (mThen (mCons (mD (mVar 0)) mNil) listD) (mLst mNil)) asBool) (mThen (mCons (mD (mBin ixD (mVar 0) (mC (.int 0)))) mNil) lenD) (mC (.int 0)))) (mRet (mList (mLc (mRng1 (mCons (mD (mVar 1)) mNil)) [2] (gN 2) mYes (mThen (mCons (mD (mList (mLc (mSeq (mVar 0)) [3] (gN 3) mYes (mBin ixD (mVar 3) (mVar 2))))) mNil) tupD)))))
theorem ok__law_columns {f : Addr} {fd : FuncData} (Z : Bl mg) (D : Dv K mg "_law_columns" (top 25) P__law_columns f fd) : Has P w K mg base "_law_columns" (top 25) 1 P__law_columns (m__law_columns) := by
  refine has_def (N := N__law_columns) (ps := P__law_columns) (O' := []) D sc__law_columns fun cdv A outer s H E hr => ?_
  exact (dss_cons (dst_set (i := 1) sc__law_columns.nd rfl (by first | exact Or.inl rfl | exact Or.inr rfl) (de_if (dt_ne hr (de_list Z.list (da_cons (ds_d (de_var (pv 0))) da_nil)) (de_lst da_nil)) (de_len Z.len (da_cons (ds_d (de_ix (de_var (pv 0)) de_int)) da_nil)) de_int)) (dss_one (dst_ret (del_de (del_lc rfl sc__law_columns.nd (di_range1 Z.range (da_cons (ds_d (de_var (pv 1))) da_nil)) (own := [("_law_spot_so", 2)]) (blkOk_by (N := N__law_columns) (sc := defScope (top 25)) (by decide +kernel)) (by decide) (fun _ _ _ _ _ => (dg_name (pg_name (i := 2) sc__law_columns.nd rfl (by first | exact Or.inl rfl | exact Or.inr rfl)))) (fun _ _ _ _ _ => dts_nil) (fun _ _ _ _ _ => (de_tuple Z.tuple (da_cons (ds_d (del_de (del_lc rfl sc__law_columns.nd (di_seq (de_var (pv 0))) (own := [("_law_own", 3)]) (blkOk_by (by rfl)) (by decide) (fun _ _ _ _ _ => (dg_name (pg_name (i := 3) sc__law_columns.nd rfl (by first | exact Or.inl rfl | exact Or.inr rfl)))) (fun _ _ _ _ _ => dts_nil) (fun _ _ _ _ _ => (de_ix (de_var (pv 3)) (de_var (pv 2))))))) da_nil))))))))
abbrev N__law_free : List Str := ["_law_book_so", "_law_n_so", "_law_every_so", "_law_told_so", "_law_many_so", "_law_ties_so", "_law_number_so", "_law_kind_so", "_law_team_so", "_law_bit", "_law_own"]
abbrev P__law_free : List Str := ["_law_book_so", "_law_n_so"]
theorem sc__law_free : FnScope N__law_free P__law_free (defScope (top 26)) := ⟨rfl, rfl, rfl, by decide +kernel, rfl, by decide +kernel, by decide +kernel⟩
def m__law_free : List Sl → Mo Dt := mDef 2 11 (mThenS (mParN2 false true 4 5 (mConsS (mD (mBin ixD (mVar 0) (mC (.int 0)))) (mConsL (mLstL mNil) mNilN))) (mThenS (mSet 2 (mCall (m__law_tuples) (mCons (mD (mVar 4)) (mCons (mD (mVar 1)) mNil)))) (mThenS (mFor (mEnumA (mCons (mD (mBin ixD (mVar 0) (mC (.int 2)))) mNil)) (gTupD 2 (gConsD (gN 6) (gConsD (gN 7) gNil))) (mFor (mSeq (mCall (m__law_teams) (mCons (mD (mBin ixD (mVar 7) (mC (.int 1)))) (mCons (mD (mVar 1)) mNil)))) (gN 8) (mApp 5 (mTup (mCons (mD (mVar 6)) (mCons (mD (mThen (mCons (mD (mList (mLc (mSeq (mCall (m__law_columns) (mCons (mD (mVar 8)) mNil))) [10] (gN 10) mYes (mIndex (mVar 2) (mVar 10))))) mNil) tupD)) mNil)))))) (mThenS (mSet 3 (mIf (mThenB (mBin ixD (mVar 0) (mC (.int 1))) truD) (mList (mLc (mRng1 (mCons (mD (mVar 4)) mNil)) [9] (gN 9) mYes (mTup (mCons (mD (mIndex (mVar 2) (mBin mulD (mTup (mCons (mD (mVar 9)) mNil)) (mVar 1)))) (mCons (mD (mVar 9)) mNil))))) (mLst mNil))) (mRet (mTup (mCons (mD (mThen (mCons (mD (mVar 2)) mNil) lenD)) (mCons (mD (mThen (mCons (mD (mThen (mCons (mD (mVar 5)) mNil) ssetD)) mNil) tupD)) (mCons (mD (mThen (mCons (mD (mVar 3)) mNil) tupD)) (mCons (mD (mTup mNil)) mNil))))))))))
theorem ok__law_free {f : Addr} {fd : FuncData} (Z : Bl mg) (D : Dv K mg "_law_free" (top 26) P__law_free f fd) (h__law_tuples : Has P w K mg base "_law_tuples" (top 20) 1 P__law_tuples (m__law_tuples)) (h__law_teams : Has P w K mg base "_law_teams" (top 24) 1 P__law_teams (m__law_teams)) (h__law_columns : Has P w K mg base "_law_columns" (top 25) 1 P__law_columns (m__law_columns)) : Has P w K mg base "_law_free" (top 26) 2 P__law_free (m__law_free) := by
  refine has_def (N := N__law_free) (ps := P__law_free) (O' := []) D sc__law_free fun cdv A outer s H E hr => ?_
  exact (dss_cons (dst_parN2 (i := 4) (j := 5) (k1 := false) (k2 := true) rfl sc__law_free.nd rfl rfl (by decide) rfl rfl (dn_s (ds_d (de_ix (de_var (pv 0)) de_int)) (dn_l (del_lst da_nil) dn_nil)) (by rfl)) (dss_cons (dst_set (i := 2) sc__law_free.nd rfl (by first | exact Or.inl rfl | exact Or.inr rfl) (de_ch h__law_tuples hr (takes_of rfl rfl rfl rfl) (da_cons (ds_d (de_var (pv 4))) (da_cons (ds_d (de_var (pv 1))) da_nil)))) (dss_cons (dst_for (passes_of rfl) rfl (di_enumA Z.enumerate (da_cons (ds_d (de_ix (de_var (pv 0)) de_int)) da_nil)) (dg_tup (k := 0) rfl (dgs_cons (dg_name (pg_name (i := 6) sc__law_free.nd rfl (by first | exact Or.inl rfl | exact Or.inr rfl))) (dgs_cons (dg_name (pg_name (i := 7) sc__law_free.nd rfl (by first | exact Or.inl rfl | exact Or.inr rfl))) dgs_nil'))) (dss_one (dst_for (passes_of rfl) rfl (di_seq (de_ch h__law_teams hr (takes_of rfl rfl rfl rfl) (da_cons (ds_d (de_ix (de_var (pv 7)) de_int)) (da_cons (ds_d (de_var (pv 1))) da_nil)))) (dg_name (pg_name (i := 8) sc__law_free.nd rfl (by first | exact Or.inl rfl | exact Or.inr rfl))) (dss_one (dst_app (i := 5) (pv 5) (de_tup (da_cons (ds_d (de_var (pv 6))) (da_cons (ds_d (de_tuple Z.tuple (da_cons (ds_d (del_de (del_lc rfl sc__law_free.nd (di_seq (de_ch h__law_columns hr (takes_of rfl rfl rfl rfl) (da_cons (ds_d (de_var (pv 8))) da_nil))) (own := [("_law_own", 10)]) (blkOk_by (N := N__law_free) (sc := defScope (top 26)) (by decide +kernel)) (by decide) (fun _ _ _ _ _ => (dg_name (pg_name (i := 10) sc__law_free.nd rfl (by first | exact Or.inl rfl | exact Or.inr rfl)))) (fun _ _ _ _ _ => dts_nil) (fun _ _ _ _ _ => (de_index hr (de_var (pv 2)) (de_var (pv 10))))))) da_nil))) da_nil)))))))) (dss_cons (dst_set (i := 3) sc__law_free.nd rfl (by first | exact Or.inl rfl | exact Or.inr rfl) (de_if (dt_truth (de_ix (de_var (pv 0)) de_int)) (del_de (del_lc rfl sc__law_free.nd (di_range1 Z.range (da_cons (ds_d (de_var (pv 4))) da_nil)) (own := [("_law_bit", 9)]) (blkOk_by (N := N__law_free) (sc := defScope (top 26)) (by decide +kernel)) (by decide) (fun _ _ _ _ _ => (dg_name (pg_name (i := 9) sc__law_free.nd rfl (by first | exact Or.inl rfl | exact Or.inr rfl)))) (fun _ _ _ _ _ => dts_nil) (fun _ _ _ _ _ => (de_tup (da_cons (ds_d (de_index hr (de_var (pv 2)) (de_mul (de_tup (da_cons (ds_d (de_var (pv 9))) da_nil)) (de_var (pv 1))))) (da_cons (ds_d (de_var (pv 9))) da_nil)))))) (de_lst da_nil))) (dss_one (dst_less (O1 := []) (dst_ret (de_tup (da_cons (ds_d (de_len Z.len (da_cons (ds_d (de_var (pv 2))) da_nil))) (da_cons (ds_d (de_tuple Z.tuple (da_cons (ds_d (de_sset hr rfl Z.sorted Z.set (da_cons (ds_d (de_var (pv 5))) da_nil))) da_nil))) (da_cons (ds_d (de_tuple Z.tuple (da_cons (ds_d (de_var (pv 3))) da_nil))) (da_cons (ds_d (de_tup da_nil)) da_nil)))))) (by decide)))))))
abbrev N__law_by_hand_right : List Str := ["_law_got", "_law_due", "_law_spots_so", "_law_all_so", "_law_wide_so", "_law_like_so", "_law_climb_so", "_law_own"]
abbrev P__law_by_hand_right : List Str := []
theorem sc__law_by_hand_right : FnScope N__law_by_hand_right P__law_by_hand_right (defScope (top 27)) := ⟨rfl, rfl, rfl, by decide +kernel, rfl, by decide +kernel, by decide +kernel⟩
def m__law_by_hand_right : List Sl → Mo Dt := mDef 0 8 (mThenS (mAsg (mTup (mCons (mD (mTup (mCons (mD (mC (.int 2))) (mCons (mD (mTup (mCons (mD (mTup (mCons (mD (mC (.int 0))) (mCons (mD (mC (.int 0))) mNil)))) (mCons (mD (mTup (mCons (mD (mC (.int 1))) (mCons (mD (mC (.int 1))) mNil)))) mNil)))) mNil)))) (mCons (mD (mTup (mCons (mD (mC (.int 2))) (mCons (mD (mTup (mCons (mD (mTup (mCons (mD (mC (.int 0))) (mCons (mD (mC (.int 0))) mNil)))) (mCons (mD (mTup (mCons (mD (mC (.int 0))) (mCons (mD (mC (.int 1))) mNil)))) (mCons (mD (mTup (mCons (mD (mC (.int 1))) (mCons (mD (mC (.int 1))) mNil)))) mNil))))) mNil)))) mNil))) (gTupD 2 (gConsD (gN 5) (gConsD (gN 6) gNil)))) (mThenS (mSetL 0 (mLstL (mCons (mD (mCall (m_free_puzzle) (mCons (mD (mTup (mCons (mD (mC (.int 2))) (mCons (mD (mC (.bool false))) (mCons (mD (mTup (mCons (mD (mVar 6)) mNil))) mNil))))) (mCons (mD (mC (.int 1))) mNil)))) (mCons (mD (mCall (m_free_puzzle) (mCons (mD (mTup (mCons (mD (mC (.int 2))) (mCons (mD (mC (.bool true))) (mCons (mD (mTup (mCons (mD (mVar 5)) mNil))) mNil))))) (mCons (mD (mC (.int 2))) mNil)))) mNil)))) (mThenS (mApp 0 (mCall (m_free_puzzle) (mCons (mD (mTup (mCons (mD (mC (.int 1))) (mCons (mD (mC (.bool true))) (mCons (mD (mTup mNil)) mNil))))) (mCons (mD (mC (.int 3))) mNil)))) (mThenS (mSetL 1 (mLstL (mCons (mD (mTup (mCons (mD (mC (.int 2))) (mCons (mD (mTup (mCons (mD (mTup (mCons (mD (mC (.int 0))) (mCons (mD (mTup (mCons (mD (mC (.int 0))) (mCons (mD (mC (.int 0))) mNil)))) mNil)))) (mCons (mD (mTup (mCons (mD (mC (.int 0))) (mCons (mD (mTup (mCons (mD (mC (.int 0))) (mCons (mD (mC (.int 1))) mNil)))) mNil)))) (mCons (mD (mTup (mCons (mD (mC (.int 0))) (mCons (mD (mTup (mCons (mD (mC (.int 1))) (mCons (mD (mC (.int 1))) mNil)))) mNil)))) mNil))))) (mCons (mD (mTup mNil)) (mCons (mD (mTup mNil)) mNil)))))) mNil))) (mThenS (mApp 1 (mTup (mCons (mD (mC (.int 4))) (mCons (mD (mTup (mCons (mD (mTup (mCons (mD (mC (.int 0))) (mCons (mD (mTup (mCons (mD (mC (.int 0))) (mCons (mD (mC (.int 0))) mNil)))) mNil)))) (mCons (mD (mTup (mCons (mD (mC (.int 0))) (mCons (mD (mTup (mCons (mD (mC (.int 1))) (mCons (mD (mC (.int 1))) mNil)))) mNil)))) (mCons (mD (mTup (mCons (mD (mC (.int 0))) (mCons (mD (mTup (mCons (mD (mC (.int 2))) (mCons (mD (mC (.int 2))) mNil)))) mNil)))) (mCons (mD (mTup (mCons (mD (mC (.int 0))) (mCons (mD (mTup (mCons (mD (mC (.int 3))) (mCons (mD (mC (.int 3))) mNil)))) mNil)))) mNil)))))) (mCons (mD (mTup (mCons (mD (mTup (mCons (mD (mC (.int 0))) (mCons (mD (mC (.int 0))) mNil)))) (mCons (mD (mTup (mCons (mD (mC (.int 3))) (mCons (mD (mC (.int 1))) mNil)))) mNil)))) (mCons (mD (mTup mNil)) mNil)))))) (mThenS (mApp 1 (mTup (mCons (mD (mC (.int 1))) (mCons (mD (mTup mNil)) (mCons (mD (mTup (mCons (mD (mTup (mCons (mD (mC (.int 0))) (mCons (mD (mC (.int 0))) mNil)))) mNil))) (mCons (mD (mTup mNil)) mNil)))))) (mThenS (mApp 0 (mCall (m_free_puzzle) (mCons (mD (mTup (mCons (mD (mC (.int 2))) (mCons (mD (mC (.bool false))) (mCons (mD (mTup (mCons (mD (mVar 6)) mNil))) mNil))))) (mCons (mD (mC (.int 2))) mNil)))) (mThenS (mSet 2 (mLst (mCons (mD (mTup (mCons (mD (mC (.int 0))) (mCons (mD (mC (.int 0))) mNil)))) (mCons (mD (mTup (mCons (mD (mC (.int 0))) (mCons (mD (mC (.int 1))) mNil)))) (mCons (mD (mTup (mCons (mD (mC (.int 0))) (mCons (mD (mC (.int 2))) mNil)))) (mCons (mD (mTup (mCons (mD (mC (.int 0))) (mCons (mD (mC (.int 3))) mNil)))) (mCons (mD (mTup (mCons (mD (mC (.int 1))) (mCons (mD (mC (.int 1))) mNil)))) (mCons (mD (mTup (mCons (mD (mC (.int 1))) (mCons (mD (mC (.int 3))) mNil)))) (mCons (mD (mTup (mCons (mD (mC (.int 2))) (mCons (mD (mC (.int 2))) mNil)))) (mCons (mD (mTup (mCons (mD (mC (.int 2))) (mCons (mD (mC (.int 3))) mNil)))) (mCons (mD (mTup (mCons (mD (mC (.int 3))) (mCons (mD (mC (.int 3))) mNil)))) mNil))))))))))) (mThenS (mApp 1 (mTup (mCons (mD (mC (.int 4))) (mCons (mD (mThen (mCons (mD (mList (mLc (mSeq (mVar 2)) [7] (gN 7) mYes (mTup (mCons (mD (mC (.int 0))) (mCons (mD (mVar 7)) mNil)))))) mNil) tupD)) (mCons (mD (mTup mNil)) (mCons (mD (mTup mNil)) mNil)))))) (mThenS (mApp 0 (mCall (m_free_puzzle) (mCons (mD (mTup (mCons (mD (mC (.int 3))) (mCons (mD (mC (.bool true))) (mCons (mD (mTup (mCons (mD (mTup (mCons (mD (mC (.int 1))) (mCons (mD (mTup mNil)) mNil)))) (mCons (mD (mTup (mCons (mD (mC (.int 1))) (mCons (mD (mTup (mCons (mD (mTup (mCons (mD (mC (.int 2))) mNil))) mNil))) mNil)))) mNil)))) mNil))))) (mCons (mD (mC (.int 2))) mNil)))) (mThenS (mApp 1 (mTup (mCons (mD (mC (.int 9))) (mCons (mD (mTup (mCons (mD (mTup (mCons (mD (mC (.int 1))) (mCons (mD (mTup (mCons (mD (mC (.int 8))) mNil))) mNil)))) mNil))) (mCons (mD (mTup (mCons (mD (mTup (mCons (mD (mC (.int 0))) (mCons (mD (mC (.int 0))) mNil)))) (mCons (mD (mTup (mCons (mD (mC (.int 4))) (mCons (mD (mC (.int 1))) mNil)))) (mCons (mD (mTup (mCons (mD (mC (.int 8))) (mCons (mD (mC (.int 2))) mNil)))) mNil))))) (mCons (mD (mTup mNil)) mNil)))))) (mThenS (mApp 0 (mCall (m_free_puzzle) (mCons (mD (mTup (mCons (mD (mC (.int 3))) (mCons (mD (mC (.bool false))) (mCons (mD (mBin mulD (mTup (mCons (mD (mTup (mCons (mD (mC (.int 1))) (mCons (mD (mTup (mCons (mD (mTup (mCons (mD (mC (.int 0))) mNil))) (mCons (mD (mTup (mCons (mD (mC (.int 2))) mNil))) mNil)))) mNil)))) mNil)) (mC (.int 2)))) mNil))))) (mCons (mD (mC (.int 1))) mNil)))) (mThenS (mApp 1 (mTup (mCons (mD (mC (.int 3))) (mCons (mD (mTup (mCons (mD (mTup (mCons (mD (mC (.int 0))) (mCons (mD (mTup (mCons (mD (mC (.int 0))) mNil))) mNil)))) (mCons (mD (mTup (mCons (mD (mC (.int 0))) (mCons (mD (mTup (mCons (mD (mC (.int 2))) mNil))) mNil)))) (mCons (mD (mTup (mCons (mD (mC (.int 1))) (mCons (mD (mTup (mCons (mD (mC (.int 0))) mNil))) mNil)))) (mCons (mD (mTup (mCons (mD (mC (.int 1))) (mCons (mD (mTup (mCons (mD (mC (.int 2))) mNil))) mNil)))) mNil)))))) (mCons (mD (mTup mNil)) (mCons (mD (mTup mNil)) mNil)))))) (mThenS (mApp 0 (mCall (m_free_puzzle) (mCons (mD (mTup (mCons (mD (mC (.int 3))) (mCons (mD (mC (.bool false))) (mCons (mD (mTup (mCons (mD (mTup (mCons (mD (mC (.int 3))) (mCons (mD (mTup (mCons (mD (mTup (mCons (mD (mC (.int 0))) (mCons (mD (mC (.int 1))) (mCons (mD (mC (.int 2))) mNil))))) (mCons (mD (mTup (mCons (mD (mC (.int 2))) (mCons (mD (mC (.int 0))) (mCons (mD (mC (.int 0))) mNil))))) mNil)))) mNil)))) mNil))) mNil))))) (mCons (mD (mC (.int 2))) mNil)))) (mThenS (mApp 1 (mTup (mCons (mD (mC (.int 9))) (mCons (mD (mTup (mCons (mD (mTup (mCons (mD (mC (.int 0))) (mCons (mD (mTup (mCons (mD (mC (.int 0))) (mCons (mD (mC (.int 4))) (mCons (mD (mC (.int 8))) mNil))))) mNil)))) (mCons (mD (mTup (mCons (mD (mC (.int 0))) (mCons (mD (mTup (mCons (mD (mC (.int 2))) (mCons (mD (mC (.int 3))) (mCons (mD (mC (.int 6))) mNil))))) mNil)))) (mCons (mD (mTup (mCons (mD (mC (.int 0))) (mCons (mD (mTup (mCons (mD (mC (.int 6))) (mCons (mD (mC (.int 1))) (mCons (mD (mC (.int 2))) mNil))))) mNil)))) (mCons (mD (mTup (mCons (mD (mC (.int 0))) (mCons (mD (mTup (mCons (mD (mC (.int 8))) (mCons (mD (mC (.int 0))) (mCons (mD (mC (.int 0))) mNil))))) mNil)))) mNil)))))) (mCons (mD (mTup mNil)) (mCons (mD (mTup mNil)) mNil)))))) (mThenS (mSet 3 (mTup (mCons (mD (mC (.int 2))) (mCons (mD (mC (.bool true))) (mCons (mD (mTup (mCons (mD (mTup (mCons (mD (mC (.int 3))) (mCons (mD (mThen (mCons (mD (mCall (m__law_tuples) (mCons (mD (mC (.int 2))) (mCons (mD (mC (.int 3))) mNil)))) mNil) tupD)) mNil)))) mNil))) mNil))))) (mThenS (mSet 4 (mCall (m_free_puzzle) (mCons (mD (mVar 3)) (mCons (mD (mC (.int 3))) mNil)))) (mThenS (mSetL 0 (mAddL (mVar 0) (mLst (mCons (mD (mBin ixD (mVar 4) (mC (.int 0)))) (mCons (mD (mThen (mCons (mD (mBin ixD (mVar 4) (mC (.int 1)))) mNil) lenD)) (mCons (mD (mBin ixD (mVar 4) (mC (.int 2)))) (mCons (mD (mSlice (mBin ixD (mVar 4) (mC (.int 1))) mNoPart (mPart (mC (.int 1))))) (mCons (mD (mSlice (mBin ixD (mVar 4) (mC (.int 1))) (mPart (mThen (mC (.int 1)) negD)) mNoPart)) mNil)))))))) (mThenS (mApp 0 (mCall (m_free_puzzle) (mCons (mD (mTup (mCons (mD (mC (.int 2))) (mCons (mD (mC (.bool false))) (mCons (mD (mTup mNil)) mNil))))) (mCons (mD (mC (.int 3))) mNil)))) (mThenS (mSetL 1 (mAddL (mVar 1) (mLst (mCons (mD (mC (.int 8))) (mCons (mD (mC (.int 512))) (mCons (mD (mTup (mCons (mD (mTup (mCons (mD (mC (.int 0))) (mCons (mD (mC (.int 0))) mNil)))) (mCons (mD (mTup (mCons (mD (mC (.int 7))) (mCons (mD (mC (.int 1))) mNil)))) mNil)))) (mCons (mD (mTup (mCons (mD (mTup (mCons (mD (mC (.int 0))) (mCons (mD (mTup (mCons (mD (mC (.int 0))) (mCons (mD (mC (.int 0))) (mCons (mD (mC (.int 0))) mNil))))) mNil)))) mNil))) (mCons (mD (mTup (mCons (mD (mTup (mCons (mD (mC (.int 0))) (mCons (mD (mTup (mCons (mD (mC (.int 7))) (mCons (mD (mC (.int 7))) (mCons (mD (mC (.int 7))) mNil))))) mNil)))) mNil))) (mCons (mD (mTup (mCons (mD (mC (.int 8))) (mCons (mD (mTup mNil)) (mCons (mD (mTup mNil)) (mCons (mD (mTup mNil)) mNil)))))) mNil))))))))) (mThenS (mApp 0 (mCallK [1, 0] (m_free_puzzle) (mCons (mD (mC (.int 2))) (mCons (mD (mLst (mCons (mD (mC (.int 2))) (mCons (mD (mC (.bool true))) (mCons (mD (mLst (mCons (mD (mLst (mCons (mD (mC (.int 2))) (mCons (mD (mLst (mCons (mD (mLst (mCons (mD (mC (.int 0))) (mCons (mD (mC (.int 0))) mNil)))) (mCons (mD (mLst (mCons (mD (mC (.int 1))) (mCons (mD (mC (.int 1))) mNil)))) mNil)))) mNil)))) mNil))) mNil))))) mNil)))) (mThenS (mApp 0 (mCallK [1, 0] (m_place_of) (mCons (mD (mLst (mCons (mD (mC (.int 2))) (mCons (mD (mC (.int 1))) mNil)))) (mCons (mD (mLst (mCons (mD (mC (.int 3))) (mCons (mD (mC (.bool false))) (mCons (mD (mLst mNil)) mNil))))) mNil)))) (mRet (mCall (m__law_same 14) (mCons (mD (mVar 0)) (mCons (mD (mBin addD (mVar 1) (mLst (mCons (mD (mBin ixD (mVar 1) (mC (.int 1)))) (mCons (mD (mC (.int 7))) mNil))))) mNil))))))))))))))))))))))))))
theorem ok__law_by_hand_right {f : Addr} {fd : FuncData} (Z : Bl mg) (D : Dv K mg "_law_by_hand_right" (top 27) P__law_by_hand_right f fd) (h_free_puzzle : Has P w K mg base "free_puzzle" (top 11) 15 P_free_puzzle (m_free_puzzle)) (h__law_same : Has P w K mg base "_law_same" (top 16) 14 P__law_same (m__law_same 14)) (h_place_of : Has P w K mg base "place_of" (top 7) 2 P_place_of (m_place_of)) (h__law_tuples : Has P w K mg base "_law_tuples" (top 20) 1 P__law_tuples (m__law_tuples)) : Has P w K mg base "_law_by_hand_right" (top 27) 16 P__law_by_hand_right (m__law_by_hand_right) := by
  refine has_def (N := N__law_by_hand_right) (ps := P__law_by_hand_right) (O' := []) D sc__law_by_hand_right fun cdv A outer s H E hr => ?_
  exact (dss_cons (dst_asg (de_tup (da_cons (ds_d (de_tup (da_cons (ds_d de_int) (da_cons (ds_d (de_tup (da_cons (ds_d (de_tup (da_cons (ds_d de_int) (da_cons (ds_d de_int) da_nil)))) (da_cons (ds_d (de_tup (da_cons (ds_d de_int) (da_cons (ds_d de_int) da_nil)))) da_nil)))) da_nil)))) (da_cons (ds_d (de_tup (da_cons (ds_d de_int) (da_cons (ds_d (de_tup (da_cons (ds_d (de_tup (da_cons (ds_d de_int) (da_cons (ds_d de_int) da_nil)))) (da_cons (ds_d (de_tup (da_cons (ds_d de_int) (da_cons (ds_d de_int) da_nil)))) (da_cons (ds_d (de_tup (da_cons (ds_d de_int) (da_cons (ds_d de_int) da_nil)))) da_nil))))) da_nil)))) da_nil))) (dg_tup (k := 0) rfl (dgs_cons (dg_name (pg_name (i := 5) sc__law_by_hand_right.nd rfl (by first | exact Or.inl rfl | exact Or.inr rfl))) (dgs_cons (dg_name (pg_name (i := 6) sc__law_by_hand_right.nd rfl (by first | exact Or.inl rfl | exact Or.inr rfl))) dgs_nil')))) (dss_cons (dst_setL (i := 0) sc__law_by_hand_right.nd rfl (by first | exact Or.inl rfl | exact Or.inr rfl) (del_lst (da_cons (ds_d (de_ch h_free_puzzle hr (takes_of rfl rfl rfl rfl) (da_cons (ds_d (de_tup (da_cons (ds_d de_int) (da_cons (ds_d de_bl) (da_cons (ds_d (de_tup (da_cons (ds_d (de_var (pv 6))) da_nil))) da_nil))))) (da_cons (ds_d de_int) da_nil)))) (da_cons (ds_d (de_ch h_free_puzzle hr (takes_of rfl rfl rfl rfl) (da_cons (ds_d (de_tup (da_cons (ds_d de_int) (da_cons (ds_d de_bl) (da_cons (ds_d (de_tup (da_cons (ds_d (de_var (pv 5))) da_nil))) da_nil))))) (da_cons (ds_d de_int) da_nil)))) da_nil)))) (dss_cons (dst_app (i := 0) (pv 0) (de_ch h_free_puzzle hr (takes_of rfl rfl rfl rfl) (da_cons (ds_d (de_tup (da_cons (ds_d de_int) (da_cons (ds_d de_bl) (da_cons (ds_d (de_tup da_nil)) da_nil))))) (da_cons (ds_d de_int) da_nil)))) (dss_cons (dst_setL (i := 1) sc__law_by_hand_right.nd rfl (by first | exact Or.inl rfl | exact Or.inr rfl) (del_lst (da_cons (ds_d (de_tup (da_cons (ds_d de_int) (da_cons (ds_d (de_tup (da_cons (ds_d (de_tup (da_cons (ds_d de_int) (da_cons (ds_d (de_tup (da_cons (ds_d de_int) (da_cons (ds_d de_int) da_nil)))) da_nil)))) (da_cons (ds_d (de_tup (da_cons (ds_d de_int) (da_cons (ds_d (de_tup (da_cons (ds_d de_int) (da_cons (ds_d de_int) da_nil)))) da_nil)))) (da_cons (ds_d (de_tup (da_cons (ds_d de_int) (da_cons (ds_d (de_tup (da_cons (ds_d de_int) (da_cons (ds_d de_int) da_nil)))) da_nil)))) da_nil))))) (da_cons (ds_d (de_tup da_nil)) (da_cons (ds_d (de_tup da_nil)) da_nil)))))) da_nil))) (dss_cons (dst_app (i := 1) (pv 1) (de_tup (da_cons (ds_d de_int) (da_cons (ds_d (de_tup (da_cons (ds_d (de_tup (da_cons (ds_d de_int) (da_cons (ds_d (de_tup (da_cons (ds_d de_int) (da_cons (ds_d de_int) da_nil)))) da_nil)))) (da_cons (ds_d (de_tup (da_cons (ds_d de_int) (da_cons (ds_d (de_tup (da_cons (ds_d de_int) (da_cons (ds_d de_int) da_nil)))) da_nil)))) (da_cons (ds_d (de_tup (da_cons (ds_d de_int) (da_cons (ds_d (de_tup (da_cons (ds_d de_int) (da_cons (ds_d de_int) da_nil)))) da_nil)))) (da_cons (ds_d (de_tup (da_cons (ds_d de_int) (da_cons (ds_d (de_tup (da_cons (ds_d de_int) (da_cons (ds_d de_int) da_nil)))) da_nil)))) da_nil)))))) (da_cons (ds_d (de_tup (da_cons (ds_d (de_tup (da_cons (ds_d de_int) (da_cons (ds_d de_int) da_nil)))) (da_cons (ds_d (de_tup (da_cons (ds_d de_int) (da_cons (ds_d de_int) da_nil)))) da_nil)))) (da_cons (ds_d (de_tup da_nil)) da_nil)))))) (dss_cons (dst_app (i := 1) (pv 1) (de_tup (da_cons (ds_d de_int) (da_cons (ds_d (de_tup da_nil)) (da_cons (ds_d (de_tup (da_cons (ds_d (de_tup (da_cons (ds_d de_int) (da_cons (ds_d de_int) da_nil)))) da_nil))) (da_cons (ds_d (de_tup da_nil)) da_nil)))))) (dss_cons (dst_app (i := 0) (pv 0) (de_ch h_free_puzzle hr (takes_of rfl rfl rfl rfl) (da_cons (ds_d (de_tup (da_cons (ds_d de_int) (da_cons (ds_d de_bl) (da_cons (ds_d (de_tup (da_cons (ds_d (de_var (pv 6))) da_nil))) da_nil))))) (da_cons (ds_d de_int) da_nil)))) (dss_cons (dst_set (i := 2) sc__law_by_hand_right.nd rfl (by first | exact Or.inl rfl | exact Or.inr rfl) (de_lst (da_cons (ds_d (de_tup (da_cons (ds_d de_int) (da_cons (ds_d de_int) da_nil)))) (da_cons (ds_d (de_tup (da_cons (ds_d de_int) (da_cons (ds_d de_int) da_nil)))) (da_cons (ds_d (de_tup (da_cons (ds_d de_int) (da_cons (ds_d de_int) da_nil)))) (da_cons (ds_d (de_tup (da_cons (ds_d de_int) (da_cons (ds_d de_int) da_nil)))) (da_cons (ds_d (de_tup (da_cons (ds_d de_int) (da_cons (ds_d de_int) da_nil)))) (da_cons (ds_d (de_tup (da_cons (ds_d de_int) (da_cons (ds_d de_int) da_nil)))) (da_cons (ds_d (de_tup (da_cons (ds_d de_int) (da_cons (ds_d de_int) da_nil)))) (da_cons (ds_d (de_tup (da_cons (ds_d de_int) (da_cons (ds_d de_int) da_nil)))) (da_cons (ds_d (de_tup (da_cons (ds_d de_int) (da_cons (ds_d de_int) da_nil)))) da_nil))))))))))) (dss_cons (dst_app (i := 1) (pv 1) (de_tup (da_cons (ds_d de_int) (da_cons (ds_d (de_tuple Z.tuple (da_cons (ds_d (del_de (del_lc rfl sc__law_by_hand_right.nd (di_seq (de_var (pv 2))) (own := [("_law_own", 7)]) (blkOk_by (N := N__law_by_hand_right) (sc := defScope (top 27)) (by decide +kernel)) (by decide) (fun _ _ _ _ _ => (dg_name (pg_name (i := 7) sc__law_by_hand_right.nd rfl (by first | exact Or.inl rfl | exact Or.inr rfl)))) (fun _ _ _ _ _ => dts_nil) (fun _ _ _ _ _ => (de_tup (da_cons (ds_d de_int) (da_cons (ds_d (de_var (pv 7))) da_nil))))))) da_nil))) (da_cons (ds_d (de_tup da_nil)) (da_cons (ds_d (de_tup da_nil)) da_nil)))))) (dss_cons (dst_app (i := 0) (pv 0) (de_ch h_free_puzzle hr (takes_of rfl rfl rfl rfl) (da_cons (ds_d (de_tup (da_cons (ds_d de_int) (da_cons (ds_d de_bl) (da_cons (ds_d (de_tup (da_cons (ds_d (de_tup (da_cons (ds_d de_int) (da_cons (ds_d (de_tup da_nil)) da_nil)))) (da_cons (ds_d (de_tup (da_cons (ds_d de_int) (da_cons (ds_d (de_tup (da_cons (ds_d (de_tup (da_cons (ds_d de_int) da_nil))) da_nil))) da_nil)))) da_nil)))) da_nil))))) (da_cons (ds_d de_int) da_nil)))) (dss_cons (dst_app (i := 1) (pv 1) (de_tup (da_cons (ds_d de_int) (da_cons (ds_d (de_tup (da_cons (ds_d (de_tup (da_cons (ds_d de_int) (da_cons (ds_d (de_tup (da_cons (ds_d de_int) da_nil))) da_nil)))) da_nil))) (da_cons (ds_d (de_tup (da_cons (ds_d (de_tup (da_cons (ds_d de_int) (da_cons (ds_d de_int) da_nil)))) (da_cons (ds_d (de_tup (da_cons (ds_d de_int) (da_cons (ds_d de_int) da_nil)))) (da_cons (ds_d (de_tup (da_cons (ds_d de_int) (da_cons (ds_d de_int) da_nil)))) da_nil))))) (da_cons (ds_d (de_tup da_nil)) da_nil)))))) (dss_cons (dst_app (i := 0) (pv 0) (de_ch h_free_puzzle hr (takes_of rfl rfl rfl rfl) (da_cons (ds_d (de_tup (da_cons (ds_d de_int) (da_cons (ds_d de_bl) (da_cons (ds_d (de_mul (de_tup (da_cons (ds_d (de_tup (da_cons (ds_d de_int) (da_cons (ds_d (de_tup (da_cons (ds_d (de_tup (da_cons (ds_d de_int) da_nil))) (da_cons (ds_d (de_tup (da_cons (ds_d de_int) da_nil))) da_nil)))) da_nil)))) da_nil)) de_int)) da_nil))))) (da_cons (ds_d de_int) da_nil)))) (dss_cons (dst_app (i := 1) (pv 1) (de_tup (da_cons (ds_d de_int) (da_cons (ds_d (de_tup (da_cons (ds_d (de_tup (da_cons (ds_d de_int) (da_cons (ds_d (de_tup (da_cons (ds_d de_int) da_nil))) da_nil)))) (da_cons (ds_d (de_tup (da_cons (ds_d de_int) (da_cons (ds_d (de_tup (da_cons (ds_d de_int) da_nil))) da_nil)))) (da_cons (ds_d (de_tup (da_cons (ds_d de_int) (da_cons (ds_d (de_tup (da_cons (ds_d de_int) da_nil))) da_nil)))) (da_cons (ds_d (de_tup (da_cons (ds_d de_int) (da_cons (ds_d (de_tup (da_cons (ds_d de_int) da_nil))) da_nil)))) da_nil)))))) (da_cons (ds_d (de_tup da_nil)) (da_cons (ds_d (de_tup da_nil)) da_nil)))))) (dss_cons (dst_app (i := 0) (pv 0) (de_ch h_free_puzzle hr (takes_of rfl rfl rfl rfl) (da_cons (ds_d (de_tup (da_cons (ds_d de_int) (da_cons (ds_d de_bl) (da_cons (ds_d (de_tup (da_cons (ds_d (de_tup (da_cons (ds_d de_int) (da_cons (ds_d (de_tup (da_cons (ds_d (de_tup (da_cons (ds_d de_int) (da_cons (ds_d de_int) (da_cons (ds_d de_int) da_nil))))) (da_cons (ds_d (de_tup (da_cons (ds_d de_int) (da_cons (ds_d de_int) (da_cons (ds_d de_int) da_nil))))) da_nil)))) da_nil)))) da_nil))) da_nil))))) (da_cons (ds_d de_int) da_nil)))) (dss_cons (dst_app (i := 1) (pv 1) (de_tup (da_cons (ds_d de_int) (da_cons (ds_d (de_tup (da_cons (ds_d (de_tup (da_cons (ds_d de_int) (da_cons (ds_d (de_tup (da_cons (ds_d de_int) (da_cons (ds_d de_int) (da_cons (ds_d de_int) da_nil))))) da_nil)))) (da_cons (ds_d (de_tup (da_cons (ds_d de_int) (da_cons (ds_d (de_tup (da_cons (ds_d de_int) (da_cons (ds_d de_int) (da_cons (ds_d de_int) da_nil))))) da_nil)))) (da_cons (ds_d (de_tup (da_cons (ds_d de_int) (da_cons (ds_d (de_tup (da_cons (ds_d de_int) (da_cons (ds_d de_int) (da_cons (ds_d de_int) da_nil))))) da_nil)))) (da_cons (ds_d (de_tup (da_cons (ds_d de_int) (da_cons (ds_d (de_tup (da_cons (ds_d de_int) (da_cons (ds_d de_int) (da_cons (ds_d de_int) da_nil))))) da_nil)))) da_nil)))))) (da_cons (ds_d (de_tup da_nil)) (da_cons (ds_d (de_tup da_nil)) da_nil)))))) (dss_cons (dst_set (i := 3) sc__law_by_hand_right.nd rfl (by first | exact Or.inl rfl | exact Or.inr rfl) (de_tup (da_cons (ds_d de_int) (da_cons (ds_d de_bl) (da_cons (ds_d (de_tup (da_cons (ds_d (de_tup (da_cons (ds_d de_int) (da_cons (ds_d (de_tuple Z.tuple (da_cons (ds_d (de_ch h__law_tuples hr (takes_of rfl rfl rfl rfl) (da_cons (ds_d de_int) (da_cons (ds_d de_int) da_nil)))) da_nil))) da_nil)))) da_nil))) da_nil))))) (dss_cons (dst_set (i := 4) sc__law_by_hand_right.nd rfl (by first | exact Or.inl rfl | exact Or.inr rfl) (de_ch h_free_puzzle hr (takes_of rfl rfl rfl rfl) (da_cons (ds_d (de_var (pv 3))) (da_cons (ds_d de_int) da_nil)))) (dss_cons (dst_less (O1 := [1]) (dst_setL (i := 0) sc__law_by_hand_right.nd rfl (by first | exact Or.inl rfl | exact Or.inr rfl) (del_add (de_var (pv 0)) (de_lst (da_cons (ds_d (de_ix (de_var (pv 4)) de_int)) (da_cons (ds_d (de_len Z.len (da_cons (ds_d (de_ix (de_var (pv 4)) de_int)) da_nil))) (da_cons (ds_d (de_ix (de_var (pv 4)) de_int)) (da_cons (ds_d (de_slice (de_ix (de_var (pv 4)) de_int) do_none (do_some de_int))) (da_cons (ds_d (de_slice (de_ix (de_var (pv 4)) de_int) (do_some (de_neg de_int)) do_none)) da_nil)))))))) (by decide)) (dss_cons (dst_app (i := 0) (pv 0) (de_ch h_free_puzzle hr (takes_of rfl rfl rfl rfl) (da_cons (ds_d (de_tup (da_cons (ds_d de_int) (da_cons (ds_d de_bl) (da_cons (ds_d (de_tup da_nil)) da_nil))))) (da_cons (ds_d de_int) da_nil)))) (dss_cons (dst_less (O1 := [0]) (dst_setL (i := 1) sc__law_by_hand_right.nd rfl (by first | exact Or.inl rfl | exact Or.inr rfl) (del_add (de_var (pv 1)) (de_lst (da_cons (ds_d de_int) (da_cons (ds_d de_int) (da_cons (ds_d (de_tup (da_cons (ds_d (de_tup (da_cons (ds_d de_int) (da_cons (ds_d de_int) da_nil)))) (da_cons (ds_d (de_tup (da_cons (ds_d de_int) (da_cons (ds_d de_int) da_nil)))) da_nil)))) (da_cons (ds_d (de_tup (da_cons (ds_d (de_tup (da_cons (ds_d de_int) (da_cons (ds_d (de_tup (da_cons (ds_d de_int) (da_cons (ds_d de_int) (da_cons (ds_d de_int) da_nil))))) da_nil)))) da_nil))) (da_cons (ds_d (de_tup (da_cons (ds_d (de_tup (da_cons (ds_d de_int) (da_cons (ds_d (de_tup (da_cons (ds_d de_int) (da_cons (ds_d de_int) (da_cons (ds_d de_int) da_nil))))) da_nil)))) da_nil))) (da_cons (ds_d (de_tup (da_cons (ds_d de_int) (da_cons (ds_d (de_tup da_nil)) (da_cons (ds_d (de_tup da_nil)) (da_cons (ds_d (de_tup da_nil)) da_nil)))))) da_nil))))))))) (by decide)) (dss_cons (dst_app (i := 0) (pv 0) (de_chk (ks := ["k", "book"]) (ix := [1, 0]) h_free_puzzle hr (takes_of rfl rfl rfl rfl) (dk_cons (ds_d de_int) (dk_cons (ds_d (de_lst (da_cons (ds_d de_int) (da_cons (ds_d de_bl) (da_cons (ds_d (de_lst (da_cons (ds_d (de_lst (da_cons (ds_d de_int) (da_cons (ds_d (de_lst (da_cons (ds_d (de_lst (da_cons (ds_d de_int) (da_cons (ds_d de_int) da_nil)))) (da_cons (ds_d (de_lst (da_cons (ds_d de_int) (da_cons (ds_d de_int) da_nil)))) da_nil)))) da_nil)))) da_nil))) da_nil))))) dk_nil)) (fun _ _ _ _ _ _ us hl => match us, hl with | [_, _], _ => rfl))) (dss_cons (dst_app (i := 0) (pv 0) (de_chk (ks := ["values", "book"]) (ix := [1, 0]) h_place_of hr (takes_of rfl rfl rfl rfl) (dk_cons (ds_d (de_lst (da_cons (ds_d de_int) (da_cons (ds_d de_int) da_nil)))) (dk_cons (ds_d (de_lst (da_cons (ds_d de_int) (da_cons (ds_d de_bl) (da_cons (ds_d (de_lst da_nil)) da_nil))))) dk_nil)) (fun _ _ _ _ _ _ us hl => match us, hl with | [_, _], _ => rfl))) (dss_one (dst_less (O1 := []) (dst_ret (de_ch h__law_same hr (takes_of rfl rfl rfl rfl) (da_cons (ds_d (de_var (pv 0))) (da_cons (ds_d (de_add (de_var (pv 1)) (de_lst (da_cons (ds_d (de_ix (de_var (pv 1)) de_int)) (da_cons (ds_d de_int) da_nil))))) da_nil)))) (by decide)))))))))))))))))))))))))
abbrev N__law_right : List Str := ["_law_box_here", "_law_lap", "_law_book_so", "_law_soft", "_law_n_so", "_law_due", "_law_got"]
abbrev P__law_right : List Str := ["_law_box_here"]
theorem sc__law_right : FnScope N__law_right P__law_right (defScope (top 28)) := ⟨rfl, rfl, rfl, by decide +kernel, rfl, by decide +kernel, by decide +kernel⟩
def m__law_right : List Sl → Mo Dt := mDef 1 7 (mThenS (mFor (mRng1 (mCons (mD (mC (.int 2))) mNil)) (gN 1) (mThenS (mSet 2 (mCall (m__law_book) (mCons (mSl 0) (mCons (mD (mC (.int 2))) mNil)))) (mThenS (mSet 3 (mCall (m__law_lists 14) (mCons (mD (mVar 2)) mNil))) (mFor (mRng2 (mCons (mD (mC (.int 1))) (mCons (mD (mIf (mOr (mThenB (mBin gtD (mBin ixD (mVar 2) (mC (.int 0))) (mC (.int 2))) asBool) (mThenB (mBin eqD (mCall (m__law_take) (mCons (mSl 0) (mCons (mD (mC (.int 2))) mNil))) (mC (.int 0))) asBool)) (mC (.int 3)) (mC (.int 4)))) mNil))) (gN 4) (mThenS (mSet 5 (mCall (m__law_free) (mCons (mD (mVar 2)) (mCons (mD (mVar 4)) mNil)))) (mThenS (mSet 6 (mLst (mCons (mD (mCall (m_free_puzzle) (mCons (mD (mVar 2)) (mCons (mD (mVar 4)) mNil)))) (mCons (mD (mCall (m_free_puzzle) (mCons (mD (mVar 3)) (mCons (mD (mVar 4)) mNil)))) (mCons (mD (mVar 3)) mNil))))) (mIfS (mNot (mThenB (mCall (m__law_same 14) (mCons (mD (mVar 6)) (mCons (mD (mLst (mCons (mD (mVar 5)) (mCons (mD (mVar 5)) (mCons (mD (mCall (m__law_lists 14) (mCons (mD (mVar 2)) mNil))) mNil))))) mNil))) truD)) (mRet (mC (.bool false))) mNx))))))) (mRet (mC (.bool true))))
theorem ok__law_right {f : Addr} {fd : FuncData} (Z : Bl mg) (D : Dv K mg "_law_right" (top 28) P__law_right f fd) (h__law_book : Has P w K mg base "_law_book" (top 23) 4 P__law_book (m__law_book)) (h__law_lists : Has P w K mg base "_law_lists" (top 17) 14 P__law_lists (m__law_lists 14)) (h__law_free : Has P w K mg base "_law_free" (top 26) 2 P__law_free (m__law_free)) (h_free_puzzle : Has P w K mg base "free_puzzle" (top 11) 15 P_free_puzzle (m_free_puzzle)) (h__law_same : Has P w K mg base "_law_same" (top 16) 14 P__law_same (m__law_same 14)) (h__law_take : Has P w K mg base "_law_take" (top 14) 1 P__law_take (m__law_take)) : Has P w K mg base "_law_right" (top 28) 16 P__law_right (m__law_right) := by
  refine has_def (N := N__law_right) (ps := P__law_right) (O' := []) D sc__law_right fun cdv A outer s H E hr => ?_
  exact (dss_cons (dst_for (passes_of rfl) rfl (di_range1 Z.range (da_cons (ds_d de_int) da_nil)) (dg_name (pg_name (i := 1) sc__law_right.nd rfl (by first | exact Or.inl rfl | exact Or.inr rfl))) (dss_cons (dst_set (i := 2) sc__law_right.nd rfl (by first | exact Or.inl rfl | exact Or.inr rfl) (de_ch h__law_book hr (takes_of rfl rfl rfl rfl) (da_cons (ds_var (pv 0)) (da_cons (ds_d de_int) da_nil)))) (dss_cons (dst_set (i := 3) sc__law_right.nd rfl (by first | exact Or.inl rfl | exact Or.inr rfl) (de_ch h__law_lists hr (takes_of rfl rfl rfl rfl) (da_cons (ds_d (de_var (pv 2))) da_nil))) (dss_one (dst_for (passes_of rfl) rfl (di_range2 Z.range (da_cons (ds_d de_int) (da_cons (ds_d (de_if (dt_w (dw_or (dt_gt (de_ix (de_var (pv 2)) de_int) de_int) (dw_or1 (dt_eq hr (de_ch h__law_take hr (takes_of rfl rfl rfl rfl) (da_cons (ds_var (pv 0)) (da_cons (ds_d de_int) da_nil))) de_int)))) de_int de_int)) da_nil))) (dg_name (pg_name (i := 4) sc__law_right.nd rfl (by first | exact Or.inl rfl | exact Or.inr rfl))) (dss_cons (dst_set (i := 5) sc__law_right.nd rfl (by first | exact Or.inl rfl | exact Or.inr rfl) (de_ch h__law_free hr (takes_of rfl rfl rfl rfl) (da_cons (ds_d (de_var (pv 2))) (da_cons (ds_d (de_var (pv 4))) da_nil)))) (dss_cons (dst_set (i := 6) sc__law_right.nd rfl (by first | exact Or.inl rfl | exact Or.inr rfl) (de_lst (da_cons (ds_d (de_ch h_free_puzzle hr (takes_of rfl rfl rfl rfl) (da_cons (ds_d (de_var (pv 2))) (da_cons (ds_d (de_var (pv 4))) da_nil)))) (da_cons (ds_d (de_ch h_free_puzzle hr (takes_of rfl rfl rfl rfl) (da_cons (ds_d (de_var (pv 3))) (da_cons (ds_d (de_var (pv 4))) da_nil)))) (da_cons (ds_d (de_var (pv 3))) da_nil))))) (dss_one (dst_if (dt_not (dt_truth (de_ch h__law_same hr (takes_of rfl rfl rfl rfl) (da_cons (ds_d (de_var (pv 6))) (da_cons (ds_d (de_lst (da_cons (ds_d (de_var (pv 5))) (da_cons (ds_d (de_var (pv 5))) (da_cons (ds_d (de_ch h__law_lists hr (takes_of rfl rfl rfl rfl) (da_cons (ds_d (de_var (pv 2))) da_nil))) da_nil))))) da_nil))))) (dss_one (dst_ret de_bl)) dss_nil))))))))) (dss_one (dst_ret de_bl)))
abbrev N_law : List Str := ["_law_script", "_law_cells_so", "_law_n_so"]
abbrev P_law : List Str := ["_law_script"]
theorem sc_law : FnScope N_law P_law (defScope (top 29)) := ⟨rfl, rfl, rfl, by decide +kernel, rfl, by decide +kernel, by decide +kernel⟩
noncomputable def m_law (K : PySem.W.Frag) : List Sl → Mo Dt := mDef 1 3 (mThenS (mIfS (mNot (mThenB (mCall0 (m__law_by_hand_right)) truD)) (mRet (mC (.bool false))) mNx) (mThenS (mSet 1 (mCall (m__law_cells K) (mCons (mSl 0) (mCons (mD (mC (.int 3))) mNil)))) (mRet (mThen (mCons (mD (mList (mLc (mRng1 (mCons (mD (mThen (mCons (mD (mVar 1)) mNil) lenD)) mNil)) [2] (gN 2) mYes (mBoxCall (m__law_right) m__law_box (mCons (mD (mVar 1)) (mCons (mD (mVar 2)) mNil)))))) mNil) allD))))
theorem ok_law {f : Addr} {fd : FuncData} (Z : Bl mg) (D : Dv K mg "law" (top 29) P_law f fd) (h__law_cells : Has P w K mg base "_law_cells" (top 15) 1 P__law_cells (m__law_cells K)) (h__law_by_hand_right : Has P w K mg base "_law_by_hand_right" (top 27) 16 P__law_by_hand_right (m__law_by_hand_right)) (h__law_right : Has P w K mg base "_law_right" (top 28) 16 P__law_right (m__law_right)) (h__law_box : HasN P w K mg base "_law_box" (top 13) 1 P__law_box (m__law_box)) : Has P w K mg base "law" (top 29) 17 P_law (m_law K) := by
  refine has_def (N := N_law) (ps := P_law) (O' := []) D sc_law fun cdv A outer s H E hr => ?_
  exact (dss_cons (dst_if (dt_not (dt_truth (de_ch0 h__law_by_hand_right hr))) (dss_one (dst_ret de_bl)) dss_nil) (dss_cons (dst_set (i := 1) sc_law.nd rfl (by first | exact Or.inl rfl | exact Or.inr rfl) (de_ch h__law_cells hr (takes_of rfl rfl rfl rfl) (da_cons (ds_var (pv 0)) (da_cons (ds_d de_int) da_nil)))) (dss_one (dst_ret (de_all rfl Z.all (da_cons (ds_d (del_de (del_lc rfl sc_law.nd (di_range1 Z.range (da_cons (ds_d (de_len Z.len (da_cons (ds_d (de_var (pv 1))) da_nil))) da_nil)) (own := [("_law_n_so", 2)]) (blkOk_by (N := N_law) (sc := defScope (top 29)) (by decide +kernel)) (by decide) (fun _ _ _ _ _ => (dg_name (pg_name (i := 2) sc_law.nd rfl (by first | exact Or.inl rfl | exact Or.inr rfl)))) (fun _ _ _ _ _ => dts_nil) (fun _ _ _ _ _ => (de_callBox h__law_right h__law_box hr takes_n (da_cons (ds_d (de_var (pv 1))) (da_cons (ds_d (de_var (pv 2))) da_nil))))))) da_nil))))))
end
end K08
set_option maxRecDepth 100000
set_option maxHeartbeats 1000000
namespace K08
open DL PySem L2
section
/-! ### what is drawn -/
def drw (b : Bx) (n : Int) : Int :=
  let c := b.c + 1
  let once := (b.b + 48271 * c) * (39373 + c) % 2147483647
  let twice := (once + c + b.b / 1000003) * (once % 40009 + 7) % 2147483629
  (twice * 48271 + once) % 2147483587 / 64 % n
theorem take_go {n : Int} (h0 : 0 < n) (h1 : n < 1073741824) : Go 1 (m__law_take [.box, .d (.int n)]) (fun d => ∃ r : Int, d = .int r ∧ 0 ≤ r ∧ r < n) := by
  intro N b hN ⟨ba, bb, bb2, bc, bc2⟩
  by_cases ha : 0 < b.a
  · refine ⟨.int (b.a % n), ⟨b.a / n, b.b, b.c⟩, ?_, ⟨Int.ediv_nonneg ba (by omega), bb, bb2, bc, by show b.c + ((N - 1 : Nat) : Int) < 2 ^ 60; omega⟩, _, rfl, Int.emod_nonneg _ (by omega), Int.emod_lt_of_pos _ h0⟩
    simp [m__law_take, mDef, mThenS, mIfS, mThenB, mBin, mBoxIx, isBox, mC, mOk, mBind, mE, gtD, opII, mOpt, asBool, mSet, mThen, mCons, mNil, mD, modD, divD, mVar, mBoxSet, Bx.get, Bx.put, mRet, sOk, intD, CDiv, h0, h1, ha, List.replicate]
  · have ha0 : b.a = 0 := by omega
    have C : ∀ i j : Int, -(2 ^ 64) < j → j < 2 ^ 64 → CMul i j := fun i j a b => .inr ⟨a, b⟩
    refine ⟨.int (drw b n), ⟨b.a, b.b, b.c + 1⟩, ?_, ⟨ba, bb, bb2, by show 0 ≤ b.c + 1; omega, by show b.c + 1 + ((N - 1 : Nat) : Int) < 2 ^ 60; omega⟩, _, rfl, Int.emod_nonneg _ (by omega), Int.emod_lt_of_pos _ h0⟩
    · have c1 : CMul 48271 (b.c + 1) := C _ _ (by omega) (by omega)
      have c2 : CMul (b.b + 48271 * (b.c + 1)) (39373 + (b.c + 1)) := C _ _ (by omega) (by omega)
      have c3 : ∀ x y : Int, CMul x (y % 40009 + 7) := fun x y => C _ _ (by have := Int.emod_nonneg y (show (40009 : Int) ≠ 0 by decide); omega) (by have := Int.emod_lt_of_pos y (show (0 : Int) < 40009 by decide); omega)
      have c4 : ∀ x : Int, CMul x 48271 := fun x => C _ _ (by decide) (by decide)
      simp [m__law_take, mDef, mThenS, mIfS, mThenB, mBin, mBoxIx, isBox, mC, mOk, mBind, mE, gtD, opII, mOpt, asBool, mSet, mThen, mCons, mNil, mD, modD, divD, mVar, mBoxSet, Bx.get, Bx.put, mRet, sOk, intD, CDiv, h0, h1, ha0, List.replicate, addD, mulD, mulI, mNx, c1, c2, c3, c4, drw]
theorem of_go {ds : List Dt} (h0 : ds ≠ []) (h1 : ds.length < 1073741824) : Go 1 (m__law_of [.box, .d (.list ds)]) (fun d => d ∈ ds) := by
  have hl : 0 < ds.length := List.length_pos_iff.mpr h0
  unfold m__law_of
  rw [m_def (by rfl)]
  simp [mIfS, mThenB, mBin, mC, mSet, mSetL, mThen, mCons, mNil, mD, mSl, mVar, mRet, mCall, m_thenS, s_bind_e, s_fin_e, m_bind_assoc, asBool, addD, subD, gtD, ltD, geD, leD, opII, ltI, modD, divD, eqD, lenD, listD, tupD, mFor, mTup, mLst, mLstL, mList, mLc, dats, mLenO]
  refine (Go.bind (k := 0) (take_go (n := (ds.length : Int)) (by omega) (by omega)) ?_).mono (Nat.le_refl _) fun _ h => h
  rintro d ⟨r, rfl, r0, r1⟩
  have hr : r.toNat < ds.length := by omega
  simp [mIfS, mThenB, mBin, mC, mSet, mSetL, mThen, mCons, mNil, mD, mSl, mVar, mRet, mCall, m_thenS, s_bind_e, s_fin_e, m_bind_assoc, asBool, addD, subD, gtD, ltD, geD, leD, opII, ltI, modD, divD, eqD, lenD, listD, tupD, mFor, mTup, mLst, mLstL, mList, mLc, dats, mLenO, ixD, atI_ok r0 hr]
  exact Go.pure (List.getElem_mem hr)
theorem perm_pop {α : Type} (l : List α) (i : Nat) (h : i < l.length) : (l[i] :: l.eraseIdx i).Perm l := by
  induction l generalizing i with
  | nil => simp [mIfS, mThenB, mBin, mC, mSet, mSetL, mThen, mCons, mNil, mD, mSl, mVar, mRet, mCall, m_thenS, s_bind_e, s_fin_e, m_bind_assoc, asBool, addD, subD, gtD, ltD, geD, leD, opII, ltI, modD, divD, eqD, lenD, listD, tupD, mFor, mTup, mLst, mLstL, mList, mLc, dats, mLenO] at h
  | cons x l ih =>
    cases i with
    | zero => exact List.Perm.refl _
    | succ i =>
      have := ih i (by simpa using h)
      simp only [List.getElem_cons_succ, List.eraseIdx_cons_succ]
      exact (List.Perm.swap _ _ _).trans (this.cons x)
theorem mixed_go {ds : List Dt} (hz : ds.length < 1000000) : Go ds.length (m__law_mixed [.box, .d (.list ds)]) (fun d => ∃ es, d = .list es ∧ es.Perm ds) := by
  unfold m__law_mixed
  rw [m_def (by rfl)]
  simp [mIfS, mThenB, mBin, mC, mSet, mSetL, mThen, mCons, mNil, mD, mSl, mVar, mRet, mCall, m_thenS, s_bind_e, s_fin_e, m_bind_assoc, asBool, addD, subD, gtD, ltD, geD, leD, opII, ltI, modD, divD, eqD, lenD, listD, tupD, mFor, mTup, mLst, mLstL, mList, mLc, dats, mLenO, mParN2, mConsL, mListL, mNilN, Nw.isL, setN, mRng1, rng1_nat (n := ds.length) (by omega), sz_of (n := ds.length) (by omega)]
  refine GoS.fin ?_
  refine (GoS.seq (n := (rngD 0 ds.length).length * 1) (k := 0) (Q := fun ρ => ∃ x es, ρ = [some Sl.box, some (.d (.list ds)), x, some (.d (.list [])), some (.d (.list es))] ∧ es.Perm ds)
    ((GoS.loop (k := 1) (I := fun its ρ => ∃ x rest es, ρ = [some Sl.box, some (.d (.list ds)), x, some (.d (.list rest)), some (.d (.list es))] ∧ rest.length = its.length ∧ (es ++ rest).Perm ds) ⟨none, ds, [], by simp [mIfS, mThenB, mBin, mC, mSet, mSetL, mThen, mCons, mNil, mD, mSl, mVar, mRet, mCall, m_thenS, s_bind_e, s_fin_e, m_bind_assoc, asBool, addD, subD, gtD, ltD, geD, leD, opII, ltI, modD, divD, eqD, lenD, listD, tupD, mFor, mTup, mLst, mLstL, mList, mLc, dats, mLenO, List.replicate], by rw [rngD_len], by simp [mIfS, mThenB, mBin, mC, mSet, mSetL, mThen, mCons, mNil, mD, mSl, mVar, mRet, mCall, m_thenS, s_bind_e, s_fin_e, m_bind_assoc, asBool, addD, subD, gtD, ltD, geD, leD, opII, ltI, modD, divD, eqD, lenD, listD, tupD, mFor, mTup, mLst, mLstL, mList, mLc, dats, mLenO]⟩ ?_).mono (Nat.le_refl _) ?_) ?_).mono (by rw [rngD_len]; omega) fun _ _ h => h
  · rintro d r ρ ⟨x, rest, es, rfl, hl, pm⟩
    refine ⟨_, rfl, ?_⟩
    have hl' : rest.length = r.length + 1 := by simpa using hl
    have pl := pm.length_eq
    rw [List.length_append] at pl
    rw [appPop_eq (ds := es) (es := rest) rfl rfl]
    simp [mIfS, mThenB, mBin, mC, mSet, mSetL, mThen, mCons, mNil, mD, mSl, mVar, mRet, mCall, m_thenS, s_bind_e, s_fin_e, m_bind_assoc, asBool, addD, subD, gtD, ltD, geD, leD, opII, ltI, modD, divD, eqD, lenD, listD, tupD, mFor, mTup, mLst, mLstL, mList, mLc, dats, mLenO, slotL]
    refine (Go.e (k := 0) (take_go (n := (rest.length : Int)) (by omega) (by omega)) ?_).mono (Nat.le_refl _) fun _ _ h => h
    rintro z ⟨i, rfl, i0, i1⟩
    have hi : i.toNat < rest.length := by omega
    rw [popK_ok i0 hi (by omega) (by omega)]
    refine GoS.ok ⟨rfl, _, _, _, rfl, by rw [List.length_eraseIdx, if_pos hi]; omega, ?_⟩
    rw [List.append_assoc]
    exact (List.Perm.append_left _ (perm_pop rest i.toNat hi)).trans pm
  · rintro f ρ ⟨rfl, x, rest, es, rfl, hl, pm⟩
    have : rest = [] := List.eq_nil_of_length_eq_zero hl
    subst this
    exact ⟨rfl, x, es, rfl, by simpa using pm⟩
  · rintro ρ ⟨x, es, rfl, pm⟩
    simp [mIfS, mThenB, mBin, mC, mSet, mSetL, mThen, mCons, mNil, mD, mSl, mVar, mRet, mCall, m_thenS, s_bind_e, s_fin_e, m_bind_assoc, asBool, addD, subD, gtD, ltD, geD, leD, opII, ltI, modD, divD, eqD, lenD, listD, tupD, mFor, mTup, mLst, mLstL, mList, mLc, dats, mLenO]
    exact GoS.ok ⟨_, rfl, es, rfl, pm⟩
end
section
theorem few0 : (0 : Nat) ≤ sizeLine := sz_of (by omega)
theorem few1 : (1 : Nat) ≤ sizeLine := sz_of (by omega)
theorem few2 : (2 : Nat) ≤ sizeLine := sz_of (by omega)
theorem few4 : (4 : Nat) ≤ sizeLine := sz_of (by omega)
theorem team_less {ms : List Dt} (h9 : ms.length ≤ 9) {n : Nat} (h3 : n ≤ 3) : (teamsL ms n).length ≤ 729 := by
  rw [teams_len]
  exact pow_le h9 h3
end
section
/-! rows of ints -/
def rowD (r : List Int) : Dt := .tuple (r.map .int)
theorem rng_mem {lo : Int} {n : Nat} {d : Dt} (h : d ∈ rngD lo n) : ∃ i : Nat, i < n ∧ d = .int (lo + i) := by
  unfold rngD at h
  obtain ⟨i, hi, rfl⟩ := List.mem_map.mp h
  exact ⟨i, List.mem_range.mp hi, rfl⟩
end
section
theorem neList {ds : List Dt} (h : SeqAt.shaped (.list ds) = true) (h0 : ds ≠ []) : neD (.list ds) (.list []) = some (.bool true) := by
  obtain ⟨a, l, rfl⟩ : ∃ a l, ds = a :: l := by cases ds with
    | nil => exact (h0 rfl).elim
    | cons a l => exact ⟨a, l, rfl⟩
  unfold neD
  rw [if_pos ⟨h, by decide⟩]
  rfl
/-! the number of a row among all of its length -/
def tupsI (many : Nat) : Nat → List (List Int)
  | 0 => [[]]
  | n + 1 => (tupsI many n).flatMap fun c => (List.range many).map fun m => c ++ [((m : Nat) : Int)]
theorem tups_map (many : Nat) : ∀ n, teamsL (rngD 0 many) n = (tupsI many n).map fun r => r.map PyData.int
  | 0 => rfl
  | n + 1 => by
    rw [teamsL, tups_map many n, flatMap_map, tupsI, List.map_flatMap]
    congr 1
    funext r
    simp [mIfS, mThenB, mBin, mC, mSet, mSetL, mThen, mCons, mNil, mD, mSl, mVar, mRet, mCall, m_thenS, s_bind_e, s_fin_e, m_bind_assoc, asBool, subD, gtD, ltD, geD, leD, opII, ltI, modD, divD, eqD, lenD, listD, tupD, mFor, mTup, mLst, mLstL, mList, mLc, dats, mLenO, mSeq, seqD, mRng1, gN, wipeE, mYes, few0, few1, few2, few4, rngD, Function.comp_def]
theorem tups_all {many : Nat} : ∀ {n : Nat} {r : List Int}, r.length = n → (∀ x ∈ r, 0 ≤ x ∧ x < many) → r ∈ tupsI many n
  | 0, r, h, _ => by
    have : r = [] := List.eq_nil_of_length_eq_zero h
    simp [mIfS, mThenB, mBin, mC, mSet, mSetL, mThen, mCons, mNil, mD, mSl, mVar, mRet, mCall, m_thenS, s_bind_e, s_fin_e, m_bind_assoc, asBool, subD, gtD, ltD, geD, leD, opII, ltI, modD, divD, eqD, lenD, listD, tupD, mFor, mTup, mLst, mLstL, mList, mLc, dats, mLenO, mSeq, seqD, mRng1, gN, wipeE, mYes, few0, few1, few2, few4, this, tupsI]
  | n + 1, r, h, hx => by
    have hne : r ≠ [] := by intro e; rw [e] at h; cases h
    have e := List.dropLast_concat_getLast hne
    simp only [tupsI, List.mem_flatMap, List.mem_map]
    have hl := hx _ (List.getLast_mem hne)
    refine ⟨r.dropLast, tups_all (by rw [List.length_dropLast, h]; rfl) fun x m => hx x (List.dropLast_subset _ m), (r.getLast hne).toNat, List.mem_range.mpr (by omega), ?_⟩
    rw [Int.toNat_of_nonneg hl.1]
    exact e
end
section
abbrev Kind := Int × List (List Int)
def kindD (k : Kind) : Dt := .tuple [.int k.1, .tuple (k.2.map rowD)]
def bookD (many : Int) (tel : Bool) (ks : List Kind) : Dt := .tuple [.int many, .bool tel, .tuple (ks.map kindD)]
structure WfK (many : Int) (k : Kind) : Prop where
  w1 : 1 ≤ k.1
  w3 : k.1 ≤ 3
  few : k.2.length ≤ 8
  row : ∀ r ∈ k.2, r.length = k.1.toNat ∧ ∀ x ∈ r, 0 ≤ x ∧ x < many
  asc : ascB (k.2.map fun r => PyData.tuple (r.map PyData.int)) = true
def tieD (i : Int) (cs : List Int) : Dt := .tuple [.int i, .tuple (cs.map .int)]
end
section
/-! ties can be sorted, as a set -/
theorem allSome_map {κ : Type} {f : Dt → Option κ} {h : Int → κ} (hf : ∀ i, f (.int i) = some (h i)) : ∀ cs : List Int, allSome f (cs.map .int) = some (cs.map h)
  | [] => rfl
  | c :: cs => by
    have := allSome_map hf cs
    simp [mIfS, mThenB, mBin, mC, mSet, mSetL, mThen, mCons, mNil, mD, mSl, mVar, mRet, mCall, m_thenS, s_bind_e, s_fin_e, m_bind_assoc, asBool, subD, gtD, ltD, geD, leD, opII, ltI, modD, divD, eqD, lenD, listD, tupD, mFor, mTup, mLst, mLstL, mList, mLc, dats, mLenO, mSeq, seqD, mRng1, gN, wipeE, mYes, few0, few1, few2, few4, allSome, hf, this]
theorem key_tie (i : Int) (cs : List Int) : (keyN 7 (tieD i cs)).isSome = true := by
  have e : keyN 6 (.tuple (cs.map .int)) = some (.tup (cs.map .num)) := by
    show (allSome (keyN 5) (cs.map .int)).map NestedKey.tup = _
    rw [allSome_map (h := .num) (fun i => rfl)]
    rfl
  show ((allSome (keyN 6) [.int i, .tuple (cs.map .int)]).map NestedKey.tup).isSome = true
  have e0 : keyN 6 (.int i) = some (.num i) := rfl
  simp only [allSome, e0, e]
  rfl
theorem alike_ints : ∀ cs ds : List Int, PySem.W.alikeAll (cs.map .int) (ds.map .int) = true
  | [], _ => by simp [mIfS, mThenB, mBin, mC, mSet, mSetL, mThen, mCons, mNil, mD, mSl, mVar, mRet, mCall, m_thenS, s_bind_e, s_fin_e, m_bind_assoc, asBool, subD, gtD, ltD, geD, leD, opII, ltI, modD, divD, eqD, lenD, listD, tupD, mFor, mTup, mLst, mLstL, mList, mLc, dats, mLenO, mSeq, seqD, mRng1, gN, wipeE, mYes, few0, few1, few2, few4, PySem.W.alikeAll]
  | c :: cs, [] => by simp [mIfS, mThenB, mBin, mC, mSet, mSetL, mThen, mCons, mNil, mD, mSl, mVar, mRet, mCall, m_thenS, s_bind_e, s_fin_e, m_bind_assoc, asBool, subD, gtD, ltD, geD, leD, opII, ltI, modD, divD, eqD, lenD, listD, tupD, mFor, mTup, mLst, mLstL, mList, mLc, dats, mLenO, mSeq, seqD, mRng1, gN, wipeE, mYes, few0, few1, few2, few4, PySem.W.alikeAll]
  | c :: cs, d :: ds => by simp [mIfS, mThenB, mBin, mC, mSet, mSetL, mThen, mCons, mNil, mD, mSl, mVar, mRet, mCall, m_thenS, s_bind_e, s_fin_e, m_bind_assoc, asBool, subD, gtD, ltD, geD, leD, opII, ltI, modD, divD, eqD, lenD, listD, tupD, mFor, mTup, mLst, mLstL, mList, mLc, dats, mLenO, mSeq, seqD, mRng1, gN, wipeE, mYes, few0, few1, few2, few4, PySem.W.alikeAll, PySem.W.alike, alike_ints cs ds]
theorem alike_tie (i j : Int) (cs ds : List Int) : PySem.W.alike (tieD i cs) (tieD j ds) = true := by
  simp [mIfS, mThenB, mBin, mC, mSet, mSetL, mThen, mCons, mNil, mD, mSl, mVar, mRet, mCall, m_thenS, s_bind_e, s_fin_e, m_bind_assoc, asBool, subD, gtD, ltD, geD, leD, opII, ltI, modD, divD, eqD, lenD, listD, tupD, mFor, mTup, mLst, mLstL, mList, mLc, dats, mLenO, mSeq, seqD, mRng1, gN, wipeE, mYes, few0, few1, few2, few4, tieD, PySem.W.alike, PySem.W.alikeAll, alike_ints]
theorem sh_tie (i : Int) (cs : List Int) : Sh 2 (tieD i cs) := sh_tup fun d hd => by
  rcases List.mem_cons.mp hd with rfl | hd
  · exact (sh_int i).le (by omega)
  · rw [List.mem_singleton.mp hd]
    exact sh_ints cs
theorem setOk_ties {ds : List Dt} (h : ∀ d ∈ ds, ∃ i cs, d = tieD i cs) (hl : ds.length < 1228) : setOk ds = true := by
  have h1 : ds.all isTup0 = true := List.all_eq_true.mpr fun d hd => by
    obtain ⟨i, cs, rfl⟩ := h d hd
    rfl
  have h2 : keyed ds = true := List.all_eq_true.mpr fun d hd => by
    obtain ⟨i, cs, rfl⟩ := h d hd
    exact key_tie i cs
  have h3 : allAlike ds = true := List.all_eq_true.mpr fun d hd => List.all_eq_true.mpr fun e he => by
    obtain ⟨i, cs, rfl⟩ := h d hd
    obtain ⟨j, es, rfl⟩ := h e he
    exact alike_tie i j cs es
  have h4 : ds.all tup1 = true := List.all_eq_true.mpr fun d hd => by
    obtain ⟨i, cs, rfl⟩ := h d hd
    rfl
  have h5 : (ds.all fun d => decide (d.depth ≤ 40)) = true := List.all_eq_true.mpr fun d hd => by
    obtain ⟨i, cs, rfl⟩ := h d hd
    have := (sh_tie i cs).2
    simpa using Nat.le_trans this (by omega)
  unfold setOk srtOk
  rw [h1, h2, h3, h4, h5]
  simpa using hl
/-! lists for tuples, and back -/
theorem lists_int (n : Nat) (i : Int) : m__law_lists (n + 1) [.d (.int i)] = mOk (.int i) := by
  unfold m__law_lists
  rw [m_def (by rfl)]
  simp [mIfS, mThenB, mBin, mC, mSet, mSetL, mThen, mCons, mNil, mD, mSl, mVar, mRet, mCall, m_thenS, s_bind_e, s_fin_e, m_bind_assoc, asBool, subD, gtD, ltD, geD, leD, opII, ltI, modD, divD, eqD, lenD, listD, tupD, mFor, mTup, mLst, mLstL, mList, mLc, dats, mLenO, mSeq, seqD, mRng1, gN, wipeE, mYes, few0, few1, few2, few4, mIf, mIsi, isListD, isTupD, truD]
theorem lists_bool (n : Nat) (i : Bool) : m__law_lists (n + 1) [.d (.bool i)] = mOk (.bool i) := by
  unfold m__law_lists
  rw [m_def (by rfl)]
  simp [mIfS, mThenB, mBin, mC, mSet, mSetL, mThen, mCons, mNil, mD, mSl, mVar, mRet, mCall, m_thenS, s_bind_e, s_fin_e, m_bind_assoc, asBool, subD, gtD, ltD, geD, leD, opII, ltI, modD, divD, eqD, lenD, listD, tupD, mFor, mTup, mLst, mLstL, mList, mLc, dats, mLenO, mSeq, seqD, mRng1, gN, wipeE, mYes, few0, few1, few2, few4, mIf, mIsi, isListD, isTupD, truD]
theorem lists_tup {n : Nat} {τ : Type} {f h : τ → Dt} {ts : List τ} (hf : ∀ t ∈ ts, m__law_lists n [.d (f t)] = mOk (h t)) : m__law_lists (n + 1) [.d (.tuple (ts.map f))] = mOk (.list (ts.map h)) := by
  unfold m__law_lists
  rw [m_def (by rfl)]
  simp [mIfS, mThenB, mBin, mC, mSet, mSetL, mThen, mCons, mNil, mD, mSl, mVar, mRet, mCall, m_thenS, s_bind_e, s_fin_e, m_bind_assoc, asBool, subD, gtD, ltD, geD, leD, opII, ltI, modD, divD, eqD, lenD, listD, tupD, mFor, mTup, mLst, mLstL, mList, mLc, dats, mLenO, mSeq, seqD, mRng1, gN, wipeE, mYes, few0, few1, few2, few4, mIf, mIsi, isListD, isTupD, truD]
  rw [lc_at (f := f) (h := h)]
  · simp [mIfS, mThenB, mBin, mC, mSet, mSetL, mThen, mCons, mNil, mD, mSl, mVar, mRet, mCall, m_thenS, s_bind_e, s_fin_e, m_bind_assoc, asBool, subD, gtD, ltD, geD, leD, opII, ltI, modD, divD, eqD, lenD, listD, tupD, mFor, mTup, mLst, mLstL, mList, mLc, dats, mLenO, mSeq, seqD, mRng1, gN, wipeE, mYes, few0, few1, few2, few4]
  · exact fun t ht => ⟨_, rfl, rfl, by simp [mIfS, mThenB, mBin, mC, mSet, mSetL, mThen, mCons, mNil, mD, mSl, mVar, mRet, mCall, m_thenS, s_bind_e, s_fin_e, m_bind_assoc, asBool, subD, gtD, ltD, geD, leD, opII, ltI, modD, divD, eqD, lenD, listD, tupD, mFor, mTup, mLst, mLstL, mList, mLc, dats, mLenO, mSeq, seqD, mRng1, gN, wipeE, mYes, few0, few1, few2, few4, hf t ht]⟩
theorem tupled_int (n : Nat) (i : Int) : m_tupled (n + 1) [.d (.int i)] = mOk (.int i) := by
  unfold m_tupled
  rw [m_def (by rfl)]
  simp [mIfS, mThenB, mBin, mC, mSet, mSetL, mThen, mCons, mNil, mD, mSl, mVar, mRet, mCall, m_thenS, s_bind_e, s_fin_e, m_bind_assoc, asBool, subD, gtD, ltD, geD, leD, opII, ltI, modD, divD, eqD, lenD, listD, tupD, mFor, mTup, mLst, mLstL, mList, mLc, dats, mLenO, mSeq, seqD, mRng1, gN, wipeE, mYes, few0, few1, few2, few4, mIsi, isListD, isTupD, truD, mNx]
theorem tupled_bool (n : Nat) (i : Bool) : m_tupled (n + 1) [.d (.bool i)] = mOk (.bool i) := by
  unfold m_tupled
  rw [m_def (by rfl)]
  simp [mIfS, mThenB, mBin, mC, mSet, mSetL, mThen, mCons, mNil, mD, mSl, mVar, mRet, mCall, m_thenS, s_bind_e, s_fin_e, m_bind_assoc, asBool, subD, gtD, ltD, geD, leD, opII, ltI, modD, divD, eqD, lenD, listD, tupD, mFor, mTup, mLst, mLstL, mList, mLc, dats, mLenO, mSeq, seqD, mRng1, gN, wipeE, mYes, few0, few1, few2, few4, mIsi, isListD, isTupD, truD, mNx]
theorem tupled_num {n : Nat} {d e : Dt} (hi : isIntD d = true) (h : m_tupled n [.d d] = mOk e) : mOk d = mOk e := by
  cases n with
  | zero =>
    have := congrFun h ⟨0, 0, 0⟩
    cases this
  | succ n =>
    rw [← h]
    cases d <;> first | (cases hi; done) | exact (tupled_int n _).symm | exact (tupled_bool n _).symm
theorem tupled_part {n : Nat} {ρ : EnvD} {d e : Dt} (hρ : ρ[1]? = some (some (.d d))) (h : m_tupled n [.d d] = mOk e) : mIf (mThenB (mIsi (mVar 1) isIntD) truD) (mVar 1) (mCall (m_tupled n) (mCons (mD (mVar 1)) mNil)) ρ = mOk e := by
  cases hi : isIntD d with
  | true =>
    rw [← tupled_num hi h]
    simp [mIfS, mThenB, mBin, mC, mSet, mSetL, mThen, mCons, mNil, mD, mSl, mVar, mRet, mCall, m_thenS, s_bind_e, s_fin_e, m_bind_assoc, asBool, subD, gtD, ltD, geD, leD, opII, ltI, modD, divD, eqD, lenD, listD, tupD, mFor, mTup, mLst, mLstL, mList, mLc, dats, mLenO, mSeq, seqD, mRng1, gN, wipeE, mYes, few0, few1, few2, few4, mIf, mIsi, truD, hρ, hi]
  | false => simp [mIfS, mThenB, mBin, mC, mSet, mSetL, mThen, mCons, mNil, mD, mSl, mVar, mRet, mCall, m_thenS, s_bind_e, s_fin_e, m_bind_assoc, asBool, subD, gtD, ltD, geD, leD, opII, ltI, modD, divD, eqD, lenD, listD, tupD, mFor, mTup, mLst, mLstL, mList, mLc, dats, mLenO, mSeq, seqD, mRng1, gN, wipeE, mYes, few0, few1, few2, few4, mIf, mIsi, truD, hρ, hi, h]
theorem tupled_tup {n : Nat} {τ : Type} {f h : τ → Dt} {ts : List τ} (hf : ∀ t ∈ ts, m_tupled n [.d (f t)] = mOk (h t)) : m_tupled (n + 1) [.d (.tuple (ts.map f))] = mOk (.tuple (ts.map h)) := by
  unfold m_tupled
  rw [m_def (by rfl)]
  simp [mIfS, mThenB, mBin, mC, mSet, mSetL, mThen, mCons, mNil, mD, mSl, mVar, mRet, mCall, m_thenS, s_bind_e, s_fin_e, m_bind_assoc, asBool, subD, gtD, ltD, geD, leD, opII, ltI, modD, divD, eqD, lenD, listD, tupD, mFor, mTup, mLst, mLstL, mList, mLc, dats, mLenO, mSeq, seqD, mRng1, gN, wipeE, mYes, few0, few1, few2, few4, mIsi, isListD, isTupD, truD]
  rw [lc_at (f := f) (h := h)]
  · simp [mIfS, mThenB, mBin, mC, mSet, mSetL, mThen, mCons, mNil, mD, mSl, mVar, mRet, mCall, m_thenS, s_bind_e, s_fin_e, m_bind_assoc, asBool, subD, gtD, ltD, geD, leD, opII, ltI, modD, divD, eqD, lenD, listD, tupD, mFor, mTup, mLst, mLstL, mList, mLc, dats, mLenO, mSeq, seqD, mRng1, gN, wipeE, mYes, few0, few1, few2, few4]
  · exact fun t ht => ⟨_, rfl, rfl, tupled_part (by simp [mIfS, mThenB, mBin, mC, mSet, mSetL, mThen, mCons, mNil, mD, mSl, mVar, mRet, mCall, m_thenS, s_bind_e, s_fin_e, m_bind_assoc, asBool, subD, gtD, ltD, geD, leD, opII, ltI, modD, divD, eqD, lenD, listD, tupD, mFor, mTup, mLst, mLstL, mList, mLc, dats, mLenO, mSeq, seqD, mRng1, gN, wipeE, mYes, few0, few1, few2, few4]) (hf t ht)⟩
theorem tupled_lst {n : Nat} {τ : Type} {f h : τ → Dt} {ts : List τ} (hf : ∀ t ∈ ts, m_tupled n [.d (f t)] = mOk (h t)) : m_tupled (n + 1) [.d (.list (ts.map f))] = mOk (.tuple (ts.map h)) := by
  unfold m_tupled
  rw [m_def (by rfl)]
  simp [mIfS, mThenB, mBin, mC, mSet, mSetL, mThen, mCons, mNil, mD, mSl, mVar, mRet, mCall, m_thenS, s_bind_e, s_fin_e, m_bind_assoc, asBool, subD, gtD, ltD, geD, leD, opII, ltI, modD, divD, eqD, lenD, listD, tupD, mFor, mTup, mLst, mLstL, mList, mLc, dats, mLenO, mSeq, seqD, mRng1, gN, wipeE, mYes, few0, few1, few2, few4, mIsi, isListD, isTupD, truD]
  rw [lc_at (f := f) (h := h)]
  · simp [mIfS, mThenB, mBin, mC, mSet, mSetL, mThen, mCons, mNil, mD, mSl, mVar, mRet, mCall, m_thenS, s_bind_e, s_fin_e, m_bind_assoc, asBool, subD, gtD, ltD, geD, leD, opII, ltI, modD, divD, eqD, lenD, listD, tupD, mFor, mTup, mLst, mLstL, mList, mLc, dats, mLenO, mSeq, seqD, mRng1, gN, wipeE, mYes, few0, few1, few2, few4]
  · exact fun t ht => ⟨_, rfl, rfl, tupled_part (by simp [mIfS, mThenB, mBin, mC, mSet, mSetL, mThen, mCons, mNil, mD, mSl, mVar, mRet, mCall, m_thenS, s_bind_e, s_fin_e, m_bind_assoc, asBool, subD, gtD, ltD, geD, leD, opII, ltI, modD, divD, eqD, lenD, listD, tupD, mFor, mTup, mLst, mLstL, mList, mLc, dats, mLenO, mSeq, seqD, mRng1, gN, wipeE, mYes, few0, few1, few2, few4]) (hf t ht)⟩
/-! the same as itself -/
theorem same_int (n : Nat) (i : Int) : m__law_same (n + 1) [.d (.int i), .d (.int i)] = mOk (.bool true) := by
  unfold m__law_same
  rw [m_def (by rfl)]
  have e : PyData.eqv (.int i) (.int i) = true := by simp [mIfS, mThenB, mBin, mC, mSet, mSetL, mThen, mCons, mNil, mD, mSl, mVar, mRet, mCall, m_thenS, s_bind_e, s_fin_e, m_bind_assoc, asBool, subD, gtD, ltD, geD, leD, opII, ltI, modD, divD, eqD, lenD, listD, tupD, mFor, mTup, mLst, mLstL, mList, mLc, dats, mLenO, mSeq, seqD, mRng1, gN, wipeE, mYes, few0, few1, few2, few4, PyData.eqv]
  simp [mIfS, mThenB, mBin, mC, mSet, mSetL, mThen, mCons, mNil, mD, mSl, mVar, mRet, mCall, m_thenS, s_bind_e, s_fin_e, m_bind_assoc, asBool, subD, gtD, ltD, geD, leD, opII, ltI, modD, divD, eqD, lenD, listD, tupD, mFor, mTup, mLst, mLstL, mList, mLc, dats, mLenO, mSeq, seqD, mRng1, gN, wipeE, mYes, few0, few1, few2, few4, mIsi, isListD, isTupD, truD, mNx, mOr, isBoolD, isStrD, isN, isNoneD, mAndV, isIntD, notV, show SeqAt.shaped (.int i) = true from (sh_int i).shaped (by omega), e]
theorem eqv_bool (i : Bool) : PyData.eqv (.bool i) (.bool i) = true := by cases i <;> decide
theorem eqD_ok {d e : Dt} (h1 : SeqAt.shaped d = true) (h2 : SeqAt.shaped e = true) : DL.eqD d e = some (.bool (PyData.eqv d e)) := if_pos ⟨h1, h2⟩
theorem neD_ok {d e : Dt} (h1 : SeqAt.shaped d = true) (h2 : SeqAt.shaped e = true) : neD d e = some (.bool (!PyData.eqv d e)) := if_pos ⟨h1, h2⟩
theorem sb (i : Bool) : SeqAt.shaped (.bool i) = true := (sh_bool i).shaped (by omega)
theorem si (i : Int) : SeqAt.shaped (.int i) = true := (sh_int i).shaped (by omega)
theorem eqv_int (i : Int) : PyData.eqv (.int i) (.int i) = true := by simp [mIfS, mThenB, mBin, mC, mSet, mSetL, mThen, mCons, mNil, mD, mSl, mVar, mRet, mCall, m_thenS, s_bind_e, s_fin_e, m_bind_assoc, asBool, subD, gtD, ltD, geD, leD, opII, ltI, modD, divD, eqD, lenD, listD, tupD, mFor, mTup, mLst, mLstL, mList, mLc, dats, mLenO, mSeq, seqD, mRng1, gN, wipeE, mYes, few0, few1, few2, few4, PyData.eqv]
theorem same_bool (n : Nat) (i : Bool) : m__law_same (n + 1) [.d (.bool i), .d (.bool i)] = mOk (.bool true) := by
  unfold m__law_same
  rw [m_def (by rfl)]
  have e1 : PyData.eqv (.bool true) (.bool true) = true := by decide
  have e2 : PyData.eqv (.bool false) (.bool false) = true := by decide
  simp [mIfS, mThenB, mBin, mC, mSet, mSetL, mThen, mCons, mNil, mD, mSl, mVar, mRet, mCall, m_thenS, s_bind_e, s_fin_e, m_bind_assoc, asBool, subD, gtD, ltD, geD, leD, opII, ltI, modD, divD, eqD, lenD, listD, tupD, mFor, mTup, mLst, mLstL, mList, mLc, dats, mLenO, mSeq, seqD, mRng1, gN, wipeE, mYes, few0, few1, few2, few4, mIsi, isListD, isTupD, truD, mNx, mOr, isBoolD, isStrD, isN, isNoneD, mAndV, isIntD, notV, sb, eqv_bool, e1, e2]
theorem zip_self {τ : Type} (f : τ → Dt) : ∀ ts : List τ, zipP (ts.map f) (ts.map f) = ts.map fun t => .tuple [f t, f t]
  | [] => rfl
  | t :: ts => by
    have := zip_self f ts
    unfold zipP at *
    simp [mIfS, mThenB, mBin, mC, mSet, mSetL, mThen, mCons, mNil, mD, mSl, mVar, mRet, mCall, m_thenS, s_bind_e, s_fin_e, m_bind_assoc, asBool, subD, gtD, ltD, geD, leD, opII, ltI, modD, divD, eqD, lenD, listD, tupD, mFor, mTup, mLst, mLstL, mList, mLc, dats, mLenO, mSeq, seqD, mRng1, gN, wipeE, mYes, few0, few1, few2, few4, this]
theorem bls_true : ∀ {τ : Type} (ts : List τ), blsOf (ts.map fun _ => PyData.bool true) = some (ts.map fun _ => true)
  | _, [] => rfl
  | _, t :: ts => by
    have := bls_true ts
    simp [mIfS, mThenB, mBin, mC, mSet, mSetL, mThen, mCons, mNil, mD, mSl, mVar, mRet, mCall, m_thenS, s_bind_e, s_fin_e, m_bind_assoc, asBool, subD, gtD, ltD, geD, leD, opII, ltI, modD, divD, eqD, lenD, listD, tupD, mFor, mTup, mLst, mLstL, mList, mLc, dats, mLenO, mSeq, seqD, mRng1, gN, wipeE, mYes, few0, few1, few2, few4, blsOf, this]
theorem same_tup {n : Nat} {τ : Type} {f : τ → Dt} {ts : List τ} (hf : ∀ t ∈ ts, m__law_same n [.d (f t), .d (f t)] = mOk (.bool true)) : m__law_same (n + 1) [.d (.tuple (ts.map f)), .d (.tuple (ts.map f))] = mOk (.bool true) := by
  unfold m__law_same
  rw [m_def (by rfl)]
  have e1 : PyData.eqv (.bool true) (.bool true) = true := by decide
  have e2 : PyData.eqv (.bool false) (.bool false) = true := by decide
  have e3 := eqv_int (ts.length : Int)
  simp [mIfS, mThenB, mBin, mC, mSet, mSetL, mThen, mCons, mNil, mD, mSl, mVar, mRet, mCall, m_thenS, s_bind_e, s_fin_e, m_bind_assoc, asBool, subD, gtD, ltD, geD, leD, opII, ltI, modD, divD, eqD, lenD, listD, tupD, mFor, mTup, mLst, mLstL, mList, mLc, dats, mLenO, mSeq, seqD, mRng1, gN, wipeE, mYes, few0, few1, few2, few4, mIsi, isListD, isTupD, truD, mNx, mOr, mAndV, neD_ok, eqD_ok, si, sb, e1, e2, e3, mZip, zipD, zip_self]
  rw [lc_at (f := fun t => .tuple [f t, f t]) (h := fun _ => .bool true)]
  · have e4 : (ts.all fun _ => true) = true := List.all_eq_true.mpr fun _ _ => rfl
    simp [mIfS, mThenB, mBin, mC, mSet, mSetL, mThen, mCons, mNil, mD, mSl, mVar, mRet, mCall, m_thenS, s_bind_e, s_fin_e, m_bind_assoc, asBool, subD, gtD, ltD, geD, leD, opII, ltI, modD, divD, eqD, lenD, listD, tupD, mFor, mTup, mLst, mLstL, mList, mLc, dats, mLenO, mSeq, seqD, mRng1, gN, wipeE, mYes, few0, few1, few2, few4, allD, bls_true, e4]
  · intro t ht
    exact ⟨_, rfl, rfl, by simp [mIfS, mThenB, mBin, mC, mSet, mSetL, mThen, mCons, mNil, mD, mSl, mVar, mRet, mCall, m_thenS, s_bind_e, s_fin_e, m_bind_assoc, asBool, subD, gtD, ltD, geD, leD, opII, ltI, modD, divD, eqD, lenD, listD, tupD, mFor, mTup, mLst, mLstL, mList, mLc, dats, mLenO, mSeq, seqD, mRng1, gN, wipeE, mYes, few0, few1, few2, few4, hf t ht]⟩
theorem same_lst {n : Nat} {τ : Type} {f : τ → Dt} {ts : List τ} (hf : ∀ t ∈ ts, m__law_same n [.d (f t), .d (f t)] = mOk (.bool true)) : m__law_same (n + 1) [.d (.list (ts.map f)), .d (.list (ts.map f))] = mOk (.bool true) := by
  unfold m__law_same
  rw [m_def (by rfl)]
  have e1 : PyData.eqv (.bool true) (.bool true) = true := by decide
  have e2 : PyData.eqv (.bool false) (.bool false) = true := by decide
  have e3 := eqv_int (ts.length : Int)
  simp [mIfS, mThenB, mBin, mC, mSet, mSetL, mThen, mCons, mNil, mD, mSl, mVar, mRet, mCall, m_thenS, s_bind_e, s_fin_e, m_bind_assoc, asBool, subD, gtD, ltD, geD, leD, opII, ltI, modD, divD, eqD, lenD, listD, tupD, mFor, mTup, mLst, mLstL, mList, mLc, dats, mLenO, mSeq, seqD, mRng1, gN, wipeE, mYes, few0, few1, few2, few4, mIsi, isListD, isTupD, truD, mNx, mOr, mAndV, neD_ok, eqD_ok, si, sb, e1, e2, e3, mZip, zipD, zip_self]
  rw [lc_at (f := fun t => .tuple [f t, f t]) (h := fun _ => .bool true)]
  · have e4 : (ts.all fun _ => true) = true := List.all_eq_true.mpr fun _ _ => rfl
    simp [mIfS, mThenB, mBin, mC, mSet, mSetL, mThen, mCons, mNil, mD, mSl, mVar, mRet, mCall, m_thenS, s_bind_e, s_fin_e, m_bind_assoc, asBool, subD, gtD, ltD, geD, leD, opII, ltI, modD, divD, eqD, lenD, listD, tupD, mFor, mTup, mLst, mLstL, mList, mLc, dats, mLenO, mSeq, seqD, mRng1, gN, wipeE, mYes, few0, few1, few2, few4, allD, bls_true, e4]
  · intro t ht
    exact ⟨_, rfl, rfl, by simp [mIfS, mThenB, mBin, mC, mSet, mSetL, mThen, mCons, mNil, mD, mSl, mVar, mRet, mCall, m_thenS, s_bind_e, s_fin_e, m_bind_assoc, asBool, subD, gtD, ltD, geD, leD, opII, ltI, modD, divD, eqD, lenD, listD, tupD, mFor, mTup, mLst, mLstL, mList, mLc, dats, mLenO, mSeq, seqD, mRng1, gN, wipeE, mYes, few0, few1, few2, few4, hf t ht]⟩
end
section
/-! a book, its soft copy -/
def softK (k : Kind) : Dt := .list [.int k.1, .list (k.2.map fun r => .list (r.map .int))]
def softD (many : Int) (tel : Bool) (ks : List Kind) : Dt := .list [.int many, .bool tel, .list (ks.map softK)]
theorem pair_map (a b : Dt) : [a, b] = [true, false].map fun x => if x then a else b := rfl
theorem lists_row (n : Nat) (r : List Int) : m__law_lists (n + 2) [.d (rowD r)] = mOk (.list (r.map .int)) := lists_tup fun i _ => lists_int n i
theorem lists_kind (n : Nat) (k : Kind) : m__law_lists (n + 4) [.d (kindD k)] = mOk (softK k) := by
  unfold kindD softK
  rw [pair_map (.int k.1), pair_map (.int k.1)]
  refine lists_tup (n := n + 3) fun b _ => ?_
  cases b with
  | true => exact lists_int _ _
  | false => exact lists_tup (n := n + 2) fun r _ => lists_row n r
theorem three_map (a b c : Dt) : [a, b, c] = [0, 1, 2].map fun x : Nat => if x = 0 then a else if x = 1 then b else c := rfl
theorem lists_book (n : Nat) (many : Int) (tel : Bool) (ks : List Kind) : m__law_lists (n + 6) [.d (bookD many tel ks)] = mOk (softD many tel ks) := by
  unfold bookD softD
  rw [three_map (.int many), three_map (.int many)]
  refine lists_tup (n := n + 5) fun b hb => ?_
  rcases (show b = 0 ∨ b = 1 ∨ b = 2 by simpa using hb) with rfl | rfl | rfl
  · exact lists_int _ _
  · exact lists_bool _ _
  · exact lists_tup (n := n + 4) fun k _ => lists_kind n k
theorem tupled_row (n : Nat) (r : List Int) : m_tupled (n + 2) [.d (rowD r)] = mOk (rowD r) := tupled_tup fun i _ => tupled_int n i
theorem tupled_srow (n : Nat) (r : List Int) : m_tupled (n + 2) [.d (.list (r.map .int))] = mOk (rowD r) := tupled_lst fun i _ => tupled_int n i
theorem tupled_kind (n : Nat) (k : Kind) : m_tupled (n + 4) [.d (kindD k)] = mOk (kindD k) := by
  unfold kindD
  rw [pair_map (.int k.1)]
  refine tupled_tup (n := n + 3) fun b _ => ?_
  cases b with
  | true => exact tupled_int _ _
  | false => exact tupled_tup (n := n + 2) fun r _ => tupled_row n r
theorem tupled_skind (n : Nat) (k : Kind) : m_tupled (n + 4) [.d (softK k)] = mOk (kindD k) := by
  unfold kindD softK
  rw [pair_map (.int k.1), pair_map (.int k.1)]
  refine tupled_lst (n := n + 3) fun b _ => ?_
  cases b with
  | true => exact tupled_int _ _
  | false => exact tupled_lst (n := n + 2) fun r _ => tupled_srow n r
theorem tupled_book (n : Nat) (many : Int) (tel : Bool) (ks : List Kind) : m_tupled (n + 6) [.d (bookD many tel ks)] = mOk (bookD many tel ks) := by
  unfold bookD
  rw [three_map (.int many)]
  refine tupled_tup (n := n + 5) fun b hb => ?_
  rcases (show b = 0 ∨ b = 1 ∨ b = 2 by simpa using hb) with rfl | rfl | rfl
  · exact tupled_int _ _
  · exact tupled_bool _ _
  · exact tupled_tup (n := n + 4) fun k _ => tupled_kind n k
theorem tupled_sbook (n : Nat) (many : Int) (tel : Bool) (ks : List Kind) : m_tupled (n + 6) [.d (softD many tel ks)] = mOk (bookD many tel ks) := by
  unfold bookD softD
  rw [three_map (.int many), three_map (.int many)]
  refine tupled_lst (n := n + 5) fun b hb => ?_
  rcases (show b = 0 ∨ b = 1 ∨ b = 2 by simpa using hb) with rfl | rfl | rfl
  · exact tupled_int _ _
  · exact tupled_bool _ _
  · exact tupled_lst (n := n + 4) fun k _ => tupled_skind n k
end
section
theorem tuples_eq {many : Nat} (hm : many ≤ 9) {n : Nat} (h3 : n ≤ 3) : m__law_tuples [.d (.int many), .d (.int n)] = mOk (.list ((teamsL (rngD 0 many) n).map .tuple)) := by
  have h9 : (rngD 0 many).length ≤ 9 := by rw [rngD_len]; exact hm
  obtain ⟨ms, hms⟩ : ∃ ms, ms = rngD 0 many := ⟨_, rfl⟩
  rw [← hms] at h9 ⊢
  unfold m__law_tuples
  rw [m_def (by rfl)]
  simp [mIfS, mThenB, mBin, mC, mSet, mSetL, mThen, mCons, mNil, mD, mSl, mVar, mRet, mCall, m_thenS, s_bind_e, s_fin_e, m_bind_assoc, asBool, subD, gtD, ltD, geD, leD, opII, ltI, modD, divD, eqD, lenD, listD, tupD, mFor, mTup, mLst, mLstL, mList, mLc, dats, mLenO, mSeq, seqD, mRng1, gN, wipeE, mYes, few0, few1, few2, few4, rng1_nat (n := n) (by omega)]
  refine fin_for (I := fun its ρ => ∃ x y z u, ρ = [some (.d (.int many)), some (.d (.int n)), some (.d (.list ((teamsL ms (n - its.length)).map .tuple))), x, y, z, u] ∧ its.length ≤ n)
    ⟨none, none, none, none, by rw [rngD_len, Nat.sub_self]; rfl, by rw [rngD_len]; omega⟩ ?_ ?_
  · rintro d r ρ ⟨x, y, z, u, rfl, hl⟩
    have hl' : r.length + 1 ≤ n := hl
    have hn : n - (d :: r).length + 1 = n - r.length := by simp only [List.length_cons]; omega
    have h729 := team_less h9 (n := n - r.length) (by omega)
    rw [← hn] at h729 ⊢
    generalize hk : n - (d :: r).length = k at *
    have hsum : (teamsL ms k).length * ms.length ≤ 729 := by
      rw [teams_len, ← Nat.pow_succ, ← teams_len]; exact h729
    refine ⟨_, [some (.d (.int many)), some (.d (.int n)), some (.d (.list ((teamsL ms (k + 1)).map .tuple))), some (.d d), some (.d (.list ((teamsL ms (k + 1)).map .tuple))), if teamsL ms k = [] then z else some (.d (.tuple ((teamsL ms k).getLast?.getD []))), u], rfl, ?_, ⟨_, _, _, _, rfl, by omega⟩⟩
    simp [mIfS, mThenB, mBin, mC, mSet, mSetL, mThen, mCons, mNil, mD, mSl, mVar, mRet, mCall, m_thenS, s_bind_e, s_fin_e, m_bind_assoc, asBool, subD, gtD, ltD, geD, leD, opII, ltI, modD, divD, eqD, lenD, listD, tupD, mFor, mTup, mLst, mLstL, mList, mLc, dats, mLenO, mSeq, seqD, mRng1, gN, wipeE, mYes, few0, few1, few2, few4]
    refine bind_for (I := fun its ρ => ∃ pre post z', teamsL ms k = pre ++ post ∧ its = post.map .tuple ∧ ρ = [some (.d (.int many)), some (.d (.int n)), some (.d (.list ((teamsL ms k).map .tuple))), some (.d d), some (.d (.list ((pre.flatMap fun c => ms.map fun m => c ++ [m]).map .tuple))), z', u] ∧ z' = if pre = [] then z else some (.d (.tuple (pre.getLast?.getD [])))) ⟨[], _, z, rfl, rfl, rfl, rfl⟩ ?_ ?_
    · rintro e r' ρ ⟨pre, post, z', e1, e2, rfl, e3⟩
      obtain ⟨c, post, rfl⟩ : ∃ c p, post = c :: p := by cases post with
        | nil => simp [mIfS, mThenB, mBin, mC, mSet, mSetL, mThen, mCons, mNil, mD, mSl, mVar, mRet, mCall, m_thenS, s_bind_e, s_fin_e, m_bind_assoc, asBool, subD, gtD, ltD, geD, leD, opII, ltI, modD, divD, eqD, lenD, listD, tupD, mFor, mTup, mLst, mLstL, mList, mLc, dats, mLenO, mSeq, seqD, mRng1, gN, wipeE, mYes, few0, few1, few2, few4] at e2
        | cons c p => exact ⟨c, p, rfl⟩
      rw [List.map_cons] at e2
      injection e2 with e2 e4
      subst e2
      have hcl := (teams_each (show c ∈ teamsL ms k by rw [e1]; simp [mIfS, mThenB, mBin, mC, mSet, mSetL, mThen, mCons, mNil, mD, mSl, mVar, mRet, mCall, m_thenS, s_bind_e, s_fin_e, m_bind_assoc, asBool, subD, gtD, ltD, geD, leD, opII, ltI, modD, divD, eqD, lenD, listD, tupD, mFor, mTup, mLst, mLstL, mList, mLc, dats, mLenO, mSeq, seqD, mRng1, gN, wipeE, mYes, few0, few1, few2, few4])).1
      refine ⟨_, _, rfl, ?_, ⟨pre ++ [c], post, some (.d (.tuple c)), by simp [mIfS, mThenB, mBin, mC, mSet, mSetL, mThen, mCons, mNil, mD, mSl, mVar, mRet, mCall, m_thenS, s_bind_e, s_fin_e, m_bind_assoc, asBool, subD, gtD, ltD, geD, leD, opII, ltI, modD, divD, eqD, lenD, listD, tupD, mFor, mTup, mLst, mLstL, mList, mLc, dats, mLenO, mSeq, seqD, mRng1, gN, wipeE, mYes, few0, few1, few2, few4, e1], e4, rfl, by simp [mIfS, mThenB, mBin, mC, mSet, mSetL, mThen, mCons, mNil, mD, mSl, mVar, mRet, mCall, m_thenS, s_bind_e, s_fin_e, m_bind_assoc, asBool, subD, gtD, ltD, geD, leD, opII, ltI, modD, divD, eqD, lenD, listD, tupD, mFor, mTup, mLst, mLstL, mList, mLc, dats, mLenO, mSeq, seqD, mRng1, gN, wipeE, mYes, few0, few1, few2, few4]⟩⟩
      simp [mIfS, mThenB, mBin, mC, mSet, mSetL, mThen, mCons, mNil, mD, mSl, mVar, mRet, mCall, m_thenS, s_bind_e, s_fin_e, m_bind_assoc, asBool, subD, gtD, ltD, geD, leD, opII, ltI, modD, divD, eqD, lenD, listD, tupD, mFor, mTup, mLst, mLstL, mList, mLc, dats, mLenO, mSeq, seqD, mRng1, gN, wipeE, mYes, few0, few1, few2, few4, rng1_nat (n := many) (by omega), ← hms]
      rw [lc_map (h := fun m => .tuple (c ++ [m]))]
      rotate_left
      · exact fun m hm => ⟨_, rfl, rfl, by simp [mIfS, mThenB, mBin, mC, mSet, mSetL, mThen, mCons, mNil, mD, mSl, mVar, mRet, mCall, m_thenS, s_bind_e, s_fin_e, m_bind_assoc, asBool, subD, gtD, ltD, geD, leD, opII, ltI, modD, divD, eqD, lenD, listD, tupD, mFor, mTup, mLst, mLstL, mList, mLc, dats, mLenO, mSeq, seqD, mRng1, gN, wipeE, mYes, few0, few1, few2, few4, add_tt (xs := c) (ys := [m]) (by simp; omega)]⟩
      have hsum2 : (pre.flatMap fun c => ms.map fun m => c ++ [m]).length + ms.length ≤ 729 := by
        rw [flatMap_len _ (fun c => List.length_map _)]
        have : pre.length + 1 ≤ (teamsL ms k).length := by rw [e1]; simp [mIfS, mThenB, mBin, mC, mSet, mSetL, mThen, mCons, mNil, mD, mSl, mVar, mRet, mCall, m_thenS, s_bind_e, s_fin_e, m_bind_assoc, asBool, subD, gtD, ltD, geD, leD, opII, ltI, modD, divD, eqD, lenD, listD, tupD, mFor, mTup, mLst, mLstL, mList, mLc, dats, mLenO, mSeq, seqD, mRng1, gN, wipeE, mYes, few0, few1, few2, few4]
        have := Nat.mul_le_mul_right ms.length this
        rw [Nat.succ_mul] at this
        omega
      simp [mIfS, mThenB, mBin, mC, mSet, mSetL, mThen, mCons, mNil, mD, mSl, mVar, mRet, mCall, m_thenS, s_bind_e, s_fin_e, m_bind_assoc, asBool, subD, gtD, ltD, geD, leD, opII, ltI, modD, divD, eqD, lenD, listD, tupD, mFor, mTup, mLst, mLstL, mList, mLc, dats, mLenO, mSeq, seqD, mRng1, gN, wipeE, mYes, few0, few1, few2, few4]
      rw [add_ll (by simp only [List.length_map]; omega)]
      simp [mIfS, mThenB, mBin, mC, mSet, mSetL, mThen, mCons, mNil, mD, mSl, mVar, mRet, mCall, m_thenS, s_bind_e, s_fin_e, m_bind_assoc, asBool, subD, gtD, ltD, geD, leD, opII, ltI, modD, divD, eqD, lenD, listD, tupD, mFor, mTup, mLst, mLstL, mList, mLc, dats, mLenO, mSeq, seqD, mRng1, gN, wipeE, mYes, few0, few1, few2, few4]
      rfl
    · rintro ρ ⟨pre, post, z', e1, e2, rfl, e3⟩
      have : post = [] := by simpa using e2.symm
      subst this
      rw [List.append_nil] at e1
      subst e1
      simp [mIfS, mThenB, mBin, mC, mSet, mSetL, mThen, mCons, mNil, mD, mSl, mVar, mRet, mCall, m_thenS, s_bind_e, s_fin_e, m_bind_assoc, asBool, subD, gtD, ltD, geD, leD, opII, ltI, modD, divD, eqD, lenD, listD, tupD, mFor, mTup, mLst, mLstL, mList, mLc, dats, mLenO, mSeq, seqD, mRng1, gN, wipeE, mYes, few0, few1, few2, few4, e3, teamsL]
  · rintro ρ ⟨x, y, z, u, rfl, -⟩
    simp [mIfS, mThenB, mBin, mC, mSet, mSetL, mThen, mCons, mNil, mD, mSl, mVar, mRet, mCall, m_thenS, s_bind_e, s_fin_e, m_bind_assoc, asBool, subD, gtD, ltD, geD, leD, opII, ltI, modD, divD, eqD, lenD, listD, tupD, mFor, mTup, mLst, mLstL, mList, mLc, dats, mLenO, mSeq, seqD, mRng1, gN, wipeE, mYes, few0, few1, few2, few4]
theorem tuples_eq' {many : Nat} (hm : many ≤ 9) {n : Nat} (h3 : n ≤ 3) : m__law_tuples [.d (.int many), .d (.int n)] = mOk (.list ((tupsI many n).map rowD)) := by
  rw [tuples_eq hm h3, tups_map, List.map_map]
  rfl
theorem sh_row (r : List Int) : Sh 1 (rowD r) := sh_ints r
theorem sh_rows (rs : List (List Int)) : Sh 2 (.list (rs.map rowD)) := sh_lst fun d hd => by
  obtain ⟨r, _, rfl⟩ := List.mem_map.mp hd
  exact sh_row r
end
section
theorem few5 : (5 : Nat) ≤ sizeLine := sz_of (by omega)
theorem few3 : (3 : Nat) ≤ sizeLine := sz_of (by omega)
theorem rows_of {P : List Int → Prop} : ∀ {l : List Dt}, (∀ d ∈ l, ∃ r, P r ∧ d = rowD r) → ∃ rs : List (List Int), l = rs.map rowD ∧ ∀ r ∈ rs, P r
  | [], _ => ⟨[], rfl, by simp [mIfS, mThenB, mBin, mC, mSet, mSetL, mThen, mCons, mNil, mD, mSl, mVar, mRet, mCall, m_thenS, s_bind_e, s_fin_e, m_bind_assoc, asBool, subD, gtD, ltD, geD, leD, opII, ltI, modD, divD, lenD, listD, tupD, mFor, mTup, mLst, mLstL, mList, mLc, dats, mLenO, mSeq, seqD, mRng1, gN, wipeE, mYes, few0, few1, few2, few4, few5, few3]⟩
  | d :: l, h => by
    obtain ⟨r, hr, rfl⟩ := h d List.mem_cons_self
    obtain ⟨rs, rfl, hrs⟩ := rows_of fun e he => h e (List.mem_cons_of_mem _ he)
    exact ⟨r :: rs, rfl, fun x hx => by
      rcases List.mem_cons.mp hx with rfl | hx
      · exact hr
      · exact hrs x hx⟩
theorem srt_rows {rs : List (List Int)} (h : ∀ r ∈ rs, r ≠ []) : srtOk (rs.map rowD) = true := by
  have h3 : allAlike (rs.map rowD) = true := List.all_eq_true.mpr fun d hd => List.all_eq_true.mpr fun e he => by
    obtain ⟨i, _, rfl⟩ := List.mem_map.mp hd
    obtain ⟨j, _, rfl⟩ := List.mem_map.mp he
    simp [mIfS, mThenB, mBin, mC, mSet, mSetL, mThen, mCons, mNil, mD, mSl, mVar, mRet, mCall, m_thenS, s_bind_e, s_fin_e, m_bind_assoc, asBool, subD, gtD, ltD, geD, leD, opII, ltI, modD, divD, lenD, listD, tupD, mFor, mTup, mLst, mLstL, mList, mLc, dats, mLenO, mSeq, seqD, mRng1, gN, wipeE, mYes, few0, few1, few2, few4, few5, few3, rowD, PySem.W.alike, alike_ints]
  have h4 : (rs.map rowD).all tup1 = true := List.all_eq_true.mpr fun d hd => by
    obtain ⟨r, hr, rfl⟩ := List.mem_map.mp hd
    cases r with
    | nil => exact (h _ hr rfl).elim
    | cons a l => rfl
  have h5 : ((rs.map rowD).all fun d => decide (d.depth ≤ 40)) = true := List.all_eq_true.mpr fun d hd => by
    obtain ⟨r, hr, rfl⟩ := List.mem_map.mp hd
    have := (sh_row r).2
    simpa using Nat.le_trans this (by omega)
  unfold srtOk
  rw [h3, h4, h5]
  rfl
theorem tups_each {many : Nat} : ∀ {n : Nat} {r : List Int}, r ∈ tupsI many n → r.length = n ∧ ∀ x ∈ r, 0 ≤ x ∧ x < many
  | 0, r, h => by simp [mIfS, mThenB, mBin, mC, mSet, mSetL, mThen, mCons, mNil, mD, mSl, mVar, mRet, mCall, m_thenS, s_bind_e, s_fin_e, m_bind_assoc, asBool, subD, gtD, ltD, geD, leD, opII, ltI, modD, divD, lenD, listD, tupD, mFor, mTup, mLst, mLstL, mList, mLc, dats, mLenO, mSeq, seqD, mRng1, gN, wipeE, mYes, few0, few1, few2, few4, few5, few3, tupsI] at h; subst h; simp [mIfS, mThenB, mBin, mC, mSet, mSetL, mThen, mCons, mNil, mD, mSl, mVar, mRet, mCall, m_thenS, s_bind_e, s_fin_e, m_bind_assoc, asBool, subD, gtD, ltD, geD, leD, opII, ltI, modD, divD, lenD, listD, tupD, mFor, mTup, mLst, mLstL, mList, mLc, dats, mLenO, mSeq, seqD, mRng1, gN, wipeE, mYes, few0, few1, few2, few4, few5, few3]
  | n + 1, r, h => by
    simp only [tupsI, List.mem_flatMap, List.mem_map] at h
    obtain ⟨c, hc, m, hm, rfl⟩ := h
    obtain ⟨h1, h2⟩ := tups_each hc
    refine ⟨by simp [mIfS, mThenB, mBin, mC, mSet, mSetL, mThen, mCons, mNil, mD, mSl, mVar, mRet, mCall, m_thenS, s_bind_e, s_fin_e, m_bind_assoc, asBool, subD, gtD, ltD, geD, leD, opII, ltI, modD, divD, lenD, listD, tupD, mFor, mTup, mLst, mLstL, mList, mLc, dats, mLenO, mSeq, seqD, mRng1, gN, wipeE, mYes, few0, few1, few2, few4, few5, few3, h1], fun x hx => ?_⟩
    rcases List.mem_append.mp hx with hx | hx
    · exact h2 x hx
    · rw [List.mem_singleton.mp hx]
      have := List.mem_range.mp hm
      omega
theorem tups_len (many n : Nat) : (tupsI many n).length = many ^ n := by
  have := congrArg List.length (tups_map many n)
  rw [List.length_map, teams_len, rngD_len] at this
  exact this.symm
theorem eq_ii (i j : Int) : DL.eqD (.int i) (.int j) = some (.bool (PyData.eqv (.int i) (.int j))) := eqD_ok (si i) (si j)
theorem rowD_inj {r s : List Int} (h : rowD r = rowD s) : r = s := by
  simp only [rowD, PyData.tuple.injEq] at h
  exact (List.map_inj_right fun a b e => by simpa using e).mp h
theorem nodup_map {α β : Type} {f : α → β} (hf : ∀ a b, f a = f b → a = b) {l : List α} (h : l.Nodup) : (l.map f).Nodup := List.pairwise_map.mpr (h.imp fun {a b} hab e => hab (hf a b e))
theorem keyed_rows (rs : List (List Int)) : keyed (rs.map rowD) = true := List.all_eq_true.mpr fun d hd => by
  obtain ⟨r, _, rfl⟩ := List.mem_map.mp hd
  simp [mIfS, mThenB, mBin, mC, mSet, mSetL, mThen, mCons, mNil, mD, mSl, mVar, mRet, mCall, m_thenS, s_bind_e, s_fin_e, m_bind_assoc, asBool, subD, gtD, ltD, geD, leD, opII, ltI, modD, divD, lenD, listD, tupD, mFor, mTup, mLst, mLstL, mList, mLc, dats, mLenO, mSeq, seqD, mRng1, gN, wipeE, mYes, few0, few1, few2, few4, few5, few3, rowD, keyN, allSome_map (fun i => keyN_ints 6 i)]
theorem allAlike_rows (rs : List (List Int)) : allAlike (rs.map rowD) = true := List.all_eq_true.mpr fun d hd => List.all_eq_true.mpr fun e he => by
  obtain ⟨i, _, rfl⟩ := List.mem_map.mp hd
  obtain ⟨j, _, rfl⟩ := List.mem_map.mp he
  simp [mIfS, mThenB, mBin, mC, mSet, mSetL, mThen, mCons, mNil, mD, mSl, mVar, mRet, mCall, m_thenS, s_bind_e, s_fin_e, m_bind_assoc, asBool, subD, gtD, ltD, geD, leD, opII, ltI, modD, divD, lenD, listD, tupD, mFor, mTup, mLst, mLstL, mList, mLc, dats, mLenO, mSeq, seqD, mRng1, gN, wipeE, mYes, few0, few1, few2, few4, few5, few3, rowD, PySem.W.alike, alike_ints]
theorem tups_nodup (many : Nat) : ∀ n, (tupsI many n).Nodup
  | 0 => by simp [mIfS, mThenB, mBin, mC, mSet, mSetL, mThen, mCons, mNil, mD, mSl, mVar, mRet, mCall, m_thenS, s_bind_e, s_fin_e, m_bind_assoc, asBool, subD, gtD, ltD, geD, leD, opII, ltI, modD, divD, lenD, listD, tupD, mFor, mTup, mLst, mLstL, mList, mLc, dats, mLenO, mSeq, seqD, mRng1, gN, wipeE, mYes, few0, few1, few2, few4, few5, few3, tupsI]
  | n + 1 => by
    rw [tupsI]
    refine List.pairwise_flatMap.mpr ⟨fun c _ => nodup_map (fun a b e => ?_) List.nodup_range, ?_⟩
    · have := (List.append_inj' e rfl).2
      have h2 : (a : Int) = b := by simpa using this
      omega
    · refine (tups_nodup many n).imp fun {a b} hab x hx y hy e => hab ?_
      obtain ⟨m, _, rfl⟩ := List.mem_map.mp hx
      obtain ⟨m', _, rfl⟩ := List.mem_map.mp hy
      exact (List.append_inj' e rfl).1
def IsKind (many : Nat) (d : Dt) : Prop := ∃ k : Kind, WfK many k ∧ d = kindD k
theorem kind_go {many : Nat} (hm : many = 2 ∨ many = 3) : Go 20 (m__law_kind [.box, .d (.int many)]) (IsKind many) := by
  have width : ∃ a : Int, (if PyData.eqv (.int (many : Int)) (.int 2) = true then (PyData.int 3) else (PyData.int 2)) = .int a ∧ 1 ≤ a ∧ a ≤ 3 ∧ many ^ a.toNat ≤ 9 := by
    rcases hm with rfl | rfl
    · exact ⟨3, rfl, by decide, by decide, by decide⟩
    · exact ⟨2, rfl, by decide, by decide, by decide⟩
  obtain ⟨a, ea, a1, a3, a9⟩ := width
  have p1 : many ^ 1 ≤ 9 := by rcases hm with rfl | rfl <;> decide
  have p2 : many ^ 2 ≤ 9 := by rcases hm with rfl | rfl <;> decide
  unfold m__law_kind
  rw [m_def (by rfl)]
  have ite : (if PyData.eqv (.int (many : Int)) (.int 2) = true then (mOk (.int 3) : Mo Dt) else mOk (.int 2)) = mOk (.int a) := by
    rw [← ea]
    split <;> rfl
  simp [mIfS, mThenB, mBin, mC, mSet, mSetL, mThen, mCons, mNil, mD, mSl, mVar, mRet, mCall, m_thenS, s_bind_e, s_fin_e, m_bind_assoc, asBool, subD, gtD, ltD, geD, leD, opII, ltI, modD, divD, lenD, listD, tupD, mFor, mTup, mLst, mLstL, mList, mLc, dats, mLenO, mSeq, seqD, mRng1, gN, wipeE, mYes, few0, few1, few2, few4, few5, few3, mIf, eq_ii, ite]
  refine (Go.bind (n := 1) (k := 19) (of_go (by simp [mIfS, mThenB, mBin, mC, mSet, mSetL, mThen, mCons, mNil, mD, mSl, mVar, mRet, mCall, m_thenS, s_bind_e, s_fin_e, m_bind_assoc, asBool, subD, gtD, ltD, geD, leD, opII, ltI, modD, divD, lenD, listD, tupD, mFor, mTup, mLst, mLstL, mList, mLc, dats, mLenO, mSeq, seqD, mRng1, gN, wipeE, mYes, few0, few1, few2, few4, few5, few3]) (by simp [mIfS, mThenB, mBin, mC, mSet, mSetL, mThen, mCons, mNil, mD, mSl, mVar, mRet, mCall, m_thenS, s_bind_e, s_fin_e, m_bind_assoc, asBool, subD, gtD, ltD, geD, leD, opII, ltI, modD, divD, lenD, listD, tupD, mFor, mTup, mLst, mLstL, mList, mLc, dats, mLenO, mSeq, seqD, mRng1, gN, wipeE, mYes, few0, few1, few2, few4, few5, few3])) fun d hd => ?_).mono (by omega) fun _ h => h
  obtain ⟨w, rfl, w1, w3, w9⟩ : ∃ w : Nat, d = .int w ∧ 1 ≤ w ∧ w ≤ 3 ∧ many ^ w ≤ 9 := by
    rcases (show d = .int 1 ∨ d = .int 2 ∨ d = .int a by simpa using hd) with rfl | rfl | rfl
    · exact ⟨1, rfl, by omega, by omega, p1⟩
    · exact ⟨2, rfl, by omega, by omega, p2⟩
    · exact ⟨a.toNat, by rw [Int.toNat_of_nonneg (by omega)], by omega, by omega, a9⟩
  have hm9 : many ≤ 9 := by omega
  rw [tuples_eq' hm9 w3]
  simp [mIfS, mThenB, mBin, mC, mSet, mSetL, mThen, mCons, mNil, mD, mSl, mVar, mRet, mCall, m_thenS, s_bind_e, s_fin_e, m_bind_assoc, asBool, subD, gtD, ltD, geD, leD, opII, ltI, modD, divD, lenD, listD, tupD, mFor, mTup, mLst, mLstL, mList, mLc, dats, mLenO, mSeq, seqD, mRng1, gN, wipeE, mYes, few0, few1, few2, few4, few5, few3]
  refine (Go.bind (n := 1) (k := 18) (take_go (n := 2) (by omega) (by omega)) ?_).mono (by omega) fun _ h => h
  rintro d ⟨r, rfl, r0, r1⟩
  simp [mIfS, mThenB, mBin, mC, mSet, mSetL, mThen, mCons, mNil, mD, mSl, mVar, mRet, mCall, m_thenS, s_bind_e, s_fin_e, m_bind_assoc, asBool, subD, gtD, ltD, geD, leD, opII, ltI, modD, divD, lenD, listD, tupD, mFor, mTup, mLst, mLstL, mList, mLc, dats, mLenO, mSeq, seqD, mRng1, gN, wipeE, mYes, few0, few1, few2, few4, few5, few3, add_ii]
  refine (Go.bind (n := 9) (k := 9) ((Go.lcs (k := 1) (h := fun d => d) ?_).mono ?_ fun _ h => h) ?_).mono (by omega) fun _ h => h
  · intro d hd
    refine ⟨_, rfl, ?_, rfl⟩
    simp [mIfS, mThenB, mBin, mC, mSet, mSetL, mThen, mCons, mNil, mD, mSl, mVar, mRet, mCall, m_thenS, s_bind_e, s_fin_e, m_bind_assoc, asBool, subD, gtD, ltD, geD, leD, opII, ltI, modD, divD, lenD, listD, tupD, mFor, mTup, mLst, mLstL, mList, mLc, dats, mLenO, mSeq, seqD, mRng1, gN, wipeE, mYes, few0, few1, few2, few4, few5, few3]
    refine (Go.bind (n := 1) (k := 0) (take_go (n := 2 + r) (by omega) (by omega)) ?_).mono (by omega) fun _ h => h
    rintro d ⟨r, rfl, r0, r1⟩
    exact Go.pure trivial
  · rw [List.length_map, tups_len]; omega
  intro es e0
  rw [List.map_id'] at e0
  have e1 := e0.length_le
  have e2 : ∀ e ∈ es, ∃ d ∈ (tupsI many w).map rowD, e = d := fun e he => ⟨e, e0.subset he, rfl⟩
  have e7 : es.Nodup := e0.nodup (nodup_map (fun a b e => rowD_inj e) (tups_nodup many w))
  rw [List.length_map, tups_len] at e1
  simp [mIfS, mThenB, mBin, mC, mSet, mSetL, mThen, mCons, mNil, mD, mSl, mVar, mRet, mCall, m_thenS, s_bind_e, s_fin_e, m_bind_assoc, asBool, subD, gtD, ltD, geD, leD, opII, ltI, modD, divD, lenD, listD, tupD, mFor, mTup, mLst, mLstL, mList, mLc, dats, mLenO, mSeq, seqD, mRng1, gN, wipeE, mYes, few0, few1, few2, few4, few5, few3, mSlice, mNoPart, mPart, intO]
  refine (Go.bind (n := 9) (k := 0) ((mixed_go (by omega)).mono (by omega) fun _ h => h) ?_).mono (by omega) fun _ h => h
  rintro d ⟨fs, rfl, pm⟩
  obtain ⟨rs, e3, e4⟩ := rows_of (P := fun r => r ∈ tupsI many w) (l := (isort (fs.take 6))) fun d hd => by
    have h1 : d ∈ fs := List.mem_of_mem_take (isort_mem.mp hd)
    obtain ⟨d', h2, rfl⟩ := e2 d (pm.mem_iff.mp h1)
    obtain ⟨r, h3, rfl⟩ := List.mem_map.mp h2
    exact ⟨r, h3, rfl⟩
  obtain ⟨rs', e5, e6⟩ := rows_of (P := fun r => r ∈ tupsI many w) (l := fs.take 6) fun d hd => by
    have h1 : d ∈ fs := List.mem_of_mem_take hd
    obtain ⟨d', h2, rfl⟩ := e2 d (pm.mem_iff.mp h1)
    obtain ⟨r, h3, rfl⟩ := List.mem_map.mp h2
    exact ⟨r, h3, rfl⟩
  have cut : slD (.list fs) none (some 6) = some (.list (fs.take 6)) := by
    have := pm.length_eq
    simp only [slD, cutG]
    congr 2
    simp [mIfS, mThenB, mBin, mC, mSet, mSetL, mThen, mCons, mNil, mD, mSl, mVar, mRet, mCall, m_thenS, s_bind_e, s_fin_e, m_bind_assoc, asBool, subD, gtD, ltD, geD, leD, opII, ltI, modD, divD, lenD, listD, tupD, mFor, mTup, mLst, mLstL, mList, mLc, dats, mLenO, mSeq, seqD, mRng1, gN, wipeE, mYes, few0, few1, few2, few4, few5, few3, HT.sIx]
  have srt : sortedD [.d (.list (fs.take 6))] = some (.list (rs.map rowD)) := by
    show (if srtOk (fs.take 6) = true then some (PyData.list (isort (fs.take 6))) else none) = _
    rw [e5, if_pos (srt_rows fun r hr => by
      have := (tups_each (e6 r hr)).1
      intro e
      rw [e] at this
      simp [mIfS, mThenB, mBin, mC, mSet, mSetL, mThen, mCons, mNil, mD, mSl, mVar, mRet, mCall, m_thenS, s_bind_e, s_fin_e, m_bind_assoc, asBool, subD, gtD, ltD, geD, leD, opII, ltI, modD, divD, lenD, listD, tupD, mFor, mTup, mLst, mLstL, mList, mLc, dats, mLenO, mSeq, seqD, mRng1, gN, wipeE, mYes, few0, few1, few2, few4, few5, few3] at this
      omega), ← e5, e3]
  simp [mIfS, mThenB, mBin, mC, mSet, mSetL, mThen, mCons, mNil, mD, mSl, mVar, mRet, mCall, m_thenS, s_bind_e, s_fin_e, m_bind_assoc, asBool, subD, gtD, ltD, geD, leD, opII, ltI, modD, divD, lenD, listD, tupD, mFor, mTup, mLst, mLstL, mList, mLc, dats, mLenO, mSeq, seqD, mRng1, gN, wipeE, mYes, few0, few1, few2, few4, few5, few3, cut, srt]
  refine Go.pure ⟨(w, rs), ⟨by show (1 : Int) ≤ w; omega, by show (w : Int) ≤ 3; omega, ?_, fun r hr => ?_, ?_⟩, rfl⟩
  · have := congrArg List.length e3
    rw [isort_len, List.length_take, List.length_map] at this
    show rs.length ≤ 8
    omega
  · have := tups_each (e4 r hr)
    exact ⟨by show r.length = ((w : Nat) : Int).toNat; rw [this.1]; rfl, this.2⟩
  · have e8 : (rs'.map rowD).Nodup := e5 ▸ ((pm.nodup_iff.mpr e7).sublist (List.take_sublist ..))
    show ascB (rs.map rowD) = true
    rw [← e3, e5, isort_set (keyed_rows rs') (allAlike_rows rs') e8]
    exact asc_set (keyed_rows rs') (allAlike_rows rs')
end
section
def knownK : List (Nat × Kind) := [(2, (2, [[0, 0], [1, 1]])), (2, (2, [[0, 0], [0, 1], [1, 1]])), (2, (2, [[0, 1], [1, 0], [1, 1]])), (2, (2, [[0, 1], [1, 0]])), (2, (3, [[0, 0, 0], [0, 1, 1], [1, 0, 1], [1, 1, 0]])), (2, (3, [[0, 0, 1], [0, 1, 0], [1, 0, 0]])),
  (3, (2, [[0, 1], [0, 2], [1, 0], [1, 2], [2, 0], [2, 1]])), (3, (2, [[0, 0], [1, 2], [2, 1]])), (3, (2, [[0, 1], [1, 2], [2, 0]]))]
def knownD (p : Nat × Kind) : Dt := .tuple [.int (p.1 : Nat), kindD p.2]
def isOkK (m : Nat) (b : Bx) (r : Option (Except Ex Dt × Bx)) : Bool := true
theorem few6 : (6 : Nat) ≤ sizeLine := sz_of (by omega)
theorem few9 : (9 : Nat) ≤ sizeLine := sz_of (by omega)
theorem known_eq : m__law_known [] = mOk (.list (knownK.map knownD)) := by
  unfold m__law_known
  rw [m_def (by rfl)]
  simp [mIfS, mThenB, mBin, mC, mSet, mSetL, mThen, mCons, mNil, mD, mSl, mVar, mRet, mCall, m_thenS, s_bind_e, s_fin_e, m_bind_assoc, asBool, subD, gtD, ltD, geD, leD, opII, ltI, modD, divD, lenD, listD, tupD, mFor, mTup, mLst, mLstL, mList, mLc, dats, mLenO, mSeq, seqD, mRng1, gN, wipeE, mYes, few0, few1, few2, few4, few5, few3, mAsg, gTupD, gConsD, DL.gNil, few6, few9]
  rfl
theorem known_wf : ∀ p ∈ knownK, WfK p.1 p.2 := by
  have h : (knownK.all fun p => decide (1 ≤ p.2.1) && decide (p.2.1 ≤ 3) && decide (p.2.2.length ≤ 8) && (p.2.2.all fun r => decide (r.length = p.2.1.toNat) && r.all fun x => decide (0 ≤ x) && decide (x < (p.1 : Int))) && ascB (p.2.2.map fun r => PyData.tuple (r.map PyData.int))) = true := by decide +kernel
  intro p hp
  have := List.all_eq_true.mp h p hp
  simp only [Bool.and_eq_true, decide_eq_true_eq, List.all_eq_true] at this
  obtain ⟨⟨⟨⟨h1, h2⟩, h3⟩, h4⟩, h5⟩ := this
  exact ⟨h1, h2, h3, fun r hr => ⟨(h4 r hr).1, fun x hx => (h4 r hr).2 x hx⟩, h5⟩
theorem pool_of {ρ : EnvD} {many : Nat} (hρ : ρ[3]? = some (some (.d (.int many)))) (hl : 6 < ρ.length) : lcLoop (gN 6) (mThenB (mBin DL.eqD (mBin ixD (mVar 6) (mC (.int 0))) (mVar 3)) asBool) (mBin ixD (mVar 6) (mC (.int 1))) ρ (knownK.map knownD) = mOk ((knownK.filter fun p => PyData.eqv (.int (p.1 : Nat)) (.int many)).map fun p => kindD p.2) := by
  have h := lc_filter (g := gN 6) (ft := mThenB (mBin DL.eqD (mBin ixD (mVar 6) (mC (.int 0))) (mVar 3)) asBool) (fe := mBin ixD (mVar 6) (mC (.int 1))) (ρ := ρ) (p := fun d => match d with | .tuple (x :: _) => PyData.eqv x (.int many) | _ => false) (h := fun d => match d with | .tuple (_ :: y :: _) => y | _ => .none) (ds := knownK.map knownD) fun d hd => by
    obtain ⟨p, hp, rfl⟩ := List.mem_map.mp hd
    refine ⟨_, rfl, ?_, fun _ => ?_⟩
    · have e1 : (ρ.set 6 (some (.d (knownD p))))[3]? = some (some (.d (.int many))) := by rw [List.getElem?_set_ne (by decide)]; exact hρ
      have e2 : (ρ.set 6 (some (.d (knownD p))))[6]? = some (some (.d (knownD p))) := by rw [List.getElem?_set_self hl]
      have k0 : ixD (knownD p) (.int 0) = some (.int p.1) := ix_t (ds := [.int (p.1 : Nat), kindD p.2]) (r := 0) (by omega) (by simp [mIfS, mThenB, mBin, mC, mSet, mSetL, mThen, mCons, mNil, mD, mSl, mVar, mRet, mCall, m_thenS, s_bind_e, s_fin_e, m_bind_assoc, asBool, subD, gtD, ltD, geD, leD, opII, ltI, modD, divD, lenD, listD, tupD, mFor, mTup, mLst, mLstL, mList, mLc, dats, mLenO, mSeq, seqD, mRng1, gN, wipeE, mYes, few0, few1, few2, few4, few5, few3])
      unfold mThenB
      rw [bin_eq (x := .int p.1) (y := .int many) (by rw [bin_eq (var_eq e2) (y := .int 0) rfl, k0, m_opt_some]) (var_eq e1), eq_ii, m_opt_some, m_bind_ok]
      rfl
    · have e2 : (ρ.set 6 (some (.d (knownD p))))[6]? = some (some (.d (knownD p))) := by rw [List.getElem?_set_self hl]
      have k1 : ixD (knownD p) (.int 1) = some (kindD p.2) := ix_t (ds := [.int (p.1 : Nat), kindD p.2]) (r := 1) (by omega) (by simp [mIfS, mThenB, mBin, mC, mSet, mSetL, mThen, mCons, mNil, mD, mSl, mVar, mRet, mCall, m_thenS, s_bind_e, s_fin_e, m_bind_assoc, asBool, subD, gtD, ltD, geD, leD, opII, ltI, modD, divD, lenD, listD, tupD, mFor, mTup, mLst, mLstL, mList, mLc, dats, mLenO, mSeq, seqD, mRng1, gN, wipeE, mYes, few0, few1, few2, few4, few5, few3])
      rw [bin_eq (var_eq e2) (y := .int 1) rfl, k1, m_opt_some]
      rfl
  rw [h]
  congr 1
  rw [List.filter_map, List.map_map]
  rfl
theorem eqv_ii (i j : Int) : PyData.eqv (.int i) (.int j) = decide (i = j) := by
  simp [mIfS, mThenB, mBin, mC, mSet, mSetL, mThen, mCons, mNil, mD, mSl, mVar, mRet, mCall, m_thenS, s_bind_e, s_fin_e, m_bind_assoc, asBool, subD, gtD, ltD, geD, leD, opII, ltI, modD, divD, lenD, listD, tupD, mFor, mTup, mLst, mLstL, mList, mLc, dats, mLenO, mSeq, seqD, mRng1, gN, wipeE, mYes, few0, few1, few2, few4, few5, few3, PyData.eqv]
  rfl
def AllWf (many : Nat) (ks : List Kind) : Prop := ∀ k ∈ ks, WfK many k
def IsBook (d : Dt) : Prop := ∃ (many : Nat) (tel : Bool) (ks : List Kind), (many = 2 ∨ many = 3) ∧ (∀ k ∈ ks, WfK many k) ∧ (ks.length ≤ 2 ∧ 1 ≤ ks.length) ∧ d = bookD many tel ks
theorem book_go : Go 70 (m__law_book [.box, .d (.int 2)]) IsBook := by
  unfold m__law_book
  rw [m_def (by rfl)]
  simp [mIfS, mThenB, mBin, mC, mSet, mSetL, mThen, mCons, mNil, mD, mSl, mVar, mRet, mCall, m_thenS, s_bind_e, s_fin_e, m_bind_assoc, asBool, subD, gtD, ltD, geD, leD, opII, ltI, modD, divD, lenD, listD, tupD, mFor, mTup, mLst, mLstL, mList, mLc, dats, mLenO, mSeq, seqD, mRng1, gN, wipeE, mYes, few0, few1, few2, few4, few5, few3, mParN2, mConsS, mConsL, mNilN]
  refine (Go.bind (n := 1) (k := 69) (of_go (by simp [mIfS, mThenB, mBin, mC, mSet, mSetL, mThen, mCons, mNil, mD, mSl, mVar, mRet, mCall, m_thenS, s_bind_e, s_fin_e, m_bind_assoc, asBool, subD, gtD, ltD, geD, leD, opII, ltI, modD, divD, lenD, listD, tupD, mFor, mTup, mLst, mLstL, mList, mLc, dats, mLenO, mSeq, seqD, mRng1, gN, wipeE, mYes, few0, few1, few2, few4, few5, few3]) (by simp [mIfS, mThenB, mBin, mC, mSet, mSetL, mThen, mCons, mNil, mD, mSl, mVar, mRet, mCall, m_thenS, s_bind_e, s_fin_e, m_bind_assoc, asBool, subD, gtD, ltD, geD, leD, opII, ltI, modD, divD, lenD, listD, tupD, mFor, mTup, mLst, mLstL, mList, mLc, dats, mLenO, mSeq, seqD, mRng1, gN, wipeE, mYes, few0, few1, few2, few4, few5, few3])) fun d hd => ?_).mono (by omega) fun _ h => h
  obtain ⟨many, rfl, hm⟩ : ∃ many : Nat, d = .int many ∧ (many = 2 ∨ many = 3) := by
    rcases (show d = .int 2 ∨ d = .int 2 ∨ d = .int 2 ∨ d = .int 3 by simpa using hd) with rfl | rfl | rfl | rfl
    · exact ⟨2, rfl, .inl rfl⟩
    · exact ⟨2, rfl, .inl rfl⟩
    · exact ⟨2, rfl, .inl rfl⟩
    · exact ⟨3, rfl, .inr rfl⟩
  simp [mIfS, mThenB, mBin, mC, mSet, mSetL, mThen, mCons, mNil, mD, mSl, mVar, mRet, mCall, m_thenS, s_bind_e, s_fin_e, m_bind_assoc, asBool, subD, gtD, ltD, geD, leD, opII, ltI, modD, divD, lenD, listD, tupD, mFor, mTup, mLst, mLstL, mList, mLc, dats, mLenO, mSeq, seqD, mRng1, gN, wipeE, mYes, few0, few1, few2, few4, few5, few3, Nw.isL, setN]
  refine (Go.bind (n := 1) (k := 68) (take_go (n := 2) (by omega) (by omega)) ?_).mono (by omega) fun _ h => h
  rintro d ⟨laps, rfl, l0, l1⟩
  simp [mIfS, mThenB, mBin, mC, mSet, mSetL, mThen, mCons, mNil, mD, mSl, mVar, mRet, mCall, m_thenS, s_bind_e, s_fin_e, m_bind_assoc, asBool, subD, gtD, ltD, geD, leD, opII, ltI, modD, divD, lenD, listD, tupD, mFor, mTup, mLst, mLstL, mList, mLc, dats, mLenO, mSeq, seqD, mRng1, gN, wipeE, mYes, few0, few1, few2, few4, few5, few3, add_ii, rng1_ok (j := 1 + laps) (by omega) (by omega)]
  refine GoS.fin ?_
  refine (GoS.seq (n := (rngD 0 (1 + laps).toNat).length * 22) (k := 1) (Q := fun ρ => ∃ (a b c : Option Sl) (ks : List Kind), ρ = [some Sl.box, some (.d (.int 2)), a, some (.d (.int many)), some (.d (.list (ks.map kindD))), b, c] ∧ (ks.length ≤ 2 ∧ 1 ≤ ks.length) ∧ AllWf many ks)
    ((GoS.loop (k := 22) (I := fun its ρ => ∃ (a b c : Option Sl) (ks : List Kind), ρ = [some Sl.box, some (.d (.int 2)), a, some (.d (.int many)), some (.d (.list (ks.map kindD))), b, c] ∧ (ks.length + its.length ≤ 2 ∧ 1 ≤ ks.length + its.length) ∧ AllWf many ks) ⟨none, none, none, [], rfl, by rw [rngD_len]; simp [mIfS, mThenB, mBin, mC, mSet, mSetL, mThen, mCons, mNil, mD, mSl, mVar, mRet, mCall, m_thenS, s_bind_e, s_fin_e, m_bind_assoc, asBool, subD, gtD, ltD, geD, leD, opII, ltI, modD, divD, lenD, listD, tupD, mFor, mTup, mLst, mLstL, mList, mLc, dats, mLenO, mSeq, seqD, mRng1, gN, wipeE, mYes, few0, few1, few2, few4, few5, few3]; omega, fun k hk => by simp [mIfS, mThenB, mBin, mC, mSet, mSetL, mThen, mCons, mNil, mD, mSl, mVar, mRet, mCall, m_thenS, s_bind_e, s_fin_e, m_bind_assoc, asBool, subD, gtD, ltD, geD, leD, opII, ltI, modD, divD, lenD, listD, tupD, mFor, mTup, mLst, mLstL, mList, mLc, dats, mLenO, mSeq, seqD, mRng1, gN, wipeE, mYes, few0, few1, few2, few4, few5, few3] at hk⟩ ?_).mono (Nat.le_refl _) ?_) ?_).mono (by rw [rngD_len]; omega) fun _ _ h => h
  · rintro d r ρ ⟨a, b, c, ks, rfl, hl, W⟩
    rw [List.length_cons] at hl
    refine ⟨_, rfl, ?_⟩
    simp [mIfS, mThenB, mBin, mC, mSet, mSetL, mThen, mCons, mNil, mD, mSl, mVar, mRet, mCall, m_thenS, s_bind_e, s_fin_e, m_bind_assoc, asBool, subD, gtD, ltD, geD, leD, opII, ltI, modD, divD, lenD, listD, tupD, mFor, mTup, mLst, mLstL, mList, mLc, dats, mLenO, mSeq, seqD, mRng1, gN, wipeE, mYes, few0, few1, few2, few4, few5, few3, m_call0 known_eq]
    rw [pool_of (many := many) rfl (by simp [mIfS, mThenB, mBin, mC, mSet, mSetL, mThen, mCons, mNil, mD, mSl, mVar, mRet, mCall, m_thenS, s_bind_e, s_fin_e, m_bind_assoc, asBool, subD, gtD, ltD, geD, leD, opII, ltI, modD, divD, lenD, listD, tupD, mFor, mTup, mLst, mLstL, mList, mLc, dats, mLenO, mSeq, seqD, mRng1, gN, wipeE, mYes, few0, few1, few2, few4, few5, few3])]
    simp [mIfS, mThenB, mBin, mC, mSet, mSetL, mThen, mCons, mNil, mD, mSl, mVar, mRet, mCall, m_thenS, s_bind_e, s_fin_e, m_bind_assoc, asBool, subD, gtD, ltD, geD, leD, opII, ltI, modD, divD, lenD, listD, tupD, mFor, mTup, mLst, mLstL, mList, mLc, dats, mLenO, mSeq, seqD, mRng1, gN, wipeE, mYes, few0, few1, few2, few4, few5, few3]
    rw [app_eq (ds := ks.map kindD) rfl (by rw [List.length_map]; omega)]
    have pool : (knownK.filter fun p => PyData.eqv (.int (p.1 : Nat)) (.int (many : Nat))) ≠ [] := by
      rcases hm with rfl | rfl <;> decide
    have item : Go 22 ((mIf (mThenB (mBin DL.eqD (mCall m__law_take (mCons (mSl 0) (mCons (mD (mC (.int 2))) mNil))) (mC (.int 0))) asBool) (mCall m__law_of (mCons (mSl 0) (mCons (mD (mVar 5)) mNil))) (mCall m__law_kind (mCons (mSl 0) (mCons (mD (mVar 3)) mNil)))) [some Sl.box, some (.d (.int 2)), some (.d d), some (.d (.int many)), some (.d (.list (ks.map kindD))), some (.d (.list ((knownK.filter fun p => PyData.eqv (.int (p.1 : Nat)) (.int (many : Nat))).map fun p => kindD p.2))), c]) (IsKind many) := by
      simp [mIfS, mThenB, mBin, mC, mSet, mSetL, mThen, mCons, mNil, mD, mSl, mVar, mRet, mCall, m_thenS, s_bind_e, s_fin_e, m_bind_assoc, asBool, subD, gtD, ltD, geD, leD, opII, ltI, modD, divD, lenD, listD, tupD, mFor, mTup, mLst, mLstL, mList, mLc, dats, mLenO, mSeq, seqD, mRng1, gN, wipeE, mYes, few0, few1, few2, few4, few5, few3, mIf]
      refine (Go.bind (n := 1) (k := 21) (take_go (n := 2) (by omega) (by omega)) ?_).mono (by omega) fun _ h => h
      rintro d ⟨r, rfl, r0, r1⟩
      simp [mIfS, mThenB, mBin, mC, mSet, mSetL, mThen, mCons, mNil, mD, mSl, mVar, mRet, mCall, m_thenS, s_bind_e, s_fin_e, m_bind_assoc, asBool, subD, gtD, ltD, geD, leD, opII, ltI, modD, divD, lenD, listD, tupD, mFor, mTup, mLst, mLstL, mList, mLc, dats, mLenO, mSeq, seqD, mRng1, gN, wipeE, mYes, few0, few1, few2, few4, few5, few3, eq_ii]
      split
      · refine (of_go (by simpa using pool) ?_).mono (by omega) fun d hd => ?_
        · rw [List.length_map]
          exact Nat.lt_of_le_of_lt (List.length_filter_le _ _) (by decide)
        · obtain ⟨p, hp, rfl⟩ := List.mem_map.mp hd
          obtain ⟨h1, h2⟩ := List.mem_filter.mp hp
          have := known_wf p h1
          have e : p.1 = many := by
            rw [eqv_ii] at h2
            have := of_decide_eq_true h2
            omega
          rw [e] at this
          exact ⟨_, this, rfl⟩
      · exact (kind_go hm).mono (by omega) fun _ h => h
    refine (Go.e (n := 22) (k := 0) item ?_).mono (by omega) fun _ _ h => h
    rintro d ⟨k, hk, rfl⟩
    refine GoS.ok ⟨rfl, _, _, _, ks ++ [k], by rw [List.map_append]; rfl, by simp [mIfS, mThenB, mBin, mC, mSet, mSetL, mThen, mCons, mNil, mD, mSl, mVar, mRet, mCall, m_thenS, s_bind_e, s_fin_e, m_bind_assoc, asBool, subD, gtD, ltD, geD, leD, opII, ltI, modD, divD, lenD, listD, tupD, mFor, mTup, mLst, mLstL, mList, mLc, dats, mLenO, mSeq, seqD, mRng1, gN, wipeE, mYes, few0, few1, few2, few4, few5, few3]; omega, fun k' hk' => ?_⟩
    rcases List.mem_append.mp hk' with h | h
    · exact W k' h
    · rw [List.mem_singleton.mp h]; exact hk
  · rintro f ρ ⟨rfl, a, b, c, ks, rfl, hl, W⟩
    exact ⟨rfl, a, b, c, ks, rfl, by simpa using hl, W⟩
  · rintro ρ ⟨a, b, c, ks, rfl, hl, W⟩
    simp [mIfS, mThenB, mBin, mC, mSet, mSetL, mThen, mCons, mNil, mD, mSl, mVar, mRet, mCall, m_thenS, s_bind_e, s_fin_e, m_bind_assoc, asBool, subD, gtD, ltD, geD, leD, opII, ltI, modD, divD, lenD, listD, tupD, mFor, mTup, mLst, mLstL, mList, mLc, dats, mLenO, mSeq, seqD, mRng1, gN, wipeE, mYes, few0, few1, few2, few4, few5, few3]
    refine (Go.e (n := 1) (k := 0) (Q := IsBook) ((Go.bind (n := 1) (k := 0) (take_go (n := 2) (by omega) (by omega)) ?_).mono (by omega) fun _ h => h) ?_).mono (by omega) fun _ _ h => h
    · rintro d ⟨r, rfl, r0, r1⟩
      simp [mIfS, mThenB, mBin, mC, mSet, mSetL, mThen, mCons, mNil, mD, mSl, mVar, mRet, mCall, m_thenS, s_bind_e, s_fin_e, m_bind_assoc, asBool, subD, gtD, ltD, geD, leD, opII, ltI, modD, divD, lenD, listD, tupD, mFor, mTup, mLst, mLstL, mList, mLc, dats, mLenO, mSeq, seqD, mRng1, gN, wipeE, mYes, few0, few1, few2, few4, few5, few3, eq_ii]
      exact Go.pure ⟨many, _, ks, hm, W, hl, rfl⟩
    · intro d hd
      exact GoS.ok ⟨_, rfl, hd⟩
end
section
def Sm (n : Nat) (d : Dt) : Prop := m__law_same n [.d d, .d d] = mOk (.bool true)
theorem sm_int (n : Nat) (i : Int) : Sm (n + 1) (.int i) := same_int n i
theorem sm_bool (n : Nat) (i : Bool) : Sm (n + 1) (.bool i) := same_bool n i
theorem sm_tup {n : Nat} {ds : List Dt} (h : ∀ d ∈ ds, Sm n d) : Sm (n + 1) (.tuple ds) := by
  have := same_tup (f := id) (ts := ds) h
  rwa [List.map_id] at this
theorem sm_lst {n : Nat} {ds : List Dt} (h : ∀ d ∈ ds, Sm n d) : Sm (n + 1) (.list ds) := by
  have := same_lst (f := id) (ts := ds) h
  rwa [List.map_id] at this
theorem sm_ints (n : Nat) (xs : List Int) : ∀ d ∈ xs.map PyData.int, Sm (n + 1) d := fun d hd => by
  obtain ⟨i, _, rfl⟩ := List.mem_map.mp hd
  exact sm_int n i
theorem sm_tie (n : Nat) (i : Int) (cs : List Int) : Sm (n + 3) (tieD i cs) := sm_tup fun d hd => by
  rcases List.mem_cons.mp hd with rfl | hd
  · exact sm_int _ _
  · rw [List.mem_singleton.mp hd]
    exact sm_tup (sm_ints n cs)
theorem sm_soft (n : Nat) (many : Int) (tel : Bool) (ks : List Kind) : Sm (n + 6) (softD many tel ks) := sm_lst fun d hd => by
  rcases (show d = _ ∨ d = _ ∨ d = _ by simpa using hd) with rfl | rfl | rfl
  · exact sm_int _ _
  · exact sm_bool _ _
  · refine sm_lst fun d hd => ?_
    obtain ⟨k, _, rfl⟩ := List.mem_map.mp hd
    refine sm_lst fun d hd => ?_
    rcases (show d = _ ∨ d = _ by simpa using hd) with rfl | rfl
    · exact sm_int _ _
    · refine sm_lst fun d hd => ?_
      obtain ⟨r, _, rfl⟩ := List.mem_map.mp hd
      exact sm_lst (sm_ints n r)
end
section
/-! the script's numbers -/
theorem scr_eq {K : PySem.W.Frag} {ns : List Int} (h : ns.length ≤ 63) {ρ : EnvD} (hρ : ρ[0]? = some (some (.scr K ns))) {g h' : EnvD → Mo (Option Int)} {lo hi : Option Int} (hg : g ρ = mOk lo) (hh : h' ρ = mOk hi) : mScr K 0 g h' ρ = mOk (.list (cutG (ns.map PyData.int) lo hi)) := by
  unfold mScr
  rw [scrAt_mk hρ, m_opt_some, m_bind_ok, hg, m_bind_ok, hh, m_bind_ok, if_pos (sz_of (by omega)), m_opt_some]
theorem cut_map {ns : List Int} (lo hi : Option Int) : cutG (ns.map PyData.int) lo hi = (cutG ns lo hi).map PyData.int := by
  unfold cutG
  simp [mIfS, mThenB, mBin, mC, mSet, mSetL, mThen, mCons, mNil, mD, mSl, mVar, mRet, mCall, m_thenS, s_bind_e, s_fin_e, m_bind_assoc, asBool, subD, gtD, ltD, geD, leD, opII, ltI, modD, divD, lenD, listD, tupD, mFor, mTup, mLst, mLstL, mList, mLc, dats, mLenO, mSeq, seqD, mRng1, gN, wipeE, mYes, few0, few1, few2, few4, few5, few3]
theorem cut_head (ns : List Int) : cutG ns none (some 3) = ns.take 3 := by
  simp [mIfS, mThenB, mBin, mC, mSet, mSetL, mThen, mCons, mNil, mD, mSl, mVar, mRet, mCall, m_thenS, s_bind_e, s_fin_e, m_bind_assoc, asBool, subD, gtD, ltD, geD, leD, opII, ltI, modD, divD, lenD, listD, tupD, mFor, mTup, mLst, mLstL, mList, mLc, dats, mLenO, mSeq, seqD, mRng1, gN, wipeE, mYes, few0, few1, few2, few4, few5, few3, cutG, HT.sIx]
theorem cells_go {K : PySem.W.Frag} {ns : List Int} : ∀ (its : List Int) (i : Nat) (cs : List Int) (x y z : Option Sl), cs.length = 3 → i + its.length ≤ 63 → ∃ (cs' : List Int) (x' y' z' : Option Sl), forLoop (gTupD 2 (gConsD (gN 3) (gConsD (gN 4) DL.gNil))) (mThenS (mSet 5 (mBin modD (mThen (mCons (mD (mVar 3)) mNil) intD) (mVar 1))) (mSetO 2 (mBin addD (mIxO 2 (mVar 5)) (mBin mulD (mVar 4) (mBin addD (mVar 3) (mC (.int 2))))) (mVar 5)))
    (enumFrom i (its.map .int)) [some (.scr K ns), some (.d (.int 3)), some (.d (.list (cs.map .int))), x, y, z] = sOk .nx [some (.scr K ns), some (.d (.int 3)), some (.d (.list (cs'.map .int))), x', y', z'] ∧ cs'.length = 3
  | [], i, cs, x, y, z, h3, _ => ⟨cs, x, y, z, rfl, h3⟩
  | v :: its, i, cs, x, y, z, h3, hl => by
    rw [List.length_cons] at hl
    have r0 : 0 ≤ (i : Int) % 3 := Int.emod_nonneg _ (by omega)
    have r1 : (i : Int) % 3 < 3 := Int.emod_lt_of_pos _ (by omega)
    obtain ⟨j, hj⟩ : ∃ j : Nat, (i : Int) % 3 = j := ⟨((i : Int) % 3).toNat, by omega⟩
    have hj3 : j < cs.length := by omega
    obtain ⟨cs', x', y', z', e, e3⟩ := cells_go (K := K) (ns := ns) its (i + 1) (cs.set j (cs[j] + v * ((i : Int) + 2))) (some (.d (.int (i : Nat)))) (some (.d (.int v))) (some (.d (.int (j : Nat)))) (by rw [List.length_set]; exact h3) (by omega)
    refine ⟨cs', x', y', z', ?_, e3⟩
    rw [List.map_cons, enumFrom, for_cons (ρ1 := [some (.scr K ns), some (.d (.int 3)), some (.d (.list (cs.map .int))), some (.d (.int (i : Nat))), some (.d (.int v)), z]) (ρ2 := [some (.scr K ns), some (.d (.int 3)), some (.d (.list ((cs.set j (cs[j] + v * ((i : Int) + 2))).map .int))), some (.d (.int (i : Nat))), some (.d (.int v)), some (.d (.int (j : Nat)))]) rfl, e]
    have at_ : L2.atI (cs.map PyData.int) (j : Int) = some (.int cs[j]) := by
      rw [atI_ok (by omega) (by rw [List.length_map]; omega)]
      simp [mIfS, mThenB, mBin, mC, mSet, mSetL, mThen, mCons, mNil, mD, mSl, mVar, mRet, mCall, m_thenS, s_bind_e, s_fin_e, m_bind_assoc, asBool, subD, gtD, ltD, geD, leD, opII, ltI, modD, divD, lenD, listD, tupD, mFor, mTup, mLst, mLstL, mList, mLc, dats, mLenO, mSeq, seqD, mRng1, gN, wipeE, mYes, few0, few1, few2, few4, few5, few3]
    have ix_ : L2.ixN (cs.map PyData.int).length (j : Int) = some j := by
      unfold L2.ixN
      rw [if_pos (by omega), if_pos (by rw [List.length_map]; omega)]
      rfl
    simp [mIfS, mThenB, mBin, mC, mSet, mSetL, mThen, mCons, mNil, mD, mSl, mVar, mRet, mCall, m_thenS, s_bind_e, s_fin_e, m_bind_assoc, asBool, subD, gtD, ltD, geD, leD, opII, ltI, modD, divD, lenD, listD, tupD, mFor, mTup, mLst, mLstL, mList, mLc, dats, mLenO, mSeq, seqD, mRng1, gN, wipeE, mYes, few0, few1, few2, few4, few5, few3, intD, hj, mSetO, slotL, mIxO, at_, add_ii, mul_ij (j := (i : Int) + 2) (by omega)]
    rw [List.length_map] at ix_
    rw [ix_]
theorem cells_eq {K : PySem.W.Frag} {ns : List Int} (h : ns.length ≤ 63) : ∃ cs : List Int, m__law_cells K [.scr K ns, .d (.int 3)] = mOk (.list (cs.map .int)) ∧ 1 ≤ cs.length ∧ cs.length ≤ 3 := by
  have e1 : ∀ ρ : EnvD, ρ[0]? = some (some (.scr K ns)) → ρ[1]? = some (some (.d (.int 3))) → mScr K 0 mNoPart (mPart (mVar 1)) ρ = mOk (.list ((ns.take 3).map .int)) := fun ρ h0 h1 => by
    rw [scr_eq h h0 (lo := none) (hi := some 3) rfl (by unfold mPart; rw [var_eq h1]; rfl), cut_map, cut_head]
  have e2 : ∀ ρ : EnvD, ρ[0]? = some (some (.scr K ns)) → ρ[1]? = some (some (.d (.int 3))) → mScr K 0 (mPart (mVar 1)) (mPart (mC (.int 63))) ρ = mOk (.list ((cutG ns (some 3) (some 63)).map .int)) := fun ρ h0 h1 => by
    rw [scr_eq h h0 (lo := some 3) (hi := some 63) (by unfold mPart; rw [var_eq h1]; rfl) rfl, cut_map]
  have cl := cut_len ns (some 3) (some 63)
  unfold m__law_cells
  rw [m_def (by rfl)]
  simp [mIfS, mThenB, mBin, mC, mSet, mSetL, mThen, mCons, mNil, mD, mSl, mVar, mRet, mCall, m_thenS, s_bind_e, s_fin_e, m_bind_assoc, asBool, subD, gtD, ltD, geD, leD, opII, ltI, divD, lenD, listD, tupD, mFor, mTup, mLst, mLstL, mList, mLc, dats, mLenO, mSeq, seqD, mRng1, gN, wipeE, mYes, few0, few1, few2, few4, few5, few3, mOrL, mListL]
  rw [e1 _ rfl rfl]
  have fin0 : ∀ cs : List Int, 1 ≤ cs.length → cs.length ≤ 3 → (3 < ns.length → cs.length = 3) → ∃ cs' : List Int, (∃ x y z, forLoop (gTupD 2 (gConsD (gN 3) (gConsD (gN 4) DL.gNil))) (mThenS (mSet 5 (mBin modD (mThen (mCons (mD (mVar 3)) mNil) intD) (mVar 1))) (mSetO 2 (mBin addD (mIxO 2 (mVar 5)) (mBin mulD (mVar 4) (mBin addD (mVar 3) (mC (.int 2))))) (mVar 5)))
      (enumP ((cutG ns (some 3) (some 63)).map .int)) [some (.scr K ns), some (.d (.int 3)), some (.d (.list (cs.map .int))), none, none, none] = sOk .nx [some (.scr K ns), some (.d (.int 3)), some (.d (.list (cs'.map .int))), x, y, z]) ∧ 1 ≤ cs'.length ∧ cs'.length ≤ 3 := fun cs c1 c3 hn => by
    by_cases h4 : 3 < ns.length
    · obtain ⟨cs', x, y, z, e, e3⟩ := cells_go (K := K) (ns := ns) (cutG ns (some 3) (some 63)) 0 cs none none none (hn h4) (by omega)
      exact ⟨cs', ⟨x, y, z, by rw [enumP_eq]; exact e⟩, by omega, by omega⟩
    · have : cutG ns (some 3) (some 63) = [] := by
        apply List.eq_nil_of_length_eq_zero
        simp [mIfS, mThenB, mBin, mC, mSet, mSetL, mThen, mCons, mNil, mD, mSl, mVar, mRet, mCall, m_thenS, s_bind_e, s_fin_e, m_bind_assoc, asBool, subD, gtD, ltD, geD, leD, opII, ltI, modD, divD, lenD, listD, tupD, mFor, mTup, mLst, mLstL, mList, mLc, dats, mLenO, mSeq, seqD, mRng1, gN, wipeE, mYes, few0, few1, few2, few4, few5, few3, cutG, HT.sIx]
        omega
      rw [this]
      exact ⟨cs, ⟨none, none, none, rfl⟩, c1, c3⟩
  have e3 : ∀ ρ : EnvD, ρ[0]? = some (some (.scr K ns)) → ρ[1]? = some (some (.d (.int 3))) → mEnumA (mCons (mD (mScr K 0 (mPart (mVar 1)) (mPart (mC (.int 63))))) mNil) ρ = mOk (enumP ((cutG ns (some 3) (some 63)).map .int)) := fun ρ h0 h1 => by
    have := e2 ρ h0 h1
    unfold mEnumA mCons mD
    rw [this]
    rfl
  have tail : ∀ cs : List Int, 1 ≤ cs.length → cs.length ≤ 3 → (3 < ns.length → cs.length = 3) → ∃ cs' : List Int, mBind (mEnumA (mCons (mD (mScr K 0 (mPart (mVar 1)) (mPart (mC (.int 63))))) mNil) [some (.scr K ns), some (.d (.int 3)), some (.d (.list (cs.map .int))), none, none, none]) (fun a => sFin (sBind (forLoop (gTupD 2 (gConsD (gN 3) (gConsD (gN 4) DL.gNil))) (mThenS (mSet 5 (mBin DL.modD (mThen (mCons (mD (mVar 3)) mNil) intD) (mVar 1))) (mSetO 2 (mBin addD (mIxO 2 (mVar 5)) (mBin mulD (mVar 4) (mBin addD (mVar 3) (mC (.int 2))))) (mVar 5))) a [some (.scr K ns), some (.d (.int 3)), some (.d (.list (cs.map .int))), none, none, none]) (mRet (mVar 2)))) = mOk (.list (cs'.map .int)) ∧ 1 ≤ cs'.length ∧ cs'.length ≤ 3 := fun cs c1 c2 c3 => by
    obtain ⟨cs', ⟨x, y, z, e⟩, d1, d2⟩ := fin0 cs c1 c2 c3
    refine ⟨cs', ?_, d1, d2⟩
    rw [e3 _ rfl rfl, m_bind_ok, e]
    simp [mIfS, mThenB, mBin, mC, mSet, mSetL, mThen, mCons, mNil, mD, mSl, mVar, mRet, mCall, m_thenS, s_bind_e, s_fin_e, m_bind_assoc, asBool, subD, gtD, ltD, geD, leD, opII, ltI, modD, divD, lenD, listD, tupD, mFor, mTup, mLst, mLstL, mList, mLc, dats, mLenO, mSeq, seqD, mRng1, gN, wipeE, mYes, few0, few1, few2, few4, few5, few3]
  by_cases hn : ns = []
  · obtain ⟨cs', e, d⟩ := tail [0] (by simp [mIfS, mThenB, mBin, mC, mSet, mSetL, mThen, mCons, mNil, mD, mSl, mVar, mRet, mCall, m_thenS, s_bind_e, s_fin_e, m_bind_assoc, asBool, subD, gtD, ltD, geD, leD, opII, ltI, modD, divD, lenD, listD, tupD, mFor, mTup, mLst, mLstL, mList, mLc, dats, mLenO, mSeq, seqD, mRng1, gN, wipeE, mYes, few0, few1, few2, few4, few5, few3]) (by simp [mIfS, mThenB, mBin, mC, mSet, mSetL, mThen, mCons, mNil, mD, mSl, mVar, mRet, mCall, m_thenS, s_bind_e, s_fin_e, m_bind_assoc, asBool, subD, gtD, ltD, geD, leD, opII, ltI, modD, divD, lenD, listD, tupD, mFor, mTup, mLst, mLstL, mList, mLc, dats, mLenO, mSeq, seqD, mRng1, gN, wipeE, mYes, few0, few1, few2, few4, few5, few3]) (by rw [hn]; simp [mIfS, mThenB, mBin, mC, mSet, mSetL, mThen, mCons, mNil, mD, mSl, mVar, mRet, mCall, m_thenS, s_bind_e, s_fin_e, m_bind_assoc, asBool, subD, gtD, ltD, geD, leD, opII, ltI, modD, divD, lenD, listD, tupD, mFor, mTup, mLst, mLstL, mList, mLc, dats, mLenO, mSeq, seqD, mRng1, gN, wipeE, mYes, few0, few1, few2, few4, few5, few3])
    refine ⟨cs', ?_, d⟩
    rw [← e]
    simp [mIfS, mThenB, mBin, mC, mSet, mSetL, mThen, mCons, mNil, mD, mSl, mVar, mRet, mCall, m_thenS, s_bind_e, s_fin_e, m_bind_assoc, asBool, subD, gtD, ltD, geD, leD, opII, ltI, modD, divD, lenD, listD, tupD, mFor, mTup, mLst, mLstL, mList, mLc, dats, mLenO, mSeq, seqD, mRng1, gN, wipeE, mYes, few0, few1, few2, few4, few5, few3, hn]
  · obtain ⟨n, ns', rfl⟩ : ∃ a l, ns = a :: l := by cases ns with
      | nil => exact (hn rfl).elim
      | cons a l => exact ⟨a, l, rfl⟩
    obtain ⟨cs', e, d⟩ := tail ((n :: ns').take 3) (by simp [mIfS, mThenB, mBin, mC, mSet, mSetL, mThen, mCons, mNil, mD, mSl, mVar, mRet, mCall, m_thenS, s_bind_e, s_fin_e, m_bind_assoc, asBool, subD, gtD, ltD, geD, leD, opII, ltI, modD, divD, lenD, listD, tupD, mFor, mTup, mLst, mLstL, mList, mLc, dats, mLenO, mSeq, seqD, mRng1, gN, wipeE, mYes, few0, few1, few2, few4, few5, few3]) (by simp [mIfS, mThenB, mBin, mC, mSet, mSetL, mThen, mCons, mNil, mD, mSl, mVar, mRet, mCall, m_thenS, s_bind_e, s_fin_e, m_bind_assoc, asBool, subD, gtD, ltD, geD, leD, opII, ltI, modD, divD, lenD, listD, tupD, mFor, mTup, mLst, mLstL, mList, mLc, dats, mLenO, mSeq, seqD, mRng1, gN, wipeE, mYes, few0, few1, few2, few4, few5, few3]; omega) (by simp [mIfS, mThenB, mBin, mC, mSet, mSetL, mThen, mCons, mNil, mD, mSl, mVar, mRet, mCall, m_thenS, s_bind_e, s_fin_e, m_bind_assoc, asBool, subD, gtD, ltD, geD, leD, opII, ltI, modD, divD, lenD, listD, tupD, mFor, mTup, mLst, mLstL, mList, mLc, dats, mLenO, mSeq, seqD, mRng1, gN, wipeE, mYes, few0, few1, few2, few4, few5, few3]; omega)
    refine ⟨cs', ?_, d⟩
    rw [← e]
    simp [mIfS, mThenB, mBin, mC, mSet, mSetL, mThen, mCons, mNil, mD, mSl, mVar, mRet, mCall, m_thenS, s_bind_e, s_fin_e, m_bind_assoc, asBool, subD, gtD, ltD, geD, leD, opII, ltI, modD, divD, lenD, listD, tupD, mFor, mTup, mLst, mLstL, mList, mLc, dats, mLenO, mSeq, seqD, mRng1, gN, wipeE, mYes, few0, few1, few2, few4, few5, few3]
end
section
theorem box_eq {cs : List Int} {i : Nat} (hi : i < cs.length) (h3 : cs.length ≤ 3) : ∃ x y : Int, m__law_box [.d (.list (cs.map .int)), .d (.int i)] = mOk [.int x, .int y, .int 0] ∧ 0 ≤ x ∧ 0 ≤ y ∧ y < 2 ^ 62 := by
  have c0 : CMul 39373 (i : Int) := .inl ⟨by decide, by decide⟩
  have lt : ltD (.int (i : Int)) (.int (cs.length : Int)) = some (.bool true) := by
    simp [mIfS, mThenB, mBin, mC, mSet, mSetL, mThen, mCons, mNil, mD, mSl, mVar, mRet, mCall, m_thenS, s_bind_e, s_fin_e, m_bind_assoc, asBool, subD, gtD, ltD, geD, leD, opII, ltI, modD, divD, lenD, listD, tupD, mFor, mTup, mLst, mLstL, mList, mLc, dats, mLenO, mSeq, seqD, mRng1, gN, wipeE, mYes, few0, few1, few2, few4, few5, few3, ltI]
    omega
  have p18 : powD (.int 10) (.int 18) = some (.int 1000000000000000000) := by
    show (if CPow 10 18 then some (PyData.int (10 ^ 18)) else none) = _
    rw [if_pos ⟨by decide, by decide, by decide⟩]
    rfl
  generalize hc : cs[i] = c
  have at_ : ixD (.list (cs.map .int)) (.int (i : Int)) = some (.int c) := by
    rw [ix_l (by omega) (by rw [List.length_map]; omega)]
    simp [mIfS, mThenB, mBin, mC, mSet, mSetL, mThen, mCons, mNil, mD, mSl, mVar, mRet, mCall, m_thenS, s_bind_e, s_fin_e, m_bind_assoc, asBool, subD, gtD, ltD, geD, leD, opII, ltI, modD, divD, lenD, listD, tupD, mFor, mTup, mLst, mLstL, mList, mLc, dats, mLenO, mSeq, seqD, mRng1, gN, wipeE, mYes, few0, few1, few2, few4, few5, few3, hc]
  obtain ⟨a, ha⟩ : ∃ a : Int, a = if c < 0 then -c else c := ⟨_, rfl⟩
  have ha0 : 0 ≤ a := by rw [ha]; split <;> omega
  have m0 := Int.emod_nonneg c (show (2305843009213693951 : Int) ≠ 0 by decide)
  have m1 := Int.emod_lt_of_pos c (show (0 : Int) < 2305843009213693951 by decide)
  have mul1 : mulD (.int a) (.int (if 1000000000000000000 ≤ a then 1 else 0)) = some (.int (a * if 1000000000000000000 ≤ a then 1 else 0)) := mul_ij (by split <;> decide)
  have mul2 : mulD (.int 39373) (.int (i : Int)) = some (.int (39373 * i)) := mul_ii (by decide)
  refine ⟨a * if 1000000000000000000 ≤ a then 1 else 0, c % 2305843009213693951 + 39373 * i + 1073008, ?_, ?_, by omega, by omega⟩
  · unfold m__law_box
    funext b
    have q1 : DL.geD (.int a) (.int 1000000000000000000) = some (.bool (decide (1000000000000000000 ≤ a))) := rfl
    have q2 : DL.modD (.int c) (.int 2305843009213693951) = some (.int (c % 2305843009213693951)) := rfl
    have q3 : absD [.d (.int c)] = some (.int a) := by rw [ha]; rfl
    simp [mIfS, mThenB, mBin, mC, mSet, mSetL, mThen, mCons, mNil, mD, mSl, mVar, mRet, mCall, m_thenS, s_bind_e, s_fin_e, m_bind_assoc, asBool, subD, gtD, leD, opII, ltI, divD, lenD, listD, tupD, mFor, mTup, mLst, mLstL, mList, mLc, dats, mLenO, mSeq, seqD, mRng1, gN, wipeE, mYes, few0, few1, few2, few4, few5, few3, mDefN, mIf, lt, at_, q1, q2, q3, p18, intD, mul1, mul2, add_ii, List.replicate, sOk]
  · split <;> omega
def yes {α : Type} (r : Option (Except Ex Dt × α)) : Bool := match r with
  | some (.ok (.bool true), _) => true
  | _ => false
theorem yes_some {α : Type} {r : Option (Except Ex Dt × α)} (h : yes r = true) : ∃ b1, r = some (.ok (.bool true), b1) := by
  unfold yes at h
  split at h
  · exact ⟨_, rfl⟩
  · cases h
theorem first_ok {mf : List Sl → Mo Dt} {b b1 : Bx} (hb : mf [] b = some (.ok (.bool true), b1)) (ρ : EnvD) : (mIfS (mNot (mThenB (mCall0 mf) truD)) (mRet (mC (.bool false))) mNx) ρ b = some (.ok (.nx, ρ), b1) := by
  simp only [mIfS, mE, mNot, mThenB, mCall0, mBind, hb, truD, mOpt, Option.map_some, mOk, Bool.not_true, Bool.false_eq_true, if_false, mNx, sOk]
theorem start_ok {mf : List Sl → Mo Dt} {b b1 : Bx} (hb : mf [] b = some (.ok (.bool true), b1)) {ρ : EnvD} {k : EnvD → MoS} {d : Dt} (hk : sFin (k ρ) = mOk d) : sFin (mThenS (mIfS (mNot (mThenB (mCall0 mf) truD)) (mRet (mC (.bool false))) mNx) k ρ) b = some (.ok d, b1) := by
  have e := congrFun hk b1
  rw [m_thenS]
  unfold sFin at e ⊢
  unfold sBind
  rw [first_ok hb]
  exact e
end
end K08
set_option maxRecDepth 100000
set_option maxHeartbeats 1000000
namespace K08
open DL PySem L2
section
theorem choices_eq {s : Dt} {ms : List Dt} (hs : seqD s = some ms) (h9 : ms.length ≤ 9) {n : Nat} (h3 : n ≤ 3) : m_choices [.d s, .d (.int n)] = mOk (.list ((teamsL ms n).map .tuple)) := by
  unfold m_choices
  rw [m_def (by rfl)]
  simp [mIfS, mThenB, mBin, mC, mSet, mSetL, mThen, mCons, mNil, mD, mSl, mVar, mRet, mCall, m_thenS, s_bind_e, s_fin_e, m_bind_assoc, asBool, subD, gtD, ltD, geD, leD, opII, ltI, modD, divD, eqD, lenD, listD, tupD, mFor, mTup, mLst, mLstL, mList, mLc, dats, mLenO, mSeq, seqD, mRng1, gN, wipeE, mYes, few0, few1, few2, few4, rng1_nat (n := n) (by omega)]
  refine fin_for (I := fun its ρ => ∃ x y z, ρ = [some (.d s), some (.d (.int n)), some (.d (.list ((teamsL ms (n - its.length)).map .tuple))), x, y, z] ∧ its.length ≤ n)
    ⟨none, none, none, by rw [rngD_len, Nat.sub_self]; rfl, by rw [rngD_len]; omega⟩ ?_ ?_
  · rintro d r ρ ⟨x, y, z, rfl, hl⟩
    have hl' : r.length + 1 ≤ n := hl
    have hn : n - (d :: r).length + 1 = n - r.length := by simp only [List.length_cons]; omega
    generalize hk : n - (d :: r).length = k at *
    refine ⟨_, _, rfl, ?_, ⟨some (.d d), y, z, rfl, by omega⟩⟩
    simp [mIfS, mThenB, mBin, mC, mSet, mSetL, mThen, mCons, mNil, mD, mSl, mVar, mRet, mCall, m_thenS, s_bind_e, s_fin_e, m_bind_assoc, asBool, subD, gtD, ltD, geD, leD, opII, ltI, modD, divD, eqD, lenD, listD, tupD, mFor, mTup, mLst, mLstL, mList, mLc, dats, mLenO, mSeq, seqD, mRng1, gN, wipeE, mYes, few0, few1, few2, few4, mLc2]
    rw [lc2_map (h := fun c => match c with | .tuple c => ms.map fun m => .tuple (c ++ [m]) | _ => [])]
    · rw [m_few]
      · simp [mIfS, mThenB, mBin, mC, mSet, mSetL, mThen, mCons, mNil, mD, mSl, mVar, mRet, mCall, m_thenS, s_bind_e, s_fin_e, m_bind_assoc, asBool, subD, gtD, ltD, geD, leD, opII, ltI, modD, divD, eqD, lenD, listD, tupD, mFor, mTup, mLst, mLstL, mList, mLc, dats, mLenO, mSeq, seqD, mRng1, gN, wipeE, mYes, few0, few1, few2, few4, ← hn, teamsL, flatMap_map, List.map_flatMap]
        rfl
      · rw [flatMap_map]
        refine sz_of ?_
        rw [flatMap_len _ (fun c => List.length_map _)]
        have := team_less h9 (n := k + 1) (by omega)
        rw [teams_len, Nat.pow_succ] at this
        rw [teams_len]
        omega
    · intro c hc
      obtain ⟨c, hc', rfl⟩ := List.mem_map.mp hc
      refine ⟨_, ms, rfl, rfl, by simp [mIfS, mThenB, mBin, mC, mSet, mSetL, mThen, mCons, mNil, mD, mSl, mVar, mRet, mCall, m_thenS, s_bind_e, s_fin_e, m_bind_assoc, asBool, subD, gtD, ltD, geD, leD, opII, ltI, modD, divD, eqD, lenD, listD, tupD, mFor, mTup, mLst, mLstL, mList, mLc, dats, mLenO, mSeq, mRng1, gN, wipeE, mYes, few0, few1, few2, few4, hs], ?_⟩
      refine lc_map (h := fun m => .tuple (c ++ [m])) fun m hm => ⟨_, rfl, rfl, ?_⟩
      have := (teams_each hc').1
      simp [mIfS, mThenB, mBin, mC, mSet, mSetL, mThen, mCons, mNil, mD, mSl, mVar, mRet, mCall, m_thenS, s_bind_e, s_fin_e, m_bind_assoc, asBool, subD, gtD, ltD, geD, leD, opII, ltI, modD, divD, eqD, lenD, listD, tupD, mFor, mTup, mLst, mLstL, mList, mLc, dats, mLenO, mSeq, seqD, mRng1, gN, wipeE, mYes, few0, few1, few2, few4, add_tt (xs := c) (ys := [m]) (by simp; omega)]
  · rintro ρ ⟨x, y, z, rfl, -⟩
    simp [mIfS, mThenB, mBin, mC, mSet, mSetL, mThen, mCons, mNil, mD, mSl, mVar, mRet, mCall, m_thenS, s_bind_e, s_fin_e, m_bind_assoc, asBool, subD, gtD, ltD, geD, leD, opII, ltI, modD, divD, eqD, lenD, listD, tupD, mFor, mTup, mLst, mLstL, mList, mLc, dats, mLenO, mSeq, seqD, mRng1, gN, wipeE, mYes, few0, few1, few2, few4]
theorem teams_eq {s : Dt} {ms : List Dt} (hs : seqD s = some ms) (h9 : ms.length ≤ 9) {n : Nat} (h3 : n ≤ 3) : m__law_teams [.d s, .d (.int n)] = mOk (.list ((teamsL ms n).map .tuple)) := by
  unfold m__law_teams
  rw [m_def (by rfl)]
  simp [mIfS, mThenB, mBin, mC, mSet, mSetL, mThen, mCons, mNil, mD, mSl, mVar, mRet, mCall, m_thenS, s_bind_e, s_fin_e, m_bind_assoc, asBool, subD, gtD, ltD, geD, leD, opII, ltI, modD, divD, eqD, lenD, listD, tupD, mFor, mTup, mLst, mLstL, mList, mLc, dats, mLenO, mSeq, seqD, mRng1, gN, wipeE, mYes, few0, few1, few2, few4, rng1_nat (n := n) (by omega)]
  refine fin_for (I := fun its ρ => ∃ x y z u, ρ = [some (.d s), some (.d (.int n)), some (.d (.list ((teamsL ms (n - its.length)).map .tuple))), x, y, z, u] ∧ its.length ≤ n)
    ⟨none, none, none, none, by rw [rngD_len, Nat.sub_self]; rfl, by rw [rngD_len]; omega⟩ ?_ ?_
  · rintro d r ρ ⟨x, y, z, u, rfl, hl⟩
    have hl' : r.length + 1 ≤ n := hl
    have hn : n - (d :: r).length + 1 = n - r.length := by simp only [List.length_cons]; omega
    have h729 := team_less h9 (n := n - r.length) (by omega)
    rw [← hn] at h729 ⊢
    generalize hk : n - (d :: r).length = k at *
    have hsum : (teamsL ms k).length * ms.length ≤ 729 := by
      rw [teams_len, ← Nat.pow_succ, ← teams_len]; exact h729
    refine ⟨_, [some (.d s), some (.d (.int n)), some (.d (.list ((teamsL ms (k + 1)).map .tuple))), some (.d d), some (.d (.list ((teamsL ms (k + 1)).map .tuple))), if teamsL ms k = [] then z else some (.d (.tuple ((teamsL ms k).getLast?.getD []))), u], rfl, ?_, ⟨_, _, _, _, rfl, by omega⟩⟩
    simp [mIfS, mThenB, mBin, mC, mSet, mSetL, mThen, mCons, mNil, mD, mSl, mVar, mRet, mCall, m_thenS, s_bind_e, s_fin_e, m_bind_assoc, asBool, subD, gtD, ltD, geD, leD, opII, ltI, modD, divD, eqD, lenD, listD, tupD, mFor, mTup, mLst, mLstL, mList, mLc, dats, mLenO, mSeq, seqD, mRng1, gN, wipeE, mYes, few0, few1, few2, few4]
    refine bind_for (I := fun its ρ => ∃ pre post z', teamsL ms k = pre ++ post ∧ its = post.map .tuple ∧ ρ = [some (.d s), some (.d (.int n)), some (.d (.list ((teamsL ms k).map .tuple))), some (.d d), some (.d (.list ((pre.flatMap fun c => ms.map fun m => c ++ [m]).map .tuple))), z', u] ∧ z' = if pre = [] then z else some (.d (.tuple (pre.getLast?.getD [])))) ⟨[], _, z, rfl, rfl, rfl, rfl⟩ ?_ ?_
    · rintro e r' ρ ⟨pre, post, z', e1, e2, rfl, e3⟩
      obtain ⟨c, post, rfl⟩ : ∃ c p, post = c :: p := by cases post with
        | nil => simp [mIfS, mThenB, mBin, mC, mSet, mSetL, mThen, mCons, mNil, mD, mSl, mVar, mRet, mCall, m_thenS, s_bind_e, s_fin_e, m_bind_assoc, asBool, subD, gtD, ltD, geD, leD, opII, ltI, modD, divD, eqD, lenD, listD, tupD, mFor, mTup, mLst, mLstL, mList, mLc, dats, mLenO, mSeq, seqD, mRng1, gN, wipeE, mYes, few0, few1, few2, few4] at e2
        | cons c p => exact ⟨c, p, rfl⟩
      rw [List.map_cons] at e2
      injection e2 with e2 e4
      subst e2
      have hcl := (teams_each (show c ∈ teamsL ms k by rw [e1]; simp [mIfS, mThenB, mBin, mC, mSet, mSetL, mThen, mCons, mNil, mD, mSl, mVar, mRet, mCall, m_thenS, s_bind_e, s_fin_e, m_bind_assoc, asBool, subD, gtD, ltD, geD, leD, opII, ltI, modD, divD, eqD, lenD, listD, tupD, mFor, mTup, mLst, mLstL, mList, mLc, dats, mLenO, mSeq, seqD, mRng1, gN, wipeE, mYes, few0, few1, few2, few4])).1
      refine ⟨_, _, rfl, ?_, ⟨pre ++ [c], post, some (.d (.tuple c)), by simp [mIfS, mThenB, mBin, mC, mSet, mSetL, mThen, mCons, mNil, mD, mSl, mVar, mRet, mCall, m_thenS, s_bind_e, s_fin_e, m_bind_assoc, asBool, subD, gtD, ltD, geD, leD, opII, ltI, modD, divD, eqD, lenD, listD, tupD, mFor, mTup, mLst, mLstL, mList, mLc, dats, mLenO, mSeq, seqD, mRng1, gN, wipeE, mYes, few0, few1, few2, few4, e1], e4, rfl, by simp [mIfS, mThenB, mBin, mC, mSet, mSetL, mThen, mCons, mNil, mD, mSl, mVar, mRet, mCall, m_thenS, s_bind_e, s_fin_e, m_bind_assoc, asBool, subD, gtD, ltD, geD, leD, opII, ltI, modD, divD, eqD, lenD, listD, tupD, mFor, mTup, mLst, mLstL, mList, mLc, dats, mLenO, mSeq, seqD, mRng1, gN, wipeE, mYes, few0, few1, few2, few4]⟩⟩
      simp [mIfS, mThenB, mBin, mC, mSet, mSetL, mThen, mCons, mNil, mD, mSl, mVar, mRet, mCall, m_thenS, s_bind_e, s_fin_e, m_bind_assoc, asBool, subD, gtD, ltD, geD, leD, opII, ltI, modD, divD, eqD, lenD, listD, tupD, mFor, mTup, mLst, mLstL, mList, mLc, dats, mLenO, mSeq, mRng1, gN, wipeE, mYes, few0, few1, few2, few4, hs]
      rw [lc_map (h := fun m => .tuple (c ++ [m]))]
      rotate_left
      · exact fun m hm => ⟨_, rfl, rfl, by simp [mIfS, mThenB, mBin, mC, mSet, mSetL, mThen, mCons, mNil, mD, mSl, mVar, mRet, mCall, m_thenS, s_bind_e, s_fin_e, m_bind_assoc, asBool, subD, gtD, ltD, geD, leD, opII, ltI, modD, divD, eqD, lenD, listD, tupD, mFor, mTup, mLst, mLstL, mList, mLc, dats, mLenO, mSeq, seqD, mRng1, gN, wipeE, mYes, few0, few1, few2, few4, add_tt (xs := c) (ys := [m]) (by simp; omega)]⟩
      have hsum2 : (pre.flatMap fun c => ms.map fun m => c ++ [m]).length + ms.length ≤ 729 := by
        rw [flatMap_len _ (fun c => List.length_map _)]
        have : pre.length + 1 ≤ (teamsL ms k).length := by rw [e1]; simp [mIfS, mThenB, mBin, mC, mSet, mSetL, mThen, mCons, mNil, mD, mSl, mVar, mRet, mCall, m_thenS, s_bind_e, s_fin_e, m_bind_assoc, asBool, subD, gtD, ltD, geD, leD, opII, ltI, modD, divD, eqD, lenD, listD, tupD, mFor, mTup, mLst, mLstL, mList, mLc, dats, mLenO, mSeq, seqD, mRng1, gN, wipeE, mYes, few0, few1, few2, few4]
        have := Nat.mul_le_mul_right ms.length this
        rw [Nat.succ_mul] at this
        omega
      simp [mIfS, mThenB, mBin, mC, mSet, mSetL, mThen, mCons, mNil, mD, mSl, mVar, mRet, mCall, m_thenS, s_bind_e, s_fin_e, m_bind_assoc, asBool, subD, gtD, ltD, geD, leD, opII, ltI, modD, divD, eqD, lenD, listD, tupD, mFor, mTup, mLst, mLstL, mList, mLc, dats, mLenO, mSeq, seqD, mRng1, gN, wipeE, mYes, few0, few1, few2, few4]
      rw [add_ll (by simp only [List.length_map]; omega)]
      simp [mIfS, mThenB, mBin, mC, mSet, mSetL, mThen, mCons, mNil, mD, mSl, mVar, mRet, mCall, m_thenS, s_bind_e, s_fin_e, m_bind_assoc, asBool, subD, gtD, ltD, geD, leD, opII, ltI, modD, divD, eqD, lenD, listD, tupD, mFor, mTup, mLst, mLstL, mList, mLc, dats, mLenO, mSeq, seqD, mRng1, gN, wipeE, mYes, few0, few1, few2, few4]
      rfl
    · rintro ρ ⟨pre, post, z', e1, e2, rfl, e3⟩
      have : post = [] := by simpa using e2.symm
      subst this
      rw [List.append_nil] at e1
      subst e1
      simp [mIfS, mThenB, mBin, mC, mSet, mSetL, mThen, mCons, mNil, mD, mSl, mVar, mRet, mCall, m_thenS, s_bind_e, s_fin_e, m_bind_assoc, asBool, subD, gtD, ltD, geD, leD, opII, ltI, modD, divD, eqD, lenD, listD, tupD, mFor, mTup, mLst, mLstL, mList, mLc, dats, mLenO, mSeq, seqD, mRng1, gN, wipeE, mYes, few0, few1, few2, few4, e3, teamsL]
  · rintro ρ ⟨x, y, z, u, rfl, -⟩
    simp [mIfS, mThenB, mBin, mC, mSet, mSetL, mThen, mCons, mNil, mD, mSl, mVar, mRet, mCall, m_thenS, s_bind_e, s_fin_e, m_bind_assoc, asBool, subD, gtD, ltD, geD, leD, opII, ltI, modD, divD, eqD, lenD, listD, tupD, mFor, mTup, mLst, mLstL, mList, mLc, dats, mLenO, mSeq, seqD, mRng1, gN, wipeE, mYes, few0, few1, few2, few4]
end
section
def colsL (w : Nat) (rs : List (List Int)) : List (List Int) := (List.range w).map fun j => rs.map fun r => r.getD j 0
def numL (many : Int) : List Int → Int := fun vs => vs.foldl (fun n v => n * many + v) 0
def atD (i : Nat) (d : Dt) : Dt := match d with
  | .tuple ds => ds.getD i .none
  | _ => .none
theorem at_row {r : List Int} {i : Nat} (h : i < r.length) : atD i (rowD r) = .int (r.getD i 0) := by
  simp [mIfS, mThenB, mBin, mC, mSet, mSetL, mThen, mCons, mNil, mD, mSl, mVar, mRet, mCall, m_thenS, s_bind_e, s_fin_e, m_bind_assoc, asBool, subD, gtD, ltD, geD, leD, opII, ltI, modD, divD, eqD, lenD, listD, tupD, mFor, mTup, mLst, mLstL, mList, mLc, dats, mLenO, mSeq, seqD, mRng1, gN, wipeE, mYes, few0, few1, few2, few4, atD, rowD, List.getElem?_eq_getElem h]
theorem col_in {rs : List (List Int)} {w i : Nat} (hw : ∀ r ∈ rs, r.length = w) (hi : i < w) {d : Dt} (hd : d ∈ rs.map rowD) : ixD d (.int (i : Int)) = some (atD i d) := by
  obtain ⟨r, hr, rfl⟩ := List.mem_map.mp hd
  have hl := hw r hr
  rw [at_row (by omega)]
  unfold rowD
  rw [ix_t (by omega) (by rw [List.length_map]; omega)]
  simp [mIfS, mThenB, mBin, mC, mSet, mSetL, mThen, mCons, mNil, mD, mSl, mVar, mRet, mCall, m_thenS, s_bind_e, s_fin_e, m_bind_assoc, asBool, subD, gtD, ltD, geD, leD, opII, ltI, modD, divD, eqD, lenD, listD, tupD, mFor, mTup, mLst, mLstL, mList, mLc, dats, mLenO, mSeq, seqD, mRng1, gN, wipeE, mYes, few0, few1, few2, few4, List.getElem?_eq_getElem (show i < r.length by omega)]
theorem col_loop {rs : List (List Int)} {w i a b : Nat} (hw : ∀ r ∈ rs, r.length = w) (hi : i < w) (hab : a ≠ b) {ρ : EnvD} (hρ : ρ[b]? = some (some (.d (.int (i : Int))))) (h2 : a < ρ.length) :
    lcLoop (gN a) mYes (mBin ixD (mVar a) (mVar b)) ρ (rs.map rowD) = mOk ((rs.map fun r => r.getD i 0).map .int) := by
  rw [lc_map (h := atD i)]
  rotate_left
  · intro d hd
    refine ⟨_, rfl, rfl, ?_⟩
    have e1 : (ρ.set a (some (.d d)))[b]? = some (some (.d (.int (i : Int)))) := by rw [List.getElem?_set_ne hab]; exact hρ
    have e2 : (ρ.set a (some (.d d)))[a]? = some (some (.d d)) := by rw [List.getElem?_set_self h2]
    rw [bin_eq (var_eq e2) (var_eq e1), col_in hw hi hd, m_opt_some]
  · congr 1
    rw [List.map_map, List.map_map]
    refine List.map_congr_left fun r hr => ?_
    have hl := hw r hr
    exact at_row (by omega)
end
section
theorem lawcols_eq {rs : List (List Int)} {w : Nat} (h0 : rs ≠ []) (hw : ∀ r ∈ rs, r.length = w) (h9 : w ≤ 9) (hs : SeqAt.shaped (.list (rs.map rowD)) = true) : m__law_columns [.d (.tuple (rs.map rowD))] = mOk (.list ((colsL w rs).map rowD)) := by
  obtain ⟨r0, rest, rfl⟩ : ∃ a l, rs = a :: l := by cases rs with
    | nil => exact (h0 rfl).elim
    | cons a l => exact ⟨a, l, rfl⟩
  have hr0 := hw r0 List.mem_cons_self
  unfold m__law_columns
  rw [m_def (by rfl)]
  have ne := neList hs (by simp [mIfS, mThenB, mBin, mC, mSet, mSetL, mThen, mCons, mNil, mD, mSl, mVar, mRet, mCall, m_thenS, s_bind_e, s_fin_e, m_bind_assoc, asBool, subD, gtD, ltD, geD, leD, opII, ltI, modD, divD, eqD, lenD, listD, tupD, mFor, mTup, mLst, mLstL, mList, mLc, dats, mLenO, mSeq, seqD, mRng1, gN, wipeE, mYes, few0, few1, few2, few4])
  rw [List.map_cons] at ne
  simp [mIfS, mThenB, mBin, mC, mSet, mSetL, mThen, mCons, mNil, mD, mSl, mVar, mRet, mCall, m_thenS, s_bind_e, s_fin_e, m_bind_assoc, asBool, subD, gtD, ltD, geD, leD, opII, ltI, modD, divD, eqD, lenD, listD, tupD, mFor, mTup, mLst, mLstL, mList, mLc, dats, mLenO, mSeq, seqD, mRng1, gN, wipeE, mYes, few0, few1, few2, few4, mIf, ne, ix_t (ds := rowD r0 :: rest.map rowD) (r := 0) (by omega) (by simp)]
  simp [mIfS, mThenB, mBin, mC, mSet, mSetL, mThen, mCons, mNil, mD, mSl, mVar, mRet, mCall, m_thenS, s_bind_e, s_fin_e, m_bind_assoc, asBool, subD, gtD, ltD, geD, leD, opII, ltI, modD, divD, eqD, lenD, listD, tupD, mFor, mTup, mLst, mLstL, mList, mLc, dats, mLenO, mSeq, seqD, mRng1, gN, wipeE, mYes, few0, few1, few2, few4, rowD, hr0, rng1_nat (n := w) (by omega)]
  rw [lc_map (h := fun d => match d with | .int i => rowD ((r0 :: rest).map fun r => r.getD i.toNat 0) | _ => .none)]
  rotate_left
  · intro d hd
    obtain ⟨i, hi, rfl⟩ := rng_mem hd
    refine ⟨_, rfl, rfl, ?_⟩
    simp only [Int.zero_add]
    have k0 := col_loop hw hi (a := 3) (b := 2) (by decide) (ρ := [some (.d (.tuple ((r0 :: rest).map rowD))), some (.d (.int w)), some (.d (.int (i : Int))), none]) rfl (by simp [mIfS, mThenB, mBin, mC, mSet, mSetL, mThen, mCons, mNil, mD, mSl, mVar, mRet, mCall, m_thenS, s_bind_e, s_fin_e, m_bind_assoc, asBool, subD, gtD, ltD, geD, leD, opII, ltI, modD, divD, eqD, lenD, listD, tupD, mFor, mTup, mLst, mLstL, mList, mLc, dats, mLenO, mSeq, seqD, mRng1, gN, wipeE, mYes, few0, few1, few2, few4])
    rw [List.map_cons] at k0
    simp [mIfS, mThenB, mBin, mC, mSet, mSetL, mThen, mCons, mNil, mD, mSl, mVar, mRet, mCall, m_thenS, s_bind_e, s_fin_e, m_bind_assoc, asBool, subD, gtD, ltD, geD, leD, opII, ltI, modD, divD, eqD, lenD, listD, tupD, mFor, mTup, mLst, mLstL, mList, mLc, dats, mLenO, mSeq, seqD, mRng1, gN, wipeE, mYes, few0, few1, few2, few4, rowD] at k0 ⊢
    rw [k0]
    simp [mIfS, mThenB, mBin, mC, mSet, mSetL, mThen, mCons, mNil, mD, mSl, mVar, mRet, mCall, m_thenS, s_bind_e, s_fin_e, m_bind_assoc, asBool, subD, gtD, ltD, geD, leD, opII, ltI, modD, divD, eqD, lenD, listD, tupD, mFor, mTup, mLst, mLstL, mList, mLc, dats, mLenO, mSeq, seqD, mRng1, gN, wipeE, mYes, few0, few1, few2, few4]
  · simp [mIfS, mThenB, mBin, mC, mSet, mSetL, mThen, mCons, mNil, mD, mSl, mVar, mRet, mCall, m_thenS, s_bind_e, s_fin_e, m_bind_assoc, asBool, subD, gtD, ltD, geD, leD, opII, ltI, modD, divD, eqD, lenD, listD, tupD, mFor, mTup, mLst, mLstL, mList, mLc, dats, mLenO, mSeq, seqD, mRng1, gN, wipeE, mYes, few0, few1, few2, few4, rngD, colsL, rowD, Function.comp_def]
theorem number_go {many : Int} (hm : -(2 ^ 64) < many ∧ many < 2 ^ 64) (s1 : Option Sl) : ∀ (vs : List Int) (n : Int) (x : Option Sl), ∃ y, forLoop (gN 3) (mSet 2 (mBin addD (mBin mulD (mVar 2) (mVar 0)) (mVar 3))) (vs.map .int) [some (.d (.int many)), s1, some (.d (.int n)), x] = sOk .nx [some (.d (.int many)), s1, some (.d (.int (vs.foldl (fun n v => n * many + v) n))), y]
  | [], n, x => ⟨x, rfl⟩
  | v :: vs, n, x => by
    obtain ⟨y, e⟩ := number_go hm s1 vs (n * many + v) (some (.d (.int v)))
    refine ⟨y, ?_⟩
    rw [List.map_cons, for_cons (ρ1 := [some (.d (.int many)), s1, some (.d (.int n)), some (.d (.int v))]) (ρ2 := [some (.d (.int many)), s1, some (.d (.int (n * many + v))), some (.d (.int v))]) rfl, e]
    · rfl
    · simp [mIfS, mThenB, mBin, mC, mSet, mSetL, mThen, mCons, mNil, mD, mSl, mVar, mRet, mCall, m_thenS, s_bind_e, s_fin_e, m_bind_assoc, asBool, subD, gtD, ltD, geD, leD, opII, ltI, modD, divD, eqD, lenD, listD, tupD, mFor, mTup, mLst, mLstL, mList, mLc, dats, mLenO, mSeq, seqD, mRng1, gN, wipeE, mYes, few0, few1, few2, few4, mul_ij hm, add_ii]
theorem number_eq {many : Int} (hm : -(2 ^ 64) < many ∧ many < 2 ^ 64) (vs : List Int) : m_number_of [.d (.int many), .d (rowD vs)] = mOk (.int (numL many vs)) := by
  unfold m_number_of rowD
  rw [m_def (by rfl)]
  simp [mIfS, mThenB, mBin, mC, mSet, mSetL, mThen, mCons, mNil, mD, mSl, mVar, mRet, mCall, m_thenS, s_bind_e, s_fin_e, m_bind_assoc, asBool, subD, gtD, ltD, geD, leD, opII, ltI, modD, divD, eqD, lenD, listD, tupD, mFor, mTup, mLst, mLstL, mList, mLc, dats, mLenO, mSeq, seqD, mRng1, gN, wipeE, mYes, few0, few1, few2, few4]
  obtain ⟨y, e⟩ := number_go hm (some (.d (.tuple (vs.map .int)))) vs 0 none
  rw [e]
  simp [mIfS, mThenB, mBin, mC, mSet, mSetL, mThen, mCons, mNil, mD, mSl, mVar, mRet, mCall, m_thenS, s_bind_e, s_fin_e, m_bind_assoc, asBool, subD, gtD, ltD, geD, leD, opII, ltI, modD, divD, eqD, lenD, listD, tupD, mFor, mTup, mLst, mLstL, mList, mLc, dats, mLenO, mSeq, seqD, mRng1, gN, wipeE, mYes, few0, few1, few2, few4, numL]
theorem place_eq {many : Int} (hm : -(2 ^ 64) < many ∧ many < 2 ^ 64) {tel kinds : Dt} (vs : List Int) : m_place_of [.d (.tuple [.int many, tel, kinds]), .d (rowD vs)] = mOk (.int (numL many vs)) := by
  unfold m_place_of
  rw [m_def (by rfl)]
  simp [mIfS, mThenB, mBin, mC, mSet, mSetL, mThen, mCons, mNil, mD, mSl, mVar, mRet, mCall, m_thenS, s_bind_e, s_fin_e, m_bind_assoc, asBool, subD, gtD, ltD, geD, leD, opII, ltI, modD, divD, eqD, lenD, listD, tupD, mFor, mTup, mLst, mLstL, mList, mLc, dats, mLenO, mSeq, seqD, mRng1, gN, wipeE, mYes, few0, few1, few2, few4, ix_t (ds := [.int many, tel, kinds]) (r := 0) (by omega) (by simp), number_eq hm]
def ixOk (many n : Nat) : Bool := (tupsI many n).all fun r => match indexD (.list ((tupsI many n).map rowD)) (rowD r) with
  | some (.int j) => j == numL many r
  | _ => false
theorem ixOk21 : ixOk 2 1 = true := by decide +kernel
theorem ixOk22 : ixOk 2 2 = true := by decide +kernel
theorem ixOk23 : ixOk 2 3 = true := by decide +kernel
theorem ixOk31 : ixOk 3 1 = true := by decide +kernel
theorem ixOk32 : ixOk 3 2 = true := by decide +kernel
theorem index_eq {many n : Nat} (h : ixOk many n = true) {r : List Int} (hl : r.length = n) (hx : ∀ x ∈ r, 0 ≤ x ∧ x < many) : indexD (.list ((tupsI many n).map rowD)) (rowD r) = some (.int (numL many r)) := by
  have := List.all_eq_true.mp h r (tups_all hl hx)
  split at this
  · rename_i j e
    rw [e, beq_iff_eq.mp this]
  · cases this
end
section
def tieOf (many : Int) (w : Nat) (i : Nat) (team : List (List Int)) : Dt := tieD (i : Int) ((colsL w team).map (numL many))
def tiesOf (many : Int) (n : Nat) (i : Nat) (k : Kind) : List Dt := (teamsL k.2 n).map (tieOf many k.1.toNat i)
def tiesFrom (many : Int) (n : Nat) : Nat → List Kind → List Dt
  | _, [] => []
  | i, k :: ks => tiesOf many n i k ++ tiesFrom many n (i + 1) ks
theorem pow6 {a n : Nat} (ha : a ≤ 8) (hn : n ≤ 3) : a ^ n ≤ 512 := by
  have h1 : a ^ n ≤ 8 ^ n := Nat.pow_le_pow_left ha n
  have h2 : (8 : Nat) ^ n ≤ 8 ^ 3 := Nat.pow_le_pow_right (by decide) hn
  omega
theorem ties_few {many : Int} {n : Nat} (h3 : n ≤ 3) : ∀ {ks : List Kind} (i : Nat), (∀ k ∈ ks, WfK many k) → (tiesFrom many n i ks).length ≤ 512 * ks.length
  | [], _, _ => by simp [mIfS, mThenB, mBin, mC, mSet, mSetL, mThen, mCons, mNil, mD, mSl, mVar, mRet, mCall, m_thenS, s_bind_e, s_fin_e, m_bind_assoc, asBool, subD, gtD, ltD, geD, leD, opII, ltI, modD, divD, eqD, lenD, listD, tupD, mFor, mTup, mLst, mLstL, mList, mLc, dats, mLenO, mSeq, seqD, mRng1, gN, wipeE, mYes, few0, few1, few2, few4, tiesFrom]
  | k :: ks, i, h => by
    have a := ties_few h3 (i + 1) fun k hk => h k (List.mem_cons_of_mem _ hk)
    have b := pow6 (h k List.mem_cons_self).few h3
    rw [← teams_len] at b
    simp only [tiesFrom, List.length_append, tiesOf, List.length_map, List.length_cons]
    omega
/-- the columns of rows of a kind that is well made -/
theorem team_row {many : Int} {k : Kind} (W : WfK many k) {n : Nat} {t : List (List Int)} (ht : t ∈ teamsL k.2 n) : t.length = n ∧ ∀ r ∈ t, r.length = k.1.toNat := by
  obtain ⟨h1, h2⟩ := teams_each ht
  exact ⟨h1, fun r hr => (W.row r (h2 r hr)).1⟩
end
section
/-- a loop that appends to slot i, one item a turn -/
theorem app_loop {τ : Type} {f : τ → Dt} {i j : Nat} {fe : EnvD → Mo Dt} {h : τ → Dt} (E : Option Sl → Option Sl → EnvD) (hE1 : ∀ a x, (E a x)[i]? = some a) (hE2 : ∀ a x y, (E a x).set j y = E a y) (hE3 : ∀ a x y, (E a x).set i y = E y x) :
    ∀ (items : List τ) (acc : List Dt) (x : Option Sl), acc.length + items.length ≤ 1000000 → (∀ d ∈ items, ∀ acc, fe (E (some (.d (.list acc))) (some (.d (f d)))) = mOk (h d)) →
      ∃ y, forLoop (gN j) (mApp i fe) (items.map f) (E (some (.d (.list acc))) x) = sOk .nx (E (some (.d (.list (acc ++ items.map h)))) y)
  | [], acc, x, _, _ => ⟨x, by simp [mIfS, mThenB, mBin, mC, mSet, mSetL, mThen, mCons, mNil, mD, mSl, mVar, mRet, mCall, m_thenS, s_bind_e, s_fin_e, m_bind_assoc, asBool, subD, gtD, ltD, geD, leD, opII, ltI, modD, divD, eqD, lenD, listD, tupD, mFor, mTup, mLst, mLstL, mList, mLc, dats, mLenO, mSeq, seqD, mRng1, gN, wipeE, mYes, few0, few1, few2, few4]⟩
  | d :: items, acc, x, hl, hf => by
    rw [List.length_cons] at hl
    obtain ⟨y, e⟩ := app_loop E hE1 hE2 hE3 items (acc ++ [h d]) (some (.d (f d))) (by simp [mIfS, mThenB, mBin, mC, mSet, mSetL, mThen, mCons, mNil, mD, mSl, mVar, mRet, mCall, m_thenS, s_bind_e, s_fin_e, m_bind_assoc, asBool, subD, gtD, ltD, geD, leD, opII, ltI, modD, divD, eqD, lenD, listD, tupD, mFor, mTup, mLst, mLstL, mList, mLc, dats, mLenO, mSeq, seqD, mRng1, gN, wipeE, mYes, few0, few1, few2, few4]; omega) fun d hd => hf d (List.mem_cons_of_mem _ hd)
    refine ⟨y, ?_⟩
    rw [List.map_cons, for_cons (ρ1 := E (some (.d (.list acc))) (some (.d (f d)))) (ρ2 := E (some (.d (.list (acc ++ [h d])))) (some (.d (f d)))), e]
    · simp [mIfS, mThenB, mBin, mC, mSet, mSetL, mThen, mCons, mNil, mD, mSl, mVar, mRet, mCall, m_thenS, s_bind_e, s_fin_e, m_bind_assoc, asBool, subD, gtD, ltD, geD, leD, opII, ltI, modD, divD, eqD, lenD, listD, tupD, mFor, mTup, mLst, mLstL, mList, mLc, dats, mLenO, mSeq, seqD, mRng1, gN, wipeE, mYes, few0, few1, few2, few4]
    · show some _ = some _
      rw [hE2]
    · rw [app_eq (ds := acc) (by unfold slotL; rw [hE1]) (by omega), hf d List.mem_cons_self acc, m_e_ok, hE3]
theorem setSort_eq {ds : List Dt} (h : setOk ds = true) : ssetD [.d (.list ds)] = some (.list (isort (nubD ds))) := by
  have e : setSortD [.d (.list ds)] = some (.list (isort (nubD ds))) := by
    show (if setOk ds = true then _ else _) = _
    rw [if_pos h]
  unfold ssetD
  rw [e]
  cases ds with
  | nil => rfl
  | cons d ds =>
    obtain ⟨h1, _⟩ := setOk_use h
    obtain ⟨ts, rfl⟩ := h1 d List.mem_cons_self
    rfl
end
section
theorem ties_each {many : Int} {n : Nat} : ∀ {ks : List Kind} {i : Nat} {d : Dt}, d ∈ tiesFrom many n i ks → ∃ j cs, d = tieD j cs
  | [], _, _, h => by simp [mIfS, mThenB, mBin, mC, mSet, mSetL, mThen, mCons, mNil, mD, mSl, mVar, mRet, mCall, m_thenS, s_bind_e, s_fin_e, m_bind_assoc, asBool, subD, gtD, ltD, geD, leD, opII, ltI, modD, divD, eqD, lenD, listD, tupD, mFor, mTup, mLst, mLstL, mList, mLc, dats, mLenO, mSeq, seqD, mRng1, gN, wipeE, mYes, few0, few1, few2, few4, tiesFrom] at h
  | k :: ks, i, d, h => by
    simp only [tiesFrom, List.mem_append] at h
    rcases h with h | h
    · obtain ⟨t, _, rfl⟩ := List.mem_map.mp h
      exact ⟨_, _, rfl⟩
    · exact ties_each h
end
section
def toldOf (many : Nat) (n : Nat) (tel : Bool) : List Dt := if tel then (List.range many).map fun v => .tuple [.int (numL many (List.replicate n ((v : Nat) : Int))), .int (v : Nat)] else []
def freeD (many : Nat) (n : Nat) (tel : Bool) (ks : List Kind) : Dt := .tuple [.int ((many ^ n : Nat) : Int), .tuple (isort (nubD (tiesFrom many n 0 ks))), .tuple (toldOf many n tel), .tuple []]
theorem rep_tup {v : Int} {n : Nat} (h1 : 1 ≤ n) (h3 : n ≤ 3) : mulD (.tuple [.int v]) (.int n) = some (rowD (List.replicate n v)) := by
  rcases (show n = 1 ∨ n = 2 ∨ n = 3 by omega) with rfl | rfl | rfl
  · exact mul_t1 _
  · exact mul_tk (by simp [mIfS, mThenB, mBin, mC, mSet, mSetL, mThen, mCons, mNil, mD, mSl, mVar, mRet, mCall, m_thenS, s_bind_e, s_fin_e, m_bind_assoc, asBool, subD, gtD, ltD, geD, leD, opII, ltI, modD, divD, eqD, lenD, listD, tupD, mFor, mTup, mLst, mLstL, mList, mLc, dats, mLenO, mSeq, seqD, mRng1, gN, wipeE, mYes, few0, few1, few2, few4]) (by decide) (by decide) (by simp [mIfS, mThenB, mBin, mC, mSet, mSetL, mThen, mCons, mNil, mD, mSl, mVar, mRet, mCall, m_thenS, s_bind_e, s_fin_e, m_bind_assoc, asBool, subD, gtD, ltD, geD, leD, opII, ltI, modD, divD, eqD, lenD, listD, tupD, mFor, mTup, mLst, mLstL, mList, mLc, dats, mLenO, mSeq, seqD, mRng1, gN, wipeE, mYes, few0, few1, few2, few4])
  · exact mul_tk (by simp [mIfS, mThenB, mBin, mC, mSet, mSetL, mThen, mCons, mNil, mD, mSl, mVar, mRet, mCall, m_thenS, s_bind_e, s_fin_e, m_bind_assoc, asBool, subD, gtD, ltD, geD, leD, opII, ltI, modD, divD, eqD, lenD, listD, tupD, mFor, mTup, mLst, mLstL, mList, mLc, dats, mLenO, mSeq, seqD, mRng1, gN, wipeE, mYes, few0, few1, few2, few4]) (by decide) (by decide) (by simp [mIfS, mThenB, mBin, mC, mSet, mSetL, mThen, mCons, mNil, mD, mSl, mVar, mRet, mCall, m_thenS, s_bind_e, s_fin_e, m_bind_assoc, asBool, subD, gtD, ltD, geD, leD, opII, ltI, modD, divD, eqD, lenD, listD, tupD, mFor, mTup, mLst, mLstL, mList, mLc, dats, mLenO, mSeq, seqD, mRng1, gN, wipeE, mYes, few0, few1, few2, few4])
theorem tuples_of_eq {many n : Nat} (hm : many ≤ 9) (h3 : n ≤ 3) {tel : Bool} {ks : List Kind} : m_tuples_of [.d (bookD many tel ks), .d (.int n)] = mOk (.list ((teamsL (rngD 0 many) n).map .tuple)) := by
  unfold m_tuples_of
  rw [m_def (by rfl)]
  have e : rgL1 (.int (many : Int)) = some (.list (rngD 0 many)) := by
    show (if rgB 0 (many : Int) = true then some (PyData.list (rngD 0 (many : Int).toNat)) else none) = _
    rw [if_pos (by simp [mIfS, mThenB, mBin, mC, mSet, mSetL, mThen, mCons, mNil, mD, mSl, mVar, mRet, mCall, m_thenS, s_bind_e, s_fin_e, m_bind_assoc, asBool, subD, gtD, ltD, geD, leD, opII, ltI, modD, divD, eqD, lenD, listD, tupD, mFor, mTup, mLst, mLstL, mList, mLc, dats, mLenO, mSeq, seqD, mRng1, gN, wipeE, mYes, few0, few1, few2, few4, rgB]; omega)]
    rfl
  unfold bookD
  simp [mIfS, mThenB, mBin, mC, mSet, mSetL, mThen, mCons, mNil, mD, mSl, mVar, mRet, mCall, m_thenS, s_bind_e, s_fin_e, m_bind_assoc, asBool, subD, gtD, ltD, geD, leD, opII, ltI, modD, divD, eqD, lenD, listD, tupD, mFor, mTup, mLst, mLstL, mList, mLc, dats, mLenO, mSeq, seqD, mRng1, gN, wipeE, mYes, few0, few1, few2, few4, ix_t (ds := [.int (many : Int), .bool tel, .tuple (ks.map kindD)]) (r := 0) (by omega) (by simp), e]
  rw [choices_eq (s := .list (rngD 0 many)) rfl (by rw [rngD_len]; exact hm) h3]
  simp [mIfS, mThenB, mBin, mC, mSet, mSetL, mThen, mCons, mNil, mD, mSl, mVar, mRet, mCall, m_thenS, s_bind_e, s_fin_e, m_bind_assoc, asBool, subD, gtD, ltD, geD, leD, opII, ltI, modD, divD, eqD, lenD, listD, tupD, mFor, mTup, mLst, mLstL, mList, mLc, dats, mLenO, mSeq, seqD, mRng1, gN, wipeE, mYes, few0, few1, few2, few4]
end
section
theorem num_row {many : Nat} {k : Kind} (W : WfK many k) {n : Nat} {t : List (List Int)} (ht : t ∈ teamsL k.2 n) {c : List Int} (hc : c ∈ colsL k.1.toNat t) : c.length = n ∧ ∀ x ∈ c, 0 ≤ x ∧ x < many := by
  obtain ⟨h1, h2⟩ := teams_each ht
  unfold colsL at hc
  obtain ⟨j, hj, rfl⟩ := List.mem_map.mp hc
  have hj := List.mem_range.mp hj
  refine ⟨by rw [List.length_map]; exact h1, fun x hx => ?_⟩
  obtain ⟨r, hr, rfl⟩ := List.mem_map.mp hx
  obtain ⟨h3, h4⟩ := W.row r (h2 r hr)
  rw [List.getD_eq_getElem?_getD, List.getElem?_eq_getElem (by omega)]
  exact h4 _ (List.getElem_mem _)
theorem ltie_ok {many n : Nat} (hix : ixOk many n = true) {k : Kind} (W : WfK many k) (h1 : 1 ≤ n) {t : List (List Int)} (ht : t ∈ teamsL k.2 n) (i : Nat) {a0 a1 a3 a4 a5 a7 a9 a10 : Option Sl} :
    (mTup (mCons (mD (mVar 6)) (mCons (mD (mThen (mCons (mD (mList (mLc (mSeq (mCall (m__law_columns) (mCons (mD (mVar 8)) mNil))) [10] (gN 10) mYes (mIndex (mVar 2) (mVar 10))))) mNil) tupD)) mNil))) [a0, a1, some (.d (.list ((tupsI many n).map rowD))), a3, a4, a5, some (.d (.int (i : Nat))), a7, some (.d (.tuple (t.map rowD))), a9, a10] = mOk (tieOf many k.1.toNat i t) := by
  obtain ⟨hl, hw⟩ := team_row W ht
  have hne : t ≠ [] := by intro e; rw [e] at hl; simp [mIfS, mThenB, mBin, mC, mSet, mSetL, mThen, mCons, mNil, mD, mSl, mVar, mRet, mCall, m_thenS, s_bind_e, s_fin_e, m_bind_assoc, asBool, subD, gtD, ltD, geD, leD, opII, ltI, modD, divD, eqD, lenD, listD, tupD, mFor, mTup, mLst, mLstL, mList, mLc, dats, mLenO, mSeq, seqD, mRng1, gN, wipeE, mYes, few0, few1, few2, few4] at hl; omega
  have := W.w3
  have hs : SeqAt.shaped (.list (t.map rowD)) = true := (sh_rows t).shaped (by omega)
  simp [mIfS, mThenB, mBin, mC, mSet, mSetL, mThen, mCons, mNil, mD, mSl, mVar, mRet, mCall, m_thenS, s_bind_e, s_fin_e, m_bind_assoc, asBool, subD, gtD, ltD, geD, leD, opII, ltI, modD, divD, eqD, lenD, listD, tupD, mFor, mTup, mLst, mLstL, mList, mLc, dats, mLenO, mSeq, seqD, mRng1, gN, wipeE, mYes, few0, few1, few2, few4, lawcols_eq hne hw (by omega) hs]
  rw [lc_at (f := rowD) (h := fun c => .int (numL many c))]
  · simp [mIfS, mThenB, mBin, mC, mSet, mSetL, mThen, mCons, mNil, mD, mSl, mVar, mRet, mCall, m_thenS, s_bind_e, s_fin_e, m_bind_assoc, asBool, subD, gtD, ltD, geD, leD, opII, ltI, modD, divD, eqD, lenD, listD, tupD, mFor, mTup, mLst, mLstL, mList, mLc, dats, mLenO, mSeq, seqD, mRng1, gN, wipeE, mYes, few0, few1, few2, few4, tieOf, tieD, Function.comp_def]
  · intro c hc
    obtain ⟨c1, c2⟩ := num_row W ht hc
    refine ⟨_, rfl, rfl, ?_⟩
    have ie := index_eq hix c1 c2
    simp [mIfS, mThenB, mBin, mC, mSet, mSetL, mThen, mCons, mNil, mD, mSl, mVar, mRet, mCall, m_thenS, s_bind_e, s_fin_e, m_bind_assoc, asBool, subD, gtD, ltD, geD, leD, opII, ltI, modD, divD, eqD, lenD, listD, tupD, mFor, mTup, mLst, mLstL, mList, mLc, dats, mLenO, mSeq, seqD, mRng1, gN, wipeE, mYes, few0, few1, few2, few4, mIndex, mIxL]
    rw [ie]
    simp [mIfS, mThenB, mBin, mC, mSet, mSetL, mThen, mCons, mNil, mD, mSl, mVar, mRet, mCall, m_thenS, s_bind_e, s_fin_e, m_bind_assoc, asBool, subD, gtD, ltD, geD, leD, opII, ltI, modD, divD, eqD, lenD, listD, tupD, mFor, mTup, mLst, mLstL, mList, mLc, dats, mLenO, mSeq, seqD, mRng1, gN, wipeE, mYes, few0, few1, few2, few4]
theorem louter_go {many n : Nat} (hix : ixOk many n = true) {B : Dt} (h1 : 1 ≤ n) (h3 : n ≤ 3) :
    ∀ (ks : List Kind) (i : Nat) (acc : List Dt) (a3 a4 x y z a9 a10 : Option Sl), (∀ k ∈ ks, WfK many k) → acc.length + 512 * ks.length ≤ 1000000 → ∃ x' y' z', forLoop (gTupD 2 (gConsD (gN 6) (gConsD (gN 7) gNil))) (mFor (mSeq (mCall (m__law_teams) (mCons (mD (mBin ixD (mVar 7) (mC (.int 1)))) (mCons (mD (mVar 1)) mNil)))) (gN 8) (mApp 5 (mTup (mCons (mD (mVar 6)) (mCons (mD (mThen (mCons (mD (mList (mLc (mSeq (mCall (m__law_columns) (mCons (mD (mVar 8)) mNil))) [10] (gN 10) mYes (mIndex (mVar 2) (mVar 10))))) mNil) tupD)) mNil)))))
      (enumFrom i (ks.map kindD)) [some (.d B), some (.d (.int n)), some (.d (.list ((tupsI many n).map rowD))), a3, a4, some (.d (.list acc)), x, y, z, a9, a10] = sOk .nx [some (.d B), some (.d (.int n)), some (.d (.list ((tupsI many n).map rowD))), a3, a4, some (.d (.list (acc ++ tiesFrom many n i ks))), x', y', z', a9, a10]
  | [], i, acc, a3, a4, x, y, z, a9, a10, _, _ => ⟨x, y, z, by simp [mIfS, mThenB, mBin, mC, mSet, mSetL, mThen, mCons, mNil, mD, mSl, mVar, mRet, mCall, m_thenS, s_bind_e, s_fin_e, m_bind_assoc, asBool, subD, gtD, ltD, geD, leD, opII, ltI, modD, divD, eqD, lenD, listD, tupD, mFor, mTup, mLst, mLstL, mList, mLc, dats, mLenO, mSeq, seqD, mRng1, gN, wipeE, mYes, few0, few1, few2, few4, enumFrom, tiesFrom]⟩
  | k :: ks, i, acc, a3, a4, x, y, z, a9, a10, W, hl => by
    have Wk := W k List.mem_cons_self
    rw [List.length_cons] at hl
    have hp := pow6 Wk.few h3
    rw [← teams_len] at hp
    have hc := teams_eq (s := .tuple (k.2.map rowD)) rfl (by rw [List.length_map]; have := Wk.few; omega) h3
    rw [teams_map, List.map_map] at hc
    obtain ⟨y1, e1⟩ := app_loop (f := fun t : List (List Int) => .tuple (t.map rowD)) (i := 5) (j := 8) (h := tieOf many k.1.toNat i) (fun a x => [some (.d B), some (.d (.int n)), some (.d (.list ((tupsI many n).map rowD))), a3, a4, a, some (.d (.int (i : Nat))), some (.d (kindD k)), x, a9, a10])
      (fun _ _ => rfl) (fun _ _ _ => rfl) (fun _ _ _ => rfl) (teamsL k.2 n) acc z (by omega) (fun t ht acc => ltie_ok hix Wk h1 ht i)
    obtain ⟨x', y', z', e⟩ := louter_go hix (B := B) h1 h3 ks (i + 1) (acc ++ tiesOf many n i k) a3 a4 (some (.d (.int (i : Nat)))) (some (.d (kindD k))) y1 a9 a10 (fun k hk => W k (List.mem_cons_of_mem _ hk)) (by simp only [List.length_append, tiesOf, List.length_map]; omega)
    refine ⟨x', y', z', ?_⟩
    rw [List.map_cons, enumFrom, for_cons (ρ1 := [some (.d B), some (.d (.int n)), some (.d (.list ((tupsI many n).map rowD))), a3, a4, some (.d (.list acc)), some (.d (.int (i : Nat))), some (.d (kindD k)), z, a9, a10]) (ρ2 := [some (.d B), some (.d (.int n)), some (.d (.list ((tupsI many n).map rowD))), a3, a4, some (.d (.list (acc ++ tiesOf many n i k))), some (.d (.int (i : Nat))), some (.d (kindD k)), y1, a9, a10]) rfl, e]
    · simp [mIfS, mThenB, mBin, mC, mSet, mSetL, mThen, mCons, mNil, mD, mSl, mVar, mRet, mCall, m_thenS, s_bind_e, s_fin_e, m_bind_assoc, asBool, subD, gtD, ltD, geD, leD, opII, ltI, modD, divD, eqD, lenD, listD, tupD, mFor, mTup, mLst, mLstL, mList, mLc, dats, mLenO, mSeq, seqD, mRng1, gN, wipeE, mYes, few0, few1, few2, few4, tiesFrom]
    · have e2 : (mSeq (mCall (m__law_teams) (mCons (mD (mBin ixD (mVar 7) (mC (.int 1)))) (mCons (mD (mVar 1)) mNil)))) [some (.d B), some (.d (.int n)), some (.d (.list ((tupsI many n).map rowD))), a3, a4, some (.d (.list acc)), some (.d (.int (i : Nat))), some (.d (kindD k)), z, a9, a10] = mOk ((teamsL k.2 n).map fun t => .tuple (t.map rowD)) := by
        have k1 : ixD (kindD k) (.int 1) = some (.tuple (k.2.map rowD)) := ix_t (ds := [.int k.1, .tuple (k.2.map rowD)]) (r := 1) (by omega) (by simp [mIfS, mThenB, mBin, mC, mSet, mSetL, mThen, mCons, mNil, mD, mSl, mVar, mRet, mCall, m_thenS, s_bind_e, s_fin_e, m_bind_assoc, asBool, subD, gtD, ltD, geD, leD, opII, ltI, modD, divD, eqD, lenD, listD, tupD, mFor, mTup, mLst, mLstL, mList, mLc, dats, mLenO, mSeq, seqD, mRng1, gN, wipeE, mYes, few0, few1, few2, few4])
        simp [mIfS, mThenB, mBin, mC, mSet, mSetL, mThen, mCons, mNil, mD, mSl, mVar, mRet, mCall, m_thenS, s_bind_e, s_fin_e, m_bind_assoc, asBool, subD, gtD, ltD, geD, leD, opII, ltI, modD, divD, eqD, lenD, listD, tupD, mFor, mTup, mLst, mLstL, mList, mLc, dats, mLenO, mSeq, seqD, mRng1, gN, wipeE, mYes, few0, few1, few2, few4, k1]
        rw [hc]
        simp [mIfS, mThenB, mBin, mC, mSet, mSetL, mThen, mCons, mNil, mD, mSl, mVar, mRet, mCall, m_thenS, s_bind_e, s_fin_e, m_bind_assoc, asBool, subD, gtD, ltD, geD, leD, opII, ltI, modD, divD, eqD, lenD, listD, tupD, mFor, mTup, mLst, mLstL, mList, mLc, dats, mLenO, mSeq, seqD, mRng1, gN, wipeE, mYes, few0, few1, few2, few4, Function.comp_def]
      unfold mFor
      rw [e2, m_e_ok]
      exact e1
theorem law_free_eq {many n : Nat} (hm : many ≤ 9) (hix : ixOk many n = true) (h1 : 1 ≤ n) (h3 : n ≤ 3) {tel : Bool} {ks : List Kind} (W : ∀ k ∈ ks, WfK many k) (hk : ks.length ≤ 2) : m__law_free [.d (bookD many tel ks), .d (.int n)] = mOk (freeD many n tel ks) := by
  have few := ties_few (many := many) h3 0 W
  have hs : setOk (tiesFrom many n 0 ks) = true := setOk_ties (fun d hd => ties_each hd) (by omega)
  obtain ⟨x', y', z', e⟩ := louter_go hix (B := bookD many tel ks) h1 h3 ks 0 [] none (some (.d (.int many))) none none none none none W (by simp [mIfS, mThenB, mBin, mC, mSet, mSetL, mThen, mCons, mNil, mD, mSl, mVar, mRet, mCall, m_thenS, s_bind_e, s_fin_e, m_bind_assoc, asBool, subD, gtD, ltD, geD, leD, opII, ltI, modD, divD, eqD, lenD, listD, tupD, mFor, mTup, mLst, mLstL, mList, mLc, dats, mLenO, mSeq, seqD, mRng1, gN, wipeE, mYes, few0, few1, few2, few4]; omega)
  have b0 : ixD (bookD many tel ks) (.int 0) = some (.int many) := ix_t (ds := [.int (many : Int), .bool tel, .tuple (ks.map kindD)]) (r := 0) (by omega) (by simp [mIfS, mThenB, mBin, mC, mSet, mSetL, mThen, mCons, mNil, mD, mSl, mVar, mRet, mCall, m_thenS, s_bind_e, s_fin_e, m_bind_assoc, asBool, subD, gtD, ltD, geD, leD, opII, ltI, modD, divD, eqD, lenD, listD, tupD, mFor, mTup, mLst, mLstL, mList, mLc, dats, mLenO, mSeq, seqD, mRng1, gN, wipeE, mYes, few0, few1, few2, few4])
  have b1 : ixD (bookD many tel ks) (.int 1) = some (.bool tel) := ix_t (ds := [.int (many : Int), .bool tel, .tuple (ks.map kindD)]) (r := 1) (by omega) (by simp [mIfS, mThenB, mBin, mC, mSet, mSetL, mThen, mCons, mNil, mD, mSl, mVar, mRet, mCall, m_thenS, s_bind_e, s_fin_e, m_bind_assoc, asBool, subD, gtD, ltD, geD, leD, opII, ltI, modD, divD, eqD, lenD, listD, tupD, mFor, mTup, mLst, mLstL, mList, mLc, dats, mLenO, mSeq, seqD, mRng1, gN, wipeE, mYes, few0, few1, few2, few4])
  have b2 : ixD (bookD many tel ks) (.int 2) = some (.tuple (ks.map kindD)) := ix_t (ds := [.int (many : Int), .bool tel, .tuple (ks.map kindD)]) (r := 2) (by omega) (by simp [mIfS, mThenB, mBin, mC, mSet, mSetL, mThen, mCons, mNil, mD, mSl, mVar, mRet, mCall, m_thenS, s_bind_e, s_fin_e, m_bind_assoc, asBool, subD, gtD, ltD, geD, leD, opII, ltI, modD, divD, eqD, lenD, listD, tupD, mFor, mTup, mLst, mLstL, mList, mLc, dats, mLenO, mSeq, seqD, mRng1, gN, wipeE, mYes, few0, few1, few2, few4])
  unfold m__law_free
  rw [m_def (by rfl)]
  simp [mIfS, mThenB, mBin, mC, mSet, mSetL, mThen, mCons, mNil, mD, mSl, mVar, mRet, mCall, m_thenS, s_bind_e, s_fin_e, m_bind_assoc, asBool, subD, gtD, ltD, geD, leD, opII, ltI, modD, divD, eqD, lenD, listD, tupD, mTup, mLst, mLstL, mList, mLc, dats, mLenO, mSeq, seqD, mRng1, gN, wipeE, mYes, few0, few1, few2, few4, mParN2, mConsS, mConsL, mNilN, Nw.isL, setN, b0, tuples_eq' hm h3]
  have e0 : (mEnumA (mCons (mD (mBin ixD (mVar 0) (mC (.int 2)))) mNil)) [some (.d (bookD many tel ks)), some (.d (.int n)), some (.d (.list ((tupsI many n).map rowD))), none, some (.d (.int many)), some (.d (.list [])), none, none, none, none, none] = mOk (enumFrom 0 (ks.map kindD)) := by
    unfold mEnumA
    simp [mIfS, mThenB, mBin, mC, mSet, mSetL, mThen, mCons, mNil, mD, mSl, mVar, mRet, mCall, m_thenS, s_bind_e, s_fin_e, m_bind_assoc, asBool, subD, gtD, ltD, geD, leD, opII, ltI, modD, divD, eqD, lenD, listD, tupD, mFor, mTup, mLst, mLstL, mList, mLc, dats, mLenO, mSeq, seqD, mRng1, gN, wipeE, mYes, few0, few1, few2, few4, b2, enumD, enumTD, enumP_eq]
  simp only [mFor]
  rw [e0, m_e_ok, e]
  have hlen : (tupsI many n).length = many ^ n := by
    have := congrArg List.length (tups_map many n)
    rw [List.length_map, teams_len, rngD_len] at this
    exact this.symm
  have told : (mIf (mThenB (mBin ixD (mVar 0) (mC (.int 1))) truD) (mList (mLc (mRng1 (mCons (mD (mVar 4)) mNil)) [9] (gN 9) mYes (mTup (mCons (mD (mIndex (mVar 2) (mBin mulD (mTup (mCons (mD (mVar 9)) mNil)) (mVar 1)))) (mCons (mD (mVar 9)) mNil))))) (mLst mNil))
      [some (.d (bookD many tel ks)), some (.d (.int n)), some (.d (.list ((tupsI many n).map rowD))), none, some (.d (.int many)), some (.d (.list ([] ++ tiesFrom many n 0 ks))), x', y', z', none, none] = mOk (.list (toldOf many n tel)) := by
    cases tel with
    | false => simp [mIfS, mThenB, mBin, mC, mSet, mSetL, mThen, mCons, mNil, mD, mSl, mVar, mRet, mCall, m_thenS, s_bind_e, s_fin_e, m_bind_assoc, asBool, subD, gtD, ltD, geD, leD, opII, ltI, modD, divD, eqD, lenD, listD, tupD, mFor, mTup, mLst, mLstL, mList, mLc, dats, mLenO, mSeq, seqD, mRng1, gN, wipeE, mYes, few0, few1, few2, few4, mIf, b1, truD, toldOf]
    | true =>
      simp [mIfS, mThenB, mBin, mC, mSet, mSetL, mThen, mCons, mNil, mD, mSl, mVar, mRet, mCall, m_thenS, s_bind_e, s_fin_e, m_bind_assoc, asBool, subD, gtD, ltD, geD, leD, opII, ltI, modD, divD, eqD, lenD, listD, tupD, mFor, mTup, mLst, mLstL, mList, mLc, dats, mLenO, mSeq, seqD, mRng1, gN, wipeE, mYes, few0, few1, few2, few4, mIf, b1, truD, rng1_nat (n := many) (by omega)]
      rw [lc_map (h := fun d => match d with | .int v => .tuple [.int (numL many (List.replicate n v)), .int v] | _ => .none)]
      rotate_left
      · intro d hd
        obtain ⟨v, hv, rfl⟩ := rng_mem hd
        refine ⟨_, rfl, rfl, ?_⟩
        have rt := rep_tup (v := 0 + (v : Int)) h1 h3
        have ie := index_eq hix (r := List.replicate n (0 + (v : Int))) (by simp [mIfS, mThenB, mBin, mC, mSet, mSetL, mThen, mCons, mNil, mD, mSl, mVar, mRet, mCall, m_thenS, s_bind_e, s_fin_e, m_bind_assoc, asBool, subD, gtD, ltD, geD, leD, opII, ltI, modD, divD, eqD, lenD, listD, tupD, mFor, mTup, mLst, mLstL, mList, mLc, dats, mLenO, mSeq, seqD, mRng1, gN, wipeE, mYes, few0, few1, few2, few4]) (fun x hx => by
          have := List.eq_of_mem_replicate hx
          omega)
        simp only [Int.zero_add] at rt ie ⊢
        simp [mIfS, mThenB, mBin, mC, mSet, mSetL, mThen, mCons, mNil, mD, mSl, mVar, mRet, mCall, m_thenS, s_bind_e, s_fin_e, m_bind_assoc, asBool, subD, gtD, ltD, geD, leD, opII, ltI, modD, divD, eqD, lenD, listD, tupD, mFor, mTup, mLst, mLstL, mList, mLc, dats, mLenO, mSeq, seqD, mRng1, gN, wipeE, mYes, few0, few1, few2, few4, mIndex, mIxL, rt]
        rw [ie]
        simp [mIfS, mThenB, mBin, mC, mSet, mSetL, mThen, mCons, mNil, mD, mSl, mVar, mRet, mCall, m_thenS, s_bind_e, s_fin_e, m_bind_assoc, asBool, subD, gtD, ltD, geD, leD, opII, ltI, modD, divD, eqD, lenD, listD, tupD, mFor, mTup, mLst, mLstL, mList, mLc, dats, mLenO, mSeq, seqD, mRng1, gN, wipeE, mYes, few0, few1, few2, few4]
      · simp [mIfS, mThenB, mBin, mC, mSet, mSetL, mThen, mCons, mNil, mD, mSl, mVar, mRet, mCall, m_thenS, s_bind_e, s_fin_e, m_bind_assoc, asBool, subD, gtD, ltD, geD, leD, opII, ltI, modD, divD, eqD, lenD, listD, tupD, mFor, mTup, mLst, mLstL, mList, mLc, dats, mLenO, mSeq, seqD, mRng1, gN, wipeE, mYes, few0, few1, few2, few4, toldOf, rngD, Function.comp_def]
  simp [mIfS, mThenB, mBin, mC, mSet, mSetL, mThen, mCons, mNil, mD, mSl, mVar, mRet, mCall, m_thenS, s_bind_e, s_fin_e, m_bind_assoc, asBool, subD, gtD, ltD, geD, leD, opII, ltI, modD, divD, eqD, lenD, listD, tupD, mTup, mLst, mLstL, mList, mLc, dats, mLenO, mSeq, seqD, mRng1, gN, wipeE, mYes, few0, few1, few2, few4] at told ⊢
  rw [told]
  simp [mIfS, mThenB, mBin, mC, mSet, mSetL, mThen, mCons, mNil, mD, mSl, mVar, mRet, mCall, m_thenS, s_bind_e, s_fin_e, m_bind_assoc, asBool, subD, gtD, ltD, geD, leD, opII, ltI, modD, divD, eqD, lenD, listD, tupD, mFor, mTup, mLst, mLstL, mList, mLc, dats, mLenO, mSeq, seqD, mRng1, gN, wipeE, mYes, few0, few1, few2, few4, setSort_eq hs, freeD, hlen]
end
end K08
set_option maxRecDepth 100000
set_option maxHeartbeats 1000000
namespace K08
open DL PySem L2
/-! the codes of rows behind one another -/
theorem lc2_at {g : Dt → EnvD → Option EnvD} {ft : EnvD → Mo Bool} {fe : EnvD → Mo Dt} {ρ : EnvD} {τ : Type} {f : τ → Dt} {fi1 : EnvD → Mo (List Dt)} {vs1 : List Nat} {g1 : Dt → EnvD → Option EnvD} {ft1 : EnvD → Mo Bool} {h : τ → List Dt} : ∀ {ts : List τ}, (∀ t ∈ ts, ∃ ρ1 ds1, g (f t) ρ = some ρ1 ∧ ft ρ1 = mOk true ∧ fi1 ρ1 = mOk ds1 ∧ lcLoop g1 ft1 fe (wipeE ρ1 vs1) ds1 = mOk (h t)) → lcLoop2 g ft fi1 vs1 g1 ft1 fe ρ (ts.map f) = mOk (ts.flatMap h)
  | [], _ => rfl
  | t :: ts, H => by
    obtain ⟨ρ1, ds1, h1, h2, h3, h4⟩ := H t List.mem_cons_self
    simp only [List.map_cons, lcLoop2, h1, h2, h3, h4, m_no_ok, if_true, List.flatMap_cons]
    rw [lc2_at fun e he => H e (List.mem_cons_of_mem _ he)]
    rfl
def codeL (many : Int) (w : Nat) (t : List (List Int)) : List Int := (colsL w t).map (numL many)
def codeT (many : Int) (w : Nat) (t : List (List Int)) : Dt := rowD (codeL many w t)
theorem numL_end (many : Int) (xs : List Int) (v : Int) : numL many (xs ++ [v]) = numL many xs * many + v := by
  simp [mIfS, mThenB, mBin, mC, mSet, mSetL, mThen, mCons, mNil, mD, mSl, mVar, mRet, mCall, m_thenS, s_bind_e, s_fin_e, m_bind_assoc, asBool, subD, gtD, geD, leD, opII, ltI, modD, divD, lenD, listD, tupD, mFor, mTup, mLst, mLstL, mList, mLc, dats, mLenO, mSeq, seqD, mRng1, gN, wipeE, mYes, few0, few1, few2, few4, few5, few3, mZip, mAsg, gTupD, gConsD, DL.gNil, numL, List.foldl_append]
theorem row_range {r : List Int} {w : Nat} (h : r.length = w) : r = (List.range w).map fun j => r.getD j 0 := by
  apply List.ext_getElem
  · simp [mIfS, mThenB, mBin, mC, mSet, mSetL, mThen, mCons, mNil, mD, mSl, mVar, mRet, mCall, m_thenS, s_bind_e, s_fin_e, m_bind_assoc, asBool, subD, gtD, geD, leD, opII, ltI, modD, divD, lenD, listD, tupD, mFor, mTup, mLst, mLstL, mList, mLc, dats, mLenO, mSeq, seqD, mRng1, gN, wipeE, mYes, few0, few1, few2, few4, few5, few3, mZip, mAsg, gTupD, gConsD, DL.gNil, h]
  · intro i h1 h2
    simp [mIfS, mThenB, mBin, mC, mSet, mSetL, mThen, mCons, mNil, mD, mSl, mVar, mRet, mCall, m_thenS, s_bind_e, s_fin_e, m_bind_assoc, asBool, subD, gtD, geD, leD, opII, ltI, modD, divD, lenD, listD, tupD, mFor, mTup, mLst, mLstL, mList, mLc, dats, mLenO, mSeq, seqD, mRng1, gN, wipeE, mYes, few0, few1, few2, few4, few5, few3, mZip, mAsg, gTupD, gConsD, DL.gNil, List.getElem?_eq_getElem h1]
theorem codeL_range (many : Int) (w : Nat) (t : List (List Int)) : codeL many w t = (List.range w).map fun j => numL many (t.map fun r => r.getD j 0) := by
  simp [mIfS, mThenB, mBin, mC, mSet, mSetL, mThen, mCons, mNil, mD, mSl, mVar, mRet, mCall, m_thenS, s_bind_e, s_fin_e, m_bind_assoc, asBool, subD, gtD, geD, leD, opII, ltI, modD, divD, lenD, listD, tupD, mFor, mTup, mLst, mLstL, mList, mLc, dats, mLenO, mSeq, seqD, mRng1, gN, wipeE, mYes, few0, few1, few2, few4, few5, few3, mZip, mAsg, gTupD, gConsD, DL.gNil, codeL, colsL, Function.comp_def]
theorem zip_codes {many : Int} {w : Nat} {t : List (List Int)} {r : List Int} (h : r.length = w) : zipP ((codeL many w t).map .int) (r.map .int) = (List.range w).map fun j => .tuple [.int (numL many (t.map fun r => r.getD j 0)), .int (r.getD j 0)] := by
  rw [codeL_range]
  have e : zipP (((List.range w).map fun j => numL many (t.map fun r => r.getD j 0)).map .int) ((((List.range w).map fun j => r.getD j 0)).map .int) = (List.range w).map fun j => PyData.tuple [.int (numL many (t.map fun r => r.getD j 0)), .int (r.getD j 0)] := by
    unfold zipP
    rw [List.map_map, List.map_map, List.zip_map', List.map_map]
    rfl
  rwa [← row_range h] at e
theorem codes_behind_eq {many : Int} (hm : -(2 ^ 64) < many ∧ many < 2 ^ 64) {w : Nat} {ts : List (List (List Int))} {rs : List (List Int)} (hr : ∀ r ∈ rs, r.length = w) (hl : ts.length * rs.length ≤ 1000000) :
    m_codes_behind [.d (.int many), .d (.list (ts.map (codeT many w))), .d (.tuple (rs.map rowD))] = mOk (.list ((ts.flatMap fun t => rs.map fun r => t ++ [r]).map (codeT many w))) := by
  unfold m_codes_behind
  rw [m_def (by rfl)]
  simp [mIfS, mThenB, mBin, mC, mSet, mSetL, mThen, mCons, mNil, mD, mSl, mVar, mRet, mCall, m_thenS, s_bind_e, s_fin_e, m_bind_assoc, asBool, subD, gtD, geD, leD, opII, ltI, modD, divD, lenD, listD, tupD, mFor, mTup, mLst, mLstL, mList, mLc, dats, mLenO, mSeq, seqD, mRng1, gN, wipeE, mYes, few0, few1, few2, few4, few5, few3, mZip, mAsg, gTupD, gConsD, DL.gNil, mLc2]
  rw [lc2_at (h := fun t => rs.map fun r => codeT many w (t ++ [r]))]
  · rw [m_few]
    · simp [mIfS, mThenB, mBin, mC, mSet, mSetL, mThen, mCons, mNil, mD, mSl, mVar, mRet, mCall, m_thenS, s_bind_e, s_fin_e, m_bind_assoc, asBool, subD, gtD, geD, leD, opII, ltI, modD, divD, lenD, listD, tupD, mFor, mTup, mLst, mLstL, mList, mLc, dats, mLenO, mSeq, seqD, mRng1, gN, wipeE, mYes, few0, few1, few2, few4, few5, few3, mZip, mAsg, gTupD, gConsD, DL.gNil, List.map_flatMap, Function.comp_def]
    · rw [flatMap_len _ (fun c => List.length_map _)]
      exact sz_of hl
  · intro t ht
    refine ⟨_, rs.map rowD, rfl, rfl, by simp [mIfS, mThenB, mBin, mC, mSet, mSetL, mThen, mCons, mNil, mD, mSl, mVar, mRet, mCall, m_thenS, s_bind_e, s_fin_e, m_bind_assoc, asBool, subD, gtD, geD, leD, opII, ltI, modD, divD, lenD, listD, tupD, mFor, mTup, mLst, mLstL, mList, mLc, dats, mLenO, mSeq, seqD, mRng1, gN, wipeE, mYes, few0, few1, few2, few4, few5, few3, mZip, mAsg, gTupD, gConsD, DL.gNil], ?_⟩
    refine lc_at (f := rowD) (h := fun r => codeT many w (t ++ [r])) fun r hr' => ⟨_, rfl, rfl, ?_⟩
    have z := zip_codes (many := many) (t := t) (hr r hr')
    simp [mIfS, mThenB, mBin, mC, mSet, mSetL, mThen, mCons, mNil, mD, mSl, mVar, mRet, mCall, m_thenS, s_bind_e, s_fin_e, m_bind_assoc, asBool, subD, gtD, geD, leD, opII, ltI, modD, divD, lenD, listD, tupD, mFor, mTup, mLst, mLstL, mList, mLc, dats, mLenO, mSeq, seqD, mRng1, gN, wipeE, mYes, few0, few1, few2, few4, few5, few3, mZip, mAsg, gTupD, gConsD, DL.gNil, codeT, rowD, zipD, z]
    rw [lc_at (h := fun j => .int (numL many ((t ++ [r]).map fun r => r.getD j 0)))]
    · simp [mIfS, mThenB, mBin, mC, mSet, mSetL, mThen, mCons, mNil, mD, mSl, mVar, mRet, mCall, m_thenS, s_bind_e, s_fin_e, m_bind_assoc, asBool, subD, gtD, geD, leD, opII, ltI, modD, divD, lenD, listD, tupD, mFor, mTup, mLst, mLstL, mList, mLc, dats, mLenO, mSeq, seqD, mRng1, gN, wipeE, mYes, few0, few1, few2, few4, few5, few3, mZip, mAsg, gTupD, gConsD, DL.gNil, codeL_range, Function.comp_def]
    · intro j hj
      refine ⟨_, rfl, rfl, ?_⟩
      simp [mIfS, mThenB, mBin, mC, mSet, mSetL, mThen, mCons, mNil, mD, mSl, mVar, mRet, mCall, m_thenS, s_bind_e, s_fin_e, m_bind_assoc, asBool, subD, gtD, geD, leD, opII, ltI, modD, divD, lenD, listD, tupD, mFor, mTup, mLst, mLstL, mList, mLc, dats, mLenO, mSeq, seqD, mRng1, gN, wipeE, mYes, few0, few1, few2, few4, few5, few3, mZip, mAsg, gTupD, gConsD, DL.gNil, mul_ij hm, add_ii]
      rw [numL_end]
theorem codeT_nil (many : Int) (w : Nat) : codeT many w [] = rowD (List.replicate w 0) := by
  unfold codeT
  rw [codeL_range]
  congr 1
  apply List.ext_getElem
  · simp [mIfS, mThenB, mBin, mC, mSet, mSetL, mThen, mCons, mNil, mD, mSl, mVar, mRet, mCall, m_thenS, s_bind_e, s_fin_e, m_bind_assoc, asBool, subD, gtD, geD, leD, opII, ltI, modD, divD, lenD, listD, tupD, mFor, mTup, mLst, mLstL, mList, mLc, dats, mLenO, mSeq, seqD, mRng1, gN, wipeE, mYes, few0, few1, few2, few4, few5, few3, mZip, mAsg, gTupD, gConsD, DL.gNil]
  · intro i h1 h2
    simp [mIfS, mThenB, mBin, mC, mSet, mSetL, mThen, mCons, mNil, mD, mSl, mVar, mRet, mCall, m_thenS, s_bind_e, s_fin_e, m_bind_assoc, asBool, subD, gtD, geD, leD, opII, ltI, modD, divD, lenD, listD, tupD, mFor, mTup, mLst, mLstL, mList, mLc, dats, mLenO, mSeq, seqD, mRng1, gN, wipeE, mYes, few0, few1, few2, few4, few5, few3, mZip, mAsg, gTupD, gConsD, DL.gNil, numL]
theorem codes_of_eq {many : Int} (hm : -(2 ^ 64) < many ∧ many < 2 ^ 64) {tel : Bool} {ks : List Kind} {i : Nat} {k : Kind} (hi : ks[i]? = some k) (W : WfK many k) {n : Nat} (h3 : n ≤ 3) :
    m_codes_of [.d (bookD many tel ks), .d (.int n), .d (.int i)] = mOk (.list ((teamsL k.2 n).map (codeT many k.1.toNat))) := by
  obtain ⟨hi1, hi2⟩ := List.getElem?_eq_some_iff.mp hi
  have w1 := W.w1
  have w3 := W.w3
  have b0 : ixD (bookD many tel ks) (.int 0) = some (.int many) := ix_t (ds := [.int many, .bool tel, .tuple (ks.map kindD)]) (r := 0) (by omega) (by simp [mIfS, mThenB, mBin, mC, mSet, mSetL, mThen, mCons, mNil, mD, mSl, mVar, mRet, mCall, m_thenS, s_bind_e, s_fin_e, m_bind_assoc, asBool, subD, gtD, geD, leD, opII, ltI, modD, divD, lenD, listD, tupD, mFor, mTup, mLst, mLstL, mList, mLc, dats, mLenO, mSeq, seqD, mRng1, gN, wipeE, mYes, few0, few1, few2, few4, few5, few3, mZip, mAsg, gTupD, gConsD, DL.gNil])
  have b2 : ixD (bookD many tel ks) (.int 2) = some (.tuple (ks.map kindD)) := ix_t (ds := [.int many, .bool tel, .tuple (ks.map kindD)]) (r := 2) (by omega) (by simp [mIfS, mThenB, mBin, mC, mSet, mSetL, mThen, mCons, mNil, mD, mSl, mVar, mRet, mCall, m_thenS, s_bind_e, s_fin_e, m_bind_assoc, asBool, subD, gtD, geD, leD, opII, ltI, modD, divD, lenD, listD, tupD, mFor, mTup, mLst, mLstL, mList, mLc, dats, mLenO, mSeq, seqD, mRng1, gN, wipeE, mYes, few0, few1, few2, few4, few5, few3, mZip, mAsg, gTupD, gConsD, DL.gNil])
  have bi : ixD (.tuple (ks.map kindD)) (.int i) = some (kindD k) := by
    rw [ix_t (by omega) (by rw [List.length_map]; omega)]
    simp [mIfS, mThenB, mBin, mC, mSet, mSetL, mThen, mCons, mNil, mD, mSl, mVar, mRet, mCall, m_thenS, s_bind_e, s_fin_e, m_bind_assoc, asBool, subD, gtD, geD, leD, opII, ltI, modD, divD, lenD, listD, tupD, mFor, mTup, mLst, mLstL, mList, mLc, dats, mLenO, mSeq, seqD, mRng1, gN, wipeE, mYes, few0, few1, few2, few4, few5, few3, mZip, mAsg, gTupD, gConsD, DL.gNil, hi2]
  have rt := rep_tup (v := 0) (n := k.1.toNat) (by omega) (by omega)
  rw [Int.toNat_of_nonneg (by omega)] at rt
  unfold m_codes_of
  rw [m_def (by rfl)]
  simp [mIfS, mThenB, mBin, mC, mSet, mSetL, mThen, mCons, mNil, mD, mSl, mVar, mRet, mCall, m_thenS, s_bind_e, s_fin_e, m_bind_assoc, asBool, subD, gtD, geD, leD, opII, ltI, modD, divD, lenD, listD, tupD, mFor, mTup, mLst, mLstL, mList, mLc, dats, mLenO, mSeq, seqD, mRng1, gN, wipeE, mYes, few0, few1, few2, few4, few5, few3, mZip, mAsg, gTupD, gConsD, DL.gNil, b2, bi]
  simp [mIfS, mThenB, mBin, mC, mSet, mSetL, mThen, mCons, mNil, mD, mSl, mVar, mRet, mCall, m_thenS, s_bind_e, s_fin_e, m_bind_assoc, asBool, subD, gtD, geD, leD, opII, ltI, modD, divD, lenD, listD, tupD, mFor, mTup, mLst, mLstL, mList, mLc, dats, mLenO, mSeq, seqD, mRng1, gN, wipeE, mYes, few0, few1, few2, few4, few5, few3, mZip, mAsg, gTupD, gConsD, DL.gNil, kindD, rt, rng1_nat (n := n) (by omega)]
  refine fin_for (I := fun its ρ => ∃ x y, ρ = [some (.d (bookD many tel ks)), some (.d (.int n)), some (.d (.int i)), some (.d (.list ((teamsL k.2 (n - its.length)).map (codeT many k.1.toNat)))), x, some (.d (.int k.1)), y] ∧ y = some (.d (.tuple (k.2.map rowD))) ∧ its.length ≤ n)
    ⟨none, _, by rw [rngD_len, Nat.sub_self]; simp [mIfS, mThenB, mBin, mC, mSet, mSetL, mThen, mCons, mNil, mD, mSl, mVar, mRet, mCall, m_thenS, s_bind_e, s_fin_e, m_bind_assoc, asBool, subD, gtD, geD, leD, opII, ltI, modD, divD, lenD, listD, tupD, mFor, mTup, mLst, mLstL, mList, mLc, dats, mLenO, mSeq, seqD, mRng1, gN, wipeE, mYes, few0, few1, few2, few4, few5, few3, mZip, mAsg, gTupD, gConsD, DL.gNil, teamsL, codeT_nil], rfl, by rw [rngD_len]; omega⟩ ?_ ?_
  · rintro d r ρ ⟨x, y, rfl, rfl, hl⟩
    have hl' : r.length + 1 ≤ n := hl
    have hn : n - (d :: r).length + 1 = n - r.length := by simp only [List.length_cons]; omega
    generalize hk : n - (d :: r).length = q at *
    have tl : (teamsL k.2 q).length ≤ 512 := by rw [teams_len]; exact pow6 W.few (by omega)
    have few := W.few
    have hb := codes_behind_eq hm (w := k.1.toNat) (ts := teamsL k.2 q) (rs := k.2) (fun r hr => (W.row r hr).1) (by have := Nat.mul_le_mul tl few; omega)
    refine ⟨_, _, rfl, ?_, ⟨some (.d d), _, rfl, rfl, by omega⟩⟩
    simp [mIfS, mThenB, mBin, mC, mSet, mSetL, mThen, mCons, mNil, mD, mSl, mVar, mRet, mCall, m_thenS, s_bind_e, s_fin_e, m_bind_assoc, asBool, subD, gtD, geD, leD, opII, ltI, modD, divD, lenD, listD, tupD, mFor, mTup, mLst, mLstL, mList, mLc, dats, mLenO, mSeq, seqD, mRng1, gN, wipeE, mYes, few0, few1, few2, few4, few5, few3, mZip, mAsg, gTupD, gConsD, DL.gNil, b0, hb, ← hn, teamsL]
  · rintro ρ ⟨x, y, rfl, rfl, -⟩
    simp [mIfS, mThenB, mBin, mC, mSet, mSetL, mThen, mCons, mNil, mD, mSl, mVar, mRet, mCall, m_thenS, s_bind_e, s_fin_e, m_bind_assoc, asBool, subD, gtD, geD, leD, opII, ltI, modD, divD, lenD, listD, tupD, mFor, mTup, mLst, mLstL, mList, mLc, dats, mLenO, mSeq, seqD, mRng1, gN, wipeE, mYes, few0, few1, few2, few4, few5, few3, mZip, mAsg, gTupD, gConsD, DL.gNil]
end K08
set_option maxRecDepth 100000
set_option maxHeartbeats 1000000
namespace K08
open DL PySem L2
/-! no two of them alike -/
theorem teams_nodup {α : Type} {ms : List α} (h : ms.Nodup) : ∀ n, (teamsL ms n).Nodup
  | 0 => by simp [mIfS, mThenB, mBin, mC, mSet, mSetL, mThen, mCons, mNil, mD, mSl, mVar, mRet, mCall, m_thenS, s_bind_e, s_fin_e, m_bind_assoc, asBool, subD, gtD, geD, leD, opII, ltI, modD, divD, lenD, listD, tupD, mFor, mTup, mLst, mLstL, mList, mLc, dats, mLenO, mSeq, seqD, mRng1, gN, wipeE, mYes, few0, few1, few2, few4, few5, few3, teamsL]
  | n + 1 => by
    unfold teamsL
    refine List.pairwise_flatMap.mpr ⟨fun c _ => ?_, ?_⟩
    · exact List.pairwise_map.mpr (h.imp fun {a b} hab e => hab (by simpa using e))
    · refine (teams_nodup h n).imp fun {a b} hab x hx y hy e => ?_
      obtain ⟨m, _, rfl⟩ := List.mem_map.mp hx
      obtain ⟨m', _, rfl⟩ := List.mem_map.mp hy
      exact hab (List.append_inj_left' e rfl)
theorem digit_eq {many p q u v : Int} (hu : 0 ≤ u ∧ u < many) (hv : 0 ≤ v ∧ v < many) (h : p * many + u = q * many + v) : p = q ∧ u = v := by
  have h1 : (p * many + u) % many = u := by rw [Int.add_comm, Int.add_mul_emod_self_right]; exact Int.emod_eq_of_lt hu.1 hu.2
  have h2 : (q * many + v) % many = v := by rw [Int.add_comm, Int.add_mul_emod_self_right]; exact Int.emod_eq_of_lt hv.1 hv.2
  have e : u = v := by rw [← h1, ← h2, h]
  subst e
  have h3 : p * many = q * many := by
    generalize p * many = x at h ⊢
    generalize q * many = y at h ⊢
    omega
  have h4 : many ≠ 0 := by omega
  exact ⟨Int.eq_of_mul_eq_mul_right h4 h3, rfl⟩
theorem map_range_inj {α : Type} {f g : Nat → α} {w : Nat} (h : (List.range w).map f = (List.range w).map g) : ∀ j, j < w → f j = g j := fun j hj => by
  have := congrArg (fun l => l[j]?) h
  simpa [List.getElem?_map, List.getElem?_range hj] using this
theorem code_inj {many : Int} {k : Kind} (W : WfK many k) : ∀ {n : Nat} {t t' : List (List Int)}, t ∈ teamsL k.2 n → t' ∈ teamsL k.2 n → codeL many k.1.toNat t = codeL many k.1.toNat t' → t = t'
  | 0, t, t', h, h', _ => by
    simp [mIfS, mThenB, mBin, mC, mSet, mSetL, mThen, mCons, mNil, mD, mSl, mVar, mRet, mCall, m_thenS, s_bind_e, s_fin_e, m_bind_assoc, asBool, subD, gtD, geD, leD, opII, ltI, modD, divD, lenD, listD, tupD, mFor, mTup, mLst, mLstL, mList, mLc, dats, mLenO, mSeq, seqD, mRng1, gN, wipeE, mYes, few0, few1, few2, few4, few5, few3, teamsL] at h h'
    rw [h, h']
  | n + 1, t, t', h, h', e => by
    unfold teamsL at h h'
    obtain ⟨c, hc, h⟩ := List.mem_flatMap.mp h
    obtain ⟨c', hc', h'⟩ := List.mem_flatMap.mp h'
    obtain ⟨m, hm, rfl⟩ := List.mem_map.mp h
    obtain ⟨m', hm', rfl⟩ := List.mem_map.mp h'
    rw [codeL_range, codeL_range] at e
    have e' := map_range_inj e
    have row : ∀ r ∈ k.2, ∀ j, j < k.1.toNat → 0 ≤ r.getD j 0 ∧ r.getD j 0 < many := fun r hr j hj => by
      obtain ⟨h1, h2⟩ := W.row r hr
      have : r.getD j 0 ∈ r := by
        rw [List.getD_eq_getElem?_getD, List.getElem?_eq_getElem (by omega)]
        exact List.getElem_mem _
      exact h2 _ this
    have both : ∀ j, j < k.1.toNat → numL many (c.map fun r => r.getD j 0) = numL many (c'.map fun r => r.getD j 0) ∧ m.getD j 0 = m'.getD j 0 := fun j hj => by
      have := e' j hj
      rw [List.map_append, List.map_append, List.map_singleton, List.map_singleton, numL_end, numL_end] at this
      exact digit_eq (row m hm j hj) (row m' hm' j hj) this
    have ec : c = c' := code_inj W hc hc' (by
      rw [codeL_range, codeL_range]
      exact List.map_congr_left fun j hj => (both j (List.mem_range.mp hj)).1)
    have em : m = m' := by
      rw [row_range (W.row m hm).1, row_range (W.row m' hm').1]
      exact List.map_congr_left fun j hj => (both j (List.mem_range.mp hj)).2
    rw [ec, em]
def codesL (many : Int) (n : Nat) (k : Kind) : List (List Int) := (teamsL k.2 n).map (codeL many k.1.toNat)
theorem codes_map (many : Int) (n : Nat) (k : Kind) : (teamsL k.2 n).map (codeT many k.1.toNat) = (codesL many n k).map rowD := by
  simp [mIfS, mThenB, mBin, mC, mSet, mSetL, mThen, mCons, mNil, mD, mSl, mVar, mRet, mCall, m_thenS, s_bind_e, s_fin_e, m_bind_assoc, asBool, subD, gtD, geD, leD, opII, ltI, modD, divD, lenD, listD, tupD, mFor, mTup, mLst, mLstL, mList, mLc, dats, mLenO, mSeq, seqD, mRng1, gN, wipeE, mYes, few0, few1, few2, few4, few5, few3, codesL, codeT, Function.comp_def]
theorem rows_nodup {many : Int} {k : Kind} (W : WfK many k) : k.2.Nodup := (List.pairwise_map.mp (asc_nodup W.asc)).imp fun {a b} h e => h (by rw [e])
theorem codes_nodup {many : Int} {k : Kind} (W : WfK many k) (n : Nat) : ((codesL many n k).map rowD).Nodup := by
  refine nodup_map (fun _ _ => rowD_inj) ?_
  exact List.pairwise_map.mpr (List.Pairwise.imp_of_mem (fun {a b} ha hb h e => h (code_inj W ha hb e)) (teams_nodup (rows_nodup W) n))
theorem codes_ne {many : Int} {k : Kind} (W : WfK many k) (n : Nat) : ∀ r ∈ codesL many n k, r ≠ [] := fun r hr e => by
  obtain ⟨t, _, rfl⟩ := List.mem_map.mp hr
  have := congrArg List.length e
  rw [codeL_range] at this
  have w1 := W.w1
  simp [mIfS, mThenB, mBin, mC, mSet, mSetL, mThen, mCons, mNil, mD, mSl, mVar, mRet, mCall, m_thenS, s_bind_e, s_fin_e, m_bind_assoc, asBool, subD, gtD, geD, leD, opII, ltI, modD, divD, lenD, listD, tupD, mFor, mTup, mLst, mLstL, mList, mLc, dats, mLenO, mSeq, seqD, mRng1, gN, wipeE, mYes, few0, few1, few2, few4, few5, few3] at this
  omega
/-! the ties of a kind, ascending -/
def tieC (i : Nat) (c : Dt) : Dt := .tuple [.int (i : Nat), c]
def setsFrom (many : Int) (n : Nat) : Nat → List Kind → List Dt
  | _, [] => []
  | i, k :: ks => (isort ((codesL many n k).map rowD)).map (tieC i) ++ setsFrom many n (i + 1) ks
theorem tieC_lt {i : Nat} {r s : List Int} (h : PySem.W.dataLt (rowD r) (rowD s) = true) : PySem.W.dataLt (tieC i (rowD r)) (tieC i (rowD s)) = true := by
  unfold tieC
  rw [PySem.W.dataLt_pair (by simp [mIfS, mThenB, mBin, mC, mSet, mSetL, mThen, mCons, mNil, mD, mSl, mVar, mRet, mCall, m_thenS, s_bind_e, s_fin_e, m_bind_assoc, asBool, subD, gtD, geD, leD, opII, ltI, modD, divD, lenD, listD, tupD, mFor, mTup, mLst, mLstL, mList, mLc, dats, mLenO, mSeq, seqD, mRng1, gN, wipeE, mYes, few0, few1, few2, few4, few5, few3, PySem.W.alike]) (by simp [mIfS, mThenB, mBin, mC, mSet, mSetL, mThen, mCons, mNil, mD, mSl, mVar, mRet, mCall, m_thenS, s_bind_e, s_fin_e, m_bind_assoc, asBool, subD, gtD, geD, leD, opII, ltI, modD, divD, lenD, listD, tupD, mFor, mTup, mLst, mLstL, mList, mLc, dats, mLenO, mSeq, seqD, mRng1, gN, wipeE, mYes, few0, few1, few2, few4, few5, few3, rowD, PySem.W.alike, alike_ints]), eqv_int, if_pos rfl]
  have hne : r ≠ s := fun e => by
    rw [e, lt_irr] at h
    cases h
  have : PyData.eqv (rowD r) (rowD s) = false := by
    unfold rowD
    rw [eqv_intsT]
    exact decide_eq_false hne
  rw [this]
  simpa using h
theorem tieC_lt2 {i j : Nat} {r s : List Int} (h : i < j) : PySem.W.dataLt (tieC i (rowD r)) (tieC j (rowD s)) = true := by
  unfold tieC
  rw [PySem.W.dataLt_pair (by simp [mIfS, mThenB, mBin, mC, mSet, mSetL, mThen, mCons, mNil, mD, mSl, mVar, mRet, mCall, m_thenS, s_bind_e, s_fin_e, m_bind_assoc, asBool, subD, gtD, geD, leD, opII, ltI, modD, divD, lenD, listD, tupD, mFor, mTup, mLst, mLstL, mList, mLc, dats, mLenO, mSeq, seqD, mRng1, gN, wipeE, mYes, few0, few1, few2, few4, few5, few3, PySem.W.alike]) (by simp [mIfS, mThenB, mBin, mC, mSet, mSetL, mThen, mCons, mNil, mD, mSl, mVar, mRet, mCall, m_thenS, s_bind_e, s_fin_e, m_bind_assoc, asBool, subD, gtD, geD, leD, opII, ltI, modD, divD, lenD, listD, tupD, mFor, mTup, mLst, mLstL, mList, mLc, dats, mLenO, mSeq, seqD, mRng1, gN, wipeE, mYes, few0, few1, few2, few4, few5, few3, rowD, PySem.W.alike, alike_ints]), eqv_ii]
  have : ¬ ((i : Int) = (j : Int)) := by omega
  rw [decide_eq_false this, PySem.W.dataLt_int]
  simpa using h
theorem sets_each {many : Int} {n : Nat} : ∀ {ks : List Kind} {i : Nat} {d : Dt}, d ∈ setsFrom many n i ks → ∃ j r, i ≤ j ∧ d = tieC j (rowD r)
  | [], _, _, h => by simp [mIfS, mThenB, mBin, mC, mSet, mSetL, mThen, mCons, mNil, mD, mSl, mVar, mRet, mCall, m_thenS, s_bind_e, s_fin_e, m_bind_assoc, asBool, subD, gtD, geD, leD, opII, ltI, modD, divD, lenD, listD, tupD, mFor, mTup, mLst, mLstL, mList, mLc, dats, mLenO, mSeq, seqD, mRng1, gN, wipeE, mYes, few0, few1, few2, few4, few5, few3, setsFrom] at h
  | k :: ks, i, d, h => by
    simp only [setsFrom, List.mem_append] at h
    rcases h with h | h
    · obtain ⟨c, hc, rfl⟩ := List.mem_map.mp h
      obtain ⟨r, _, rfl⟩ := List.mem_map.mp (isort_mem.mp hc)
      exact ⟨i, r, Nat.le_refl _, rfl⟩
    · obtain ⟨j, r, h1, h2⟩ := sets_each h
      exact ⟨j, r, by omega, h2⟩
theorem sets_lt {many : Int} {n : Nat} : ∀ {ks : List Kind} {i : Nat}, (∀ k ∈ ks, WfK many k) → (setsFrom many n i ks).Pairwise fun x y => PySem.W.dataLt x y = true
  | [], _, _ => List.Pairwise.nil
  | k :: ks, i, W => by
    have Wk := W k List.mem_cons_self
    unfold setsFrom
    refine List.pairwise_append.mpr ⟨?_, sets_lt fun k hk => W k (List.mem_cons_of_mem _ hk), ?_⟩
    · have asc := asc_set (keyed_rows (codesL many n k)) (allAlike_rows (codesL many n k))
      rw [← isort_set (keyed_rows _) (allAlike_rows _) (codes_nodup Wk n)] at asc
      refine List.pairwise_map.mpr (List.Pairwise.imp_of_mem (fun {a b} ha hb h => ?_) (asc_pair asc))
      obtain ⟨r, _, rfl⟩ := List.mem_map.mp (isort_mem.mp ha)
      obtain ⟨s, _, rfl⟩ := List.mem_map.mp (isort_mem.mp hb)
      exact tieC_lt h
    · intro a ha b hb
      obtain ⟨c, hc, rfl⟩ := List.mem_map.mp ha
      obtain ⟨r, _, rfl⟩ := List.mem_map.mp (isort_mem.mp hc)
      obtain ⟨j, s, hj, rfl⟩ := sets_each hb
      exact tieC_lt2 (by omega)
theorem sets_mem {many : Int} {n : Nat} {d : Dt} : ∀ {ks : List Kind} {i : Nat}, d ∈ setsFrom many n i ks ↔ d ∈ tiesFrom many n i ks
  | [], i => by simp [mIfS, mThenB, mBin, mC, mSet, mSetL, mThen, mCons, mNil, mD, mSl, mVar, mRet, mCall, m_thenS, s_bind_e, s_fin_e, m_bind_assoc, asBool, subD, gtD, geD, leD, opII, ltI, modD, divD, lenD, listD, tupD, mFor, mTup, mLst, mLstL, mList, mLc, dats, mLenO, mSeq, seqD, mRng1, gN, wipeE, mYes, few0, few1, few2, few4, few5, few3, setsFrom, tiesFrom]
  | k :: ks, i => by
    have e : d ∈ (isort ((codesL many n k).map rowD)).map (tieC i) ↔ d ∈ tiesOf many n i k := by
      unfold tiesOf
      rw [List.mem_map, List.mem_map]
      constructor
      · rintro ⟨c, hc, rfl⟩
        have hc := isort_mem.mp hc
        rw [← codes_map] at hc
        obtain ⟨t, ht, rfl⟩ := List.mem_map.mp hc
        exact ⟨t, ht, rfl⟩
      · rintro ⟨t, ht, rfl⟩
        refine ⟨codeT many k.1.toNat t, isort_mem.mpr ?_, rfl⟩
        rw [← codes_map]
        exact List.mem_map.mpr ⟨t, ht, rfl⟩
    simp only [setsFrom, tiesFrom, List.mem_append, e, sets_mem (ks := ks)]
theorem sets_eq {many : Int} {n : Nat} {ks : List Kind} (W : ∀ k ∈ ks, WfK many k) (hs : setOk (tiesFrom many n 0 ks) = true) : setsFrom many n 0 ks = isort (nubD (tiesFrom many n 0 ks)) := by
  obtain ⟨_, k2, _, k4⟩ := setOk_use hs
  have lt := sets_lt (n := n) (i := 0) W
  refine sorted_set_eq k2 (srtOk_alike k4) (lt.imp fun h => lt_le h) (lt.imp fun {a b} h e => ?_) fun d => sets_mem
  rw [e, lt_irr] at h
  cases h
/-! the loop -/
theorem ext_eq {i : Nat} {fe : EnvD → Mo Dt} {ρ : EnvD} {ds es : List Dt} (h1 : slotL i ρ = some ds) (h2 : fe ρ = mOk (.list es)) (h3 : ds.length + es.length ≤ 1000000) : mExt i fe ρ = sOk .nx (ρ.set i (some (.d (.list (ds ++ es))))) := by
  unfold mExt
  rw [h1]
  simp [mIfS, mThenB, mBin, mC, mSet, mSetL, mThen, mCons, mNil, mD, mSl, mVar, mRet, mCall, m_thenS, s_bind_e, s_fin_e, m_bind_assoc, asBool, subD, gtD, geD, leD, opII, ltI, modD, divD, lenD, listD, tupD, mFor, mTup, mLst, mLstL, mList, mLc, dats, mLenO, mSeq, seqD, mRng1, gN, wipeE, mYes, few0, few1, few2, few4, few5, few3, h2, sz_of h3]
theorem free_go {many : Int} (hm : -(2 ^ 64) < many ∧ many < 2 ^ 64) {tel : Bool} {ks : List Kind} {n : Nat} (h3 : n ≤ 3) :
    ∀ (post : List Kind) (i : Nat) (acc : List Dt) (x y : Option Sl), ks.drop i = post → (∀ k ∈ post, WfK many k) → acc.length + 512 * post.length ≤ 1000000 → ∃ x' y', forLoop (gN 3) (mExt 2 (mList (mLc (mSeq (mThen (mCons (mD (mCall (m_codes_of) (mCons (mD (mVar 0)) (mCons (mD (mVar 1)) (mCons (mD (mVar 3)) mNil))))) mNil) sortedD)) [4] (gN 4) mYes (mTup (mCons (mD (mVar 3)) (mCons (mD (mVar 4)) mNil))))))
      (rngD (i : Nat) post.length) [some (.d (bookD many tel ks)), some (.d (.int n)), some (.d (.list acc)), x, y] = sOk .nx [some (.d (bookD many tel ks)), some (.d (.int n)), some (.d (.list (acc ++ setsFrom many n i post))), x', y']
  | [], i, acc, x, y, _, _, _ => ⟨x, y, by simp [mIfS, mThenB, mBin, mC, mSet, mSetL, mThen, mCons, mNil, mD, mSl, mVar, mRet, mCall, m_thenS, s_bind_e, s_fin_e, m_bind_assoc, asBool, subD, gtD, geD, leD, opII, ltI, modD, divD, lenD, listD, tupD, mFor, mTup, mLst, mLstL, mList, mLc, dats, mLenO, mSeq, seqD, mRng1, gN, wipeE, mYes, few0, few1, few2, few4, few5, few3, rngD, setsFrom]⟩
  | k :: post, i, acc, x, y, hd, W, hl => by
    have Wk := W k List.mem_cons_self
    rw [List.length_cons] at hl
    have hi : ks[i]? = some k := by
      have := congrArg (fun l => l[0]?) hd
      simpa using this
    have hd' : ks.drop (i + 1) = post := by
      have := congrArg List.tail hd
      simpa using this
    have hp := pow6 Wk.few h3
    rw [← teams_len] at hp
    have hlen : ((isort ((codesL many n k).map rowD)).map (tieC i)).length = (teamsL k.2 n).length := by
      rw [List.length_map, (isort_perm _).length_eq, List.length_map, codesL, List.length_map]
    obtain ⟨x', y', e⟩ := free_go hm (tel := tel) h3 post (i + 1) (acc ++ (isort ((codesL many n k).map rowD)).map (tieC i)) (some (.d (.int (i : Nat)))) y hd' (fun k hk => W k (List.mem_cons_of_mem _ hk)) (by rw [List.length_append, hlen]; omega)
    refine ⟨x', y', ?_⟩
    rw [List.length_cons, rngD_succ, for_cons (ρ1 := [some (.d (bookD many tel ks)), some (.d (.int n)), some (.d (.list acc)), some (.d (.int (i : Nat))), y]) (ρ2 := [some (.d (bookD many tel ks)), some (.d (.int n)), some (.d (.list (acc ++ (isort ((codesL many n k).map rowD)).map (tieC i)))), some (.d (.int (i : Nat))), y]) rfl]
    · rw [show ((i : Int) + 1) = ((i + 1 : Nat) : Int) from rfl, e]
      simp [mIfS, mThenB, mBin, mC, mSet, mSetL, mThen, mCons, mNil, mD, mSl, mVar, mRet, mCall, m_thenS, s_bind_e, s_fin_e, m_bind_assoc, asBool, subD, gtD, geD, leD, opII, ltI, modD, divD, lenD, listD, tupD, mFor, mTup, mLst, mLstL, mList, mLc, dats, mLenO, mSeq, seqD, mRng1, gN, wipeE, mYes, few0, few1, few2, few4, few5, few3, setsFrom]
    · have co := codes_of_eq hm (tel := tel) hi Wk h3
      rw [codes_map] at co
      have so : sortedD [.d (.list ((codesL many n k).map rowD))] = some (.list (isort ((codesL many n k).map rowD))) := if_pos (srt_rows (codes_ne Wk n))
      rw [ext_eq (ds := acc) (es := (isort ((codesL many n k).map rowD)).map (tieC i)) rfl ?_ (by rw [hlen]; omega)]
      · rfl
      · simp [mIfS, mThenB, mBin, mC, mSet, mSetL, mThen, mCons, mNil, mD, mSl, mVar, mRet, mCall, m_thenS, s_bind_e, s_fin_e, m_bind_assoc, asBool, subD, gtD, geD, leD, opII, ltI, modD, divD, lenD, listD, tupD, mFor, mTup, mLst, mLstL, mList, mLc, dats, mLenO, mSeq, seqD, mRng1, gN, wipeE, mYes, few0, few1, few2, few4, few5, few3, co, so]
        rw [lc_map (h := tieC i)]
        · simp [mIfS, mThenB, mBin, mC, mSet, mSetL, mThen, mCons, mNil, mD, mSl, mVar, mRet, mCall, m_thenS, s_bind_e, s_fin_e, m_bind_assoc, asBool, subD, gtD, geD, leD, opII, ltI, modD, divD, lenD, listD, tupD, mFor, mTup, mLst, mLstL, mList, mLc, dats, mLenO, mSeq, seqD, mRng1, gN, wipeE, mYes, few0, few1, few2, few4, few5, few3]
        · exact fun d _ => ⟨_, rfl, rfl, by simp [mIfS, mThenB, mBin, mC, mSet, mSetL, mThen, mCons, mNil, mD, mSl, mVar, mRet, mCall, m_thenS, s_bind_e, s_fin_e, m_bind_assoc, asBool, subD, gtD, geD, leD, opII, ltI, modD, divD, lenD, listD, tupD, mFor, mTup, mLst, mLstL, mList, mLc, dats, mLenO, mSeq, seqD, mRng1, gN, wipeE, mYes, few0, few1, few2, few4, few5, few3, tieC]⟩
theorem free_ties_eq {many : Int} (hm : -(2 ^ 64) < many ∧ many < 2 ^ 64) {tel : Bool} {ks : List Kind} {n : Nat} (h1 : 1 ≤ n) (h3 : n ≤ 3) (W : ∀ k ∈ ks, WfK many k) (hk : ks.length ≤ 4) (hs : setOk (tiesFrom many n 0 ks) = true) :
    m_free_ties [.d (bookD many tel ks), .d (.int n)] = mOk (.tuple (isort (nubD (tiesFrom many n 0 ks)))) := by
  have b2 : ixD (bookD many tel ks) (.int 2) = some (.tuple (ks.map kindD)) := ix_t (ds := [.int many, .bool tel, .tuple (ks.map kindD)]) (r := 2) (by omega) (by simp [mIfS, mThenB, mBin, mC, mSet, mSetL, mThen, mCons, mNil, mD, mSl, mVar, mRet, mCall, m_thenS, s_bind_e, s_fin_e, m_bind_assoc, asBool, subD, gtD, geD, leD, opII, ltI, modD, divD, lenD, listD, tupD, mFor, mTup, mLst, mLstL, mList, mLc, dats, mLenO, mSeq, seqD, mRng1, gN, wipeE, mYes, few0, few1, few2, few4, few5, few3])
  obtain ⟨x', y', e⟩ := free_go hm (tel := tel) (ks := ks) h3 ks 0 [] none none rfl W (by simp [mIfS, mThenB, mBin, mC, mSet, mSetL, mThen, mCons, mNil, mD, mSl, mVar, mRet, mCall, m_thenS, s_bind_e, s_fin_e, m_bind_assoc, asBool, subD, gtD, geD, leD, opII, ltI, modD, divD, lenD, listD, tupD, mFor, mTup, mLst, mLstL, mList, mLc, dats, mLenO, mSeq, seqD, mRng1, gN, wipeE, mYes, few0, few1, few2, few4, few5, few3]; omega)
  unfold m_free_ties
  rw [m_def (by rfl)]
  simp [mIfS, mThenB, mBin, mC, mSet, mSetL, mThen, mCons, mNil, mD, mSl, mVar, mRet, mCall, m_thenS, s_bind_e, s_fin_e, m_bind_assoc, asBool, subD, gtD, geD, leD, opII, ltI, modD, divD, lenD, listD, tupD, mFor, mTup, mLst, mLstL, mList, mLc, dats, mLenO, mSeq, seqD, mRng1, gN, wipeE, mYes, few0, few1, few2, few4, few5, few3, b2, rng1_nat (n := ks.length) (by omega)]
  simp [mIfS, mThenB, mBin, mC, mSet, mSetL, mThen, mCons, mNil, mD, mSl, mVar, mRet, mCall, m_thenS, s_bind_e, s_fin_e, m_bind_assoc, asBool, subD, gtD, geD, leD, opII, ltI, modD, divD, lenD, listD, tupD, mFor, mTup, mLst, mLstL, mList, mLc, dats, mLenO, mSeq, seqD, mRng1, gN, wipeE, mYes, few0, few1, few2, few4, few5, few3] at e
  rw [e]
  simp [mIfS, mThenB, mBin, mC, mSet, mSetL, mThen, mCons, mNil, mD, mSl, mVar, mRet, mCall, m_thenS, s_bind_e, s_fin_e, m_bind_assoc, asBool, subD, gtD, geD, leD, opII, ltI, modD, divD, lenD, listD, tupD, mFor, mTup, mLst, mLstL, mList, mLc, dats, mLenO, mSeq, seqD, mRng1, gN, wipeE, mYes, few0, few1, few2, few4, few5, few3, sets_eq W hs]
end K08
set_option maxRecDepth 100000
set_option maxHeartbeats 1000000
namespace K08
open DL PySem L2
section
theorem free_eq {many n : Nat} (hm : many ≤ 9) (h1 : 1 ≤ n) (h3 : n ≤ 3) {tel : Bool} {ks : List Kind} (W : ∀ k ∈ ks, WfK many k) (hk : ks.length ≤ 2) {x : Dt} (hx : m_tupled 14 [.d x] = mOk (bookD many tel ks)) : m_free_puzzle [.d x, .d (.int n)] = mOk (freeD many n tel ks) := by
  have hm' : -(2 ^ 64) < (many : Int) ∧ (many : Int) < 2 ^ 64 := by omega
  have few := ties_few (many := many) h3 0 W
  have hs : setOk (tiesFrom many n 0 ks) = true := setOk_ties (fun d hd => ties_each hd) (by omega)
  have ft := free_ties_eq hm' (tel := tel) h1 h3 W (by omega) hs
  have tu := tuples_of_eq hm h3 (tel := tel) (ks := ks)
  unfold m_free_puzzle
  rw [m_def (by rfl)]
  simp [mIfS, mThenB, mBin, mC, mSet, mSetL, mThen, mCons, mNil, mD, mSl, mVar, mRet, mCall, m_thenS, s_bind_e, s_fin_e, m_bind_assoc, asBool, subD, gtD, ltD, geD, leD, opII, ltI, modD, divD, eqD, lenD, listD, tupD, mFor, mTup, mLst, mLstL, mList, mLc, dats, mLenO, mSeq, seqD, mRng1, gN, wipeE, mYes, few0, few1, few2, few4, hx]
  have b0 : ixD (bookD many tel ks) (.int 0) = some (.int many) := ix_t (ds := [.int (many : Int), .bool tel, .tuple (ks.map kindD)]) (r := 0) (by omega) (by simp [mIfS, mThenB, mBin, mC, mSet, mSetL, mThen, mCons, mNil, mD, mSl, mVar, mRet, mCall, m_thenS, s_bind_e, s_fin_e, m_bind_assoc, asBool, subD, gtD, ltD, geD, leD, opII, ltI, modD, divD, eqD, lenD, listD, tupD, mFor, mTup, mLst, mLstL, mList, mLc, dats, mLenO, mSeq, seqD, mRng1, gN, wipeE, mYes, few0, few1, few2, few4])
  have b1 : ixD (bookD many tel ks) (.int 1) = some (.bool tel) := ix_t (ds := [.int (many : Int), .bool tel, .tuple (ks.map kindD)]) (r := 1) (by omega) (by simp [mIfS, mThenB, mBin, mC, mSet, mSetL, mThen, mCons, mNil, mD, mSl, mVar, mRet, mCall, m_thenS, s_bind_e, s_fin_e, m_bind_assoc, asBool, subD, gtD, ltD, geD, leD, opII, ltI, modD, divD, eqD, lenD, listD, tupD, mFor, mTup, mLst, mLstL, mList, mLc, dats, mLenO, mSeq, seqD, mRng1, gN, wipeE, mYes, few0, few1, few2, few4])
  simp [mIfS, mThenB, mBin, mC, mSet, mSetL, mThen, mCons, mNil, mD, mSl, mVar, mRet, mCall, m_thenS, s_bind_e, s_fin_e, m_bind_assoc, asBool, subD, gtD, ltD, geD, leD, opII, ltI, modD, divD, eqD, lenD, listD, tupD, mFor, mTup, mLst, mLstL, mList, mLc, dats, mLenO, mSeq, seqD, mRng1, gN, wipeE, mYes, few0, few1, few2, few4, b0, rng1_nat (n := many) (by omega)]
  rw [lc_filter (p := fun _ => tel) (h := fun d => match d with | .int v => .tuple [.int (numL many (List.replicate n v)), .int v] | _ => .none)]
  rotate_left
  · intro d hd
    obtain ⟨v, hv, rfl⟩ := rng_mem hd
    refine ⟨_, rfl, by simp [mIfS, mThenB, mBin, mC, mSet, mSetL, mThen, mCons, mNil, mD, mSl, mVar, mRet, mCall, m_thenS, s_bind_e, s_fin_e, m_bind_assoc, asBool, subD, gtD, ltD, geD, leD, opII, ltI, modD, divD, eqD, lenD, listD, tupD, mFor, mTup, mLst, mLstL, mList, mLc, dats, mLenO, mSeq, seqD, mRng1, gN, wipeE, mYes, few0, few1, few2, few4, b1, truD], fun _ => ?_⟩
    have rt := rep_tup (v := 0 + (v : Int)) h1 h3
    have pl := place_eq hm' (tel := .bool tel) (kinds := .tuple (ks.map kindD)) (List.replicate n (0 + (v : Int)))
    simp only [Int.zero_add] at rt pl ⊢
    simp [mIfS, mThenB, mBin, mC, mSet, mSetL, mThen, mCons, mNil, mD, mSl, mVar, mRet, mCall, m_thenS, s_bind_e, s_fin_e, m_bind_assoc, asBool, subD, gtD, ltD, geD, leD, opII, ltI, modD, divD, eqD, lenD, listD, tupD, mFor, mTup, mLst, mLstL, mList, mLc, dats, mLenO, mSeq, seqD, mRng1, gN, wipeE, mYes, few0, few1, few2, few4, rt]
    unfold bookD
    rw [pl]
    simp [mIfS, mThenB, mBin, mC, mSet, mSetL, mThen, mCons, mNil, mD, mSl, mVar, mRet, mCall, m_thenS, s_bind_e, s_fin_e, m_bind_assoc, asBool, subD, gtD, ltD, geD, leD, opII, ltI, modD, divD, eqD, lenD, listD, tupD, mFor, mTup, mLst, mLstL, mList, mLc, dats, mLenO, mSeq, seqD, mRng1, gN, wipeE, mYes, few0, few1, few2, few4]
  · simp [mIfS, mThenB, mBin, mC, mSet, mSetL, mThen, mCons, mNil, mD, mSl, mVar, mRet, mCall, m_thenS, s_bind_e, s_fin_e, m_bind_assoc, asBool, subD, gtD, ltD, geD, leD, opII, ltI, modD, divD, eqD, lenD, listD, tupD, mFor, mTup, mLst, mLstL, mList, mLc, dats, mLenO, mSeq, seqD, mRng1, gN, wipeE, mYes, few0, few1, few2, few4, tu, ft]
    rw [teams_len, rngD_len]
    have f0 : ∀ l : List Dt, l.filter (fun _ => false) = [] := fun l => by induction l <;> simp_all
    have f1 : ∀ l : List Dt, l.filter (fun _ => true) = l := fun l => by induction l <;> simp_all
    cases tel <;> simp [mIfS, mThenB, mBin, mC, mSet, mSetL, mThen, mCons, mNil, mD, mSl, mVar, mRet, mCall, m_thenS, s_bind_e, s_fin_e, m_bind_assoc, asBool, subD, gtD, ltD, geD, leD, opII, ltI, modD, divD, eqD, lenD, listD, tupD, mFor, mTup, mLst, mLstL, mList, mLc, dats, mLenO, mSeq, seqD, mRng1, gN, wipeE, mYes, few0, few1, few2, few4, freeD, toldOf, rngD, Function.comp_def, f0, f1]
end
section
theorem sm_free (n : Nat) (many k : Nat) (tel : Bool) (ks : List Kind) : Sm (n + 5) (freeD many k tel ks) := sm_tup fun d hd => by
  rcases (show d = _ ∨ d = _ ∨ d = _ ∨ d = _ by simpa using hd) with rfl | rfl | rfl | rfl
  · exact sm_int _ _
  · refine sm_tup fun d hd => ?_
    have h1 := isort_mem.mp hd
    have h2 : d ∈ tiesFrom many k 0 ks := (nubD_mem (fun e he => by
      obtain ⟨i, cs, rfl⟩ := ties_each he
      exact Option.isSome_iff_exists.mp (key_tie i cs))).mp h1
    obtain ⟨i, cs, rfl⟩ := ties_each h2
    exact sm_tie n i cs
  · refine sm_tup fun d hd => ?_
    unfold toldOf at hd
    split at hd
    · obtain ⟨v, _, rfl⟩ := List.mem_map.mp hd
      refine sm_tup fun d hd => ?_
      rcases (show d = _ ∨ d = _ by simpa using hd) with rfl | rfl
      · exact sm_int _ _
      · exact sm_int _ _
    · simp [mIfS, mThenB, mBin, mC, mSet, mSetL, mThen, mCons, mNil, mD, mSl, mVar, mRet, mCall, m_thenS, s_bind_e, s_fin_e, m_bind_assoc, asBool, subD, gtD, ltD, geD, leD, opII, ltI, modD, divD, lenD, listD, tupD, mFor, mTup, mLst, mLstL, mList, mLc, dats, mLenO, mSeq, seqD, mRng1, gN, wipeE, mYes, few0, few1, few2, few4, few5, few3] at hd
  · exact sm_tup fun d hd => by simp [mIfS, mThenB, mBin, mC, mSet, mSetL, mThen, mCons, mNil, mD, mSl, mVar, mRet, mCall, m_thenS, s_bind_e, s_fin_e, m_bind_assoc, asBool, subD, gtD, ltD, geD, leD, opII, ltI, modD, divD, lenD, listD, tupD, mFor, mTup, mLst, mLstL, mList, mLc, dats, mLenO, mSeq, seqD, mRng1, gN, wipeE, mYes, few0, few1, few2, few4, few5, few3] at hd
theorem one_n {many n : Nat} {tel : Bool} {ks : List Kind} (hm : many = 2 ∨ many = 3) (W : AllWf many ks) (hk : ks.length ≤ 2) (h1 : 1 ≤ n) (h3 : n ≤ 3) (h2 : many = 3 → n ≤ 2) :
    m__law_free [.d (bookD many tel ks), .d (.int n)] = mOk (freeD many n tel ks) ∧ m_free_puzzle [.d (bookD many tel ks), .d (.int n)] = mOk (freeD many n tel ks) ∧ m_free_puzzle [.d (softD many tel ks), .d (.int n)] = mOk (freeD many n tel ks) := by
  have ix : ixOk many n = true := by
    rcases hm with rfl | rfl
    · rcases (show n = 1 ∨ n = 2 ∨ n = 3 by omega) with rfl | rfl | rfl
      · exact ixOk21
      · exact ixOk22
      · exact ixOk23
    · have := h2 rfl
      rcases (show n = 1 ∨ n = 2 by omega) with rfl | rfl
      · exact ixOk31
      · exact ixOk32
  exact ⟨law_free_eq (by omega) ix h1 h3 W hk, free_eq (by omega) h1 h3 W hk (tupled_book 8 many tel ks), free_eq (by omega) h1 h3 W hk (tupled_sbook 8 many tel ks)⟩
theorem right_go : Go 150 (m__law_right [.box]) (fun d => d = .bool true) := by
  unfold m__law_right
  rw [m_def (by rfl)]
  simp [mIfS, mThenB, mBin, mC, mSet, mSetL, mThen, mCons, mNil, mD, mSl, mVar, mRet, mCall, m_thenS, s_bind_e, s_fin_e, m_bind_assoc, asBool, subD, gtD, ltD, geD, leD, opII, ltI, modD, divD, lenD, listD, tupD, mFor, mTup, mLst, mLstL, mList, mLc, dats, mLenO, mSeq, seqD, mRng1, gN, wipeE, mYes, few0, few1, few2, few4, few5, few3, rng1_ok (j := 2) (by omega) (by omega)]
  refine GoS.fin ?_
  refine (GoS.seq (n := (rngD 0 2).length * 71) (k := 0) (Q := fun ρ => ρ.length = 7) ((GoS.loop (k := 71) (I := fun its ρ => ∃ a b c d e f, ρ = [some Sl.box, a, b, c, d, e, f]) ⟨_, _, _, _, _, _, rfl⟩ ?_).mono (Nat.le_refl _) ?_) ?_).mono (by rw [rngD_len]; omega) fun _ _ h => h
  · rintro x r ρ ⟨a, b, c, d, e, f, rfl⟩
    refine ⟨_, rfl, ?_⟩
    simp [mIfS, mThenB, mBin, mC, mSet, mSetL, mThen, mCons, mNil, mD, mSl, mVar, mRet, mCall, m_thenS, s_bind_e, s_fin_e, m_bind_assoc, asBool, subD, gtD, ltD, geD, leD, opII, ltI, modD, divD, lenD, listD, tupD, mFor, mTup, mLst, mLstL, mList, mLc, dats, mLenO, mSeq, seqD, mRng1, gN, wipeE, mYes, few0, few1, few2, few4, few5, few3]
    refine (Go.e (n := 70) (k := 1) book_go ?_).mono (by omega) fun _ _ h => h
    rintro B ⟨many, tel, ks, hm, W, ⟨hk, hk1⟩, rfl⟩
    have ls := lists_book 8 many tel ks
    simp [mIfS, mThenB, mBin, mC, mSet, mSetL, mThen, mCons, mNil, mD, mSl, mVar, mRet, mCall, m_thenS, s_bind_e, s_fin_e, m_bind_assoc, asBool, subD, gtD, ltD, geD, leD, opII, ltI, modD, divD, lenD, listD, tupD, mFor, mTup, mLst, mLstL, mList, mLc, dats, mLenO, mSeq, seqD, mRng1, gN, wipeE, mYes, few0, few1, few2, few4, few5, few3, ls]
    refine (Go.e (n := 1) (k := 0) (Q := fun ds => ∃ lim : Nat, lim ≤ 3 ∧ (many = 3 → lim ≤ 2) ∧ ds = rngD 1 lim) ?_ ?_).mono (by omega) fun _ _ h => h
    · have b0 : ∀ m : Int, ixD (bookD m tel ks) (.int 0) = some (.int m) := fun m => ix_t (ds := [.int m, .bool tel, .tuple (ks.map kindD)]) (r := 0) (by omega) (by simp [mIfS, mThenB, mBin, mC, mSet, mSetL, mThen, mCons, mNil, mD, mSl, mVar, mRet, mCall, m_thenS, s_bind_e, s_fin_e, m_bind_assoc, asBool, subD, gtD, ltD, geD, leD, opII, ltI, modD, divD, lenD, listD, tupD, mFor, mTup, mLst, mLstL, mList, mLc, dats, mLenO, mSeq, seqD, mRng1, gN, wipeE, mYes, few0, few1, few2, few4, few5, few3])
      have r3 : rng2D [.d (.int 1), .d (.int 3)] = some (rngD 1 2) := rng2_ok (by omega) (by omega) (by omega) (by omega)
      have r4 : rng2D [.d (.int 1), .d (.int 4)] = some (rngD 1 3) := rng2_ok (by omega) (by omega) (by omega) (by omega)
      rcases hm with rfl | rfl
      · simp [mIfS, mThenB, mBin, mC, mSet, mSetL, mThen, mCons, mNil, mD, mSl, mVar, mRet, mCall, m_thenS, s_bind_e, s_fin_e, m_bind_assoc, asBool, subD, gtD, ltD, geD, leD, opII, ltI, modD, divD, lenD, listD, tupD, mFor, mTup, mLst, mLstL, mList, mLc, dats, mLenO, mSeq, seqD, mRng1, gN, wipeE, mYes, few0, few1, few2, few4, few5, few3, mRng2, mIf, mOr, b0]
        refine (Go.bind (n := 1) (k := 0) (take_go (n := 2) (by omega) (by omega)) ?_).mono (by omega) fun _ h => h
        rintro d ⟨r, rfl, r0, r1⟩
        simp [mIfS, mThenB, mBin, mC, mSet, mSetL, mThen, mCons, mNil, mD, mSl, mVar, mRet, mCall, m_thenS, s_bind_e, s_fin_e, m_bind_assoc, asBool, subD, gtD, ltD, geD, leD, opII, ltI, modD, divD, lenD, listD, tupD, mFor, mTup, mLst, mLstL, mList, mLc, dats, mLenO, mSeq, seqD, mRng1, gN, wipeE, mYes, few0, few1, few2, few4, few5, few3, eq_ii]
        split
        · simp [mIfS, mThenB, mBin, mC, mSet, mSetL, mThen, mCons, mNil, mD, mSl, mVar, mRet, mCall, m_thenS, s_bind_e, s_fin_e, m_bind_assoc, asBool, subD, gtD, ltD, geD, leD, opII, ltI, modD, divD, lenD, listD, tupD, mFor, mTup, mLst, mLstL, mList, mLc, dats, mLenO, mSeq, seqD, mRng1, gN, wipeE, mYes, few0, few1, few2, few4, few5, few3, r3]
          exact Go.pure ⟨2, by omega, rfl⟩
        · simp [mIfS, mThenB, mBin, mC, mSet, mSetL, mThen, mCons, mNil, mD, mSl, mVar, mRet, mCall, m_thenS, s_bind_e, s_fin_e, m_bind_assoc, asBool, subD, gtD, ltD, geD, leD, opII, ltI, modD, divD, lenD, listD, tupD, mFor, mTup, mLst, mLstL, mList, mLc, dats, mLenO, mSeq, seqD, mRng1, gN, wipeE, mYes, few0, few1, few2, few4, few5, few3, r4]
          exact Go.pure ⟨3, by omega, rfl⟩
      · simp [mIfS, mThenB, mBin, mC, mSet, mSetL, mThen, mCons, mNil, mD, mSl, mVar, mRet, mCall, m_thenS, s_bind_e, s_fin_e, m_bind_assoc, asBool, subD, gtD, ltD, geD, leD, opII, ltI, modD, divD, lenD, listD, tupD, mFor, mTup, mLst, mLstL, mList, mLc, dats, mLenO, mSeq, seqD, mRng1, gN, wipeE, mYes, few0, few1, few2, few4, few5, few3, mRng2, mIf, mOr, b0, r3]
        exact (Go.pure ⟨2, by omega, by omega, rfl⟩).mono (by omega) fun _ h => h
    · rintro ds ⟨lim, l3, l2, rfl⟩
      have key := for_inv (g := gN 4) (fb := (mThenS (mSet 5 (mCall m__law_free (mCons (mD (mVar 2)) (mCons (mD (mVar 4)) mNil)))) (mThenS (mSet 6 (mLst (mCons (mD (mCall m_free_puzzle (mCons (mD (mVar 2)) (mCons (mD (mVar 4)) mNil)))) (mCons (mD (mCall m_free_puzzle (mCons (mD (mVar 3)) (mCons (mD (mVar 4)) mNil)))) (mCons (mD (mVar 3)) mNil))))) (mIfS (mNot (mThenB (mCall (m__law_same 14) (mCons (mD (mVar 6)) (mCons (mD (mLst (mCons (mD (mVar 5)) (mCons (mD (mVar 5)) (mCons (mD (mCall (m__law_lists 14) (mCons (mD (mVar 2)) mNil))) mNil))))) mNil))) truD)) (mRet (mC (.bool false))) mNx)))) (I := fun its ρ => (∃ d e f, ρ = [some Sl.box, some (.d x), some (.d (bookD many tel ks)), some (.d (softD many tel ks)), d, e, f]) ∧ ∀ y ∈ its, ∃ n : Nat, y = .int n ∧ 1 ≤ n ∧ n ≤ lim) (ds := rngD 1 lim) (ρ := [some Sl.box, some (.d x), some (.d (bookD many tel ks)), some (.d (softD many tel ks)), d, e, f]) ⟨⟨_, _, _, rfl⟩, fun y hy => by
        obtain ⟨i, hi, rfl⟩ := rng_mem hy
        exact ⟨1 + i, by simp [mIfS, mThenB, mBin, mC, mSet, mSetL, mThen, mCons, mNil, mD, mSl, mVar, mRet, mCall, m_thenS, s_bind_e, s_fin_e, m_bind_assoc, asBool, subD, gtD, ltD, geD, leD, opII, ltI, modD, divD, lenD, listD, tupD, mFor, mTup, mLst, mLstL, mList, mLc, dats, mLenO, mSeq, seqD, mRng1, gN, wipeE, mYes, few0, few1, few2, few4, few5, few3], by omega, by omega⟩⟩ ?_
      · obtain ⟨ρ', e, ⟨d', e', f', rfl⟩, -⟩ := key
        rw [e]
        exact GoS.ok ⟨rfl, _, _, _, _, _, _, rfl⟩
      · rintro y its ρ ⟨⟨d, e, f, rfl⟩, hy⟩
        obtain ⟨n, rfl, n1, nl⟩ := hy y List.mem_cons_self
        obtain ⟨o1, o2, o3⟩ := one_n (tel := tel) hm W hk n1 (show n ≤ 3 by omega) (fun h => by have := l2 h; omega)
        have sm : m__law_same 14 [.d (.list [freeD many n tel ks, freeD many n tel ks, softD many tel ks]), .d (.list [freeD many n tel ks, freeD many n tel ks, softD many tel ks])] = mOk (.bool true) := sm_lst (n := 13) fun d hd => by
          rcases List.mem_cons.mp hd with rfl | hd
          · exact sm_free 8 many n tel ks
          rcases List.mem_cons.mp hd with rfl | hd
          · exact sm_free 8 many n tel ks
          rw [List.mem_singleton.mp hd]
          exact sm_soft 7 many tel ks
        refine ⟨_, _, rfl, ?_, ⟨⟨some (.d (.int (n : Nat))), some (.d (freeD many n tel ks)), some (.d (.list [freeD many n tel ks, freeD many n tel ks, softD many tel ks])), rfl⟩, fun z hz => hy z (List.mem_cons_of_mem _ hz)⟩⟩
        simp [mIfS, mThenB, mBin, mC, mSet, mSetL, mThen, mCons, mNil, mD, mSl, mVar, mRet, mCall, m_thenS, s_bind_e, s_fin_e, m_bind_assoc, asBool, subD, gtD, ltD, geD, leD, opII, ltI, modD, divD, lenD, listD, tupD, mFor, mTup, mLst, mLstL, mList, mLc, dats, mLenO, mSeq, seqD, mRng1, gN, wipeE, mYes, few0, few1, few2, few4, few5, few3, o1, o2, o3, ls, sm, truD, mNot, mNx]
  · rintro f ρ ⟨rfl, h⟩
    obtain ⟨a, b, c, d, e, f, rfl⟩ := h
    exact ⟨rfl, rfl⟩
  · rintro ρ h
    simp [mIfS, mThenB, mBin, mC, mSet, mSetL, mThen, mCons, mNil, mD, mSl, mVar, mRet, mCall, m_thenS, s_bind_e, s_fin_e, m_bind_assoc, asBool, subD, gtD, ltD, geD, leD, opII, ltI, modD, divD, lenD, listD, tupD, mFor, mTup, mLst, mLstL, mList, mLc, dats, mLenO, mSeq, seqD, mRng1, gN, wipeE, mYes, few0, few1, few2, few4, few5, few3]
    exact GoS.ok rfl
end
section
theorem boxcall_eq {cs : List Int} {i : Nat} (hi : i < cs.length) (h3 : cs.length ≤ 3) {fa : EnvD → Mo (List Sl)} {ρ : EnvD} (hf : fa ρ = mOk [.d (.list (cs.map .int)), .d (.int i)]) : mBoxCall m__law_right m__law_box fa ρ = mOk (.bool true) := by
  obtain ⟨x, y, e, x0, y0, y1⟩ := box_eq hi h3
  obtain ⟨d, b', e2, -, rfl⟩ := right_go 150 ⟨x, y, 0⟩ (Nat.le_refl _) ⟨x0, y0, y1, Int.le_refl 0, by show (0 : Int) + ((150 : Nat) : Int) < 2 ^ 60; decide⟩
  unfold mBoxCall
  rw [hf, m_bind_ok, e]
  funext b
  simp only [mOk, e2]
end
section
def wideRows : List (List Int) := [[0, 0, 0], [0, 0, 1], [0, 1, 0], [0, 1, 1], [1, 0, 0], [1, 0, 1], [1, 1, 0], [1, 1, 1]]
def wideK : Kind := (3, wideRows)
theorem wide_wf : WfK (2 : Nat) wideK := ⟨by decide, by decide, by decide, by
  intro r hr
  have h : (wideRows.all fun r => decide (r.length = (3 : Int).toNat) && r.all fun x => decide (0 ≤ x) && decide (x < 2)) = true := by decide +kernel
  have h2 := List.all_eq_true.mp h r hr
  simp only [Bool.and_eq_true, decide_eq_true_eq, List.all_eq_true] at h2
  exact h2, by decide +kernel⟩
def tieN (k : Nat) : Dt := tieD 0 [((k / 64 : Nat) : Int), ((k / 8 % 8 : Nat) : Int), ((k % 8 : Nat) : Int)]
def wideTs : List Dt := (List.range 512).map tieN
/-- the number of a tie -/
def tieKey : Dt → Nat
  | .tuple [.int 0, .tuple [.int (.ofNat a), .int (.ofNat b), .int (.ofNat c)]] => if a < 8 && b < 8 && c < 8 then a * 64 + b * 8 + c else 1000
  | _ => 1000
theorem tieKey_ok {d : Dt} : tieKey d < 512 → d = tieN (tieKey d) := by
  unfold tieKey
  split
  · rename_i a b c
    intro h
    split at h
    · rename_i hx
      rw [if_pos hx]
      simp only [Bool.and_eq_true, decide_eq_true_eq] at hx
      unfold tieN tieD
      have e1 : (a * 64 + b * 8 + c) / 64 = a := by omega
      have e2 : (a * 64 + b * 8 + c) / 8 % 8 = b := by omega
      have e3 : (a * 64 + b * 8 + c) % 8 = c := by omega
      rw [e1, e2, e3]
      rfl
    · omega
  · intro h; omega
theorem wide_keys : ((tiesFrom (2 : Nat) 3 0 [wideK]).all fun d => Nat.blt (tieKey d) 512) = true := by decide +kernel
theorem wide_all : ((List.range 512).all fun k => ((tiesFrom (2 : Nat) 3 0 [wideK]).map tieKey).any fun j => Nat.beq j k) = true := by decide +kernel
theorem wide_step : ((List.range 511).all fun k => leD' (tieN k) (tieN (k + 1))) = true := by decide +kernel
theorem wide_le {i : Nat} : ∀ (m : Nat), i + m + 1 < 512 → leD' (tieN i) (tieN (i + m + 1)) = true
  | 0, h => List.all_eq_true.mp wide_step i (List.mem_range.mpr (by omega))
  | m + 1, h => leD_trans _ _ _ (wide_le m (by omega)) (List.all_eq_true.mp wide_step (i + m + 1) (List.mem_range.mpr (by omega)))
theorem tieN_inj {i j : Nat} (h : tieN i = tieN j) : i = j := by
  unfold tieN tieD at h
  simp only [PyData.tuple.injEq, List.map_cons, List.map_nil, List.cons.injEq, PyData.int.injEq, and_true, true_and] at h
  omega
theorem wide_ties : isort (nubD (tiesFrom (2 : Nat) 3 0 [wideK])) = wideTs := by
  have W : ∀ k ∈ [wideK], WfK (2 : Nat) k := fun k hk => by rw [List.mem_singleton.mp hk]; exact wide_wf
  have few := ties_few (n := 3) (Nat.le_refl 3) 0 W
  have hs : setOk (tiesFrom (2 : Nat) 3 0 [wideK]) = true := setOk_ties (fun d hd => ties_each hd) (by simp only [List.length_cons, List.length_nil] at few; omega)
  obtain ⟨_, k2, _, k4⟩ := setOk_use hs
  refine (sorted_set_eq k2 (srtOk_alike k4) ?_ ?_ fun d => ?_).symm
  · refine List.pairwise_map.mpr (List.Pairwise.imp_of_mem ?_ List.pairwise_lt_range)
    intro i j hi hj hij
    have hj := List.mem_range.mp hj
    obtain ⟨m, rfl⟩ : ∃ m, j = i + m + 1 := ⟨j - i - 1, by omega⟩
    exact wide_le m hj
  · exact List.pairwise_map.mpr (List.Pairwise.imp (fun h e => by have := tieN_inj e; omega) List.pairwise_lt_range)
  · constructor
    · intro hd
      obtain ⟨k, hk, rfl⟩ := List.mem_map.mp hd
      have h := List.all_eq_true.mp wide_all k hk
      obtain ⟨j, hj, hjk⟩ := List.any_eq_true.mp h
      have hjk := Nat.eq_of_beq_eq_true hjk
      obtain ⟨e, he, rfl⟩ := List.mem_map.mp hj
      have := tieKey_ok (d := e) (by rw [hjk]; exact List.mem_range.mp hk)
      rw [hjk] at this
      rw [← this]
      exact he
    · intro hd
      have h := List.all_eq_true.mp wide_keys d hd
      have h : tieKey d < 512 := Nat.le_of_ble_eq_true h
      exact List.mem_map.mpr ⟨tieKey d, List.mem_range.mpr h, (tieKey_ok h).symm⟩
def wideD : Dt := .tuple [.int 8, .tuple wideTs, .tuple [.tuple [.int 0, .int 0], .tuple [.int 7, .int 1]], .tuple []]
theorem wide_eq : m_free_puzzle [.d (bookD (2 : Nat) true [wideK]), .d (.int (3 : Nat))] = mOk wideD := by
  rw [free_eq (many := 2) (n := 3) (by decide) (by decide) (by decide) (tel := true) (ks := [wideK]) (fun k hk => by rw [List.mem_singleton.mp hk]; exact wide_wf) (by decide) (tupled_book 8 _ _ _)]
  unfold freeD
  rw [wide_ties]
  rfl
/-- the same function, the widest book known -/
def row3 : Dt → Option (Int × Int × Int)
  | .tuple [.int a, .int b, .int c] => some (a, b, c)
  | _ => none
theorem row3_ok {d : Dt} {a b c : Int} (h : row3 d = some (a, b, c)) : d = .tuple [.int a, .int b, .int c] := by
  unfold row3 at h
  split at h
  · cases h; rfl
  · cases h
def rows3 : List Dt → List (Int × Int × Int) → Bool
  | [], [] => true
  | d :: ds, t :: ts => (match row3 d with | some u => decide (u = t) | none => false) && rows3 ds ts
  | _, _ => false
theorem rows3_ok : ∀ {ds : List Dt} {ts : List (Int × Int × Int)}, rows3 ds ts = true → ds = ts.map fun t => .tuple [.int t.1, .int t.2.1, .int t.2.2]
  | [], [], _ => rfl
  | [], _ :: _, h => by simp [rows3] at h
  | _ :: _, [], h => by simp [rows3] at h
  | d :: ds, t :: ts, h => by
    simp only [rows3, Bool.and_eq_true] at h
    obtain ⟨h1, h2⟩ := h
    rw [rows3_ok h2, List.map_cons]
    congr 1
    split at h1
    · rename_i u hu
      have : u = t := by simpa using h1
      subst this
      obtain ⟨a, b, c⟩ := u
      exact row3_ok hu
    · cases h1
def wide3 : List (Int × Int × Int) := [(0, 0, 0), (0, 0, 1), (0, 1, 0), (0, 1, 1), (1, 0, 0), (1, 0, 1), (1, 1, 0), (1, 1, 1)]
def isWide : List Sl → Bool
  | [.d (.tuple [.int m, .bool t, .tuple [.tuple [.int w, .tuple rows]]]), .d (.int n)] => decide (m = 2) && t && decide (w = 3) && decide (n = 3) && rows3 rows wide3
  | _ => false
theorem isWide_ok {a : List Sl} (h : isWide a = true) : a = [.d (bookD (2 : Nat) true [wideK]), .d (.int (3 : Nat))] := by
  unfold isWide at h
  split at h
  · simp only [Bool.and_eq_true, decide_eq_true_eq] at h
    obtain ⟨⟨⟨⟨rfl, rfl⟩, rfl⟩, rfl⟩, h⟩ := h
    rw [rows3_ok h]
    rfl
  · cases h
def fastF : List Sl → Mo Dt := fun a => if isWide a = true then mOk wideD else m_free_puzzle a
theorem fast_eq : m_free_puzzle = fastF := by
  funext a
  unfold fastF
  split
  · rename_i h
    rw [isWide_ok h]
    exact wide_eq
  · rfl
theorem hand : yes (m__law_by_hand_right [] b0) = true := by
  unfold m__law_by_hand_right
  rw [fast_eq]
  decide +kernel
end
end K08
set_option maxRecDepth 100000
set_option maxHeartbeats 1000000
namespace K08
open DL PySem L2
section
theorem law_math (K : PySem.W.Frag) (ns : List Int) (h : ns.length ≤ 63) : ∃ b', m_law K [.scr K ns] b0 = some (.ok (.bool true), b') := by
  obtain ⟨b1, hb⟩ : ∃ b1, m__law_by_hand_right [] b0 = some (.ok (.bool true), b1) := yes_some hand
  obtain ⟨cs, hc, c1, c3⟩ := cells_eq (K := K) h
  unfold m_law
  rw [m_def (by rfl)]
  have rest : ∀ ρ : EnvD, ρ = [some (.scr K ns), none, none] → sFin ((mThenS (mSet 1 (mCall (m__law_cells K) (mCons (mSl 0) (mCons (mD (mC (.int 3))) mNil)))) (mRet (mThen (mCons (mD (mList (mLc (mRng1 (mCons (mD (mThen (mCons (mD (mVar 1)) mNil) lenD)) mNil)) [2] (gN 2) mYes (mBoxCall (m__law_right) m__law_box (mCons (mD (mVar 1)) (mCons (mD (mVar 2)) mNil)))))) mNil) allD))) ρ) = mOk (.bool true) := fun ρ hρ => by
    subst hρ
    simp [mIfS, mThenB, mBin, mC, mSet, mSetL, mThen, mCons, mNil, mD, mSl, mVar, mRet, mCall, m_thenS, s_bind_e, s_fin_e, m_bind_assoc, asBool, subD, gtD, ltD, geD, leD, opII, ltI, modD, divD, lenD, listD, tupD, mFor, mTup, mLst, mLstL, mList, mLc, dats, mLenO, mSeq, seqD, mRng1, gN, wipeE, mYes, few0, few1, few2, few4, few5, few3, hc, rng1_nat (n := cs.length) (by omega)]
    rw [lc_map (h := fun _ => .bool true)]
    · have e4 : ((rngD 0 cs.length).all fun _ => true) = true := List.all_eq_true.mpr fun _ _ => rfl
      simp [mIfS, mThenB, mBin, mC, mSet, mSetL, mThen, mCons, mNil, mD, mSl, mVar, mRet, mCall, m_thenS, s_bind_e, s_fin_e, m_bind_assoc, asBool, subD, gtD, ltD, geD, leD, opII, ltI, modD, divD, lenD, listD, tupD, mFor, mTup, mLst, mLstL, mList, mLc, dats, mLenO, mSeq, seqD, mRng1, gN, wipeE, mYes, few0, few1, few2, few4, few5, few3, allD, bls_true, e4]
    · intro d hd
      obtain ⟨i, hi, rfl⟩ := rng_mem hd
      exact ⟨_, rfl, rfl, boxcall_eq hi c3 (by simp [mIfS, mThenB, mBin, mC, mSet, mSetL, mThen, mCons, mNil, mD, mSl, mVar, mRet, mCall, m_thenS, s_bind_e, s_fin_e, m_bind_assoc, asBool, subD, gtD, ltD, geD, leD, opII, ltI, modD, divD, lenD, listD, tupD, mFor, mTup, mLst, mLstL, mList, mLc, dats, mLenO, mSeq, seqD, mRng1, gN, wipeE, mYes, few0, few1, few2, few4, few5, few3])⟩
  exact ⟨b1, start_ok hb (rest _ rfl)⟩
end
end K08
set_option maxRecDepth 100000
set_option maxHeartbeats 4000000
namespace K08
open PySem PySem.Spec PyProof.Rows L2 DL

section
theorem all_mk {l : PySem.W.OpenLaw} {w : World} {K : PySem.W.Frag} {h : Heap} {mg : Mg} {fa f0 f1 f2 f3 f4 f5 f6 f7 f8 f9 f10 f11 f12 f13 f14 f15 f16 f17 f18 f19 f20 f21 f22 f23 f24 f25 : Addr} (X : K.In h) (G : h.Ns mainGlobals mg) (hfa : mg "law" = some (.ref fa))
    {od0 od1 od2 od3 od4 od5 od6 od7 od8 od9 od10 od11 od12 od13 od14 od15 od16 od17 od18 od19 od20 od21 od22 od23 od24 od25 an0 an1 an2 an3 an4 an5 an6 an7 an8 an9 an10 an11 an12 an13 an14 an15 an16 an17 an18 an19 an20 an21 an22 an23 an24 an25 : Option Addr} {sl0 sl1 sl2 sl3 sl4 sl5 sl6 sl7 sl8 sl9 sl10 sl11 sl12 sl13 sl14 sl15 sl16 sl17 sl18 sl19 sl20 sl21 sl22 sl23 sl24 sl25 : Array (Option Value)} {oc0 oc1 oc2 oc3 oc4 oc5 oc6 oc7 oc8 oc9 oc10 oc11 oc12 oc13 oc14 oc15 oc16 oc17 oc18 oc19 oc20 oc21 oc22 oc23 oc24 oc25 kV0 kV1 kV2 kV3 kV4 kV5 kV6 kV7 kV8 kV9 kV10 kV11 kV12 kV13 kV14 kV15 kV16 kV17 kV18 kV19 kV20 kV21 kV22 kV23 kV24 kV25 dc0 dc1 dc2 dc3 dc4 dc5 dc6 dc7 dc8 dc9 dc10 dc11 dc12 dc13 dc14 dc15 dc16 dc17 dc18 dc19 dc20 dc21 dc22 dc23 dc24 dc25 pm0 pm1 pm2 pm3 pm4 pm5 pm6 pm7 pm8 pm9 pm10 pm11 pm12 pm13 pm14 pm15 pm16 pm17 pm18 pm19 pm20 pm21 pm22 pm23 pm24 pm25 cd0 cd1 cd2 cd3 cd4 cd5 cd6 cd7 cd8 cd9 cd10 cd11 cd12 cd13 cd14 cd15 cd16 cd17 cd18 cd19 cd20 cd21 cd22 cd23 cd24 cd25 ct0 ct1 ct2 ct3 ct4 ct5 ct6 ct7 ct8 ct9 ct10 ct11 ct12 ct13 ct14 ct15 ct16 ct17 ct18 ct19 ct20 ct21 ct22 ct23 ct24 ct25 : Value}
    (a0 : PySem.W.nsIn K mainGlobals "tupled" = some (some (.ref f0))) (l0 : K.lookup f0 = some ⟨oc0, od0, .func (PySem.W.fnOf "tupled" "tupled" (defArgs (top 1)) (defBody (top 1)) (defScope (top 1)) .none kV0 dc0 pm0 an0 cd0 ct0), sl0⟩) (c0 : PySem.W.codeIn K cd0 "tupled" = true) (k0 : PySem.W.keepIn K (.ref f0) = true)
    (a1 : PySem.W.nsIn K mainGlobals "choices" = some (some (.ref f1))) (l1 : K.lookup f1 = some ⟨oc1, od1, .func (PySem.W.fnOf "choices" "choices" (defArgs (top 3)) (defBody (top 3)) (defScope (top 3)) .none kV1 dc1 pm1 an1 cd1 ct1), sl1⟩) (c1 : PySem.W.codeIn K cd1 "choices" = true) (k1 : PySem.W.keepIn K (.ref f1) = true)
    (a2 : PySem.W.nsIn K mainGlobals "number_of" = some (some (.ref f2))) (l2 : K.lookup f2 = some ⟨oc2, od2, .func (PySem.W.fnOf "number_of" "number_of" (defArgs (top 4)) (defBody (top 4)) (defScope (top 4)) .none kV2 dc2 pm2 an2 cd2 ct2), sl2⟩) (c2 : PySem.W.codeIn K cd2 "number_of" = true) (k2 : PySem.W.keepIn K (.ref f2) = true)
    (a3 : PySem.W.nsIn K mainGlobals "tuples_of" = some (some (.ref f3))) (l3 : K.lookup f3 = some ⟨oc3, od3, .func (PySem.W.fnOf "tuples_of" "tuples_of" (defArgs (top 6)) (defBody (top 6)) (defScope (top 6)) .none kV3 dc3 pm3 an3 cd3 ct3), sl3⟩) (c3 : PySem.W.codeIn K cd3 "tuples_of" = true) (k3 : PySem.W.keepIn K (.ref f3) = true)
    (a4 : PySem.W.nsIn K mainGlobals "place_of" = some (some (.ref f4))) (l4 : K.lookup f4 = some ⟨oc4, od4, .func (PySem.W.fnOf "place_of" "place_of" (defArgs (top 7)) (defBody (top 7)) (defScope (top 7)) .none kV4 dc4 pm4 an4 cd4 ct4), sl4⟩) (c4 : PySem.W.codeIn K cd4 "place_of" = true) (k4 : PySem.W.keepIn K (.ref f4) = true)
    (a5 : PySem.W.nsIn K mainGlobals "codes_behind" = some (some (.ref f5))) (l5 : K.lookup f5 = some ⟨oc5, od5, .func (PySem.W.fnOf "codes_behind" "codes_behind" (defArgs (top 8)) (defBody (top 8)) (defScope (top 8)) .none kV5 dc5 pm5 an5 cd5 ct5), sl5⟩) (c5 : PySem.W.codeIn K cd5 "codes_behind" = true) (k5 : PySem.W.keepIn K (.ref f5) = true)
    (a6 : PySem.W.nsIn K mainGlobals "codes_of" = some (some (.ref f6))) (l6 : K.lookup f6 = some ⟨oc6, od6, .func (PySem.W.fnOf "codes_of" "codes_of" (defArgs (top 9)) (defBody (top 9)) (defScope (top 9)) .none kV6 dc6 pm6 an6 cd6 ct6), sl6⟩) (c6 : PySem.W.codeIn K cd6 "codes_of" = true) (k6 : PySem.W.keepIn K (.ref f6) = true)
    (a7 : PySem.W.nsIn K mainGlobals "free_ties" = some (some (.ref f7))) (l7 : K.lookup f7 = some ⟨oc7, od7, .func (PySem.W.fnOf "free_ties" "free_ties" (defArgs (top 10)) (defBody (top 10)) (defScope (top 10)) .none kV7 dc7 pm7 an7 cd7 ct7), sl7⟩) (c7 : PySem.W.codeIn K cd7 "free_ties" = true) (k7 : PySem.W.keepIn K (.ref f7) = true)
    (a8 : PySem.W.nsIn K mainGlobals "free_puzzle" = some (some (.ref f8))) (l8 : K.lookup f8 = some ⟨oc8, od8, .func (PySem.W.fnOf "free_puzzle" "free_puzzle" (defArgs (top 11)) (defBody (top 11)) (defScope (top 11)) .none kV8 dc8 pm8 an8 cd8 ct8), sl8⟩) (c8 : PySem.W.codeIn K cd8 "free_puzzle" = true) (k8 : PySem.W.keepIn K (.ref f8) = true)
    (a9 : PySem.W.nsIn K mainGlobals "_law_box" = some (some (.ref f9))) (l9 : K.lookup f9 = some ⟨oc9, od9, .func (PySem.W.fnOf "_law_box" "_law_box" (defArgs (top 13)) (defBody (top 13)) (defScope (top 13)) .none kV9 dc9 pm9 an9 cd9 ct9), sl9⟩) (c9 : PySem.W.codeIn K cd9 "_law_box" = true) (k9 : PySem.W.keepIn K (.ref f9) = true)
    (a10 : PySem.W.nsIn K mainGlobals "_law_take" = some (some (.ref f10))) (l10 : K.lookup f10 = some ⟨oc10, od10, .func (PySem.W.fnOf "_law_take" "_law_take" (defArgs (top 14)) (defBody (top 14)) (defScope (top 14)) .none kV10 dc10 pm10 an10 cd10 ct10), sl10⟩) (c10 : PySem.W.codeIn K cd10 "_law_take" = true) (k10 : PySem.W.keepIn K (.ref f10) = true)
    (a11 : PySem.W.nsIn K mainGlobals "_law_cells" = some (some (.ref f11))) (l11 : K.lookup f11 = some ⟨oc11, od11, .func (PySem.W.fnOf "_law_cells" "_law_cells" (defArgs (top 15)) (defBody (top 15)) (defScope (top 15)) .none kV11 dc11 pm11 an11 cd11 ct11), sl11⟩) (c11 : PySem.W.codeIn K cd11 "_law_cells" = true) (k11 : PySem.W.keepIn K (.ref f11) = true)
    (a12 : PySem.W.nsIn K mainGlobals "_law_same" = some (some (.ref f12))) (l12 : K.lookup f12 = some ⟨oc12, od12, .func (PySem.W.fnOf "_law_same" "_law_same" (defArgs (top 16)) (defBody (top 16)) (defScope (top 16)) .none kV12 dc12 pm12 an12 cd12 ct12), sl12⟩) (c12 : PySem.W.codeIn K cd12 "_law_same" = true) (k12 : PySem.W.keepIn K (.ref f12) = true)
    (a13 : PySem.W.nsIn K mainGlobals "_law_lists" = some (some (.ref f13))) (l13 : K.lookup f13 = some ⟨oc13, od13, .func (PySem.W.fnOf "_law_lists" "_law_lists" (defArgs (top 17)) (defBody (top 17)) (defScope (top 17)) .none kV13 dc13 pm13 an13 cd13 ct13), sl13⟩) (c13 : PySem.W.codeIn K cd13 "_law_lists" = true) (k13 : PySem.W.keepIn K (.ref f13) = true)
    (a14 : PySem.W.nsIn K mainGlobals "_law_of" = some (some (.ref f14))) (l14 : K.lookup f14 = some ⟨oc14, od14, .func (PySem.W.fnOf "_law_of" "_law_of" (defArgs (top 18)) (defBody (top 18)) (defScope (top 18)) .none kV14 dc14 pm14 an14 cd14 ct14), sl14⟩) (c14 : PySem.W.codeIn K cd14 "_law_of" = true) (k14 : PySem.W.keepIn K (.ref f14) = true)
    (a15 : PySem.W.nsIn K mainGlobals "_law_mixed" = some (some (.ref f15))) (l15 : K.lookup f15 = some ⟨oc15, od15, .func (PySem.W.fnOf "_law_mixed" "_law_mixed" (defArgs (top 19)) (defBody (top 19)) (defScope (top 19)) .none kV15 dc15 pm15 an15 cd15 ct15), sl15⟩) (c15 : PySem.W.codeIn K cd15 "_law_mixed" = true) (k15 : PySem.W.keepIn K (.ref f15) = true)
    (a16 : PySem.W.nsIn K mainGlobals "_law_tuples" = some (some (.ref f16))) (l16 : K.lookup f16 = some ⟨oc16, od16, .func (PySem.W.fnOf "_law_tuples" "_law_tuples" (defArgs (top 20)) (defBody (top 20)) (defScope (top 20)) .none kV16 dc16 pm16 an16 cd16 ct16), sl16⟩) (c16 : PySem.W.codeIn K cd16 "_law_tuples" = true) (k16 : PySem.W.keepIn K (.ref f16) = true)
    (a17 : PySem.W.nsIn K mainGlobals "_law_kind" = some (some (.ref f17))) (l17 : K.lookup f17 = some ⟨oc17, od17, .func (PySem.W.fnOf "_law_kind" "_law_kind" (defArgs (top 21)) (defBody (top 21)) (defScope (top 21)) .none kV17 dc17 pm17 an17 cd17 ct17), sl17⟩) (c17 : PySem.W.codeIn K cd17 "_law_kind" = true) (k17 : PySem.W.keepIn K (.ref f17) = true)
    (a18 : PySem.W.nsIn K mainGlobals "_law_known" = some (some (.ref f18))) (l18 : K.lookup f18 = some ⟨oc18, od18, .func (PySem.W.fnOf "_law_known" "_law_known" (defArgs (top 22)) (defBody (top 22)) (defScope (top 22)) .none kV18 dc18 pm18 an18 cd18 ct18), sl18⟩) (c18 : PySem.W.codeIn K cd18 "_law_known" = true) (k18 : PySem.W.keepIn K (.ref f18) = true)
    (a19 : PySem.W.nsIn K mainGlobals "_law_book" = some (some (.ref f19))) (l19 : K.lookup f19 = some ⟨oc19, od19, .func (PySem.W.fnOf "_law_book" "_law_book" (defArgs (top 23)) (defBody (top 23)) (defScope (top 23)) .none kV19 dc19 pm19 an19 cd19 ct19), sl19⟩) (c19 : PySem.W.codeIn K cd19 "_law_book" = true) (k19 : PySem.W.keepIn K (.ref f19) = true)
    (a20 : PySem.W.nsIn K mainGlobals "_law_teams" = some (some (.ref f20))) (l20 : K.lookup f20 = some ⟨oc20, od20, .func (PySem.W.fnOf "_law_teams" "_law_teams" (defArgs (top 24)) (defBody (top 24)) (defScope (top 24)) .none kV20 dc20 pm20 an20 cd20 ct20), sl20⟩) (c20 : PySem.W.codeIn K cd20 "_law_teams" = true) (k20 : PySem.W.keepIn K (.ref f20) = true)
    (a21 : PySem.W.nsIn K mainGlobals "_law_columns" = some (some (.ref f21))) (l21 : K.lookup f21 = some ⟨oc21, od21, .func (PySem.W.fnOf "_law_columns" "_law_columns" (defArgs (top 25)) (defBody (top 25)) (defScope (top 25)) .none kV21 dc21 pm21 an21 cd21 ct21), sl21⟩) (c21 : PySem.W.codeIn K cd21 "_law_columns" = true) (k21 : PySem.W.keepIn K (.ref f21) = true)
    (a22 : PySem.W.nsIn K mainGlobals "_law_free" = some (some (.ref f22))) (l22 : K.lookup f22 = some ⟨oc22, od22, .func (PySem.W.fnOf "_law_free" "_law_free" (defArgs (top 26)) (defBody (top 26)) (defScope (top 26)) .none kV22 dc22 pm22 an22 cd22 ct22), sl22⟩) (c22 : PySem.W.codeIn K cd22 "_law_free" = true) (k22 : PySem.W.keepIn K (.ref f22) = true)
    (a23 : PySem.W.nsIn K mainGlobals "_law_by_hand_right" = some (some (.ref f23))) (l23 : K.lookup f23 = some ⟨oc23, od23, .func (PySem.W.fnOf "_law_by_hand_right" "_law_by_hand_right" (defArgs (top 27)) (defBody (top 27)) (defScope (top 27)) .none kV23 dc23 pm23 an23 cd23 ct23), sl23⟩) (c23 : PySem.W.codeIn K cd23 "_law_by_hand_right" = true) (k23 : PySem.W.keepIn K (.ref f23) = true)
    (a24 : PySem.W.nsIn K mainGlobals "_law_right" = some (some (.ref f24))) (l24 : K.lookup f24 = some ⟨oc24, od24, .func (PySem.W.fnOf "_law_right" "_law_right" (defArgs (top 28)) (defBody (top 28)) (defScope (top 28)) .none kV24 dc24 pm24 an24 cd24 ct24), sl24⟩) (c24 : PySem.W.codeIn K cd24 "_law_right" = true) (k24 : PySem.W.keepIn K (.ref f24) = true)
    (a25 : PySem.W.nsIn K mainGlobals "law" = some (some (.ref f25))) (l25 : K.lookup f25 = some ⟨oc25, od25, .func (PySem.W.fnOf "law" "law" (defArgs (top 29)) (defBody (top 29)) (defScope (top 29)) .none kV25 dc25 pm25 an25 cd25 ct25), sl25⟩) (c25 : PySem.W.codeIn K cd25 "law" = true) (k25 : PySem.W.keepIn K (.ref f25) = true)
    (z0 : PySem.W.nsIn K mainGlobals "abs" = some none)
    (z1 : PySem.W.nsIn K mainGlobals "all" = some none)
    (z2 : PySem.W.nsIn K mainGlobals "bool" = some none)
    (z3 : PySem.W.nsIn K mainGlobals "enumerate" = some none)
    (z4 : PySem.W.nsIn K mainGlobals "int" = some none)
    (z5 : PySem.W.nsIn K mainGlobals "isinstance" = some none)
    (z6 : PySem.W.nsIn K mainGlobals "len" = some none)
    (z7 : PySem.W.nsIn K mainGlobals "list" = some none)
    (z8 : PySem.W.nsIn K mainGlobals "range" = some none)
    (z9 : PySem.W.nsIn K mainGlobals "set" = some none)
    (z10 : PySem.W.nsIn K mainGlobals "sorted" = some none)
    (z11 : PySem.W.nsIn K mainGlobals "str" = some none)
    (z12 : PySem.W.nsIn K mainGlobals "tuple" = some none)
    (z13 : PySem.W.nsIn K mainGlobals "zip" = some none)
    (math : ∀ ns : List Int, ns.length ≤ 63 → ∃ b', m_law K [.scr K ns] b0 = some (.ok (.bool true), b')) : ∃ fd : FuncData, (∀ (s : Shared) (v : Value), BindsTo s fd ⟨[v], []⟩ [("_law_script", v)]) ∧ ∀ base : Heap, K.In base → base.Ns mainGlobals mg → FnOk l.prog w K mg base (L2.CX l.prog w) 17 fa fd ["_law_script"] (spLawK K) := by
  have e := hfa.symm.trans (PySem.W.mg_of X G a25)
  cases e
  have Z : Bl mg := ⟨PySem.W.mg_none_of X G z0, PySem.W.mg_none_of X G z1, PySem.W.mg_none_of X G z2, PySem.W.mg_none_of X G z3, PySem.W.mg_none_of X G z4, PySem.W.mg_none_of X G z5, PySem.W.mg_none_of X G z6, PySem.W.mg_none_of X G z7, PySem.W.mg_none_of X G z8, PySem.W.mg_none_of X G z9, PySem.W.mg_none_of X G z10, PySem.W.mg_none_of X G z11, PySem.W.mg_none_of X G z12, PySem.W.mg_none_of X G z13⟩
  have F0 := fun_mk (st := top 1) l0 c0 k0
  have D0 : Dv K mg "tupled" (top 1) P_tupled f0 _ := ⟨F0, PySem.W.mg_of X G a0, F0.binds (ps := P_tupled) fun _ _ _ _ _ _ us hl => match us, hl with | [_], _ => rfl⟩
  have F1 := fun_mk (st := top 3) l1 c1 k1
  have D1 : Dv K mg "choices" (top 3) P_choices f1 _ := ⟨F1, PySem.W.mg_of X G a1, F1.binds (ps := P_choices) fun _ _ _ _ _ _ us hl => match us, hl with | [_, _], _ => rfl⟩
  have F2 := fun_mk (st := top 4) l2 c2 k2
  have D2 : Dv K mg "number_of" (top 4) P_number_of f2 _ := ⟨F2, PySem.W.mg_of X G a2, F2.binds (ps := P_number_of) fun _ _ _ _ _ _ us hl => match us, hl with | [_, _], _ => rfl⟩
  have F3 := fun_mk (st := top 6) l3 c3 k3
  have D3 : Dv K mg "tuples_of" (top 6) P_tuples_of f3 _ := ⟨F3, PySem.W.mg_of X G a3, F3.binds (ps := P_tuples_of) fun _ _ _ _ _ _ us hl => match us, hl with | [_, _], _ => rfl⟩
  have F4 := fun_mk (st := top 7) l4 c4 k4
  have D4 : Dv K mg "place_of" (top 7) P_place_of f4 _ := ⟨F4, PySem.W.mg_of X G a4, F4.binds (ps := P_place_of) fun _ _ _ _ _ _ us hl => match us, hl with | [_, _], _ => rfl⟩
  have F5 := fun_mk (st := top 8) l5 c5 k5
  have D5 : Dv K mg "codes_behind" (top 8) P_codes_behind f5 _ := ⟨F5, PySem.W.mg_of X G a5, F5.binds (ps := P_codes_behind) fun _ _ _ _ _ _ us hl => match us, hl with | [_, _, _], _ => rfl⟩
  have F6 := fun_mk (st := top 9) l6 c6 k6
  have D6 : Dv K mg "codes_of" (top 9) P_codes_of f6 _ := ⟨F6, PySem.W.mg_of X G a6, F6.binds (ps := P_codes_of) fun _ _ _ _ _ _ us hl => match us, hl with | [_, _, _], _ => rfl⟩
  have F7 := fun_mk (st := top 10) l7 c7 k7
  have D7 : Dv K mg "free_ties" (top 10) P_free_ties f7 _ := ⟨F7, PySem.W.mg_of X G a7, F7.binds (ps := P_free_ties) fun _ _ _ _ _ _ us hl => match us, hl with | [_, _], _ => rfl⟩
  have F8 := fun_mk (st := top 11) l8 c8 k8
  have D8 : Dv K mg "free_puzzle" (top 11) P_free_puzzle f8 _ := ⟨F8, PySem.W.mg_of X G a8, F8.binds (ps := P_free_puzzle) fun _ _ _ _ _ _ us hl => match us, hl with | [_, _], _ => rfl⟩
  have F9 := fun_mk (st := top 13) l9 c9 k9
  have D9 : Dv K mg "_law_box" (top 13) P__law_box f9 _ := ⟨F9, PySem.W.mg_of X G a9, F9.binds (ps := P__law_box) fun _ _ _ _ _ _ us hl => match us, hl with | [_, _], _ => rfl⟩
  have F10 := fun_mk (st := top 14) l10 c10 k10
  have D10 : Dv K mg "_law_take" (top 14) P__law_take f10 _ := ⟨F10, PySem.W.mg_of X G a10, F10.binds (ps := P__law_take) fun _ _ _ _ _ _ us hl => match us, hl with | [_, _], _ => rfl⟩
  have F11 := fun_mk (st := top 15) l11 c11 k11
  have D11 : Dv K mg "_law_cells" (top 15) P__law_cells f11 _ := ⟨F11, PySem.W.mg_of X G a11, F11.binds (ps := P__law_cells) fun _ _ _ _ _ _ us hl => match us, hl with | [_, _], _ => rfl⟩
  have F12 := fun_mk (st := top 16) l12 c12 k12
  have D12 : Dv K mg "_law_same" (top 16) P__law_same f12 _ := ⟨F12, PySem.W.mg_of X G a12, F12.binds (ps := P__law_same) fun _ _ _ _ _ _ us hl => match us, hl with | [_, _], _ => rfl⟩
  have F13 := fun_mk (st := top 17) l13 c13 k13
  have D13 : Dv K mg "_law_lists" (top 17) P__law_lists f13 _ := ⟨F13, PySem.W.mg_of X G a13, F13.binds (ps := P__law_lists) fun _ _ _ _ _ _ us hl => match us, hl with | [_], _ => rfl⟩
  have F14 := fun_mk (st := top 18) l14 c14 k14
  have D14 : Dv K mg "_law_of" (top 18) P__law_of f14 _ := ⟨F14, PySem.W.mg_of X G a14, F14.binds (ps := P__law_of) fun _ _ _ _ _ _ us hl => match us, hl with | [_, _], _ => rfl⟩
  have F15 := fun_mk (st := top 19) l15 c15 k15
  have D15 : Dv K mg "_law_mixed" (top 19) P__law_mixed f15 _ := ⟨F15, PySem.W.mg_of X G a15, F15.binds (ps := P__law_mixed) fun _ _ _ _ _ _ us hl => match us, hl with | [_, _], _ => rfl⟩
  have F16 := fun_mk (st := top 20) l16 c16 k16
  have D16 : Dv K mg "_law_tuples" (top 20) P__law_tuples f16 _ := ⟨F16, PySem.W.mg_of X G a16, F16.binds (ps := P__law_tuples) fun _ _ _ _ _ _ us hl => match us, hl with | [_, _], _ => rfl⟩
  have F17 := fun_mk (st := top 21) l17 c17 k17
  have D17 : Dv K mg "_law_kind" (top 21) P__law_kind f17 _ := ⟨F17, PySem.W.mg_of X G a17, F17.binds (ps := P__law_kind) fun _ _ _ _ _ _ us hl => match us, hl with | [_, _], _ => rfl⟩
  have F18 := fun_mk (st := top 22) l18 c18 k18
  have D18 : Dv K mg "_law_known" (top 22) P__law_known f18 _ := ⟨F18, PySem.W.mg_of X G a18, F18.binds (ps := P__law_known) fun _ _ _ _ _ _ us hl => match us, hl with | [], _ => rfl⟩
  have F19 := fun_mk (st := top 23) l19 c19 k19
  have D19 : Dv K mg "_law_book" (top 23) P__law_book f19 _ := ⟨F19, PySem.W.mg_of X G a19, F19.binds (ps := P__law_book) fun _ _ _ _ _ _ us hl => match us, hl with | [_, _], _ => rfl⟩
  have F20 := fun_mk (st := top 24) l20 c20 k20
  have D20 : Dv K mg "_law_teams" (top 24) P__law_teams f20 _ := ⟨F20, PySem.W.mg_of X G a20, F20.binds (ps := P__law_teams) fun _ _ _ _ _ _ us hl => match us, hl with | [_, _], _ => rfl⟩
  have F21 := fun_mk (st := top 25) l21 c21 k21
  have D21 : Dv K mg "_law_columns" (top 25) P__law_columns f21 _ := ⟨F21, PySem.W.mg_of X G a21, F21.binds (ps := P__law_columns) fun _ _ _ _ _ _ us hl => match us, hl with | [_], _ => rfl⟩
  have F22 := fun_mk (st := top 26) l22 c22 k22
  have D22 : Dv K mg "_law_free" (top 26) P__law_free f22 _ := ⟨F22, PySem.W.mg_of X G a22, F22.binds (ps := P__law_free) fun _ _ _ _ _ _ us hl => match us, hl with | [_, _], _ => rfl⟩
  have F23 := fun_mk (st := top 27) l23 c23 k23
  have D23 : Dv K mg "_law_by_hand_right" (top 27) P__law_by_hand_right f23 _ := ⟨F23, PySem.W.mg_of X G a23, F23.binds (ps := P__law_by_hand_right) fun _ _ _ _ _ _ us hl => match us, hl with | [], _ => rfl⟩
  have F24 := fun_mk (st := top 28) l24 c24 k24
  have D24 : Dv K mg "_law_right" (top 28) P__law_right f24 _ := ⟨F24, PySem.W.mg_of X G a24, F24.binds (ps := P__law_right) fun _ _ _ _ _ _ us hl => match us, hl with | [_], _ => rfl⟩
  have F25 := fun_mk (st := top 29) l25 c25 k25
  have D25 : Dv K mg "law" (top 29) P_law fa _ := ⟨F25, PySem.W.mg_of X G a25, F25.binds (ps := P_law) fun _ _ _ _ _ _ us hl => match us, hl with | [_], _ => rfl⟩
  refine ⟨PySem.W.fnOf "law" "law" (defArgs (top 29)) (defBody (top 29)) (defScope (top 29)) .none kV25 dc25 pm25 an25 cd25 ct25, fun s v => .of_eq rfl, fun base _ _ => ?_⟩
  have h_tupled := ok_tupled (P := l.prog) (w := w) (base := base) Z D0 14
  have h_choices := ok_choices (P := l.prog) (w := w) (base := base) Z D1
  have h_number_of := ok_number_of (P := l.prog) (w := w) (base := base) Z D2
  have h_tuples_of := ok_tuples_of (P := l.prog) (w := w) (base := base) Z D3 h_choices
  have h_place_of := ok_place_of (P := l.prog) (w := w) (base := base) Z D4 h_number_of
  have h_codes_behind := ok_codes_behind (P := l.prog) (w := w) (base := base) Z D5
  have h_codes_of := ok_codes_of (P := l.prog) (w := w) (base := base) Z D6 h_codes_behind
  have h_free_ties := ok_free_ties (P := l.prog) (w := w) (base := base) Z D7 h_codes_of
  have h_free_puzzle := ok_free_puzzle (P := l.prog) (w := w) (base := base) Z D8 h_tupled h_free_ties h_place_of h_tuples_of
  have h__law_box := ok__law_box (P := l.prog) (w := w) (base := base) Z D9
  have h__law_take := ok__law_take (P := l.prog) (w := w) (base := base) Z D10
  have h__law_cells := ok__law_cells (P := l.prog) (w := w) (base := base) Z D11
  have h__law_same := ok__law_same (P := l.prog) (w := w) (base := base) Z D12 14
  have h__law_lists := ok__law_lists (P := l.prog) (w := w) (base := base) Z D13 14
  have h__law_of := ok__law_of (P := l.prog) (w := w) (base := base) Z D14 h__law_take
  have h__law_mixed := ok__law_mixed (P := l.prog) (w := w) (base := base) Z D15 h__law_take
  have h__law_tuples := ok__law_tuples (P := l.prog) (w := w) (base := base) Z D16
  have h__law_kind := ok__law_kind (P := l.prog) (w := w) (base := base) Z D17 h__law_of h__law_tuples h__law_take h__law_mixed
  have h__law_known := ok__law_known (P := l.prog) (w := w) (base := base) Z D18
  have h__law_book := ok__law_book (P := l.prog) (w := w) (base := base) Z D19 h__law_of h__law_take h__law_known h__law_kind
  have h__law_teams := ok__law_teams (P := l.prog) (w := w) (base := base) Z D20
  have h__law_columns := ok__law_columns (P := l.prog) (w := w) (base := base) Z D21
  have h__law_free := ok__law_free (P := l.prog) (w := w) (base := base) Z D22 h__law_tuples h__law_teams h__law_columns
  have h__law_by_hand_right := ok__law_by_hand_right (P := l.prog) (w := w) (base := base) Z D23 h_free_puzzle h__law_same h_place_of h__law_tuples
  have h__law_right := ok__law_right (P := l.prog) (w := w) (base := base) Z D24 h__law_book h__law_lists h__law_free h_free_puzzle h__law_same h__law_take
  have H := ok_law (P := l.prog) (w := w) (base := base) Z D25 h__law_cells h__law_by_hand_right h__law_right h__law_box
  exact law_imp (H.fn D25) math
end
end K08
set_option maxRecDepth 100000
theorem K08.math (K : PySem.W.Frag) : ∀ ns : List Int, ns.length ≤ 63 → ∃ b', K08.m_law K [DL.Sl.scr K ns] DL.b0 = some (.ok (.bool true), b') := K08.law_math K
open PySem PySem.W PyProof.Rows
set_option maxRecDepth 100000 in
set_option maxHeartbeats 0 in
theorem PySem.Challenge.cw_blendworlds_k08_free_puzzles_holds : PySem.Challenge.rw_blendworlds_k08_free_puzzles.Holds := by
  w_on; o_law; k_head; (case hw => w_witness2)
  k_fill
  refine DL.walkD (l := PySem.Challenge.rw_blendworlds_k08_free_puzzles) (k := 17) (x := "_law_script") ⟨rfl, by decide, by decide⟩ rfl rfl (fun w h Y => PySem.W.kIn_of Y) ?F
  case F =>
    intro w mg fa h KX hNs hmg
    refine' K08.all_mk KX hNs hmg ?a0 ?l0 ?c0 ?k0 ?a1 ?l1 ?c1 ?k1 ?a2 ?l2 ?c2 ?k2 ?a3 ?l3 ?c3 ?k3 ?a4 ?l4 ?c4 ?k4 ?a5 ?l5 ?c5 ?k5 ?a6 ?l6 ?c6 ?k6 ?a7 ?l7 ?c7 ?k7 ?a8 ?l8 ?c8 ?k8 ?a9 ?l9 ?c9 ?k9 ?a10 ?l10 ?c10 ?k10 ?a11 ?l11 ?c11 ?k11 ?a12 ?l12 ?c12 ?k12 ?a13 ?l13 ?c13 ?k13 ?a14 ?l14 ?c14 ?k14 ?a15 ?l15 ?c15 ?k15 ?a16 ?l16 ?c16 ?k16 ?a17 ?l17 ?c17 ?k17 ?a18 ?l18 ?c18 ?k18 ?a19 ?l19 ?c19 ?k19 ?a20 ?l20 ?c20 ?k20 ?a21 ?l21 ?c21 ?k21 ?a22 ?l22 ?c22 ?k22 ?a23 ?l23 ?c23 ?k23 ?a24 ?l24 ?c24 ?k24 ?a25 ?l25 ?c25 ?k25 ?z0 ?z1 ?z2 ?z3 ?z4 ?z5 ?z6 ?z7 ?z8 ?z9 ?z10 ?z11 ?z12 ?z13 (K08.math _)
    (case a0 => k_is)
    (case l0 => k_is)
    (case c0 => k_is)
    (case k0 => k_is)
    (case a1 => k_is)
    (case l1 => k_is)
    (case c1 => k_is)
    (case k1 => k_is)
    (case a2 => k_is)
    (case l2 => k_is)
    (case c2 => k_is)
    (case k2 => k_is)
    (case a3 => k_is)
    (case l3 => k_is)
    (case c3 => k_is)
    (case k3 => k_is)
    (case a4 => k_is)
    (case l4 => k_is)
    (case c4 => k_is)
    (case k4 => k_is)
    (case a5 => k_is)
    (case l5 => k_is)
    (case c5 => k_is)
    (case k5 => k_is)
    (case a6 => k_is)
    (case l6 => k_is)
    (case c6 => k_is)
    (case k6 => k_is)
    (case a7 => k_is)
    (case l7 => k_is)
    (case c7 => k_is)
    (case k7 => k_is)
    (case a8 => k_is)
    (case l8 => k_is)
    (case c8 => k_is)
    (case k8 => k_is)
    (case a9 => k_is)
    (case l9 => k_is)
    (case c9 => k_is)
    (case k9 => k_is)
    (case a10 => k_is)
    (case l10 => k_is)
    (case c10 => k_is)
    (case k10 => k_is)
    (case a11 => k_is)
    (case l11 => k_is)
    (case c11 => k_is)
    (case k11 => k_is)
    (case a12 => k_is)
    (case l12 => k_is)
    (case c12 => k_is)
    (case k12 => k_is)
    (case a13 => k_is)
    (case l13 => k_is)
    (case c13 => k_is)
    (case k13 => k_is)
    (case a14 => k_is)
    (case l14 => k_is)
    (case c14 => k_is)
    (case k14 => k_is)
    (case a15 => k_is)
    (case l15 => k_is)
    (case c15 => k_is)
    (case k15 => k_is)
    (case a16 => k_is)
    (case l16 => k_is)
    (case c16 => k_is)
    (case k16 => k_is)
    (case a17 => k_is)
    (case l17 => k_is)
    (case c17 => k_is)
    (case k17 => k_is)
    (case a18 => k_is)
    (case l18 => k_is)
    (case c18 => k_is)
    (case k18 => k_is)
    (case a19 => k_is)
    (case l19 => k_is)
    (case c19 => k_is)
    (case k19 => k_is)
    (case a20 => k_is)
    (case l20 => k_is)
    (case c20 => k_is)
    (case k20 => k_is)
    (case a21 => k_is)
    (case l21 => k_is)
    (case c21 => k_is)
    (case k21 => k_is)
    (case a22 => k_is)
    (case l22 => k_is)
    (case c22 => k_is)
    (case k22 => k_is)
    (case a23 => k_is)
    (case l23 => k_is)
    (case c23 => k_is)
    (case k23 => k_is)
    (case a24 => k_is)
    (case l24 => k_is)
    (case c24 => k_is)
    (case k24 => k_is)
    (case a25 => k_is)
    (case l25 => k_is)
    (case c25 => k_is)
    (case k25 => k_is)
    (case z0 => k_is)
    (case z1 => k_is)
    (case z2 => k_is)
    (case z3 => k_is)
    (case z4 => k_is)
    (case z5 => k_is)
    (case z6 => k_is)
    (case z7 => k_is)
    (case z8 => k_is)
    (case z9 => k_is)
    (case z10 => k_is)
    (case z11 => k_is)
    (case z12 => k_is)
    (case z13 => k_is)
